import PyProof.Rows.All
import Wide.All
import OpenK.AllK
import Wide.FinOn
import Lean
import PyProof.EqAt
import PyProof.EqKinds
import PyProof.TupleCall
import PyProof.Rows.SumAny
import PyProof.EnumMake
import PyProof.Draws
import PyProof.ZipIter
import KE.KUnpack
import KE.KxIndex
import PyProof.SetRoads
import PyProof.SetNew
import PyProof.AutoSeq1
import KE.KRevSl
import PyProof.SeqI3
import PyProof.Rows.SortWalk
import PyProof.Rows.Range3
import PySem.Challenge.RW_weightrooms_k18_rows
local macro_rules|`(tactic|trivial)=>`(tactic|first|exact Or.inl rfl|exact Or.inr rfl)
local macro_rules|`(tactic|decide)=>`(tactic|decide +kernel)
set_option genSizeOf false
set_option genInjectivity false
set_option bootstrap.genMatcherCode false
noncomputable section
set_option Elab.async false
set_option linter.all false
def g_:=@List.length_map
def h_:=@List.getElem?_eq_some_iff
def i_:=@List.mem_cons_of_mem
def j_:=@Nat.le_refl
def k_:=@List.mem_cons_self
def l_:=@PySem.wpAny_bind
def m_:=@Bool.and_eq_true
def n_:=@Bool.false_ne_true
def o_:=@decide_eq_false
def p_:=@PySem.Heap.get?_push_of_some
def r_:=@decide_eq_true
def s_:=@PySem.Heap.lt_size
def t_:=@Nat.lt_of_lt_of_le
def u_:=@List.size_toArray
def v_:=@beq_eq_false_iff_ne
def w_:=@Nat.le_trans
def x_:=@List.getElem?_eq_getElem
def y_:=@List.length_set
def z_:=@List.length_append
def A_:=@PySem.wpAny_pure
def B_:=@List.getElem?_append_left
def C_:=@Option.some.inj
def D_:=@List.map_cons
def Em:=@List.getElem?_map
def E_:=@Option.map_eq_some_iff
def F_:=@List.length_cons
def G_:=@List.mem_cons
def HU:=@List.all_eq_true
def HV:=@List.mem_append_right
def HW:=@Nat.zero_le
def HX:=@List.getElem?_append_right
def HY:=@Nat.ne_of_lt
def HZ:=@PySem.wpAny_mono
def H0:=@Rat.intCast_mul
def H9:=@List.map_nil
def H_:=@beq_iff_eq
def Ia:=@Option.bind_eq_some_iff
def Ib:=@List.getD_eq_getElem?_getD
def Ic:=@PySem.Heap.get?_push_size
def Ie:=@List.sum_cons
def Ig:=@List.getElem?_replicate
def Ih:=@Nat.lt_irrefl
def Ii:=@Int.natAbs_mul
def Ij:=@List.length_range
def Ik:=@List.nil_append
def Il:=@List.contains_iff_mem
def Im:=@List.length_replicate
def Io:=@Int.mul_assoc
def Ip:=@Nat.mul_le_mul
def Iq:=@Int.toNat_natCast
def Ir:=@List.length_nil
def Iu:=@PySem.mem_of_lookup
def Iv:=@List.length_take
def Iw:=@congrArg
def Iy:=@Nat.mul_pos
def Iz:=@List.append_nil
def IA:=@List.find?_cons
def IC:=@List.mem_of_mem_take
def ID:=@Option.isSome_iff_exists
def IE:=@List.filterMap_cons
def IF:=@List.lookup_cons
def IG:=@List.take_of_length_le
def IH:=@PyProof.Rows.callWith_type1
def II:=@Int.natCast_mul
def IJ:=@List.getElem?_zipWith
def IK:=@Nat.not_lt_zero
def IL:=@PySem.wpAny_passesOwn
def IM:=@List.append_assoc
def IP:=@PySem.wpAny_newObj_type
def IQ:=@Nat.pow_le_pow_right
def IS:=@List.mem_map
def IT:=@List.length_zipWith
def IU:=@Nat.mul_le_mul_left
def IV:=@List.any_cons
def IW:=@List.take_nil
def IX:=@Int.mul_ne_zero
def IZ:=@List.mem_singleton
def I0:=@Nat.lt_of_le_of_lt
def I_:=@PySem.wpAny_Call_Name_kw
def Ja:=@Int.mul_left_comm
def Jb:=@decide_eq_true_eq
def Jc:=@PySem.wpAny_truthy_bool
def Jd:=@List.getElem?_eq_none
def Je:=@List.mapM_cons
def Jf:=@List.map_map
def Jg:=@List.length_drop
def Jh:=@List.mem_of_getElem?
def Ji:=@Nat.mul_le_mul_right
def Jj:=@Int.eq_of_mul_eq_mul_right
def Jk:=@List.all_cons
def Jl:=@List.drop_nil
def Jm:=@PySem.wpAny_holding
def Jn:=@Nat.pow_add
def Jo:=@Classical.byContradiction
def Jp:=@List.getElem?_eq_none_iff
def Jq:=@List.map_append
def Jr:=@Bool.false_eq_true
def Js:=@Int.mul_comm
def Jt:=@Int.mul_right_comm
def Ju:=@List.zip_cons_cons
def Jv:=@PySem.F.args_tuple_add_2
def Jw:=@List.mem_range
def Jx:=@if_true
def Jy:=@PySem.F.entry_tuple_add
def Jz:=@List.getElem?_set
def JA:=@List.zip_nil_left
def JB:=@PySem.Heap.get?_update_other
def JC:=@Int.mul_pos
def JD:=@PySem.F.slot_tuple_add
def JE:=@Rat.div_def
def JF:=@List.map_drop
def JG:=@List.map_take
def JH:=@List.take_append_drop
def JI:=@PySem.Heap.get?_none_of_le
def JJ:=@List.getElem?_append
def JK:=@List.getElem?_set_ne
def JL:=@List.mem_append
def JM:=@List.mem_of_mem_drop
def JN:=@List.nodup_cons
def JO:=@Nat.le_of_lt
def JP:=@Nat.lt_trans
def JQ:=@Nat.sub_self
def JR:=@Rat.num_eq_zero
def JS:=@PySem.wpAny_execs_nil
def JT:=@Array.length_toList
def JU:=@if_false
def JV:=@Nat.mul_assoc
def JW:=@PySem.wpAny_standAt
set_option maxRecDepth 100000
namespace L2
open PySem PySem.Spec PyProof.Rows
abbrev _root_.Ka:=Str->Option Value
abbrev _root_.Kb:=List (Addr×Obj)
abbrev _root_.Kc:=Value->Shared->Prop
abbrev _root_.Kd:=List (Option Nat)
abbrev Key:=Sum Int Str
def jc:Key->Value->Bool
 |.inl k,v=>Value.isInt k v
 |.inr x,v=>Value.isStrOf x v
def keyH(w:World):Key->Int
 |.inl k=>hashInt k
 |.inr x=>hashStr w x
theorem bf:∀{k:Key}{v:Value},jc k v=true->(∃i t,k=Sum.inl i/\v=Value.int i t)\/(∃x t,k=Sum.inr x/\v=Value.str x t)
 |
  .inl i,v,h=>by
  obtain⟨t,e⟩:=Value.isInt_shape (k:=i) (v:=v) h
  exact .inl ⟨i,t,rfl,e⟩
 |
  .inr x,v,h=>by
  obtain⟨t,e⟩:=Value.isStrOf_shape (x:=x) (v:=v) h
  exact .inr ⟨x,t,rfl,e⟩
def tM(i:Int)(t:Tok):jc (.inl i) (.int i t)=true:=by simp [jc,Value.isInt]
def uq(x:Str)(t:Tok):jc (.inr x) (.str x t)=true:=by simp [jc,Value.isStrOf]
def A9(a b:Int):decide ((Sum.inl a:Key)=Sum.inl b)=(a==b):=by
 by_cases e:a=b
 ·subst e;simp
 ·have h:¬ (Sum.inl a:Key)=Sum.inl b:=λq=>e (Sum.inl.inj q)
  rw[o_ h]
  exact (v_.mpr e).symm
def B4(a b:Str):decide ((Sum.inr a:Key)=Sum.inr b)=decide (a=b):=by
 by_cases e:a=b
 ·subst e;simp
 ·have h:¬ (Sum.inr a:Key)=Sum.inr b:=λq=>e (Sum.inr.inj q)
  rw[o_ h,o_ e]
def B6(a:Int)(b:Str):decide ((Sum.inl a:Key)=Sum.inr b)=false:=o_ (λq=>nomatch q)
def Dr(a:Str)(b:Int):decide ((Sum.inr a:Key)=Sum.inl b)=false:=o_ (λq=>nomatch q)
def bj(prog:Program)(w:World):PySem.KeyKind prog w Key where
 is:=jc
 hash:=keyH w
 inj
  := λv a b ha hb=>by
  rcases bf ha with ⟨i,t,rfl,rfl⟩ |⟨x,t,rfl,rfl⟩
  ·rcases bf hb with ⟨j,u,rfl,e⟩ |⟨y,u,rfl,e⟩
   ·injection e with e1 _;rw[e1]
   ·exact nomatch e
  ·rcases bf hb with ⟨j,u,rfl,e⟩ |⟨y,u,rfl,e⟩
   ·exact nomatch e
   ·injection e with e1 _;rw[e1]
 byValue:=λk v h=>by
  rcases bf h with ⟨i,t,rfl,rfl⟩ |⟨x,t,rfl,rfl⟩ <;> rfl
 pyHash:=λhv h=>by
  rcases bf hv with ⟨i,t,rfl,rfl⟩ |⟨x,t,rfl,rfl⟩
  ·exact wpAny_pyHash_int h
  ·exact wpAny_pyHash_str h
 eqBool:=λhu hv h=>by
  rcases bf hu with ⟨i,t,rfl,rfl⟩ |⟨x,t,rfl,rfl⟩
  ·rcases bf hv with ⟨j,u,rfl,rfl⟩ |⟨y,u,rfl,rfl⟩
   ·rw[A9] at h;exact wpAny_eqBool_int h
   ·rw[B6] at h;exact SeqAt.EqAt.int_str i t y u _ _ _ _ h
  ·rcases bf hv with ⟨j,u,rfl,rfl⟩ |⟨y,u,rfl,rfl⟩
   ·rw[Dr] at h;exact SeqAt.EqAt.str_int x t j u _ _ _ _ h
   ·rw[B4] at h;exact wpAny_eqBool_str h
 «strs»:=λk x t v h=>by
  rcases bf h with ⟨i,u,rfl,e⟩ |⟨y,u,rfl,e⟩
  ·exact nomatch e
  ·injection e with e1 _
   subst e1
   cases v <;> rfl
def pS(prog:Program)(w:World)(i:Int)(t:Tok):(bj prog w).is (.inl i) (.int i t)=true:=tM i t
def pM(prog:Program)(w:World)(x:Str)(t:Tok):(bj prog w).is (.inr x) (.str x t)=true:=uq x t
inductive V where
 |non |bl (b:Bool) |int (i:Int) |str (x:Str) |byt (b:Array UInt8) |flt (b:UInt64) |ref (a:Addr) |ty (n:String)
 deriving DecidableEq
noncomputable def RelV:V->Value->Prop
 |.non,u=>u=Value.none
 |.bl b,u=>u=Value.bool b
 |.int i,u=>∃t,u=Value.int i t
 |.str x,u=>∃t,u=Value.str x t
 |.byt b,u=>∃t,u=Value.bytes b t
 |.flt b,u=>∃t,u=Value.float b t
 |.ref a,u=>u=Value.ref a
 |.ty n,u=>u=Value.type n
abbrev Vals:List V->List Value->Prop:=Paired RelV
noncomputable def Vals.length(r:Vals xs us):xs.length=us.length:=Paired.length r
def Vals.get{xs:List V}{us:List Value}{i:Nat}{x:V}(r:Vals xs us)(e:xs[i]?=some x):∃u,us[i]?=some u/\RelV x u:=by
 induction r generalizing i with
 |nil=>rw[List.getElem?_nil] at e;cases e
 |
  cons r t ih=>
  cases i with
  |zero=>cases e;exact⟨_,rfl,r⟩
  |succ i=>exact ih (i:=i) e
def Vals.set(r:RelV x u)(i:Nat)(q:Vals xs us):Vals (xs.set i x) (us.set i u):=by
 induction q generalizing i with
 |nil=>exact .nil
 |
  cons q t ih=>
  cases i with
  |zero=>exact .cons r t
  |succ i=>exact .cons q (ih i)
noncomputable def Vals.append(r:Vals xs us)(s:Vals ys ws):Vals (xs++ys) (us++ws):=by
 induction r with
 |nil=>exact s
 |cons r t ih=>exact .cons r ih
noncomputable def Vals.take(n:Nat)(r:Vals xs us):Vals (xs.take n) (us.take n):=by
 induction r generalizing n with
 |nil=>rw[IW,IW];exact .nil
 |
  cons r t ih=>
  cases n with
  |zero=>exact .nil
  |succ n=>exact .cons r (ih n)
noncomputable def Vals.drop(n:Nat)(r:Vals xs us):Vals (xs.drop n) (us.drop n):=by
 induction r generalizing n with
 |nil=>rw[Jl,Jl];exact .nil
 |
  cons r t ih=>
  cases n with
  |zero=>exact .cons r t
  |succ n=>exact ih n
def RelO:Option V->Option Value->Prop
 |some v,some u=>RelV v u
 |none,none=>True
 |_,_=>False
def KV{κ:Type}:List (κ×V)->List (κ×Value)->Prop:=Paired λ(p:κ×V) (q:κ×Value)=>p.1=q.1/\RelV p.2 q.2
def kV:Key->V
 |.inl i=>.int i
 |.inr x=>.str x
inductive HO where
 |lst (xs:List V)
 |tup (xs:List V)
 |dK (kvs:List (Key×V)) |dT (kvs:List (List Key×V))
 |set (S:Int->Bool) (n:Nat)
 |ins (C dx:Addr) (fs:List (Str×V))
 |own (x:Addr)
 |xd (fs:List (Str×V))
 |met (f x:Addr)
 |rng (lo hi:Int)
 |frz (o:Obj) (u:HO)
 |tbl (ps:Array Value)
 |ext (φ:Heap->Prop)
abbrev Hp:=Addr->Option HO
def upd(H:Hp)(a:Addr)(o:HO):Hp:=λb=>if b=a then some o else H b
def bF:upd H a o a=some o:=by unfold upd;rw[if_pos rfl]
def ay(h:b≠a):upd H a o b=H b:=by unfold upd;rw[if_neg h]
def bc{H:Hp}{a b:Addr}{o:HO}(h:H a=some o)(h':H b=none):a≠b:=by
 intro e;subst e;rw[h] at h';cases h'
section
variable(P:Program)(w:World)
def ObjOk(H:Hp)(h:Heap)(a:Addr):HO->Prop
 |.lst xs=>xs.length<=sizeLine/\∃(its:List Value) (n:Nat),Vals xs its/\h.get? a=some { cls:=.type "list",data:=.seq its.toArray n }
 |.tup xs=>xs.length<=sizeLine/\∃its:List Value,Vals xs its/\IsTup h a its.toArray
 |.dK kvs=>kvs.length<=sizeLine/\(a==sysModules)=false/\∃vs,KV kvs vs/\h.DictOf (bj P w) a vs
 |.dT kvs=>kvs.length<=sizeLine/\(a==sysModules)=false/\∃xs:List (List Key×Addr×Value),
  Paired (λ(p:List Key×V) (q:List Key×Addr×Value)=>p.1=q.1/\H q.2.1=some (.tup (p.1.map kV))/\RelV p.2 q.2.2) kvs xs/\
  ∃o es ep,h.get? a=some o/\o.ExactDict/\o.data=.dict es ep/\es.toList=xs.map (entryOfKey (tupleKind (bj P w)))/\(xs.map (·.1)).Nodup
 |.set S n=>h.SetOf (intKind P w) a S n
 |.ins C dx fs=>H dx=some (.own a)/\fs.length<=1000/\dx≠a/\h.get? a=some (W.instObj C dx)/\
  ∃mA,h.Ns1 dx mA/\(∀f,RelO (fs.lookup f) (mA f))/\PySem.Within mA (fs.map (·.1))
 |.own _=>∃o,h.get? a=some o
 |.xd fs=>∃mA,h.Ns1 a mA/\∀f,RelO (fs.lookup f) (mA f)
 |.rng lo hi=>∃t u v,h.get? a=some { cls:=.type "range",data:=.fields #[.int lo t,.int hi u,.int 1 v] }
 |.frz o u=>h.get? a=some o/\ObjOk H h a u
 |.tbl ps=>h.get? a=some { cls:=.none,data:=.fields ps }
 |.met f x=>h.get? a=some (W.methodObj (.ref f) (.ref x))
 |.ext φ=>φ h/\(∃o,h.get? a=some o)/\∀h1 h2:Heap,φ h1->(∀o,h1.get? a=some o->h2.get? a=some o)->φ h2
def HOk(H:Hp)(h:Heap):Prop:=∀a o,H a=some o->ObjOk P w H h a o
end
section
variable{P:Program}{w:World}{H H':Hp}{h h':Heap}{a:Addr}{o:HO}
def ObjOk.lt(x:ObjOk P w H h a o):a<h.objs.size:=by
 cases o with
 |lst xs=>obtain⟨_,_,_,_,e⟩:=x;exact s_ e
 |tup xs=>obtain⟨_,_,_,p⟩:=x;exact p.lt
 |dK kvs=>obtain⟨_,_,_,_,o,_,_,e,_⟩:=x;exact s_ e
 |dT kvs=>obtain⟨_,_,_,_,o,_,_,e,_⟩:=x;exact s_ e
 |set S n=>obtain⟨o,_,_,_,e,_⟩:=x;exact s_ e
 |ins C dx fs=>obtain⟨_,_,_,e,_⟩:=x;exact s_ e
 |own y=>obtain⟨_,e⟩:=x;exact s_ e
 |xd fs=>obtain⟨_,⟨_,_,_,e,_⟩,_⟩:=x;exact s_ e
 |rng lo hi=>obtain⟨_,_,_,e⟩:=x;exact s_ e
 |frz ob u=>obtain⟨e,_⟩:=x;exact s_ e
 |tbl ps=>exact s_ (show h.get? a=some _ from x)
 |met f y=>exact s_ (show h.get? a=some _ from x)
 |ext φ=>obtain⟨_,⟨_,e⟩,_⟩:=x;exact s_ e
def Paired.mapP(r:Paired F l₁ l₂)(f:∀a b,F a b->G a b):Paired G l₁ l₂:=by
 induction r with
 |nil=>exact .nil
 |cons r t ih=>exact .cons (f _ _ r) ih
def ObjOk.stay(x:ObjOk P w H h a o)(k:∀b u,(b=a\/H b=some (.own a))->h.get? b=some u->h'.get? b=some u)
 (ho:∀b,H b=some (.own a)->H' b=some (.own a)) (ht:∀b xs,H b=some (.tup xs)->H' b=some (.tup xs)):ObjOk P w H' h' a o:=by
 induction o with
 |lst xs=>obtain⟨z,its,n,r,e⟩:=x;exact⟨z,its,n,r,k _ _ (.inl rfl) e⟩
 |tup xs=>obtain⟨z,its,r,ob,e,c⟩:=x;exact⟨z,its,r,ob,k _ _ (.inl rfl) e,c⟩
 |dK kvs=>obtain⟨z,y,vs,r,ob,es,ep,e,c⟩:=x;exact⟨z,y,vs,r,ob,es,ep,k _ _ (.inl rfl) e,c⟩
 |
  dT kvs=>
  obtain⟨z,y,xs,r,ob,es,ep,e,c⟩:=x
  exact⟨z,y,xs,Paired.mapP r λp q z=>⟨z.1,ht _ _ z.2.1,z.2.2⟩,ob,es,ep,k _ _ (.inl rfl) e,c⟩
 |set S n=>obtain⟨ob,es,ep,t,e,c⟩:=x;exact⟨ob,es,ep,t,k _ _ (.inl rfl) e,c⟩
 |
  ins C dx fs=>
  obtain⟨d,z,ne,e,mA,⟨od,es,ep,e2,c⟩,r⟩:=x
  exact⟨ho _ d,z,ne,k _ _ (.inl rfl) e,mA,⟨od,es,ep,k _ _ (.inr d) e2,c⟩,r⟩
 |own y=>obtain⟨ob,e⟩:=x;exact⟨ob,k _ _ (.inl rfl) e⟩
 |xd fs=>obtain⟨mA,⟨od,es,ep,e,c⟩,r⟩:=x;exact⟨mA,⟨od,es,ep,k _ _ (.inl rfl) e,c⟩,r⟩
 |rng lo hi=>obtain⟨t,u,v,e⟩:=x;exact⟨t,u,v,k _ _ (.inl rfl) e⟩
 |frz ob u ih=>obtain⟨e,q⟩:=x;exact⟨k _ _ (.inl rfl) e,ih q⟩
 |
  tbl ps=>
  have e:h.get? a=some { cls:=.none,data:=.fields ps }:=x
  show h'.get? a=some { cls:=.none,data:=.fields ps }
  exact k a _ (.inl rfl) e
 |
  met f y=>
  have e:h.get? a=some (W.methodObj (.ref f) (.ref y)):=x
  show h'.get? a=some (W.methodObj (.ref f) (.ref y))
  exact k a _ (.inl rfl) e
 |ext φ=>obtain⟨p,⟨o,e⟩,st⟩:=x;exact⟨st _ _ p λo q=>k _ _ (.inl rfl) q,⟨o,k _ _ (.inl rfl) e⟩,st⟩
def HOk.lt(x:HOk P w H h)(e:H a=some o):a<h.objs.size:=(x a o e).lt
def HOk.fresh(x:HOk P w H h)(e:h.objs.size<=a):H a=none:=by
 cases q:H a with
 |none=>rfl
 |some u=>exact absurd (t_ (x.lt q) e) (Ih _)
def HOk.kept(x:HOk P w H h)(k:∀b u,h.get? b=some u->h'.get? b=some u):HOk P w H h':=λa o e=>
 (x a o e).stay (λb u _ q=>k b u q) (λ_ q=>q) λ_ _ q=>q
def HOk.laid(x:HOk P w H h)(k:∀b u,h.get? b=some u->h'.get? b=some u)(hp:h.objs.size<=a)(new:ObjOk P w (upd H a o) h' a o):HOk P w (upd H a o) h':=λb u e=>by
 have hn:=x.fresh hp
 by_cases hb:b=a
 ·subst hb;rw[bF] at e;cases e;exact new
 ·rw[ay hb] at e
  exact (x b u e).stay (λc v _ q=>k c v q) (λc q=>by rw[ay (bc q hn)];exact q) λc xs q=>by rw[ay (bc q hn)];exact q
end
def Rd(H:Hp)(a:Addr)(u:HO):Prop:=H a=some u\/∃o,H a=some (.frz o u)
def Rd.ok(r:Rd H a u)(x:HOk P w H h):ObjOk P w H h a u:=by
 rcases r with r |⟨o,r⟩
 ·exact x a u r
 ·obtain⟨_,q⟩:=x a _ r
  exact q
def Mut:Option HO->Prop
 |some (.lst _)=>True
 |some (.dK _)=>True
 |some (.dT _)=>True
 |some (.set _ _)=>True
 |some (.ins _ _ _)=>True
 |some (.ext _)=>True
 |_=>False
section
variable{P:Program}{w:World}{H:Hp}{h h':Heap}{x e:Addr}{o':HO}
def HOk.write(ok:HOk P w H h)(mu:Mut (H x))(he:e=x\/H e=some (.own x))(k:∀b u,b≠e->h.get? b=some u->h'.get? b=some u)(heo:∃u,h'.get? e=some u)
 (new:ObjOk P w (upd H x o') h' x o'):HOk P w (upd H x o') h':=λb u q=>by
 have nown:∀c y,H c=some (.own y)->c≠x:=λc y r z=>by subst z;rw[r] at mu;exact mu
 have ntup:∀c xs,H c=some (.tup xs)->c≠x:=λc xs r z=>by subst z;rw[r] at mu;exact mu
 by_cases hb:b=x
 ·subst hb;rw[bF] at q;cases q;exact new
 ·rw[ay hb] at q
  by_cases hbe:b=e
  ·have q':H b=some (.own x):=by
    rcases he with z |z
    ·exact absurd (hbe.trans z) hb
    ·rw[hbe];exact z
   rw[q] at q';cases q'
   obtain⟨v,hv⟩:=heo
   exact⟨v,by rw[hbe];exact hv⟩
  ·refine (ok b u q).stay (λc v hc r=>k c v ?_ r) (λc r=>by rw[ay (nown c b r)];exact r) λc xs r=>by rw[ay (ntup c xs r)];exact r
   rcases hc with rfl |hc
   ·exact hbe
   ·rintro rfl
    rcases he with z |z
    ·exact nown c b hc z
    ·rw[hc] at z;cases z;exact hb rfl
end
structure Un(fs ex:List Addr)(H H':Hp)(h h':Heap):Prop where
 keep:∀b o,h.get? b=some o->H b=none->b∉fs->b∉ex->h'.get? b=some o
 slot:∀b o,h.get? b=some o->H b=none->b∈fs->b∉ex->∃sl,h'.get? b=some { o with slots:=sl }
 free:∀b o,h.get? b=some o->H b=none->b∉ex->H' b=none
 there:∀b o,h.get? b=some o->b∉ex->∃o',h'.get? b=some o'
 tups:∀b xs,H b=some (.tup xs)->H' b=some (.tup xs)
 frzs:∀b o u,H b=some (.frz o u)->H' b=some (.frz o u)
 tbls:∀b ps,H b=some (.tbl ps)->∃more,H' b=some (.tbl (ps++more))
section
variable{fs fs' ex ex':List Addr}{H H1 H2:Hp}{h h1 h2 h':Heap}{a x e:Addr}{o:HO}
def Un.any(u:Un fs ex H H1 h h1)(q:h.get? b=some ob)(n:H b=none)(hx:b∉ex):∃sl,h1.get? b=some { ob with slots:=sl }:=by
 by_cases hb:b∈fs
 ·exact u.slot b ob q n hb hx
 ·exact⟨ob.slots,u.keep b ob q n hb hx⟩
noncomputable def Un.kept(k:∀b u,h.get? b=some u->h'.get? b=some u):Un fs ex H H h h':=
 ⟨λb ob q _ _ _=>k b ob q,λb ob q _ _ _=>⟨ob.slots,k b ob q⟩,λ_ _ _ n _=>n,λb ob q _=>⟨ob,k b ob q⟩,λ_ _ q=>q,λ_ _ _ q=>q,λ_ ps q=>⟨#[],by rw[q];simp⟩⟩
def Un.refl:Un fs ex H H h h:=Un.kept λ_ _ q=>q
def Un.laid(k:∀b u,h.get? b=some u->h'.get? b=some u)(hp:h.objs.size<=a)(hn:H a=none):Un fs ex H (upd H a o) h h' where
 keep:=λb u q _ _ _=>k b u q
 slot:=λb u q _ _ _=>⟨u.slots,k b u q⟩
 free:=λb u q n _=>by rw[ay (HY (t_ (s_ q) hp))];exact n
 there:=λb u q _=>⟨u,k b u q⟩
 tups:=λb xs q=>by rw[ay (bc q hn)];exact q
 frzs:=λb u xs q=>by rw[ay (bc q hn)];exact q
 tbls:=λb ps q=>⟨#[],by rw[ay (bc q hn),q];simp⟩
def Un.write(mu:Mut (H x))(he:e=x\/H e=some (.own x))(k:∀b u,b≠e->h.get? b=some u->h'.get? b=some u)(heo:∃u,h'.get? e=some u):Un fs ex H (upd H x o) h h':=by
 have hx:∀b,H b=none->b≠x:=λb n z=>by subst z;rw[n] at mu;exact mu
 have hb:∀b,H b=none->b≠e:=λb n z=>by
  subst z
  rcases he with r |r
  ·exact hx b n r
  ·rw[n] at r;cases r
 have hm:∀b u,H b=some u->¬ Mut (some u)->b≠x:=λb u q nm z=>by subst z;rw[q] at mu;exact nm mu
 refine⟨λb u q n _ _=>k b u (hb b n) q,λb u q n _ _=>⟨u.slots,k b u (hb b n) q⟩,λb u q n _=>by rw[ay (hx b n)];exact n,λb u q _=>?_,
  λb xs q=>by rw[ay (hm b _ q λz=>z)];exact q,λb u xs q=>by rw[ay (hm b _ q λz=>z)];exact q,λb ps q=>⟨#[],by rw[ay (hm b _ q λz=>z),q];simp⟩⟩
 by_cases hbe:b=e
 ·subst hbe;exact heo
 ·exact⟨u,k b u hbe q⟩
end
def trk(h:Heap)(H:Hp):List Addr:=(List.range h.objs.size).filter λa=>(H a).isSome
def gU(h:Heap)(H:Hp):Heap:=W.hideAll h (trk h H)
def vn(h:Heap)(H:Hp):(gU h H).objs.size=h.objs.size:=W.hideAll_size _ _
def wx(e:h.get? b=some o)(n:H b=none):(gU h H).get? b=some o:=
 W.hideAll_get _ e λhm=>by
  have q:(H b).isSome=true:=(List.mem_filter.mp hm).2
  rw[n] at q;simp at q
def yI(e:(gU h H).get? b=some o):h.get? b=some o/\H b=none:=by
 have e':h.get? b=some o:=W.of_hideAll (trk h H) e
 refine⟨e',?_⟩
 cases q:H b with
 |none=>rfl
 |
  some x=>
  have hm:b∈trk h H:=List.mem_filter.mpr ⟨Jw.mpr (s_ e'),by simp [q]⟩
  have z:(gU h H).get? b=none:=W.hideAll_none (trk h H) hm
  rw[z] at e;cases e
noncomputable def zJ(g h:Heap)(L:Addr):List (Addr×Obj):=(List.range h.objs.size).filterMap λa=>if a=L\/(g.get? a).isSome=true then none else (h.get? a).map λo=>(a,o)
def ff(g h:Heap)(L d:Addr):List (Addr×Obj):=(zJ g h L).filter λp=>decide (p.1≠d)
structure Mod(K:W.Frag)(mg:Ka)(base:Heap):Prop where
 kin:K.In base
 glob:base.Ns mainGlobals mg
 blt:∃mb,base.Ns builtinsNs mb/\∀x:Str,x ≠ "__name__"->mb x=bootBuiltins x
 nolimit:base.NoLimit
structure Cx where
 prog:Program
 w:World
 K:W.Frag
 mg:Str->Option Value
 base:Heap
 A:Around
 N:List Str
 s₀:Shared
 H₀:Hp
 env:Env
 outer:List Env
 stack:List Env
 ex:List Addr
 fn:Str->Bool
 calm:Bool
 pn:List (Addr×Obj)
 xe:Value->Shared->Prop
noncomputable def frs(l:List Env):List Addr:=l.filterMap (·.frame)
abbrev Cx.fs(X:Cx):List Addr:=frs X.outer
def Vis(sc:Scope)(x:Str):Prop:=sc.names.lookup x=some .local\/sc.names.lookup x=some .cell\/sc.names.lookup x=some .free
def Loc(sc:Scope)(x:Str):Prop:=sc.names.lookup x=some .local\/sc.names.lookup x=some .cell
def Look(env:Env)(h:Heap)(m:Ka)(x:Str)(u:Value):Prop:=
 (env.kindOf x=some .local/\m x=some u)\/((env.kindOf x=some .cell\/env.kindOf x=some .free)/\∃c,env.cells.lookup x=some c/\h.IsCell c (some u))
structure Cx.Ok(X:Cx):Prop where
 mod:Mod X.K X.mg X.base
 kind:X.env.scope.kind=.function
 glob:X.env.globals=mainGlobals
 blt:X.env.builtins=builtinsNs
 above:X.s₀.heap.objs.size<=X.env.locals
 inj:∀x y c,X.env.cells.lookup x=some c->X.env.cells.lookup y=some c->x=y
 has:∀x,(X.env.kindOf x=some .cell\/X.env.kindOf x=some .free)->∃c,X.env.cells.lookup x=some c
 cab:∀x c,X.fn x=true->X.env.cells.lookup x=some c->X.s₀.heap.objs.size<=c
 hd:X.calm=true->X.A.handled=none
 frames:X.A.frames=some X.stack
 stk:X.stack=X.outer\/(X.stack=X.env::X.outer/\X.env.frame=some X.env.locals)
 exf:∀b∈X.ex,b≠X.env.locals/\∀x c,X.env.cells.lookup x=some c->c≠b
 bs:∀b o,X.base.get? b=some o->X.s₀.heap.get? b=some o/\X.H₀ b=none
 bsz:X.base.objs.size<=X.s₀.heap.objs.size
 noex:∀b o,X.base.get? b=some o->b∉X.ex
 exfs:∀b∈X.ex,b∉X.fs
 funs:X.s₀.heap.FunFrames X.base X.outer
 frf:∀b∈X.fs,X.H₀ b=none
structure Inv(X:Cx)(pins:Kb)(σ:List (Option V))(H:Hp)(s:Shared):Prop where
 ok:X.Ok
 os:s.os=X.s₀.os
 bare:AllBare s.gens
 base:Un X.fs X.ex X.H₀ H X.s₀.heap s.heap
 loc:∃m,s.heap.Ns X.env.locals m/\∀(i:Nat) (x:Str) (v:V),X.N[i]?=some x->σ[i]?=some (some v)->Vis X.env.scope x->∃u,RelV v u/\Look X.env s.heap m x u
 cell:∀x c,X.env.cells.lookup x=some c->∃v,s.heap.IsCell c v
 free:H X.env.locals=none
 freeC:∀x c,X.env.cells.lookup x=some c->H c=none
 pin:∀p∈X.pn++pins,s.heap.get? p.1=some p.2/\H p.1=none/\p.1≠X.env.locals/\p.1∉X.fs/\∀v,p.2.data ≠ .cell v
 hok:HOk X.prog X.w H s.heap
 len:σ.length=X.N.length
section
variable{X:Cx}{pins:Kb}{σ:List (Option V)}{H H':Hp}{s:Shared}{h':Heap}
def Cx.Ok.nofr(ok:X.Ok)(e:X.base.get? b=some o):b∉X.fs:=λhb=>by
 have:=(ok.funs.mem hb).1
 rw[e] at this;cases this
def Inv.bs(I:Inv X pins σ H s):∀b o,X.base.get? b=some o->s.heap.get? b=some o/\H b=none:=λb o e=>
 ⟨I.base.keep b o (I.ok.bs b o e).1 (I.ok.bs b o e).2 (I.ok.nofr e) (I.ok.noex b o e),I.base.free b o (I.ok.bs b o e).1 (I.ok.bs b o e).2 (I.ok.noex b o e)⟩
def Inv.bk(I:Inv X pins σ H s):∀b o,X.base.get? b=some o->s.heap.get? b=some o:=λb o e=>(I.bs b o e).1
def Inv.mod(I:Inv X pins σ H s):Mod X.K X.mg X.base:=I.ok.mod
def Inv.kIn(I:Inv X pins σ H s):X.K.In s.heap:=I.ok.mod.kin.keeps I.bk
def Inv.lt(I:Inv X pins σ H s):X.env.locals<s.heap.objs.size:=let ⟨_,hn,_⟩:=I.loc;hn.lt
def Inv.sz(I:Inv X pins σ H s):X.s₀.heap.objs.size<=s.heap.objs.size:=w_ I.ok.above (JO I.lt)
def Inv.nofs(I:Inv X pins σ H s)(h:s.heap.objs.size<=a):a∉X.fs:=λhb=>by
 obtain⟨_,o,ho,_⟩:=I.ok.funs.mem hb
 exact absurd (t_ (s_ ho) (w_ I.sz h)) (Ih _)
def Inv.cne(I:Inv X pins σ H s):∀x c,X.env.cells.lookup x=some c->c≠X.env.locals:=λx c e z=>by
 obtain⟨v,o,ho,hd⟩:=I.cell x c e
 obtain⟨m,⟨o',es,ep,ho',hd',_⟩,_⟩:=I.loc
 rw[z,ho'] at ho;cases ho;rw[hd'] at hd;cases hd
def Inv.funs(I:Inv X pins σ H s):s.heap.FunFrames X.base X.outer:=by
 have all:∀(l:List Env),(∀b∈frs l,b∈X.fs)->X.s₀.heap.FunFrames X.base l->s.heap.FunFrames X.base l:=by
  intro l
  induction l with
  |nil=>intro _ _;trivial
  |
   cons env r ih=>
   intro hs hl
   obtain⟨hk,⟨L,o,hf,hn,ho,hd⟩,hr⟩:=hl
   have hL:L∈X.fs:=hs L (by unfold frs;rw[IE,hf];exact k_)
   obtain⟨sl,e⟩:=I.base.slot L o ho (I.ok.frf L hL) hL λz=>I.ok.exfs L z hL
   exact⟨hk,⟨L,_,hf,hn,e,hd⟩,ih (λb hb=>hs b (by unfold frs;rw[IE,hf];exact i_ _ hb)) hr⟩
 exact all X.outer (λ_ hb=>hb) I.ok.funs
def Inv.stack(I:Inv X pins σ H s):s.heap.FunFrames X.base X.stack:=by
 rcases I.ok.stk with e |⟨e,hf⟩
 ·rw[e];exact I.funs
 ·rw[e]
  obtain⟨m,hn,_⟩:=I.loc
  refine .cons (by rw[I.ok.kind];decide) hf hn ?_ I.funs
  exact JI (w_ I.ok.bsz I.ok.above)
def Inv.stkSub(I:Inv X pins σ H s):∀b∈frs X.stack,b∈X.env.locals::X.fs:=λb hb=>by
 rcases I.ok.stk with e |⟨e,hf⟩
 ·rw[e] at hb;exact i_ _ hb
 ·rw[e] at hb
  unfold frs at hb
  rw[IE,hf] at hb
  exact hb
def Inv.stkFree(I:Inv X pins σ H s):∀b∈frs X.stack,H b=none:=λb hb=>by
 rcases G_.mp (I.stkSub b hb) with e |hb
 ·rw[e];exact I.free
 ·obtain⟨_,o,ho,_⟩:=I.ok.funs.mem hb
  exact I.base.free b o ho (I.ok.frf b hb) λz=>I.ok.exfs b z hb
def Inv.step{g':Array GenState}{t':Nat}{d':Drawn}{ch:List Addr}(I:Inv X pins σ H s)
 (hch:∀b∈ch,(b∈X.ex\/X.s₀.heap.objs.size<=b)/\b≠X.env.locals/\(∀x c,X.env.cells.lookup x=some c->c≠b)/\∀p∈X.pn++pins,p.1≠b)
 (keep:∀b o,b≠X.env.locals->b∉X.fs->b∉ch->s.heap.get? b=some o->H b=none->h'.get? b=some o)
 (slot:∀b o,b≠X.env.locals->b∈X.fs->b∉ch->s.heap.get? b=some o->H b=none->∃sl,h'.get? b=some { o with slots:=sl }) (free:∀b o,b∉ch->s.heap.get? b=some o->H b=none->H' b=none)
 (there:∀b o,b∉ch->s.heap.get? b=some o->∃o',h'.get? b=some o')
 (tups:∀b xs,H b=some (.tup xs)->H' b=some (.tup xs)) (frzs:∀b o u,H b=some (.frz o u)->H' b=some (.frz o u)) (tbls:∀b ps,H b=some (.tbl ps)->∃more,H' b=some (.tbl (ps++more)))
 (ns:∀m,s.heap.Ns X.env.locals m->h'.Ns X.env.locals m) (hok:HOk X.prog X.w H' h') (hg:AllBare g'):
 Inv X pins σ H' { s with heap:=h',gens:=g',drawn:=d',toks:=t' }:=by
 have neL:∀b o,X.s₀.heap.get? b=some o->b≠X.env.locals:=λb o e=>HY (t_ (s_ e) I.ok.above)
 have neC:∀b o,X.s₀.heap.get? b=some o->b∉X.ex->b∉ch:=λb o e hx hb=>by
  rcases (hch b hb).1 with z |z
  ·exact hx z
  ·exact absurd (t_ (s_ e) z) (Ih _)
 have cellK:∀x c,X.env.cells.lookup x=some c->∀v,s.heap.IsCell c v->h'.IsCell c v:=λx c e v ⟨o,ho,hd⟩=>by
  have nch:c∉ch:=λz=>(hch c z).2.2.1 x c e rfl
  by_cases hc:c∈X.fs
  ·obtain⟨sl,q⟩:=slot c o (I.cne x c e) hc nch ho (I.freeC x c e)
   exact⟨_,q,hd⟩
  ·exact⟨o,keep c o (I.cne x c e) hc nch ho (I.freeC x c e),hd⟩
 refine⟨I.ok,I.os,hg,⟨λb o e n hb hx=>?_,λb o e n hb hx=>?_,λb o e n hx=>?_,λb o e hx=>?_,λb xs e=>tups b xs (I.base.tups b xs e),λb o xs e=>frzs b o xs (I.base.frzs b o xs e),λb ps e=>?_⟩,?_,λx c e=>?_,?_,λx c e=>?_,λp hp=>?_,hok,I.len⟩
 ·exact keep b o (neL b o e) hb (neC b o e hx) (I.base.keep b o e n hb hx) (I.base.free b o e n hx)
 ·obtain⟨sl,e1⟩:=I.base.slot b o e n hb hx
  obtain⟨sl',e2⟩:=slot b _ (neL b o e) hb (neC b o e hx) e1 (I.base.free b o e n hx)
  exact⟨sl',e2⟩
 ·obtain⟨o',e1⟩:=I.base.there b o e hx
  exact free b o' (neC b o e hx) e1 (I.base.free b o e n hx)
 ·obtain⟨o',e1⟩:=I.base.there b o e hx
  exact there b o' (neC b o e hx) e1
 ·obtain⟨m1,e1⟩:=I.base.tbls b ps e
  obtain⟨m2,e2⟩:=tbls b _ e1
  exact⟨m1++m2,by rw[e2,Array.append_assoc]⟩
 ·obtain⟨m,hn,hl⟩:=I.loc
  refine⟨m,ns m hn,λi x v e1 e2 e3=>?_⟩
  obtain⟨u,r,l⟩:=hl i x v e1 e2 e3
  refine⟨u,r,?_⟩
  rcases l with l |⟨k,c,e,z⟩
  ·exact .inl l
  ·exact .inr ⟨k,c,e,cellK x c e _ z⟩
 ·obtain⟨v,z⟩:=I.cell x c e
  exact⟨v,cellK x c e v z⟩
 ·obtain⟨m,⟨o,_,_,ho,_⟩,_⟩:=I.loc
  exact free _ o (λz=>(hch _ z).2.1 rfl) ho I.free
 ·obtain⟨v,o,ho,hd⟩:=I.cell x c e
  exact free c o (λz=>(hch c z).2.2.1 x c e rfl) ho (I.freeC x c e)
 ·obtain⟨e,n,ne,nf,d⟩:=I.pin p hp
  have nch:p.1∉ch:=λz=>(hch p.1 z).2.2.2 p hp rfl
  exact⟨keep p.1 p.2 ne nf nch e n,free p.1 p.2 nch e n,ne,nf,d⟩
def Inv.un{t':Nat}(I:Inv X pins σ H s)(u:Un X.fs [] H H' s.heap h')(hok:HOk X.prog X.w H' h'):Inv X pins σ H' { s with heap:=h',toks:=t' }:=by
 obtain⟨m,⟨o,es,ep,ho,r⟩,_⟩:=id I.loc
 obtain⟨sl,hL⟩:=u.any ho I.free (by simp)
 exact I.step (g':=s.gens) (d':=s.drawn) (ch:=[]) (λ_ z=>nomatch z) (λb o _ hb _ e n=>u.keep b o e n hb (by simp)) (λb o _ hb _ e n=>u.slot b o e n hb (by simp)) (λb o _ e n=>u.free b o e n (by simp)) (λb o _ e=>u.there b o e (by simp)) u.tups u.frzs u.tbls (λm' hm=>by
  obtain⟨o',es',ep',ho',r'⟩:=hm
  rw[ho] at ho';cases ho'
  exact⟨_,es',ep',hL,r'⟩) hok I.bare
def Inv.call{g':Array GenState}{t':Nat}{d':Drawn}{ch:List Addr}(I:Inv X pins σ H s)(u:Un (frs X.stack) ch H H' s.heap h')(hok:HOk X.prog X.w H' h')(hg:AllBare g')
 (hch:∀b∈ch,(b∈X.ex\/X.s₀.heap.objs.size<=b)/\b≠X.env.locals/\(∀x c,X.env.cells.lookup x=some c->c≠b)/\∀p∈X.pn++pins,p.1≠b):
 Inv X pins σ H' { s with heap:=h',gens:=g',drawn:=d',toks:=t' }:=by
 obtain⟨m,⟨o,es,ep,ho,r⟩,_⟩:=id I.loc
 obtain⟨sl,hL⟩:=u.any ho I.free λz=>(hch _ z).2.1 rfl
 exact I.step (ch:=ch) hch (λb o hL hb hc e n=>u.keep b o e n (λz=>(G_.mp (I.stkSub b z)).elim hL hb) hc) (λb o _ _ hc e n=>u.any e n hc) (λb o hc e n=>u.free b o e n hc) (λb o hc e=>u.there b o e hc) u.tups u.frzs u.tbls (λm' hm=>by
  obtain⟨o',es',ep',ho',r'⟩:=hm
  rw[ho] at ho';cases ho'
  exact⟨_,es',ep',hL,r'⟩) hok hg
def Inv.turned{t':Nat}{it:Addr}(I:Inv X pins σ H s)(k:∀b o,b≠it->s.heap.get? b=some o->h'.get? b=some o)(hn:H it=none)(hL:it≠X.env.locals)
 (h1:it∈X.ex\/X.s₀.heap.objs.size<=it) (h2:∀x c,X.env.cells.lookup x=some c->c≠it) (h3:∀p∈X.pn++pins,p.1≠it):Inv X pins σ H { s with heap:=h',toks:=t' }:=by
 have nit:∀b u,H b=some u->b≠it:=λb u e z=>by rw[z,hn] at e;cases e
 refine I.step (g':=s.gens) (d':=s.drawn) (ch:=[it]) (λb hb=>?_) (λb o _ _ hc e _=>k b o (λz=>hc (by simp [z])) e) (λb o _ _ hc e _=>⟨o.slots,k b o (λz=>hc (by simp [z])) e⟩) (λ_ _ _ _ n=>n)
  (λb o hc e=>⟨o,k b o (λz=>hc (by simp [z])) e⟩) (λ_ _ e=>e) (λ_ _ _ e=>e) (λb ps e=>⟨#[],by rw[e];simp⟩) (λm hm=>?_) (λb u e=>?_) I.bare
 ·have e:b=it:=by simpa using hb
  subst e
  exact⟨h1,hL,h2,h3⟩
 ·obtain⟨o,es,ep,ho,r⟩:=hm
  exact⟨o,es,ep,k _ o (Ne.symm hL) ho,r⟩
 ·refine (I.hok b u e).stay (λc v hc q=>k c v ?_ q) (λ_ q=>q) λ_ _ q=>q
  rcases hc with z |z
  ·rw[z];exact nit b u e
  ·exact nit c _ z
def Inv.tok(I:Inv X pins σ H s)(t:Nat):Inv X pins σ H { s with toks:=t }:=I.un (h':=s.heap) (t':=t) Un.refl I.hok
def Inv.kept(I:Inv X pins σ H s)(k:∀b u,s.heap.get? b=some u->h'.get? b=some u):Inv X pins σ H { s with heap:=h',toks:=t' }:=I.un (Un.kept k) (I.hok.kept k)
def Inv.laid(I:Inv X pins σ H s)(k:∀b u,s.heap.get? b=some u->h'.get? b=some u)(hp:s.heap.objs.size<=a)(new:ObjOk X.prog X.w (upd H a o) h' a o):
 Inv X pins σ (upd H a o) { s with heap:=h',toks:=t' }:=I.un (Un.laid k hp (I.hok.fresh hp)) (I.hok.laid k hp new)
def Inv.write(I:Inv X pins σ H s)(mu:Mut (H x))(he:e=x\/H e=some (.own x))(k:∀b u,b≠e->s.heap.get? b=some u->h'.get? b=some u)(heo:∃u,h'.get? e=some u)
 (new:ObjOk X.prog X.w (upd H x o) h' x o):Inv X pins σ (upd H x o) { s with heap:=h',toks:=t' }:=I.un (Un.write mu he k heo) (I.hok.write mu he k heo new)
def Inv.pins_of(I:Inv X pins σ H s)(h:∀p∈pins',s.heap.get? p.1=some p.2/\H p.1=none/\p.1≠X.env.locals/\p.1∉X.fs/\∀v,p.2.data ≠ .cell v):Inv X pins' σ H s:=
 ⟨I.ok,I.os,I.bare,I.base,I.loc,I.cell,I.free,I.freeC,λp hp=>(JL.mp hp).elim (λz=>I.pin p (List.mem_append_left _ z)) (h p),I.hok,I.len⟩
def oa{N:List Str}(hN:N.Nodup){i j:Nat}{x:Str}(a:N[i]?=some x)(b:N[j]?=some x):i=j:=by
 obtain⟨h1,e1⟩:=h_.mp a
 obtain⟨h2,e2⟩:=h_.mp b
 exact (List.getElem_inj hN).mp (e1.trans e2.symm)
def l8(I:Inv X pins σ H s)(hN:X.N.Nodup)(hi:X.N[i]?=some x)(hx:Loc X.env.scope x)(r:RelV v u)
 (h:∀s',Inv X pins (σ.set i (some v)) H s'->(∃a,Heap.SameBut a s.heap s'.heap/\(a=X.env.locals\/X.env.cells.lookup x=some a))->Q () s') (hf:X.fn x=true\/X.env.scope.names.lookup x=some .local):wpAny M A (storeName X.env x u) Q E s:=by
 obtain⟨m,hn,hl⟩:=id I.loc
 have hcls:(X.env.scope.kind == .class || (X.env.scope.kind == .module&&X.env.locals != X.env.globals))=false:=by rw[I.ok.kind];rfl
 have hiσ:i<σ.length:=by rw[I.len];exact (h_.mp hi).1
 have cne:=I.cne
 have tracked:∀{a:Addr}{h':Heap},(∃o,s.heap.get? a=some o/\H a=none)->Heap.SameBut a s.heap h'->HOk X.prog X.w H h':=λ{a h'} ha hs b ob e=>by
  obtain⟨_,_,hfree⟩:=ha
  refine (I.hok b ob e).stay (λc w' hc q=>(hs.2 c ?_).trans q) (λ_ q=>q) λ_ _ q=>q
  rintro rfl
  rcases hc with rfl |hc
  ·rw[hfree] at e;cases e
  ·rw[hfree] at hc;cases hc
 rcases hx with hk |hk
 ·refine wpAny_storeName_local hk hn (λh' hn' hs=>?_) hcls
  obtain⟨oL,_,_,hoL,_⟩:=id hn
  refine h _ ⟨I.ok,I.os,I.bare,⟨λb o e n hb hx=>?_,λb o e n hb hx=>?_,I.base.free,λb o e hx=>?_,I.base.tups,I.base.frzs,I.base.tbls⟩,⟨_,hn',λj y v' e1 e2 e3=>?_⟩,λy c e=>?_,I.free,I.freeC,λp hp=>?_,tracked ⟨oL,hoL,I.free⟩ hs,by simpa using I.len⟩ ⟨_,hs,.inl rfl⟩
  ·exact (hs.2 b (HY (t_ (s_ e) I.ok.above))).trans (I.base.keep b o e n hb hx)
  ·obtain⟨sl,e1⟩:=I.base.slot b o e n hb hx
   exact⟨sl,(hs.2 b (HY (t_ (s_ e) I.ok.above))).trans e1⟩
  ·obtain⟨o',e1⟩:=I.base.there b o e hx
   exact⟨o',(hs.2 b (HY (t_ (s_ e) I.ok.above))).trans e1⟩
  ·by_cases hj:j=i
   ·subst hj
    rw[hi] at e1;cases e1
    rw[List.getElem?_set_self hiσ] at e2
    cases e2
    exact⟨u,r,.inl ⟨hk,by simp⟩⟩
   ·rw[JK (Ne.symm hj)] at e2
    obtain⟨u',r',q⟩:=hl j y v' e1 e2 e3
    refine⟨u',r',?_⟩
    rcases q with ⟨k,e⟩ |⟨k,c,e,z⟩
    ·refine .inl ⟨k,?_⟩
     have:y≠x:=λe=>hj (oa hN e1 (e ▸ hi))
     simp [this,e]
    ·exact .inr ⟨k,c,e,z.sameBut hs (cne y c e)⟩
  ·obtain⟨w',z⟩:=I.cell y c e
   exact⟨w',z.sameBut hs (cne y c e)⟩
  ·obtain⟨e,n,ne,nf,d⟩:=I.pin p hp
   exact⟨(hs.2 p.1 ne).trans e,n,ne,nf,d⟩
 ·have hfn:X.fn x=true:=by
   rcases hf with z |z
   ·exact z
   ·rw[z] at hk;cases hk
  obtain⟨c,hc⟩:=I.ok.has x (.inl hk)
  obtain⟨w',z⟩:=I.cell x c hc
  refine wpAny_storeName_cell I.ok.kind hk hc z (λh' hc' hs=>?_)
  obtain⟨oc,hoc,hocd⟩:=id z
  refine h { s with heap:=h' } ⟨I.ok,I.os,I.bare,⟨λb o e n hb hx=>?_,λb o e n hb hx=>?_,I.base.free,λb o e hx=>?_,I.base.tups,I.base.frzs,I.base.tbls⟩,⟨m,hn.sameBut hs (Ne.symm (cne x c hc)),λj y v' e1 e2 e3=>?_⟩,λy c' e=>?_,I.free,I.freeC,λp hp=>?_,tracked ⟨oc,hoc,I.freeC x c hc⟩ hs,by simpa using I.len⟩ ⟨c,hs,.inr hc⟩
  ·exact (hs.2 b (HY (t_ (s_ e) (I.ok.cab x c hfn hc)))).trans (I.base.keep b o e n hb hx)
  ·obtain⟨sl,e1⟩:=I.base.slot b o e n hb hx
   exact⟨sl,(hs.2 b (HY (t_ (s_ e) (I.ok.cab x c hfn hc)))).trans e1⟩
  ·obtain⟨o',e1⟩:=I.base.there b o e hx
   exact⟨o',(hs.2 b (HY (t_ (s_ e) (I.ok.cab x c hfn hc)))).trans e1⟩
  ·by_cases hj:j=i
   ·subst hj
    rw[hi] at e1;cases e1
    rw[List.getElem?_set_self hiσ] at e2
    cases e2
    exact⟨u,r,.inr ⟨.inl hk,c,hc,hc'⟩⟩
   ·rw[JK (Ne.symm hj)] at e2
    obtain⟨u',r',q⟩:=hl j y v' e1 e2 e3
    refine⟨u',r',?_⟩
    rcases q with q |⟨k,c',e,z'⟩
    ·exact .inl q
    ·refine .inr ⟨k,c',e,z'.sameBut hs ?_⟩
     rintro rfl
     exact hj (oa hN e1 (I.ok.inj _ _ _ e hc ▸ hi))
  ·by_cases hcc:c'=c
   ·subst hcc;exact⟨_,hc'⟩
   ·obtain⟨w2,z2⟩:=I.cell y c' e
    exact⟨w2,z2.sameBut hs hcc⟩
  ·obtain⟨e,n,ne,nf,d⟩:=I.pin p hp
   refine⟨(hs.2 p.1 ?_).trans e,n,ne,nf,d⟩
   intro q
   rw[q,hoc] at e
   have q':oc=p.2:=C_ e
   exact d w' (by rw[<- q'];exact hocd)
def fF(I:Inv X pins σ H s)(hN:X.N.Nodup)(hi:X.N[i]?=some x)(hx:Loc X.env.scope x)(r:RelV v u)
 (h:∀s',Inv X pins (σ.set i (some v)) H s'->Q () s') (hf:X.fn x=true\/X.env.scope.names.lookup x=some .local):wpAny M A (storeName X.env x u) Q E s:=
 l8 I hN hi hx r (λs' I' _=>h s' I') hf
def Inv.call'(I:Inv X pins σ H s)(ho:s'.os=s.os)(u:Un (frs X.stack) ch H H' s.heap s'.heap)(hok:HOk X.prog X.w H' s'.heap)(hg:AllBare s'.gens)
 (hch:∀b∈ch,(b∈X.ex\/X.s₀.heap.objs.size<=b)/\b≠X.env.locals/\(∀x c,X.env.cells.lookup x=some c->c≠b)/\∀p∈X.pn++pins,p.1≠b):Inv X pins σ H' s':=by
 obtain⟨h',g',d',t',o'⟩:=s'
 have e:o'=s.os:=ho
 subst e
 exact I.call (g':=g') (t':=t') (d':=d') u hok hg hch
end
abbrev XK:=Value->Option Addr->Hp->Prop
abbrev St:=List (Option V)
abbrev VK:=V->Hp->Prop
abbrev TE:=St->Hp->VK->Prop
abbrev TT:=St->Hp->(Bool->Hp->Prop)->Prop
abbrev TA:=St->Hp->(List V->Hp->Prop)->Prop
structure Ends where
 nx:St->Hp->Prop
 rt:VK
 bk:St->Hp->Prop:=λ_ _=>False
 ct:St->Hp->Prop:=λ_ _=>False
abbrev TS:=Ends->St->Hp->Prop
def EP(X:Cx)(pins:Kb)(σ:St)(Q:VK)(u:Value)(s':Shared):Prop:=∃v H',Inv X pins σ H' s'/\RelV v u/\Q v H'
def TP(X:Cx)(pins:Kb)(σ:St)(Q:Bool->Hp->Prop)(b:Bool)(s':Shared):Prop:=∃H',Inv X pins σ H' s'/\Q b H'
def AP(X:Cx)(pins:Kb)(σ:St)(Q:List V->Hp->Prop)(us:List Value)(s':Shared):Prop:=∃vs H',Inv X pins σ H' s'/\Vals vs us/\Q vs H'
def SP(X:Cx)(pins:Kb)(D:Ends)(f:Flow)(s':Shared):Prop:=
 match f with
 |.next=>∃σ' H',Inv X pins σ' H' s'/\D.nx σ' H'
 |.brk=>∃σ' H',Inv X pins σ' H' s'/\D.bk σ' H'
 |.cont=>∃σ' H',Inv X pins σ' H' s'/\D.ct σ' H'
 |.ret u=>∃v σ' H',Inv X pins σ' H' s'/\RelV v u/\D.rt v H'
def PE(X:Cx)(e:Expr)(t:TE):Prop:=
 ∀(pins:Kb) (s:Shared) (σ:St) (H:Hp) (Q:VK),Inv X pins σ H s->t σ H Q->wpAny (model X.prog X.w) X.A (eval e X.env) (EP X pins σ Q) X.xe s
def PT(X:Cx)(e:Expr)(t:TT):Prop:=
 ∀(pins:Kb) (s:Shared) (σ:St) (H:Hp) (Q:Bool->Hp->Prop),Inv X pins σ H s->t σ H Q->wpAny (model X.prog X.w) X.A (isTrue e X.env (eval e X.env)) (TP X pins σ Q) X.xe s
def PW(X:Cx)(e:Expr)(t:TT):Prop:=
 ∀(gl:Sem Value) (pins:Kb) (s:Shared) (σ:St) (H:Hp) (Q:Bool->Hp->Prop),Inv X pins σ H s->t σ H Q->wpAny (model X.prog X.w) X.A (isTrue e X.env gl) (TP X pins σ Q) X.xe s
noncomputable def PW.pt(h:PW X e t):PT X e t:=h _
def PA(X:Cx)(es:List Expr)(t:TA):Prop:=
 ∀(pos:Pos) (pins:Kb) (s:Shared) (σ:St) (H:Hp) (Q:List V->Hp->Prop),Inv X pins σ H s->t σ H Q->wpAny (model X.prog X.w) X.A (spliced (backTo pos (starEach es X.env))) (AP X pins σ Q) X.xe s
def PS(X:Cx)(st:Stmt)(t:TS):Prop:=
 ∀(pins:Kb) (s:Shared) (σ:St) (H:Hp) (D:Ends),Inv X pins σ H s->t D σ H->wpAny (model X.prog X.w) X.A (exec st X.env) (SP X pins D) X.xe s
def PSs(X:Cx)(st:List Stmt)(t:TS):Prop:=
 ∀(pins:Kb) (s:Shared) (σ:St) (H:Hp) (D:Ends),Inv X pins σ H s->t D σ H->wpAny (model X.prog X.w) X.A (execs st X.env) (SP X pins D) X.xe s
noncomputable def thn(h:wpAny M A t Q E s)(hQ:∀a s,Q a s->Q' a s):wpAny M A t Q' E s:=HZ h hQ λ_ _ x=>x
section
variable{X:Cx}
def tVar(i:Nat):TE:=λσ H Q=>∃v,σ[i]?=some (some v)/\Q v H
def tC(v:V):TE:=λ_ H Q=>Q v H
def Fb(hN:X.N[i]?=some x)(hv:Vis X.env.scope x)(hd:(x==("__debug__" : Str))=false)(hcd:(x==("__classdict__" : Str))=false):PE X (.Name x pos) (tVar i):=by
 intro pins s σ H Q I h
 obtain⟨v,e,h⟩:=h
 obtain⟨m,hn,hl⟩:=I.loc
 obtain⟨u,r,l⟩:=hl i x v hN e hv
 have d_:EP X pins σ Q u s:=⟨v,H,I,r,h⟩
 rcases l with ⟨hk,hm⟩ |⟨hk,c,hc,hcell⟩
 ·exact wpAny_Name (wpAny_loadName_local I.ok.kind hk hn hm d_) hd
 ·rcases hk with hk |hk
  ·exact wpAny_Name (wpAny_loadName_cell I.ok.kind hk hc hcell d_) hd
  ·exact wpAny_Name (wpAny_loadName_free I.ok.kind hk hc hcell d_ hcd) hd
def Bh{i j pos}:PE X (.Constant (.int i) j pos) (tC (.int i)):=λ_ _ _ H _ I h=>wpAny_Constant_int ⟨.int i,H,I.tok _,⟨_,rfl⟩,h⟩
def GH{b j pos}:PE X (.Constant (.bool b) j pos) (tC (.bl b)):=λ_ _ _ H _ I h=>Constant_bool ⟨.bl b,H,I,rfl,h⟩
def ui{x j pos}:PE X (.Constant (.str x) j pos) (tC (.str x)):=λ_ _ _ H _ I h=>Calls.Constant_str ⟨.str x,H,I.tok _,⟨_,rfl⟩,h⟩
def Gl(X:Cx)(x:Str):Prop:=X.env.kindOf x=some .globalImplicit
def lN(I:Inv X pins σ H s)(hg:Gl X x)(hm:X.mg x=some u)(h:Q u s)
 (hd:(x==("__debug__" : Str))=false):wpAny (model X.prog X.w) X.A (eval (.Name x pos) X.env) Q E s:=
 Calls.Name_function_global I.ok.kind hg (Calls.loadGlobal_global (by rw[I.ok.glob];exact I.mod.glob.keeps I.bk) hm h) hd
def gu(I:Inv X pins σ H s)(hg:Gl X x)(hm:X.mg x=none)(hv:bootBuiltins x=some u)(h:Q u s)
 (hn:x ≠ "__name__":=by decide) (hd:(x==("__debug__" : Str))=false:=by decide):wpAny (model X.prog X.w) X.A (eval (.Name x pos) X.env) Q E s:=by
 obtain⟨mb,h1,h2⟩:=I.mod.blt
 exact Calls.Name_function_global I.ok.kind hg (Calls.loadGlobal_builtin (by rw[I.ok.glob];exact I.mod.glob.keeps I.bk) hm (by rw[I.ok.blt];exact h1.keeps I.bk) ((h2 x hn).trans hv) h) hd
def AG(hg:Gl X x)(hm:X.mg x=some u)(r:RelV v u)(hd:(x==("__debug__" : Str))=false):PE X (.Name x pos) (tC v):=
 λ_ _ _ H _ I h=>lN I hg hm ⟨v,H,I,r,h⟩ hd
def yR(hg:Gl X x)(hm:X.mg x=none)(hv:bootBuiltins x=some u)(r:RelV v u)(hn:x ≠ "__name__")(hd:(x==("__debug__" : Str))=false):PE X (.Name x pos) (tC v):=
 λ_ _ _ H _ I h=>gu I hg hm hv ⟨v,H,I,r,h⟩ hn hd
variable{a b:Expr}{ta tb:TE}{pos:Pos}
def tB(t:TE):TT:=λσ H Q=>t σ H λx H1=>∃c,x=.bl c/\Q c H1
def Cs(h:PE X e t)(he:∀gl,isTrue e X.env gl=(do let v <- gl;standAt e.pos;holding [v] (truthy v))):PT X e (tB t):=by
 intro pins s σ H Q I hw
 refine isTrue_plain (thn (h pins s σ H _ I hw) λv s1 ⟨x,H1,I1,r1,q1⟩=>?_) (he _)
 obtain⟨d,rfl,q⟩:=q1
 cases r1
 exact Jc ⟨H1,I1,q⟩
variable{tA tB':TT}{ff:List Expr}
def tAnd(t u:TT):TT:=λσ H Q=>t σ H λc H1=>if c=true then u σ H1 Q else Q false H1
def tOr(t u:TT):TT:=λσ H Q=>t σ H λc H1=>if c=true then Q true H1 else u σ H1 Q
def tNot(t:TT):TT:=λσ H Q=>t σ H λc H1=>Q (!c) H1
def z9(ha:PT X a tA):PW X (.BoolOp .And [a] pos) tA:=by
 intro wh pins s σ H Q I h
 refine isTrue_and (thn (ha pins s σ H Q I h) λc s1 e=>?_)
 cases c with
 |true=>exact isTrue_and_nil e
 |false=>exact e
def C7(ha:PT X a tA):PW X (.BoolOp .Or [a] pos) tA:=by
 intro wh pins s σ H Q I h
 refine isTrue_or (thn (ha pins s σ H Q I h) λc s1 e=>?_)
 cases c with
 |false=>exact isTrue_or_nil e
 |true=>exact e
def BD(ha:PT X a tA)(hb:PW X (.BoolOp .And (b::ff) pos) tB'):PW X (.BoolOp .And (a::b::ff) pos) (tAnd tA tB'):=by
 intro wh pins s σ H Q I h
 refine isTrue_and (thn (ha pins s σ H _ I h) λc s1 ⟨H1,I1,q1⟩=>?_)
 cases c with
 |true=>exact hb wh pins s1 σ H1 Q I1 q1
 |false=>exact⟨H1,I1,q1⟩
def GF(ha:PT X a tA)(hb:PW X (.BoolOp .Or (b::ff) pos) tB'):PW X (.BoolOp .Or (a::b::ff) pos) (tOr tA tB'):=by
 intro wh pins s σ H Q I h
 refine isTrue_or (thn (ha pins s σ H _ I h) λc s1 ⟨H1,I1,q1⟩=>?_)
 cases c with
 |true=>exact⟨H1,I1,q1⟩
 |false=>exact hb wh pins s1 σ H1 Q I1 q1
def Es(ha:PT X a tA):PT X (.UnaryOp .Not a pos) (tNot tA):=by
 intro pins s σ H Q I h
 exact isTrue_not (ha pins s σ H (λc H1=>Q (!c) H1) I h)
def Hy(ta tb:TE):TE:=λσ H Q=>ta σ H λx H1=>∃c,x=.bl c/\if c=true then tb σ H1 Q else Q (.bl false) H1
def Fj(ta:TE):TE:=λσ H Q=>ta σ H λx H1=>∃c,x=.bl c/\Q (.bl (!c)) H1
noncomputable def EG{op}(h:PE X a t):PE X (.BoolOp op [a] pos) t:=λpins s σ H Q I hw=>BoolOp_one (h pins s σ H Q I hw)
def CG(ha:PE X a ta)(hb:PE X (.BoolOp .And (b::ff) pos) tb):PE X (.BoolOp .And (a::b::ff) pos) (Hy ta tb):=by
 intro pins s σ H Q I h
 refine BoolOp_and (thn (ha pins s σ H _ I h) λv s1 ⟨x,H1,I1,r1,q1⟩=>?_)
 obtain⟨c,rfl,q1⟩:=q1
 cases r1
 refine Jc ?_
 cases c with
 |true=>exact hb pins s1 σ H1 Q I1 q1
 |false=>exact⟨.bl false,H1,I1,rfl,q1⟩
def Ba(ha:PE X a ta):PE X (.UnaryOp .Not a pos) (Fj ta):=by
 intro pins s σ H Q I h
 refine UnaryOp_ (thn (ha pins s σ H _ I h) λv s1 ⟨x,H1,I1,r1,q1⟩=>?_)
 obtain⟨c,rfl,q1⟩:=q1
 cases r1
 exact not_of (Jc ⟨.bl (!c),H1,I1,rfl,q1⟩)
end
def SqL(K:W.Frag)(H:Hp)(a:Addr)(xs:List V):Prop:=
 Rd H a (.lst xs)\/
  ∃(o:Obj) (its:Array Value) (n:Nat),K.lookup a=some o/\o.cls=.type "list" /\ o.dict=none/\o.data=.seq its n/\its.size<=sizeLine/\Vals xs its.toList
def SqT(K:W.Frag)(H:Hp)(a:Addr)(xs:List V):Prop:=
 Rd H a (.tup xs)\/
  ∃(o:Obj) (its:Array Value) (n:Nat),K.lookup a=some o/\o.cls=.type "tuple" /\ o.data=.seq its n/\its.size<=sizeLine/\Vals xs its.toList
noncomputable def absV:Value->Option V
 |.none=>some .non
 |.bool b=>some (.bl b)
 |.int i _=>some (.int i)
 |.str x _=>some (.str x)
 |.bytes b _=>some (.byt b)
 |.float b _=>some (.flt b)
 |.ref a=>some (.ref a)
 |.type n=>some (.ty n)
 |_=>none
def RelV.abs(r:RelV x u):absV u=some x:=by
 cases x with
 |non=>cases r;rfl
 |bl _=>cases r;rfl
 |int _=>obtain⟨t,rfl⟩:=r;rfl
 |str _=>obtain⟨t,rfl⟩:=r;rfl
 |byt _=>obtain⟨t,rfl⟩:=r;rfl
 |flt _=>obtain⟨t,rfl⟩:=r;rfl
 |ref _=>cases r;rfl
 |ty _=>cases r;rfl
def RelV.inj(r:RelV x u)(q:RelV y u):x=y:=C_ (r.abs.symm.trans q.abs)
def Vals.inj(r:Vals xs us)(q:Vals ys us):xs=ys:=by
 induction r generalizing ys with
 |nil=>cases q;rfl
 |
  cons r t ih=>
  cases q with
  |cons q t'=>rw[r.inj q,ih t']
section
variable{X:Cx}{pins:Kb}{σ:St}{H:Hp}{s:Shared}{a:Addr}{xs ys:List V}
noncomputable def SqL.of{K:W.Frag}(h:H a=some (.lst xs)):SqL K H a xs:=.inl (.inl h)
noncomputable def SqT.of{K:W.Frag}(h:H a=some (.tup xs)):SqT K H a xs:=.inl (.inl h)
def Inv.list(I:Inv X pins σ H s)(h:SqL X.K H a xs):∃its:List Value,Vals xs its/\PlainL s.heap a its.toArray/\xs.length<=sizeLine:=by
 rcases h with h |⟨o,its,n,hk,hc,hd,hs,hz,r⟩
 ·obtain⟨z,its,n,r,e⟩:=h.ok I.hok
  exact⟨its,r,⟨_,n,e,rfl,rfl,rfl⟩,z⟩
 ·refine⟨its.toList,r,⟨o,n,I.kIn a o hk,hc,hd,by simpa using hs⟩,?_⟩
  have e:=r.length
  simp only[JT] at e
  omega
def Inv.tuple(I:Inv X pins σ H s)(h:SqT X.K H a xs):∃its:List Value,Vals xs its/\IsTup s.heap a its.toArray/\xs.length<=sizeLine:=by
 rcases h with h |⟨o,its,n,hk,hc,hs,hz,r⟩
 ·obtain⟨z,its,r,p⟩:=h.ok I.hok
  exact⟨its,r,p,z⟩
 ·refine⟨its.toList,r,⟨o,I.kIn a o hk,hc,n,by simpa using hs⟩,?_⟩
  have e:=r.length
  simp only[JT] at e
  omega
def Inv.list_inj(I:Inv X pins σ H s)(h:SqL X.K H a xs)(h':SqL X.K H a ys):xs=ys:=by
 obtain⟨its,r,⟨o,n,e,_,_,d⟩,_⟩:=I.list h
 obtain⟨its',r',⟨o',n',e',_,_,d'⟩,_⟩:=I.list h'
 rw[e] at e';cases e'
 rw[d] at d'
 injection d' with d1 _
 have:its=its':=by simpa using Iw Array.toList d1
 subst this
 exact r.inj r'
def Inv.tuple_inj(I:Inv X pins σ H s)(h:SqT X.K H a xs)(h':SqT X.K H a ys):xs=ys:=by
 obtain⟨its,r,⟨o,e,_,n,d⟩,_⟩:=I.tuple h
 obtain⟨its',r',⟨o',e',_,n',d'⟩,_⟩:=I.tuple h'
 rw[e] at e';cases e'
 rw[d] at d'
 injection d' with d1 _
 have:its=its':=by simpa using Iw Array.toList d1
 subst this
 exact r.inj r'
end
section
variable{X:Cx}{pins:Kb}{σ:St}{H:Hp}{s:Shared}{E:Kc}
end
section
variable{X:Cx}{st:Stmt}{ff:List Stmt}{t u:TS}{e:Expr}{te:TE}{pos:Pos}
def FZ:TS:=λD σ H=>D.nx σ H
def tSeq(t u:TS):TS:=λD σ H=>t { D with nx:=u D } σ H
def y7:PSs X [] FZ:=λ_ _ σ H _ I h=>JS ⟨σ,H,I,h⟩
def wW(h1:PS X st t)(h2:PSs X ff u):PSs X (st::ff) (tSeq t u):=by
 intro pins s σ H D I h
 refine wpAny_execs_cons (thn (h1 pins s σ H { D with nx:=u D } I h) λf s1 q=>?_)
 cases f with
 |
  next=>
  obtain⟨σ',H',I',q⟩:=q
  exact h2 pins s1 σ' H' D I' q
 |ret v=>exact q
 |brk=>exact q
 |cont=>exact q
def zS(h1:PS X st t):PSs X [st] t:=by
 intro pins s σ H D I h
 refine wpAny_execs_cons (thn (h1 pins s σ H D I h) λf s1 q=>?_)
 cases f with
 |next=>exact JS q
 |ret v=>exact q
 |brk=>exact q
 |cont=>exact q
def Be:TS:=λD σ H=>D.bk σ H
def xh:PS X (.Break pos) Be:=λ_ _ σ H _ I h=>wpAny_Break ⟨σ,H,I,h⟩
def Inv.quiet(I:Inv X pins σ H s):interactive X.env=false:=by simp [interactive,I.ok.kind]
def Fx(te:TE):TS:=λD σ H=>te σ H λ_ H1=>D.nx σ H1
def Au(he:PE X e te)(hs:swapsWith e none pos.line X.env=pure false):PS X (.Expr e pos) (Fx te):=by
 intro pins s σ H D I h
 exact wpAny_Expr_any (thn (he pins s σ H _ I h) λv s1 ⟨x,H1,I1,r1,q1⟩=>⟨σ,H1,I1,q1⟩) I.quiet hs
def tRet(te:TE):TS:=λD σ H=>te σ H D.rt
def BA(he:PE X e te):PS X (.Return (some e) pos) (tRet te):=by
 intro pins s σ H D I h
 exact wpAny_Return_some (thn (he pins s σ H _ I h) λv s1 ⟨x,H1,I1,r1,q1⟩=>⟨x,σ,H1,I1,r1,q1⟩)
def tIfS(c:TT)(t u:TS):TS:=λD σ H=>c σ H λb H1=>if b=true then t D σ H1 else u D σ H1
def FN(hc:PT X c tc)(ha:PSs X a t)(hb:PSs X b u):PS X (.If c a b pos) (tIfS tc t u):=by
 intro pins s σ H D I h
 refine wpAny_If (thn (hc pins s σ H _ I h) λd s1 ⟨H1,I1,q1⟩=>?_)
 cases d with
 |true=>exact ha pins s1 σ H1 D I1 q1
 |false=>exact hb pins s1 σ H1 D I1 q1
end
abbrev TG:=V->St->Hp->(St->Hp->Prop)->Prop
abbrev TGs:=List V->St->Hp->(St->Hp->Prop)->Prop
def PG(X:Cx)(target:Expr)(t:TG):Prop:=
 ∀
  (pins:Kb) (s:Shared) (σ:St) (H:Hp) (v:V) (u:Value) (Q:St->Hp->Prop),Inv X pins σ H s->RelV v u->t v σ H Q->
  wpAny (model X.prog X.w) X.A (assign target X.env u) (λ_ s'=>∃σ' H',Inv X pins σ' H' s'/\Q σ' H') X.xe s
def PGs(X:Cx)(ts:List Expr)(t:TGs):Prop:=
 ∀
  (pins:Kb) (s:Shared) (σ:St) (H:Hp) (vs:List V) (us:List Value) (Q:St->Hp->Prop),Inv X pins σ H s->Vals vs us->t vs σ H Q->
  wpAny (model X.prog X.w) X.A (assignInOrder ((assignEach ts X.env).map (·.2)) us) (λ_ s'=>∃σ' H',Inv X pins σ' H' s'/\Q σ' H') X.xe s
abbrev wa:=V->V->V->Hp->(Hp->Prop)->Prop
def rC(X:Cx)(t:wa):Prop:=
 ∀
  (pins:Kb) (s:Shared) (σ:St) (H:Hp) (o i v:V) (ov iv u:Value) (Q:Hp->Prop),Inv X pins σ H s->RelV o ov->RelV i iv->RelV v u->t o i v H Q->
  wpAny (model X.prog X.w) X.A (setItem ov iv u) (λ_ s'=>∃H',Inv X pins σ H' s'/\Q H') X.xe s
abbrev TIp:=V->V->Hp->VK->Prop
def PIp(X:Cx)(op:Operator)(t:TIp):Prop:=
 ∀
  (pins:Kb) (s:Shared) (σ:St) (H:Hp) (x y:V) (v u:Value) (Q:VK),Inv X pins σ H s->RelV x v->RelV y u->t x y H Q->
  wpAny (model X.prog X.w) X.A (inplaceOp op v u) (EP X pins σ Q) X.xe s
section
variable{X:Cx}{pos:Pos}
def kg(i:Nat):TG:=λv σ H Q=>Q (σ.set i (some v)) H
def y9(hN:X.N.Nodup)(hi:X.N[i]?=some x)(hx:Loc X.env.scope x)(hf:X.fn x=true\/X.env.scope.names.lookup x=some .local):PG X (.Name x pos) (kg i):=by
 intro pins s σ H v u Q I r h
 exact wpAny_assign_Name (fF I hN hi hx r (λs' I'=>⟨_,H,I',h⟩) hf)
def gNil:TGs:=λvs σ H Q=>vs=[]/\Q σ H
def Gi(t:TG)(u:TGs):TGs:=λvs σ H Q=>∃v r,vs=v::r/\t v σ H λσ' H'=>u r σ' H' Q
def Ad:PGs X [] gNil:=by
 intro pins s σ H vs us Q I r h
 obtain⟨e,h⟩:=h
 subst e
 cases r
 exact assignInOrder_nil ⟨σ,H,I,h⟩
def xr(h1:PG X e t)(h2:PGs X es u)
 (hs:(assignEach (e::es) X.env).map (·.2)=assign e X.env::(assignEach es X.env).map (·.2)):PGs X (e::es) (Gi t u):=by
 intro pins s σ H vs us Q I r h
 obtain⟨v,vr,e1,h⟩:=h
 subst e1
 cases r with
 |
  cons r rr=>
  rw[hs]
  refine assignInOrder_cons (thn (h1 pins s σ H _ _ _ I r h) λ_ s1 ⟨σ1,H1,I1,q1⟩=>?_)
  exact h2 pins s1 σ1 H1 _ _ Q I1 rr q1
def gTup(K:W.Frag)(n:Nat)(t:TGs):TG:=λv σ H Q=>∃a xs,v=.ref a/\SqT K H a xs/\xs.length=n/\t xs σ H Q
def EZ(hc:X.calm=true)(h:PGs X es t)
 (hn:(assignEach es X.env).length=n) (hst:(assignEach es X.env).findIdx? (·.1)=none):PG X (.Tuple es k pos) (gTup X.K n t):=by
 intro pins s σ H v u Q I r hw
 obtain⟨a,xs,e1,hq,hl,hw⟩:=hw
 subst e1
 cases r
 obtain⟨its,rv,ht,hz⟩:=I.tuple hq
 refine assign_Tuple_tuple (I.ok.hd hc) ht (by simp [hn,<- hl,rv.length]) hst λh' hx=>?_
 have I1:Inv X pins σ H { s with heap:=h' }:=I.kept (t':=s.toks) λb o e=>hx b o (HY (s_ e)) e
 exact h pins _ σ H xs _ Q I1 (by simpa using rv) hw
def gSub(to ti:TE)(t:wa):TG:=λv σ H Q=>to σ H λo H1=>ti σ H1 λi H2=>t o i v H2 λH3=>Q σ H3
def A8(ho:PE X o to)(hi:PE X i ti)(hs:rC X t)
 (ha:∀v,assign (.Subscript o i pos) X.env v=(do
  let ov <- holding [v] (eval o X.env)
  let iv <- holding [v,ov] (eval i X.env)
  standAt pos
  holding [v,ov,iv] (setItem ov iv v)
  release [v,ov,iv] [])):PG X (.Subscript o i pos) (gSub to ti t):=by
 intro pins s σ H v u Q I r h
 rw[ha]
 refine l_ (Jm (thn (ho pins s σ H _ I h) λov s1 ⟨x,H1,I1,r1,q1⟩=>?_))
 refine l_ (Jm (thn (hi pins s1 σ H1 _ I1 q1) λiv s2 ⟨y,H2,I2,r2,q2⟩=>?_))
 refine l_ (JW (l_ (Jm (thn (hs pins s2 σ H2 x y v ov iv u _ I2 r1 r2 r q2) λ_ s3 ⟨H3,I3,q3⟩=>?_))))
 exact wpAny_release ⟨σ,H3,I3,q3⟩
def nq(te:TE)(g:TG):TS:=λD σ H=>te σ H λx H1=>g x σ H1 D.nx
def Bl(he:PE X e te)(hg:PG X tg g)(hs:swapsWithSole [tg] e pos.line X.env=pure false)(hw:swappedStores [tg] e X.env=pure none)
 (h1:(assignEach [tg] X.env).map (·.2)=[assign tg X.env]):PS X (.Assign [tg] e pos) (nq te g):=by
 intro pins s σ H D I h
 refine wpAny_Assign_stores (thn (he pins s σ H _ I h) λv s1 ⟨x,H1,I1,r1,q1⟩=>?_) hs hw
 rw[h1]
 exact thn (hg pins s1 σ H1 x v _ I1 r1 q1) λ_ s2 q=>q
def CF(hN:X.N.Nodup)(hi:X.N[i]?=some x)(hx:Loc X.env.scope x)(he:PE X e te)(hs:swapsWith e (some (.Name x f_)) pos.line X.env=pure false)(hf:X.fn x=true\/X.env.scope.names.lookup x=some .local):
 PS X (.Assign [.Name x f_] e pos) (nq te (kg i)):=by
 intro pins s σ H D I h
 refine wpAny_Assign_Name (thn (he pins s σ H _ I h) λv s1 ⟨y,H1,I1,r1,q1⟩=>?_) hs
 exact fF I1 hN hi hx r1 (λs2 I2=>⟨_,H1,I2,q1⟩) hf
def tPar(i j:Nat)(ta:TA):TS:=λD σ H=>ta σ H λvs H1=>∃v w,vs=[v,w]/\D.nx ((σ.set i (some v)).set j (some w)) H1
def Dl{kt k2 pt2}(hc:X.calm=true)(hN:X.N.Nodup)(hi:X.N[i]?=some x)(hj:X.N[j]?=some y)(hij:i≠j)
 (hx:X.env.scope.names.lookup x=some .local) (hy:X.env.scope.names.lookup y=some .local) (ha:PA X [a,b] ta)
 (hw:swappedStores [.Tuple [.Name x px,.Name y py] kt pt] (.Tuple [a,b] k2 pt2) X.env=pure (some [x,y]))
 (hs:swapsWithSole [.Tuple [.Name x px,.Name y py] kt pt] (.Tuple [a,b] k2 pt2) pos.line X.env=pure false):
 PS X (.Assign [.Tuple [.Name x px,.Name y py] kt pt] (.Tuple [a,b] k2 pt2) pos) (tPar i j ta):=by
 intro pins s σ H D I h
 rw[exec_Assign_arm]
 refine l_ (JW ?_)
 rw[hs]
 refine l_ (A_ ?_)
 rw[if_neg (by decide)]
 refine l_ (Tuple_ (thn (ha _ pins s σ H _ I h) λus s1 ⟨vs,H1,I1,r1,q1⟩=>?_))
 obtain⟨v,w,e1,q1⟩:=q1
 subst e1
 obtain⟨u1,u2,rfl,rv,rw'⟩:∃u1 u2,us=[u1,u2]/\RelV v u1/\RelV w u2:=by
  cases r1 with
  |
   cons p q=>
   cases q with
   |
    cons p' q'=>
    cases q'
    exact⟨_,_,rfl,p,p'⟩
 refine IP ?_ (by show 2<=sizeLine;decide)
 have I2:Inv X pins σ H1 { s1 with heap:=s1.heap.push { cls:=.type "tuple",data:=.seq [u1,u2].toArray } }:=I1.kept (t':=s1.toks) λb o e=>p_ _ e
 rw[hw]
 refine l_ (A_ ?_)
 show wpAny (model X.prog X.w) X.A (do rule "assign.swapped-stores";let items <- unpackItems (.ref s1.heap.objs.size) 2 none;assignInOrder [λv=>bindName X.env y v,λv=>bindName X.env x v] items.reverse;pure Flow.next) _ _ _
 refine l_ (wpAny_rule (l_ (unpackItems_tuple (items:=#[u1,u2]) (I.ok.hd hc) (IsTup.new s1.heap _) λh' hx'=>?_)))
 have I3:=I2.kept (h':=h') (t':=s1.toks) λb o e=>hx' b o (HY (s_ e)) e
 show wpAny _ _ (assignInOrder [λv=>bindName X.env y v,λv=>bindName X.env x v] [u2,u1] >>= λ_=>pure Flow.next) _ _ _
 refine l_ (assignInOrder_cons (wpAny_bindName (fF I3 hN hj (.inl hy) rw' (λs2 I4=>?_) (.inr hy))))
 refine assignInOrder_cons (wpAny_bindName (fF I4 hN hi (.inl hx) rv (λs3 I5=>assignInOrder_nil (A_ ?_)) (.inr hx)))
 rw[List.set_comm _ _ (Ne.symm hij)] at I5
 exact⟨_,H1,I5,q1⟩
def tAug(i:Nat)(te:TE)(ti:TIp):TS:=λD σ H=>∃x,σ[i]?=some (some x)/\te σ H λy H1=>ti x y H1 λz H2=>D.nx (σ.set i (some z)) H2
def CL(hN:X.N.Nodup)(hi:X.N[i]?=some x)(hx:Loc X.env.scope x)(he:PE X e te)(ho:PIp X op ti)(hf:X.fn x=true\/X.env.scope.names.lookup x=some .local):
 PS X (.AugAssign (.Name x f_) op e pos) (tAug i te ti):=by
 intro pins s σ H D I h
 obtain⟨v,e1,h⟩:=h
 obtain⟨m,hn,hl⟩:=I.loc
 have vis:Vis X.env.scope x:=by rcases hx with k |k;exact .inl k;exact .inr (.inl k)
 obtain⟨u,r,l⟩:=hl i x v hi e1 vis
 refine wpAny_AugAssign_Name ?_
 have go:wpAny (model X.prog X.w) X.A (eval e X.env) (λw s₂=>wpAny (model X.prog X.w) X.A (inplaceOp op u w) (λr s₃=>wpAny (model X.prog X.w) X.A (storeName X.env x r) (λ_=>SP X pins D .next) X.xe s₃) X.xe s₂) X.xe s:=by
  refine thn (he pins s σ H _ I h) λw s1 ⟨y,H1,I1,r1,q1⟩=>?_
  refine thn (ho pins s1 σ H1 v y u w _ I1 r r1 q1) λz s2 ⟨zv,H2,I2,r2,q2⟩=>?_
  exact fF I2 hN hi hx r2 (λs3 I3=>⟨_,H2,I3,q2⟩) hf
 rcases l with ⟨hk,hm⟩ |⟨hk,c,hc,hcell⟩
 ·exact wpAny_loadName_local I.ok.kind hk hn hm go
 ·rcases hk with hk |hk
  ·exact wpAny_loadName_cell I.ok.kind hk hc hcell go
  ·rcases hx with k |k
   ·have:X.env.scope.names.lookup x=some .free:=hk
    rw[k] at this;cases this
   ·have:X.env.scope.names.lookup x=some .free:=hk
    rw[k] at this;cases this
def ipI(f:Int->Int->Int):TIp:=λx y H Q=>∃i j,x=.int i/\y=.int j/\Q (.int (f i j)) H
def EJ:PIp X .Add (ipI λi j=>i+j):=by
 intro pins s σ H x y v u Q I r1 r2 h
 obtain⟨i,j,e1,e2,q⟩:=h
 subst e1;subst e2
 obtain⟨t,rfl⟩:=r1
 obtain⟨t',rfl⟩:=r2
 exact iadd_int ⟨.int _,H,I.tok _,⟨_,rfl⟩,q⟩
end
section
variable{X:Cx}{pos:Pos}
def BC(c:TT)(tb:TS):TS:=λD σ H=>∃W:Nat->St->Hp->Prop,(∃m,W m σ H)/\∀m σ H,W m σ H->
 c σ H λb H1=>if b=true then ∃N:St->Hp->Prop,(∀σ' H',N σ' H'->∃m',m'<m/\W m' σ' H')/\tb { D with nx:=N,ct:=N,bk:=D.nx } σ H1 else D.nx σ H1
def wY(hp:PassesOwn (model X.prog X.w) X.A X.env X.xe)(hc:PT X c tc)(hb:PSs X body tb):PS X (.While c body [] pos) (BC tc tb):=by
 intro pins s σ H D I h
 obtain⟨W,⟨m0,w0⟩,turn⟩:=h
 refine wpAny_While (codeAny_whileLoop (λn s'=>∃σ' H',Inv X pins σ' H' s'/\W n σ' H') ?_ m0 ⟨σ,H,I,w0⟩)
 rintro n s1 ⟨σ1,H1,I1,w1⟩
 refine IL hp (thn (hc pins s1 σ1 H1 _ I1 (turn n σ1 H1 w1)) λb s2 ⟨H2,I2,q2⟩=>?_)
 cases b with
 |
  true=>
  obtain⟨N,hN,q2⟩:=q2
  rw[if_pos rfl]
  refine IL hp (thn (hb pins s2 σ1 H2 _ I2 q2) λf s3 q3=>?_)
  cases f with
  |
   next=>
   obtain⟨σ3,H3,I3,n3⟩:=q3
   obtain⟨m',hm,w3⟩:=hN σ3 H3 n3
   exact⟨m',hm,σ3,H3,I3,w3⟩
  |
   cont=>
   obtain⟨σ3,H3,I3,n3⟩:=q3
   obtain⟨m',hm,w3⟩:=hN σ3 H3 n3
   exact⟨m',hm,σ3,H3,I3,w3⟩
  |brk=>exact q3
  |ret v=>exact q3
 |
  false=>
  rw[if_neg n_]
  exact JS ⟨σ1,H2,I2,q2⟩
end
structure It where
 go:Nat->Hp->Prop
 yld:Nat->Hp->V->Hp->Prop
 stop:Nat->Hp->Prop
def jB(X:Cx)(pins:Kb)(H:Hp)(b:Addr):Prop:=
 H b=none/\b≠X.env.locals/\b∉X.fs/\(b∈X.ex\/X.s₀.heap.objs.size<=b)/\(∀x c,X.env.cells.lookup x=some c->c≠b)/\∀p∈X.pn++pins,p.1≠b
def Inv.fpOk(I:Inv X pins σ H s)(hb:s.heap.objs.size<=b)(hn:H' b=none):jB X pins H' b:=by
 refine⟨hn,Nat.ne_of_gt (t_ I.lt hb),I.nofs hb,.inr (w_ I.sz hb),λx c e z=>?_,λp hp z=>?_⟩
 ·obtain⟨v,q⟩:=I.cell x c e
  exact absurd (t_ q.lt (by rw[z];exact hb)) (Ih _)
 ·exact absurd (t_ (s_ (I.pin p hp).1) (by rw[z];exact hb)) (Ih _)
structure Turn(P:Program)(w:World)(K:W.Frag)(tg:Expr)(J:It)(fp:List Addr)(it:Addr)(tn:Nat->Heap->Prop):Prop where
 mem:it∈fp
 obj:∀i h,tn i h->∀b∈fp,∃o,h.get? b=some o/\∀v,o.data ≠ .cell v
 keep:∀i h h',tn i h->(∀b∈fp,∀o,h.get? b=some o->h'.get? b=some o)->tn i h'
 item:∀(X:Cx),X.prog=P->X.w=w->X.K=K->X.calm=true->∀(i:Nat) (pins:Kb) (s:Shared) (σ:St) (H:Hp) (E:Kc),Inv X pins σ H s->(∀b∈fp,jB X pins H b)->tn i s.heap->J.go i H->
  wpAny (model P w) X.A (pyNext (.ref it)) (λr s1=>∃u,r=some u/\
   wpAny (model P w) X.A (letOwnedTupleGo tg (.ref it) u) (λ_ s2=>∃x H',Inv X pins σ H' s2/\RelV x u/\J.yld i H x H'/\tn (i+1) s2.heap/\∀b∈fp,H' b=none) E s1) E s
 done:∀(X:Cx),X.prog=P->X.w=w->X.K=K->X.calm=true->∀(i:Nat) (pins:Kb) (s:Shared) (σ:St) (H:Hp) (E:Kc),Inv X pins σ H s->(∀b∈fp,jB X pins H b)->tn i s.heap->J.stop i H->
  wpAny (model P w) X.A (pyNext (.ref it)) (λr s1=>r=none/\Inv X pins σ H s1) E s
 self:∀(A:Around) (i:Nat) (s:Shared) (Q:Kc) (E:Kc),tn i s.heap->Q (.ref it) s->wpAny (model P w) A (pyIter (.ref it)) Q E s
abbrev TI:=St->Hp->(It->Hp->Prop)->Prop
def PIE(X:Cx)(pins:Kb)(σ:St)(tg:Expr)(R:It->Hp->Prop)(itv:Value)(s2:Shared):Prop:=
 ∃(it:Addr) (fp:List Addr) (tn:Nat->Heap->Prop) (J:It) (H':Hp),itv=.ref it/\Inv X pins σ H' s2/\Turn X.prog X.w X.K tg J fp it tn/\tn 0 s2.heap/\(∀b∈fp,jB X pins H' b)/\R J H'
def PI(X:Cx)(tg al:Expr)(wi:TI):Prop:=
 ∀
  (pins:Kb) (s:Shared) (σ:St) (H:Hp) (R:It->Hp->Prop),Inv X pins σ H s->wi σ H R->
  wpAny (model X.prog X.w) X.A (eval al X.env) (λv s1=>wpAny (model X.prog X.w) X.A (pyIter v) (PIE X pins σ tg R) X.xe s1) X.xe s
def su(ho:s.heap.get? it=some o)(hc:o.cls=.type n)(hd:o.data=.fields vs)
 (hn:["enumerate", "zip", "dict_itemiterator", "dict_reverseitemiterator", "odict_iterator", "itertools.zip_longest", "itertools.pairwise"].contains n=false) (hQ:Q () s):wpAny M A (letOwnedTupleGo tg (.ref it) u) Q E s:=by
 unfold letOwnedTupleGo
 cases tg
  <;> first
  |exact A_ hQ
  |(cases u <;> first
   |exact A_ hQ
   |(
    refine l_ (wpAny_load ho ?_)
    rw[hc,hd]
    show wpAny M A (if (["enumerate", "zip", "dict_itemiterator", "dict_reverseitemiterator", "odict_iterator", "itertools.zip_longest", "itertools.pairwise"].contains n&&vs[0]?==some (rawInt _))=true then _ else _) Q E s
    rw[if_neg (by intro h;rw[hn,Bool.false_and] at h;cases h)]
    exact A_ hQ))
def Itl(K:W.Frag)(a:Addr):It:=
 ⟨λi H=>∃xs x,SqL K H a xs/\xs[i]?=some x,λi H x H'=>H'=H/\∀xs,SqL K H a xs->xs[i]?=some x,λi H=>∃xs,SqL K H a xs/\xs.length<=i⟩
def Itt(K:W.Frag)(a:Addr):It:=
 ⟨λi H=>∃xs x,SqT K H a xs/\xs[i]?=some x,λi H x H'=>H'=H/\∀xs,SqT K H a xs->xs[i]?=some x,λi H=>∃xs,SqT K H a xs/\xs.length<=i⟩
noncomputable def Itr(lo:Int)(n:Nat):It:=⟨λi _=>i<n,λi H x H'=>H'=H/\x=.int (lo+i),λi _=>n<=i⟩
def uL{P:Program}{w:World}{K:W.Frag}{tg:Expr}(a it:Addr):Turn P w K tg (Itl K a) [it] it (λi h=>h.IsListIter it a i) where
 mem:=by simp
 obj:=λi h st b hb=>by
  have e:b=it:=by simpa using hb
  subst e
  obtain⟨o,e,c,d⟩:=st
  exact⟨o,e,λv z=>by rw[d] at z;cases z⟩
 keep:=λi h h' st k=>st.at λo e=>k it (by simp) o e
 item:=by
  intro X hP hw hK hc i pins s σ H E I hf st hg
  subst hP hw hK
  obtain⟨xs,x,hq,hx⟩:=hg
  obtain⟨its,rv,p,hz⟩:=I.list hq
  obtain⟨u,hu,ru⟩:=rv.get hx
  obtain⟨f0,f1,f2,f3,f4,f5⟩:=hf it (by simp)
  refine wpAny_pyNext_list_item st p.isList (x:=u) (by simpa using hu) λh' st' sb=>?_
  have I1:Inv X pins σ H { s with heap:=h' }:=I.turned (t':=s.toks) (λb o hb e=>(sb.2 b hb).trans e) f0 f1 f3 f4 f5
  obtain⟨o,e,c,d⟩:=id st'
  exact⟨u,rfl,su (s:={ s with heap:=h' }) e c d (by decide) ⟨x,H,I1,ru,⟨rfl,λys hy=>by rw[I.list_inj hy hq];exact hx⟩,st',λb hb=>(hf b hb).1⟩⟩
 done:=by
  intro X hP hw hK hc i pins s σ H E I hf st hg
  subst hP hw hK
  obtain⟨xs,hq,hx⟩:=hg
  obtain⟨its,rv,p,hz⟩:=I.list hq
  obtain⟨f0,f1,f2,f3,f4,f5⟩:=hf it (by simp)
  have hl:=rv.length
  exact wpAny_pyNext_list_end (I.ok.hd hc) st p.isList (by simp;omega) λh' eb=>⟨rfl,I.turned (t':=s.toks) (λb o hb e=>eb b o hb e) f0 f1 f3 f4 f5⟩
 self:=λ_ _ _ _ _ st h=>wpAny_pyIter_listiter st h
def sg{P:Program}{w:World}{K:W.Frag}{tg:Expr}(a it:Addr):Turn P w K tg (Itt K a) [it] it (λi h=>h.IsTupleIter it a i) where
 mem:=by simp
 obj:=λi h st b hb=>by
  have e:b=it:=by simpa using hb
  subst e
  obtain⟨o,e,c,d⟩:=st
  exact⟨o,e,λv z=>by rw[d] at z;cases z⟩
 keep:=λi h h' st k=>st.at λo e=>k it (by simp) o e
 item:=by
  intro X hP hw hK hc i pins s σ H E I hf st hg
  subst hP hw hK
  obtain⟨xs,x,hq,hx⟩:=hg
  obtain⟨its,rv,p,hz⟩:=I.tuple hq
  obtain⟨u,hu,ru⟩:=rv.get hx
  obtain⟨f0,f1,f2,f3,f4,f5⟩:=hf it (by simp)
  refine wpAny_pyNext_tuple_item st (show s.heap.IsTuple a its.toArray from p) (x:=u) (by simpa using hu) λh' st' sb=>?_
  have I1:Inv X pins σ H { s with heap:=h' }:=I.turned (t':=s.toks) (λb o hb e=>(sb.2 b hb).trans e) f0 f1 f3 f4 f5
  obtain⟨o,e,c,d⟩:=id st'
  exact⟨u,rfl,su (s:={ s with heap:=h' }) e c d (by decide) ⟨x,H,I1,ru,⟨rfl,λys hy=>by rw[I.tuple_inj hy hq];exact hx⟩,st',λb hb=>(hf b hb).1⟩⟩
 done:=by
  intro X hP hw hK hc i pins s σ H E I hf st hg
  subst hP hw hK
  obtain⟨xs,hq,hx⟩:=hg
  obtain⟨its,rv,p,hz⟩:=I.tuple hq
  obtain⟨f0,f1,f2,f3,f4,f5⟩:=hf it (by simp)
  have hl:=rv.length
  exact wpAny_pyNext_tuple_end (I.ok.hd hc) st (show s.heap.IsTuple a its.toArray from p) (by simp;omega) λh' eb=>⟨rfl,I.turned (t':=s.toks) (λb o hb e=>eb b o hb e) f0 f1 f3 f4 f5⟩
 self:=λ_ _ _ _ _ st h=>wpAny_pyIter_tupleiter st h
def tq{P:Program}{w:World}{K:W.Frag}{tg:Expr}(it:Addr)(lo:Int)(n:Nat):Turn P w K tg (Itr lo n) [it] it (λi h=>IsRangeIter h it (lo+(i:Nat)*1) ((n:Int)-(i:Nat)) 1) where
 mem:=by simp
 obj
  := λi h st b hb=>by
  have e:b=it:=by simpa using hb
  subst e
  exact⟨_,st,λv z=>by
   have z':Data.fields _=Data.cell v:=z
   cases z'⟩
 keep:=λi h h' st k=>k it (by simp) _ st
 item:=by
  intro X hP hw hK hc i pins s σ H E I hf st hg
  subst hP hw hK
  obtain⟨f0,f1,f2,f3,f4,f5⟩:=hf it (by simp)
  have W:=Walks.range (prog:=X.prog) (w:=X.w) (I.ok.hd hc) it lo 1 n
  refine W.item i s _ _ hg st λv h' tk hv st' kk=>?_
  obtain⟨t,rfl⟩:=hv
  have I1:Inv X pins σ H { s with heap:=h',toks:=tk }:=I.turned (λb o hb e=>kk b o (by simpa using hb) e) f0 f1 f3 f4 f5
  refine⟨_,rfl,su (s:={ s with heap:=h',toks:=tk }) (n:="range_iterator") st' rfl rfl (by decide) ⟨.int (lo+i),H,I1,⟨t,?_⟩,⟨rfl,rfl⟩,st',λb hb=>(hf b hb).1⟩⟩
  rw[Int.mul_one]
 done:=by
  intro X hP hw hK hc i pins s σ H E I hf st hg
  subst hP hw hK
  obtain⟨f0,f1,f2,f3,f4,f5⟩:=hf it (by simp)
  exact wpAny_pyNext_range_end (I.ok.hd hc) st (by have:n<=i:=hg;omega) λh' eb=>⟨rfl,I.turned (t':=s.toks) (λb o hb e=>eb b o hb e) f0 f1 f3 f4 f5⟩
 self:=λ_ _ _ _ _ st h=>wpAny_pyIter_rangeiter st h
section
variable{X:Cx}{tg:Expr}
def xK{pins:Kb}{σ:St}{H:Hp}{s:Shared}{R:It->Hp->Prop}{E:Kc}{lo hi:Int}{t u v:Tok}{tk:Nat}(I:Inv X pins σ H s)(h1:-(2^62)<=lo)(h2:lo<2^62)(h3:-(2^62)<=hi)(h4:hi<2^62)
 (q:R (Itr lo (hi-lo).toNat) H):wpAny (model X.prog X.w) X.A (pyIter (.ref s.heap.objs.size)) (PIE X pins σ tg R) E { s with heap:=s.heap.push { cls:=.type "range",data:=.fields #[.int lo t,.int hi u,.int 1 v] },toks:=tk }:=by
 refine wpAny_pyIter_range (IsRange.new ..) (small_one h1 h2 h3 h4) ?_
 have I1:Inv X pins σ H { s with heap:=s.heap.push { cls:=.type "range",data:=.fields #[.int lo t,.int hi u,.int 1 v] },toks:=tk }:=I.kept λb o e=>p_ _ e
 refine⟨(s.heap.push { cls:=.type "range",data:=.fields #[.int lo t,.int hi u,.int 1 v] }).objs.size,[(s.heap.push { cls:=.type "range",data:=.fields #[.int lo t,.int hi u,.int 1 v] }).objs.size],_,_,H,rfl,
  I1.kept (t':=tk) λb o e=>p_ _ e,tq _ lo (hi-lo).toNat,?_,λb hb=>?_,q⟩
 ·have e1:lo+((0:Nat):Int)*1=lo:=by simp
  have e2:(((hi-lo).toNat:Nat):Int)-((0:Nat):Int)=Builtin.Range.rangeSize lo hi 1:=by rw[rangeSize_one];split <;> omega
  show IsRangeIter _ _ (lo+((0:Nat):Int)*1) ((((hi-lo).toNat:Nat):Int)-((0:Nat):Int)) 1
  rw[e1,e2]
  exact Ic _ rfl
 ·have e:b=(s.heap.push { cls:=.type "range",data:=.fields #[.int lo t,.int hi u,.int 1 v] }).objs.size:=by simpa using hb
  subst e
  exact I1.fpOk (j_ _) (I1.hok.fresh (j_ _))
def Gw(ta:TA):TI:=λσ H R=>ta σ H λvs H1=>∃j:Int,vs=[.int j]/\-(2^62)<=j/\j<2^62/\R (Itr 0 j.toNat) H1
def vf(hg:Gl X "range")(hm:X.mg "range"=none)(ha:PA X [a] ta)(hs:starEach [a] X.env=[(false,eval a X.env)]):PI X tg (.Call (.Name "range" p) [a] [] pos) (Gw ta):=by
 intro pins s σ H R I h
 refine Call_ (gu I hg hm boot_range (IH (thn (ha pos pins s σ H _ I h) λus s1 ⟨vs,H1,I1,r1,q1⟩=>?_) hs rfl))
 obtain⟨j,e,q1,q2,q⟩:=q1
 subst e
 cases r1 with
 |
  cons r rr=>
  cases rr
  obtain⟨t,rfl⟩:=r
  exact call_range_1 (xK I1 (by omega) (by omega) q1 q2 (by simpa using q))
def tFor(wi:TI)(g:TG)(tb:TS):TS:=λD σ H=>wi σ H λJ H1=>∃W:Nat->Nat->St->Hp->Prop,(∃m,W 0 m σ H1)/\∀i m σ H,W i m σ H->
 (J.stop i H/\D.nx σ H)\/(J.go i H/\∃N:St->Hp->Prop,(∀σ' H',N σ' H'->∃m',m'<m/\W (i+1) m' σ' H')/\∀x H',J.yld i H x H'->g x σ H' λσ2 H2=>tb { D with nx:=N,ct:=N,bk:=D.nx } σ2 H2)
noncomputable def iE(fp:List Addr)(h:Heap):List (Addr×Obj):=fp.filterMap λb=>(h.get? b).map λo=>(b,o)
def eP(hb:b∈fp)(e:h.get? b=some o):(b,o)∈iE fp h:=List.mem_filterMap.mpr ⟨b,hb,by rw[e];rfl⟩
def uG(hp:p∈iE fp h):p.1∈fp/\h.get? p.1=some p.2:=by
 obtain⟨b,hb,e⟩:=List.mem_filterMap.mp hp
 cases q:h.get? b with
 |none=>rw[q] at e;cases e
 |
  some o=>
  rw[q] at e
  have e':(b,o)=p:=C_ e
  subst e'
  exact⟨hb,q⟩
def Inv.pinned(I:Inv X pins σ H s)(hf:∀b∈fp,jB X pins H b)(ho:∀b∈fp,∃o,s.heap.get? b=some o/\∀v,o.data ≠ .cell v):Inv X (pins++iE fp s.heap) σ H s:=
 I.pins_of λp hp=>(JL.mp hp).elim (λz=>I.pin p (HV _ z)) λz=>by
  obtain⟨hb,e⟩:=uG z
  obtain⟨f0,f1,f2,_⟩:=hf p.1 hb
  obtain⟨o,e',d⟩:=ho p.1 hb
  rw[e] at e';cases e'
  exact⟨e,f0,f1,f2,d⟩
def Inv.unpinned(I:Inv X (pins++pl) σ H s):Inv X pins σ H s:=I.pins_of λp hp=>I.pin p (HV _ (List.mem_append_left _ hp))
def Eo(hp:PassesOwn (model X.prog X.w) X.A X.env X.xe)(hc:X.calm=true)(hi:PI X tg al wi)(hg:PG X tg g)(hb:PSs X body tb)
 (hs:∀x,foldedSetIterable al X.env x=pure x):PS X (.For tg al body [] pos) (tFor wi g tb):=by
 intro pins s σ H D I h
 refine wpAny_For (thn (hi pins s σ H _ I h) λv s1 h1=>thn h1 λitv s2 h2=>?_) hs
 obtain⟨it,fp,tn,J,H2,e,I2,T,st2,f2,W,⟨m0,w0⟩,turn⟩:=h2
 subst e
 have stat:∀{H':Hp},(∀b∈fp,H' b=none)->∀b∈fp,jB X pins H' b:=λhn b hb=>⟨hn b hb,(f2 b hb).2⟩
 refine codeAny_forLoop_any (λn s'=>∃i σ' H',Inv X pins σ' H' s'/\tn i s'.heap/\(∀b∈fp,H' b=none)/\W i n σ' H') ?_ m0 ⟨0,σ,H2,I2,st2,λb hb=>(f2 b hb).1,w0⟩
 rintro n s3 ⟨i,σ3,H3,I3,st3,fr3,w3⟩
 rcases turn i n σ3 H3 w3 with ⟨stop,qn⟩ |⟨go,N,hN,step⟩
 ·refine IL hp (thn (T.done X rfl rfl rfl hc i pins s3 σ3 H3 X.xe I3 (stat fr3) st3 stop) λr s4 ⟨hr,I4⟩=>?_)
  subst hr
  exact JS ⟨σ3,H3,I4,qn⟩
 ·refine IL hp (thn (T.item X rfl rfl rfl hc i pins s3 σ3 H3 X.xe I3 (stat fr3) st3 go) λr s4 ⟨u,hr,h4⟩=>?_)
  subst hr
  refine IL hp (thn h4 λ_ s5 ⟨x,H5,I5,r5,y5,st5,fr5⟩=>?_)
  have I5':=I5.pinned (stat fr5) (T.obj _ _ st5)
  refine IL hp (thn (hg _ s5 σ3 H5 x u _ I5' r5 (step x H5 y5)) λ_ s6 ⟨σ6,H6,I6,q6⟩=>?_)
  refine IL hp (thn (hb _ s6 σ6 H6 _ I6 q6) λf s7 q7=>?_)
  have again:∀{σ7:St}{H7:Hp},Inv X (pins++iE fp s5.heap) σ7 H7 s7->N σ7 H7->∃m,m<n/\∃i σ' H',Inv X pins σ' H' s7/\tn i s7.heap/\(∀b∈fp,H' b=none)/\W i m σ' H':=λ{σ7 H7} I7 n7=>by
   obtain⟨m',hm,w7⟩:=hN σ7 H7 n7
   refine⟨m',hm,i+1,σ7,H7,I7.unpinned,T.keep _ _ _ st5 λb hb o e=>(I7.pin (b,o) (HV _ (HV _ (eP hb e)))).1,λb hb=>?_,w7⟩
   obtain⟨o,e,d⟩:=T.obj _ _ st5 b hb
   exact (I7.pin (b,o) (HV _ (HV _ (eP hb e)))).2.1
  cases f with
  |next=>obtain⟨σ7,H7,I7,n7⟩:=q7;exact again I7 n7
  |cont=>obtain⟨σ7,H7,I7,n7⟩:=q7;exact again I7 n7
  |brk=>obtain⟨σ7,H7,I7,q7⟩:=q7;exact⟨σ7,H7,I7.unpinned,q7⟩
  |ret v=>obtain⟨x7,σ7,H7,I7,r7,q7⟩:=q7;exact⟨x7,σ7,H7,I7.unpinned,r7,q7⟩
end
abbrev R2:=V->V->Hp->VK->Prop
def OpR(X:Cx)(f:Value->Value->Sem Value)(r:R2):Prop:=
 ∀
  (pins:Kb) (s:Shared) (σ:St) (H:Hp) (x y:V) (v u:Value) (Q:VK),Inv X pins σ H s->RelV x v->RelV y u->r x y H Q->
  wpAny (model X.prog X.w) X.A (f v u) (EP X pins σ Q) X.xe s
def UnR(X:Cx)(f:Value->Sem Value)(r:V->Hp->VK->Prop):Prop:=
 ∀
  (pins:Kb) (s:Shared) (σ:St) (H:Hp) (x:V) (v:Value) (Q:VK),Inv X pins σ H s->RelV x v->r x H Q->
  wpAny (model X.prog X.w) X.A (f v) (EP X pins σ Q) X.xe s
def CallR(X:Cx)(f:Value)(r:List V->Hp->VK->Prop):Prop:=
 ∀
  (pins:Kb) (s:Shared) (σ:St) (H:Hp) (xs:List V) (us:List Value) (Q:VK),Inv X pins σ H s->Vals xs us->r xs H Q->
  wpAny (model X.prog X.w) X.A (call f us) (EP X pins σ Q) X.xe s
def tOp(r:R2)(ta tb:TE):TE:=λσ H Q=>ta σ H λx H1=>tb σ H1 λy H2=>r x y H2 Q
def tUn(r:V->Hp->VK->Prop)(ta:TE):TE:=λσ H Q=>ta σ H λx H1=>r x H1 Q
def rI(C:Int->Int->Prop)(g:Int->Int->V):R2:=λx y H Q=>∃i j,x=.int i/\y=.int j/\C i j/\Q (g i j) H
def rI0(g:Int->Int->V):R2:=λx y H Q=>∃i j,x=.int i/\y=.int j/\Q (g i j) H
def rU(g:Int->V):V->Hp->VK->Prop:=λx H Q=>∃i,x=.int i/\Q (g i) H
section
variable{X:Cx}{a b c:Expr}{ta tb tc:TE}{pos:Pos}
def xv(ha:PE X a ta)(hb:PE X b tb){pins:Kb}{s:Shared}{σ:St}{H:Hp}{R:V->V->Hp->Prop}(I:Inv X pins σ H s)
 (h:ta σ H λx H1=>tb σ H1 λy H2=>R x y H2) {Q:Kc}{f:Value->Value->Sem Value}
 (hf:∀v u s2 x y H2,Inv X pins σ H2 s2->RelV x v->RelV y u->R x y H2->wpAny (model X.prog X.w) X.A (f v u) Q X.xe s2):
 wpAny (model X.prog X.w) X.A (eval a X.env) (λv s₁=>wpAny (model X.prog X.w) X.A (eval b X.env) (λu s₂=>wpAny (model X.prog X.w) X.A (f v u) Q X.xe s₂) X.xe s₁) X.xe s:=by
 refine thn (ha pins s σ H _ I h) λv s1 ⟨x,H1,I1,r1,q1⟩=>?_
 refine thn (hb pins s1 σ H1 _ I1 q1) λu s2 ⟨y,H2,I2,r2,q2⟩=>?_
 exact hf v u s2 x y H2 I2 r1 r2 q2
def Gf(ho:OpR X (binaryOp op) r)(ha:PE X a ta)(hb:PE X b tb):PE X (.BinOp a op b pos) (tOp r ta tb):=by
 intro pins s σ H Q I h
 exact wpAny_BinOp (xv ha hb I h λv u s2 x y H2 I2 rx ry q=>ho pins s2 σ H2 x y v u Q I2 rx ry q)
def Gb(ho:UnR X (unaryOp op) r)(ha:PE X a ta):PE X (.UnaryOp op a pos) (tUn r ta):=by
 intro pins s σ H Q I h
 exact UnaryOp_ (thn (ha pins s σ H _ I h) λv s1 ⟨x,H1,I1,r1,q1⟩=>ho pins s1 σ H1 x v Q I1 r1 q1)
def opI{f:Value->Value->Sem Value}{C:Int->Int->Prop}{g:Int->Int->Int}
 (rule:∀(i j:Int) (t u:Tok) (s:Shared) (Q:Kc) (E:Kc),C i j->Q (.int (g i j) s.toks) { s with toks:=s.toks+1 }->wpAny (model X.prog X.w) X.A (f (.int i t) (.int j u)) Q E s):
 OpR X f (rI C λi j=>.int (g i j)):=by
 intro pins s σ H x y v u Q I rx ry h
 obtain⟨i,j,rfl,rfl,hc,q⟩:=h
 obtain⟨t,rfl⟩:=rx
 obtain⟨t',rfl⟩:=ry
 exact rule i j t t' s _ _ hc ⟨.int (g i j),H,I.tok _,⟨_,rfl⟩,q⟩
def opI0{f:Value->Value->Sem Value}{g:Int->Int->Int}
 (rule:∀(i j:Int) (t u:Tok) (s:Shared) (Q:Kc) (E:Kc),Q (.int (g i j) s.toks) { s with toks:=s.toks+1 }->wpAny (model X.prog X.w) X.A (f (.int i t) (.int j u)) Q E s):
 OpR X f (rI0 λi j=>.int (g i j)):=by
 intro pins s σ H x y v u Q I rx ry h
 obtain⟨i,j,rfl,rfl,q⟩:=h
 obtain⟨t,rfl⟩:=rx
 obtain⟨t',rfl⟩:=ry
 exact rule i j t t' s _ _ ⟨.int (g i j),H,I.tok _,⟨_,rfl⟩,q⟩
def wQ{f:Value->Value->Sem Value}{g:Int->Int->Bool}
 (rule:∀(i j:Int) (t u:Tok) (s:Shared) (Q:Kc) (E:Kc),Q (.bool (g i j)) s->wpAny (model X.prog X.w) X.A (f (.int i t) (.int j u)) Q E s):
 OpR X f (rI0 λi j=>.bl (g i j)):=by
 intro pins s σ H x y v u Q I rx ry h
 obtain⟨i,j,rfl,rfl,q⟩:=h
 obtain⟨t,rfl⟩:=rx
 obtain⟨t',rfl⟩:=ry
 exact rule i j t t' s _ _ ⟨.bl (g i j),H,I,rfl,q⟩
def eK(i j:Int):Prop:=0<=j/\j<=1000000/\i.natAbs<2^64
def CMul(i j:Int):Prop:=(-(2^64)<i/\i<2^64)\/(-(2^64)<j/\j<2^64)
noncomputable def CMul.ok(h:CMul i j):IntMulOk i j:=by
 rcases h with ⟨h1,h2⟩ |⟨h1,h2⟩
 ·exact .of_left (intBits_le_64 h1 h2)
 ·exact .of_right (intBits_le_64 h1 h2)
def BR:OpR X (binaryOp .Add) (rI0 λi j=>.int (i+j)):=opI0 λ_ _ _ _ _ _ _ q=>add_int q
def BQ:OpR X (binaryOp .Sub) (rI0 λi j=>.int (i-j)):=opI0 λ_ _ _ _ _ _ _ q=>sub_int q
def EV:OpR X (binaryOp .Mult) (rI CMul λi j=>.int (i*j)):=opI λ_ _ _ _ _ _ _ hc q=>mul_int q hc.ok
def y0:OpR X (binaryOp .Mod) (rI (λ_ j=>j≠0) λi j=>.int (i.fmod j)):=opI λ_ _ _ _ _ _ _ hc q=>mod_int' hc q
def C3:OpR X (binaryOp .Pow) (rI eK λi j=>.int (i^j.toNat)):=opI λ_ _ _ _ _ _ _ hc q=>pow_int_small hc.1 hc.2.1 hc.2.2 q
def BX:OpR X (binaryOp .LShift) (rI eK λi j=>.int (i*2^j.toNat)):=opI λ_ _ _ _ _ _ _ hc q=>lshift_int_small hc.1 hc.2.1 hc.2.2 q
def unI{f:Value->Sem Value}{g:Int->Int}
 (rule:∀(i:Int) (t:Tok) (s:Shared) (Q:Kc) (E:Kc),Q (.int (g i) s.toks) { s with toks:=s.toks+1 }->wpAny (model X.prog X.w) X.A (f (.int i t)) Q E s):
 UnR X f (rU λi=>.int (g i)):=by
 intro pins s σ H x v Q I rx h
 obtain⟨i,rfl,q⟩:=h
 obtain⟨t,rfl⟩:=rx
 exact rule i t s _ _ ⟨.int (g i),H,I.tok _,⟨_,rfl⟩,q⟩
def BV:UnR X (unaryOp .USub) (rU λi=>.int (-i)):=unI λ_ _ _ _ _ q=>neg_int q
end
section
variable{X:Cx}{a b c:Expr}{ta tb tc:TE}{pos:Pos}
def uo(I:Inv X pins σ H s)(q:Q (.bl k) H)(e:k=k'):EP X pins σ Q (.bool k') s:=by
 subst e
 exact⟨.bl k,H,I,rfl,q⟩
def yi:OpR X (compareOp .Lt) (rI0 λi j=>.bl (decide (i<j))):=wQ λ_ _ _ _ _ _ _ q=>lt_int q
def yn:OpR X (compareOp .Gt) (rI0 λi j=>.bl (decide (j<i))):=wQ λ_ _ _ _ _ _ _ q=>gt_int q
def yc:OpR X (compareOp .GtE) (rI0 λi j=>.bl (decide (j<=i))):=wQ λ_ _ _ _ _ _ _ q=>ge_int q
def OpR.or(h:OpR X f r)(h':OpR X f r'):OpR X f (λx y H Q=>r x y H Q\/r' x y H Q):=by
 intro pins s σ H x y v u Q I rx ry q
 rcases q with q |q
 ·exact h pins s σ H x y v u Q I rx ry q
 ·exact h' pins s σ H x y v u Q I rx ry q
def tV(b:Expr)(h:op ≠ .In:=by decide)(h2:op ≠ .NotIn:=by decide):behindInMarks op b=false:=by
 have e1:(op==CmpOp.In)=false:=by cases op <;> first |rfl |exact absurd rfl h
 have e2:(op==CmpOp.NotIn)=false:=by cases op <;> first |rfl |exact absurd rfl h2
 cases b <;> simp [behindInMarks,e1,e2]
def zP(ho:OpR X (compareOp op) r)(ha:PE X a ta)(hb:PE X b tb)(hm:behindInMarks op b=false):PE X (.Compare a [op] [b] pos) (tOp r ta tb):=by
 intro pins s σ H Q I h
 exact wpAny_Compare1 (xv ha hb I h λv u s2 x y H2 I2 rx ry q=>ho pins s2 σ H2 x y v u Q I2 rx ry q) hm
def HD(t:TE):TT:=λσ H Q=>t σ H λx H'=>∃k,x=.bl k/\Q k H'
def Ak(ho:OpR X (compareOp op) r)(ha:PE X a ta)(hb:PE X b tb)(hm:behindInMarks op b=false):PT X (.Compare a [op] [b] pos) (HD (tOp r ta tb)):=by
 intro pins s σ H Q I h
 refine wpAny_isTrue_Compare1 (thn (ha pins s σ H _ I h) λv s1 ⟨x,H1,I1,r1,q1⟩=>thn (hb pins s1 σ H1 _ I1 q1) λu s2 ⟨y,H2,I2,r2,q2⟩=>
  thn (ho pins s2 σ H2 x y v u _ I2 r1 r2 q2) λc s3 ⟨z,H3,I3,r3,k,e,q3⟩=>?_) hm
 subst e
 cases r3
 exact Jc ⟨H3,I3,q3⟩
def iu:(sizeLine:Nat)<2^63:=by rw[sizeLine_eq];decide
def eT(r:Vals [x] us):∃u,us=[u]/\RelV x u:=by
 cases r with
 |cons r1 r2=>cases r2;exact⟨_,rfl,r1⟩
def mU(r:Vals [x,y] us):∃u w',us=[u,w']/\RelV x u/\RelV y w':=by
 cases r with
 |
  cons r1 r2=>
  cases r2 with
  |cons r3 r4=>cases r4;exact⟨_,_,rfl,r1,r3⟩
def vO:CallR X (.builtin "abs") (λxs H Q=>∃i,xs=[.int i]/\Q (.int (if i<0 then -i else i)) H):=by
 intro pins s σ H xs us Q I r h
 obtain⟨i,rfl,q⟩:=h
 obtain⟨u,rfl,t,rfl⟩:=eT r
 exact call_abs_int λu tk=>⟨.int (if i<0 then -i else i),H,I.tok _,⟨_,rfl⟩,q⟩
def uX(hc:X.calm=true):CallR X (.builtin "max") (λxs H Q=>∃i j,xs=[.int i,.int j]/\Q (.int (if j>i then j else i)) H):=by
 intro pins s σ H xs us Q I r h
 obtain⟨i,j,rfl,q⟩:=h
 obtain⟨u,w',rfl,⟨t,rfl⟩,⟨t',rfl⟩⟩:=mU r
 refine max_two_ints (I.ok.hd hc) λh' tk k=>⟨_,H,I.kept k,?_,q⟩
 by_cases hj:j>i
 ·rw[if_pos hj,if_pos hj];exact⟨_,rfl⟩
 ·rw[if_neg hj,if_neg hj];exact⟨_,rfl⟩
def vm(hc:X.calm=true):CallR X (.builtin "min") (λxs H Q=>∃i j,xs=[.int i,.int j]/\Q (.int (if j<i then j else i)) H):=by
 intro pins s σ H xs us Q I r h
 obtain⟨i,j,rfl,q⟩:=h
 obtain⟨u,w',rfl,⟨t,rfl⟩,⟨t',rfl⟩⟩:=mU r
 refine min_two_ints (I.ok.hd hc) λh' tk k=>⟨_,H,I.kept k,?_,q⟩
 by_cases hj:j<i
 ·rw[if_pos hj,if_pos hj];exact⟨_,rfl⟩
 ·rw[if_neg hj,if_neg hj];exact⟨_,rfl⟩
def tT:CallR X (.type "int") (λxs H Q=>(∃i,xs=[.int i]/\Q (.int i) H)\/∃k,xs=[.bl k]/\Q (.int (if k then 1 else 0)) H):=by
 intro pins s σ H xs us Q I r h
 rcases h with ⟨i,rfl,q⟩ |⟨k,rfl,q⟩
 ·obtain⟨u,rfl,t,rfl⟩:=eT r
  exact call_int_int ⟨.int i,H,I,⟨_,rfl⟩,q⟩
 ·obtain⟨u,rfl,r1⟩:=eT r
  cases r1
  exact call_int_bool ⟨.int (if k then 1 else 0),H,I.tok _,⟨_,rfl⟩,q⟩
end
structure ObjM(h:Heap)(x dx C:Addr)(mA:Ka):Prop where
 obj:h.get? x=some (W.instObj C dx)
 ns:h.Ns1 dx mA
 ne:dx≠x
def u4{h:Heap}{dx:Addr}{mA:Ka}(n:h.Ns1 dx mA):∃od,h.get? dx=some od/\∀name,W.lookIn name od=some (mA name):=by
 obtain⟨o,es,ep,ho,hd,hk,_,hm⟩:=n
 refine⟨o,ho,λname=>?_⟩
 have e:=hm name
 unfold nsFind findBy at e
 rw[<- Array.find?_toList] at e
 unfold W.lookIn
 rw[hd]
 dsimp only
 split
 ·rename_i y q
  rw[q] at e
  exact Iw some e
 ·rename_i q
  rw[q] at e
  have a:es.toList.any (·.refKey)=false:=by
   rw[List.any_eq_false]
   intro y hy
   obtain⟨z,t,hkey⟩:=hk y (Array.mem_toList_iff.mp hy)
   simp [DictEntry.refKey,hkey]
  have a':¬ es.toList.any (·.refKey)=true:=by rw[a];exact n_
  rw[if_neg a']
  exact Iw some e
def ObjM.look(I:ObjM h x dx C mA):∃od,W.InstAt h x (W.instObj C dx) C (some od)/\∀name,W.lookIn name od=some (mA name):=
 let ⟨od,ho,hl⟩:=u4 I.ns
 ⟨od,⟨I.obj,rfl,rfl,ho⟩,hl⟩
section
variable{prog:Program}{w:World}{A:Around}{E:Kc}{s:Shared}{K:W.Frag}{x dx C f:Addr}{mA:Ka}{name:Str}{v:Value}
end
def RelO.some_of(r:RelO (some v) o):∃u,o=some u/\RelV v u:=by
 cases o with
 |none=>exact (show False from r).elim
 |some u=>exact⟨u,rfl,r⟩
section
variable{P:Program}{w:World}{H H':Hp}{h h':Heap}{a C dx:Addr}{fs fs':List (Str×V)}
def Ag(hok:HOk P w H h)(e:H a=some (.ins C dx fs)):∃mA,ObjM h a dx C mA/\(∀f,RelO (fs.lookup f) (mA f))/\PySem.Within mA (fs.map (·.1))/\fs.length<=1000/\H dx=some (.own a):=by
 obtain⟨d,z,ne,ob,mA,n,r,q⟩:=(show ObjOk P w H h a (.ins C dx fs) from hok a _ e)
 exact⟨mA,⟨ob,n,ne⟩,r,q,z,d⟩
end
structure Cls(K:W.Frag)(C:Addr):Prop where
 pg:W.plainGet K C Str.empty=true
 hd:W.hasDictIn K C=true
 po:W.plainOver K C=true
 sa:W.findIn K (.ref C) "__setattr__"=some (some (.builtin "object.__setattr__"))
noncomputable def Cls.get{K:W.Frag}{C:Addr}(c:Cls K C)(f:Str):W.plainGet K C f=true:=c.pg
section
variable{X:Cx}{pins:Kb}{σ:St}{H:Hp}{s:Shared}{a C dx:Addr}{fs:List (Str×V)}{f:Str}{v:V}{A:Around}{E:Kc}
end
section
variable{X:Cx}{o e value:Expr}{f:Str}{pos f_ tpos:Pos}{ta tv:TE}
end
section
variable{X:Cx}{pins:Kb}{σ:St}{H:Hp}{s:Shared}{A:Around}{E:Kc}{Q:Kc}{c:Value}{b:Bool}
inductive TyOf(K:W.Frag)(H:Hp):V->Value->Prop where
 |non:TyOf K H .non (.type "NoneType")
 |bl (x:Bool):TyOf K H (.bl x) (.type "bool")
 |int (i:Int):TyOf K H (.int i) (.type "int")
 |str (x:Str):TyOf K H (.str x) (.type "str")
 |flt (x:UInt64):TyOf K H (.flt x) (.type "float")
 |lst {a:Addr}{xs:List V} (e:H a=some (.lst xs)):TyOf K H (.ref a) (.type "list")
 |frz {a:Addr}{o:Obj}{xs:List V} (e:H a=some (.frz o (.lst xs))):TyOf K H (.ref a) (.type "list")
 |tup {a:Addr}{xs:List V} (e:H a=some (.tup xs)):TyOf K H (.ref a) (.type "tuple")
 |dK {a:Addr}{kvs:List (Key×V)} (e:H a=some (.dK kvs)):TyOf K H (.ref a) (.type "dict")
 |dT {a:Addr}{kvs:List (List Key×V)} (e:H a=some (.dT kvs)):TyOf K H (.ref a) (.type "dict")
 |ins {a C dx:Addr}{fs:List (Str×V)} (e:H a=some (.ins C dx fs)) (cl:Cls K C) (ha:W.findIn K (.ref C) "__class__"=some (some (.builtin "object.__class__")))
  (hn:W.specialIn K (.builtin "object.__class__") "__get__"=some (some (.builtin "getset_descriptor.__get__"))) (htk:W.takesIn K (.builtin "object.__class__")=some true)
  (hm:W.mroIn K C (.type "object")=some true):TyOf K H (.ref a) (.ref C)
end
structure Room(k:Nat)(A:Around):Prop where
 hd:A.handled=none
 dp:A.depth+3*k+5<recursionLimit
 un:A.units+16*k+200<cLine
def Room.mono(r:Room k A)(h:j<=k):Room j A:=⟨r.hd,by have:=r.dp;omega,by have:=r.un;omega⟩
def Room.deeper(r:Room (k+1) A)(env:Env):Room k (A.deeper env):=
 ⟨r.hd,by have:=r.dp;show A.depth+1+3*k+5<_;omega,by have:=r.un;show A.units+3+16*k+200<_;omega⟩
def Room.depth(r:Room k A):A.depth<recursionLimit:=by have:=r.dp;omega
def Room.units(r:Room k A):A.units+64<cLine:=by have:=r.un;omega
def tNil:TA:=λ_ H Q=>Q [] H
def FY(ta:TE)(tr:TA):TA:=λσ H Q=>ta σ H λx H1=>tr σ H1 λxs H2=>Q (x::xs) H2
section
variable{X:Cx}{e:Expr}{es:List Expr}{te:TE}{t:TA}{pos:Pos}
def Cm:PA X [] tNil:=λ_ _ _ _ H Q I h=>Calls.spliced_nil ⟨[],H,I,.nil,h⟩
def zR(ha:PE X e te)(hr:PA X es t)(hs:starEach (e::es) X.env=(false,eval e X.env)::starEach es X.env):PA X (e::es) (FY te t):=by
 intro pos pins s σ H Q I h
 rw[hs]
 show wpAny _ _ (spliced ((false,eval e X.env)::backTo pos (starEach es X.env))) _ _ s
 refine Calls.spliced_cons (thn (ha pins s σ H _ I h) λu s1 ⟨x,H1,I1,r1,q1⟩=>?_)
 exact thn (hr pos pins s1 σ H1 _ I1 q1) λus s2 ⟨xs,H2,I2,r2,q2⟩=>⟨x::xs,H2,I2,.cons r1 r2,q2⟩
def tTup(t:TA):TE:=λσ H Q=>t σ H λxs H1=>xs.length<=sizeLine/\∀p,H1 p=none->Q (.ref p) (upd H1 p (.tup xs))
def tLst(t:TA):TE:=λσ H Q=>t σ H λxs H1=>xs.length<=sizeLine/\∀p,H1 p=none->Q (.ref p) (upd H1 p (.lst xs))
def Dq{x1}(h:PA X es t):PE X (.Tuple es x1 pos) (tTup t):=by
 intro pins s σ H Q I hq
 refine wpAny_Tuple_spliced (thn (h pos pins s σ H _ I hq) λus s1 ⟨xs,H1,I1,r,z,q⟩=>⟨by rw[<- r.length];exact z,?_⟩)
 have hf:H1 s1.heap.objs.size=none:=I1.hok.fresh (j_ _)
 refine⟨.ref s1.heap.objs.size,upd H1 s1.heap.objs.size (.tup xs),I1.laid (t':=s1.toks) (λb u e=>p_ _ e) (j_ _) ?_,rfl,q _ hf⟩
 exact⟨z,us,r,⟨_,Ic _ rfl,rfl,_,rfl⟩⟩
def DD(h:PA X es t):PE X (.List es pos) (tLst t):=by
 intro pins s σ H Q I hq
 refine wpAny_List_spliced (thn (h pos pins s σ H _ I hq) λus s1 ⟨xs,H1,I1,r,z,q⟩=>⟨by rw[<- r.length];exact z,?_⟩)
 have hf:H1 s1.heap.objs.size=none:=I1.hok.fresh (j_ _)
 refine⟨.ref s1.heap.objs.size,upd H1 s1.heap.objs.size (.lst xs),I1.laid (t':=s1.toks) (λb u e=>p_ _ e) (j_ _) ?_,rfl,q _ hf⟩
 exact⟨z,us,0,r,Ic _ rfl⟩
end
abbrev Sp:=List V->Hp->VK->XK->Prop
abbrev CXT:=List Env->Hp->Shared->XK->Value->Shared->Prop
structure Env0(P:Program)(w:World)(K:W.Frag)(mg:Ka)(base:Heap)(A:Around)(outer:List Env)(s:Shared)(H:Hp):Prop where
 frames:A.frames=some outer
 mod:Mod K mg base
 bs:∀b o,base.get? b=some o->s.heap.get? b=some o/\H b=none
 bsz:base.objs.size<=s.heap.objs.size
 funs:s.heap.FunFrames base outer
 frf:∀b∈frs outer,H b=none
 hok:HOk P w H s.heap
 bare:AllBare s.gens
def CE(outer:List Env)(P:Program)(w:World)(H:Hp)(s:Shared)(Q:VK)(u:Value)(s':Shared):Prop:=
 ∃v H',s'.os=s.os/\AllBare s'.gens/\Un (frs outer) [] H H' s.heap s'.heap/\HOk P w H' s'.heap/\RelV v u/\Q v H'
def CR(CX:CXT)(outer:List Env)(P:Program)(w:World)(H:Hp)(s:Shared)(Q:VK)(E:XK)(r:Result)(s':Shared):Prop:=
 match r with
 |.ok (.ret u)=>CE outer P w H s Q u s'
 |.ok _=>False
 |.error e=>CX outer H s E e s'
structure FnOk(P:Program)(w:World)(K:W.Frag)(mg:Ka)(base:Heap)(CX:CXT)(k:Nat)(f:Addr)(fd:FuncData)(ps:List Str)(sp:Sp):Prop where
 len:∀vs H Q E,sp vs H Q E->vs.length=ps.length
 run:∀(A:Around) (outer:List Env) (s:Shared) (H:Hp) (args:Args) (us:List Value) (vs:List V) (Q:VK) (E:XK),Room k A->Env0 P w K mg base A outer s H->BindsTo s fd args (ps.zip us)->Vals vs us->sp vs H Q E->
  codeAny (model P w) A (.call (.ref f) args) (CR CX outer P w H s Q E) s
def FnOk.imp{P:Program}{w:World}{K:W.Frag}{mg:Ka}{base:Heap}{CX:CXT}{k:Nat}{f:Addr}{fd:FuncData}{ps:List Str}{sp sp':Sp}(F:FnOk P w K mg base CX k f fd ps sp)
 (h:∀vs H Q E,sp' vs H Q E->sp vs H Q E):FnOk P w K mg base CX k f fd ps sp':=
 ⟨λvs H Q E q=>F.len vs H Q E (h _ _ _ _ q),λA outer s H args us vs Q E hr he hb hv hs=>F.run A outer s H args us vs Q E hr he hb hv (h _ _ _ _ hs)⟩
section
variable{X:Cx}{pins:Kb}{σ:St}{H:Hp}{s s':Shared}
def Inv.env0(I:Inv X pins σ H s):Env0 X.prog X.w X.K X.mg X.base X.A X.stack s H:=
 ⟨I.ok.frames,I.ok.mod,I.bs,w_ I.ok.bsz I.sz,I.stack,I.stkFree,I.hok,I.bare⟩
def Inv.after(I:Inv X pins σ H s)(h:CE X.stack X.prog X.w H s Q u s'):EP X pins σ Q u s':=by
 obtain⟨v,H',os,bare,un,hok,r,q⟩:=h
 obtain⟨hh,g,d,t,os'⟩:=s'
 obtain rfl:os'=s.os:=os
 exact⟨v,H',I.call (h':=hh) (g':=g) (d':=d) (t':=t) (ch:=[]) un hok bare (λb z=>absurd z (by simp)),r,q⟩
end
def Binds(K:W.Frag)(fd:FuncData)(ps:List Str)(ds:List Value):Prop:=
 ∀(s:Shared) (us:List Value),K.In s.heap->(us++ds).length=ps.length->BindsTo s fd ⟨us,[]⟩ (ps.zip (us++ds))
def Binds.all{K:W.Frag}{fd:FuncData}{ps:List Str}(h:∀us:List Value,us.length=ps.length->bindArgs fd ⟨us,[]⟩=pure (ps.zip us)):Binds K fd ps []:=λs us _ hl=>by
 rw[Iz] at hl ⊢
 exact .of_eq (h us hl)
def nI(CX:CXT)(X:Cx)(E:XK):Prop:=∀(pins:Kb) (σ:St) (H:Hp) (s:Shared) (e:Value) (s':Shared),Inv X pins σ H s->CX X.stack H s E e s'->X.xe e s'
section
variable{X:Cx}{CX:CXT}{k:Nat}{f C:Addr}{fd:FuncData}{ps:List Str}{sp:Sp}{dvs:List V}{ds:List Value}{E:XK}{x m:Str}{p pos apos:Pos}{e o:Expr}{es:List Expr}{ta:TE}{t:TA}
end
section
variable{X:Cx}{CX:CXT}{k:Nat}{f C:Addr}{fd:FuncData}{ps ks:List Str}{sp:Sp}{E:XK}{x m:Str}{p pos apos kpos:Pos}{e o:Expr}{es:List Expr}{kws:List Keyword}{te ta:TE}{t tk:TA}{nm:Option Str}
variable{g:List Value->List Value->List Value}{gV:List V->List V->List V}
end
structure FnScope(N P:List Str)(sc:Scope):Prop where
 kind:sc.kind=.function
 co:sc.isCoroutine=false
 gen:sc.isGenerator=false
 nd:N.Nodup
 pre:N.take P.length=P
 par:∀x∈P,sc.names.lookup x=some .local\/sc.names.lookup x=some .cell
 nofree:∀y∈sc.names,y.2 ≠ .free
theorem ml{kindOf:Str->Option NameKind}{x:Str}:∀{binds:List (Str×Value)}{m:Ka},(∀v,(x,v)∉binds)->bindL kindOf binds m x=m x
 | [],_,_=>rfl
 |
  (n,v)::r,m,h=>by
  unfold bindL
  rw[ml λw hw=>h w (i_ _ hw)]
  split
  ·have:x≠n:=by rintro rfl;exact h v k_
   simp [this]
  ·rfl
theorem mi{kindOf:Str->Option NameKind}{x:Str}:∀{binds:List (Str×Value)}{m:Ka},(∀v,(x,v)∉binds)->bindC kindOf binds m x=m x
 | [],_,_=>rfl
 |
  (n,v)::r,m,h=>by
  unfold bindC
  rw[mi λw hw=>h w (i_ _ hw)]
  split
  ·rfl
  ·have:x≠n:=by rintro rfl;exact h v k_
   simp [this]
theorem mr{kindOf:Str->Option NameKind}{x:Str}{v:Value}:∀{P:List Str}{vs:List Value}{i:Nat}{m:Ka},P.Nodup->P[i]?=some x->vs[i]?=some v->kindOf x=some .local->
 bindL kindOf (P.zip vs) m x=some v
 | [],_,_,_,_,h,_,_=>by simp at h
 |_::_,[],_,_,_,_,h,_=>by simp at h
 |
  p::P,w::vs,0,m,nd,h1,h2,hk=>by
  simp at h1 h2;subst h1;subst h2
  show bindL kindOf ((p,w)::P.zip vs) m p=_
  unfold bindL
  rw[ml λv hv=>(JN.mp nd).1 (List.of_mem_zip hv).1,if_pos hk]
  simp
 |
  p::P,w::vs,i+1,m,nd,h1,h2,hk=>by
  show bindL kindOf ((p,w)::P.zip vs) m x=_
  unfold bindL
  exact mr (i:=i) (JN.mp nd).2 (by simpa using h1) (by simpa using h2) hk
theorem mh{kindOf:Str->Option NameKind}{x:Str}{v:Value}:∀{P:List Str}{vs:List Value}{i:Nat}{m:Ka},P.Nodup->P[i]?=some x->vs[i]?=some v->kindOf x≠some .local->
 bindC kindOf (P.zip vs) m x=some v
 | [],_,_,_,_,h,_,_=>by simp at h
 |_::_,[],_,_,_,_,h,_=>by simp at h
 |
  p::P,w::vs,0,m,nd,h1,h2,hk=>by
  simp at h1 h2;subst h1;subst h2
  show bindC kindOf ((p,w)::P.zip vs) m p=_
  unfold bindC
  rw[mi λv hv=>(JN.mp nd).1 (List.of_mem_zip hv).1,if_neg hk]
  simp
 |
  p::P,w::vs,i+1,m,nd,h1,h2,hk=>by
  show bindC kindOf ((p,w)::P.zip vs) m x=_
  unfold bindC
  exact mh (i:=i) (JN.mp nd).2 (by simpa using h1) (by simpa using h2) hk
def dH(N:List Str)(vs:List V):St:=vs.map some++List.replicate (N.length-vs.length) none
def cF(CX:CXT)(P:Program)(w:World)(K:W.Frag)(mg:Ka)(base:Heap)(N:List Str)(qual:Str)(scope:Scope)(f:Addr)(cd:Value)(A:Around)(outer:List Env)(s:Shared)(H:Hp)(E:XK):Cx where
 prog:=P
 w:=w
 K:=K
 mg:=mg
 base:=base
 A:=A.deeper (envOfC qual scope s.heap.objs.size f cd)
 N:=N
 s₀:=s
 H₀:=H
 env:=envOfC qual scope s.heap.objs.size f cd
 outer:=outer
 stack:=envOfC qual scope s.heap.objs.size f cd::outer
 ex:=[]
 calm:=true
 fn:=λ_=>true
 pn:=[]
 xe:=λe s'=>wpAny (model P w) (A.deeper (envOfC qual scope s.heap.objs.size f cd)) (leaving (envOfC qual scope s.heap.objs.size f cd) e) (λ_ s''=>CX outer H s E e s'') (λe' s''=>CX outer H s E e' s'') s'
def ot{sc:Scope}{n:Nat}{x:Str}(h:sc.names.lookup x=some .cell):∃c,(cellsFrom n sc.names []).lookup x=some c:=by
 have q:=W.cellsFrom_some sc.names n [] (.inl h)
 exact ID.mp q
def tP{CX:CXT}{P:Program}{w:World}{K:W.Frag}{mg:Ka}{base:Heap}{N ps:List Str}{qual:Str}{scope:Scope}{f:Addr}{cd:Value}{A:Around}{outer:List Env}{s s1:Shared}{H:Hp}{E:XK}{us:List Value}{vs:List V}
 (S:FnScope N ps scope) (hd:A.handled=none) (e0:Env0 P w K mg base A outer s H) (hl:vs.length=ps.length) (r:Vals vs us)
 (x:InCallC s s.heap.objs.size (bindL (envOfC qual scope s.heap.objs.size f cd).kindOf (ps.zip us) λ_=>none) (cellsFrom (s.heap.objs.size+1) scope.names []) (bindC (envOfC qual scope s.heap.objs.size f cd).kindOf (ps.zip us) λ_=>none) s1):
 Inv (cF CX P w K mg base N qual scope f cd A outer s H E) [] (dH N vs) H s1:=by
 have hpl:ps.length<=N.length:=by have:=Iw List.length S.pre;rw[Iv] at this;omega
 obtain⟨h1,tk,rfl,hk⟩:=x.done
 have noA:∀b:Addr,b∉(cF CX P w K mg base N qual scope f cd A outer s H E).ex:=λb z=>absurd (show b∈([]:List Addr) from z) (by simp)
 refine⟨⟨e0.mod,S.kind,rfl,rfl,j_ _,λy z c h1 h2=>?_,λy hy=>?_,λy c _ h=>?_,λ_=>hd,Around.frames_deeper e0.frames,.inr ⟨rfl,rfl⟩,λb z=>absurd z (noA b),e0.bs,e0.bsz,λb _ _=>noA b,λb z=>absurd z (noA b),e0.funs,e0.frf⟩,
  rfl,e0.bare,Un.kept hk,⟨_,x.toInCall.ns,λi y v h1 h2 h3=>?_⟩,λy c h=>⟨_,x.cell y c h⟩,e0.hok.fresh (j_ _),λy c h=>?_,λp hp=>absurd (show p∈([]:Kb) from hp) (by simp),e0.hok.kept hk,?_⟩
 ·exact name_of_addr x.apart (Iu h1) (Iu h2)
 ·have hy:scope.names.lookup y=some .cell\/scope.names.lookup y=some .free:=hy
  rcases hy with hy |hy
  ·exact ot hy
  ·exact absurd rfl (S.nofree _ (Iu hy))
 ·exact JO (x.above y c (Iu h))
 ·have hi:i<vs.length:=by
   unfold dH at h2
   by_cases hi:i<vs.length
   ·exact hi
   ·rw[HX (by simpa using hi)] at h2
    rw[Ig] at h2
    split at h2 <;> cases h2
  have ha:vs[i]?=some v:=by
   unfold dH at h2
   rw[B_ (by simpa using hi),Em] at h2
   cases e:vs[i]? with
   |none=>rw[e] at h2;cases h2
   |some a=>rw[e] at h2;cases h2;rfl
  obtain⟨u,hu,rv⟩:=r.get ha
  have hp:ps[i]?=some y:=by
   rw[<- S.pre,List.getElem?_take_of_lt (by omega)];exact h1
  have ndP:ps.Nodup:=by rw[<- S.pre];exact S.nd.sublist (List.take_sublist _ _)
  refine⟨u,rv,?_⟩
  rcases S.par y (Jh hp) with k |k
  ·exact .inl ⟨k,mr ndP hp hu k⟩
  ·obtain⟨c,e⟩:=ot (n:=s.heap.objs.size+1) k
   refine .inr ⟨.inl k,c,e,?_⟩
   have q:=x.cell y c e
   rw[mh ndP hp hu (by show scope.names.lookup y≠_;rw[k];decide)] at q
   exact q
 ·exact e0.hok.fresh (JO (x.above y c (Iu h)))
 ·unfold dH
  show _=N.length
  rw[z_,g_,Im]
  omega
def Fl{CX:CXT}{P:Program}{w:World}{K:W.Frag}{mg:Ka}{base:Heap}{k:Nat}{f:Addr}{name qual:Str}{params:Arguments}{body:List Stmt}{scope:Scope}{dV kV doc pm cdv ct oc:Value}{an od:Option Addr}
 {osl:Array (Option Value)}{N ps:List Str}{sp:Sp} (lk:K.lookup f=some ⟨oc,od,.func (W.fnOf name qual params body scope dV kV doc pm an cdv ct),osl⟩) (hcd:W.codeIn K cdv qual=true) (S:FnScope N ps scope)
 (len:∀vs H Q E,sp vs H Q E->vs.length=ps.length)
 (b_:∀(A:Around) (outer:List Env) (s:Shared) (H:Hp) (vs:List V) (Q:VK) (E:XK),Room k (A.deeper (envOfC qual scope s.heap.objs.size f cdv))->sp vs H Q E->
  ∃t,PSs (cF CX P w K mg base N qual scope f cdv A outer s H E) body t/\t { nx:=λ_ H'=>Q .non H',rt:=Q } (dH N vs) H):
 FnOk P w K mg base CX (k+1) f (W.fnOf name qual params body scope dV kV doc pm an cdv ct) ps sp:=by
 refine⟨len,λA outer s H args us vs Q E hr e0 hb r hsp=>?_⟩
 have hl:=len _ _ _ _ hsp
 have KX:K.In s.heap:=e0.mod.kin.keeps λb o e=>(e0.bs b o e).1
 have lim:s.heap.NoLimit:=e0.mod.nolimit.keeps λb o e=>(e0.bs b o e).1
 have hkind:∀y∈ps.zip us,scope.names.lookup y.1=some .local\/(scope.names.lookup y.1=some .cell/\((cellsFrom (s.heap.objs.size+1) scope.names []).lookup y.1).isSome=true):=λ⟨n,v⟩ hy=>by
  rcases S.par n (List.of_mem_zip hy).1 with q |q
  ·exact .inl q
  ·exact .inr ⟨q,W.cellsFrom_some _ _ _ (.inl q)⟩
 refine codeAny_call_function hr.depth (KX _ _ lk) rfl S.co S.gen rfl (W.codeRec_of KX hcd) (hb _ _ _ _ ?_)
 refine wpAny_newFunctionEnv_cells S.kind hkind λenv he s1 x=>?_
 subst he
 refine⟨lim.keeps x.toInCall.keep,codeAny_func ?_⟩
 obtain⟨t,ht,hq⟩:=b_ A outer s H vs Q E (hr.deeper _) hsp
 have I:Inv (cF CX P w K mg base N qual scope f cdv A outer s H E) [] (dH N vs) H s1:=tP S hr.hd e0 hl r x
 refine HZ (ht [] s1 (dH N vs) H _ I hq) (λfl s' hs=>?_) λe s' hs=>hs
 have d_:∀{σ':St}{H':Hp}{v:V}{u:Value},Inv (cF CX P w K mg base N qual scope f cdv A outer s H E) [] σ' H' s'->RelV v u->Q v H'->CE outer P w H s Q u s':=
  λ{σ' H' v u} J rv q=>⟨v,H',J.os,J.bare,J.base,J.hok,rv,q⟩
 cases fl with
 |
  ret u=>
  obtain⟨v,σ',H',J,rv,q⟩:=hs
  exact d_ J rv q
 |
  next=>
  obtain⟨σ',H',J,q⟩:=hs
  exact d_ (v:=V.non) (u:=Value.none) J rfl q
 |
  brk=>
  obtain⟨_,_,_,q⟩:=hs
  exact False.elim q
 |
  cont=>
  obtain⟨_,_,_,q⟩:=hs
  exact False.elim q
section
variable{X:Cx}{x:Str}{p pos:Pos}{e:Expr}{es:List Expr}{t:TA}{id T:String}{r:List V->Hp->VK->Prop}
def tCB(r:List V->Hp->VK->Prop)(t:TA):TE:=λσ H Q=>t σ H λvs H1=>r vs H1 Q
def vD(hc:CallR X (.builtin id) r)(hg:Gl X x)(hm:X.mg x=none)(hv:bootBuiltins x=some (.builtin id))(ha:PA X (e::es) t)(hn:x ≠ "__name__")(hdb:(x==("__debug__" : Str))=false)
 (he:starEach (e::es) X.env=(false,eval e X.env)::starEach es X.env) (hpl:(backTo pos (starEach es X.env)).any (·.1)=false):PE X (.Call (.Name x p) (e::es) [] pos) (tCB r t):=by
 intro pins s σ H Q I h
 refine I_ (gu I hg hm hv ?_ hn hdb)
 exact PyProof.Rows.callWith_builtin1 (thn (ha pos pins s σ H _ I h) λus s1 ⟨vs,H1,I1,r1,q1⟩=>hc pins s1 σ H1 vs us Q I1 r1 q1) he hpl
def uJ(hc:CallR X (.type T) r)(hg:Gl X x)(hm:X.mg x=none)(hv:bootBuiltins x=some (.type T))(ha:PA X (e::es) t)(hn:x ≠ "__name__")(hdb:(x==("__debug__" : Str))=false)
 (he:starEach (e::es) X.env=(false,eval e X.env)::starEach es X.env) (hpl:(backTo pos (starEach es X.env)).any (·.1)=false):PE X (.Call (.Name x p) (e::es) [] pos) (tCB r t):=by
 intro pins s σ H Q I h
 refine I_ (gu I hg hm hv ?_ hn hdb)
 exact IH (thn (ha pos pins s σ H _ I h) λus s1 ⟨vs,H1,I1,r1,q1⟩=>hc pins s1 σ H1 vs us Q I1 r1 q1) he hpl
end
end L2
namespace HT
open PySem PyProof.Rows
section
open PySem.SeqAt
open PySem.AutoSeq1 (wpAny_loadPart')
open PySem.MeetsSeq PySem.MeetsSeq2 PySem.MeetsSeq3
end
section
variable{prog:Program}{w:World}{A:Around}{E:Kc}{s:Shared}
def cat_tup(ht:IsTup s.heap t vs.toArray)(hb:IsTup s.heap b ws.toArray)(hv:vs≠[])
 (h1:ws=[]->Q (.ref t) s) (h2:ws≠[]->Q (.ref s.heap.objs.size) { s with heap:=s.heap.push { cls:=.type "tuple",data:=.seq (vs++ws).toArray } })
 (hsz:vs.length+ws.length<=sizeLine):wpAny (model prog w) A (binaryOp .Add (.ref t) (.ref b)) Q E s:=by
 obtain⟨⟨cls,dd,data,sl⟩,ho,hc,n,hd⟩:=id ht
 obtain⟨⟨cls2,dd2,data2,sl2⟩,ho2,hc2,n2,hd2⟩:=id hb
 simp only at hc hd hc2 hd2
 subst hc hd hc2 hd2
 have e:vs.toArray++ws.toArray=(vs++ws).toArray:=by simp
 by_cases hw:ws=[]
 ·exact concat_meets ⟨_,ho,rfl⟩ ⟨_,ho2,rfl⟩ noFill_tuple_add seq_tuple_add JD Jy (Jv _ _)
   (tuple_addW1 t b vs.toArray ws.toArray n n2 dd dd2 sl sl2 (by simpa using hv) (by simp [hw])) ⟨ho,ho2,h1 hw⟩
 ·refine concat_meets ⟨_,ho,rfl⟩ ⟨_,ho2,rfl⟩ noFill_tuple_add seq_tuple_add JD Jy (Jv _ _)
   (tuple_addW2 t b vs.toArray ws.toArray n n2 dd dd2 sl sl2 (by simpa using hv) (by simpa using hw) (by rw[u_,u_];exact hsz)) ⟨ho,ho2,?_⟩
  rw[e]
  exact h2 hw
noncomputable def sIx(n d:Nat):Option Int->Nat
 |none=>d
 |some v=>if v<0 then (v+(n:Int)).toNat else min v.toNat n
def sIx_none(n d:Nat):sIx n d none=d:=rfl
def sIx_nat(n d k:Nat):sIx n d (some (k:Int))=min k n:=by
 show (if (k:Int)<0 then ((k:Int)+(n:Int)).toNat else min (k:Int).toNat n)=min k n
 rw[if_neg (by omega),Iq]
def D6(n d:Nat)(hd:d<=n)(o:Option Int):sIx n d o<=n:=by
 cases o with
 |none=>exact hd
 |
  some v=>
  show (if v<0 then (v+(n:Int)).toNat else min v.toNat n)<=n
  by_cases hv:v<0
  ·rw[if_pos hv];omega
  ·rw[if_neg hv];exact Nat.min_le_right _ _
def qF(v:Int)(n d:Nat):(if v<0 then max (v+(n:Int)) 0 else min v (n:Int))=((sIx n d (some v):Nat):Int):=by
 show (if v<0 then max (v+(n:Int)) 0 else min v (n:Int))=(((if v<0 then (v+(n:Int)).toNat else min v.toNat n):Nat):Int)
 by_cases hv:v<0
 ·simp only[if_pos hv];omega
 ·simp only[if_neg hv];omega
def sA(lo hi:Option Int)(n:Nat):Builtin.Slice.sliceAdjust lo hi 1 (n:Int)=(((sIx n 0 lo:Nat):Int),((sIx n n hi:Nat):Int)):=by
 have h1:¬ ((1:Int)<0):=by omega
 unfold Builtin.Slice.sliceAdjust
 simp only[h1,JU]
 refine Prod.ext ?_ ?_
 ·cases lo with
  |none=>rfl
  |some v=>exact qF v n 0
 ·cases hi with
  |none=>rfl
  |some v=>exact qF v n n
def sT(i j:Nat):Builtin.Slice.slicePlaces (i:Int) (j:Int) 1=j-i:=by
 unfold Builtin.Slice.slicePlaces
 have h1:(1:Int)>0:=by omega
 simp only[h1,Jx,Int.ediv_one]
 split <;> omega
noncomputable def jX(p:IsPart v o)(h:Q o s):wpAny (model prog w) A (Builtin.Slice.slicePartIndex v) Q E s:=by
 cases p with
 |none=>exact slicePart_none h
 |int i t=>exact slicePart_int h
def jA{sl:Addr}{vl vu:Value}{lo hi:Option Int}{n:Nat}{Q:Int×Int×Nat->Shared->Prop}(hs:s.heap.IsSliceOf sl vl vu .none)(pl:IsPart vl lo)(pu:IsPart vu hi)
 (h:Q (((sIx n 0 lo:Nat):Int),1,sIx n n hi-sIx n 0 lo) s):wpAny (model prog w) A (Builtin.Slice.sliceApplied (.ref sl) (pure (n:Int))) Q E s:=by
 obtain⟨os,hos,hcs,hds⟩:=id hs
 unfold Builtin.Slice.sliceApplied Builtin.Slice.sliceFields
 refine l_ (l_ (wpAny_field hos hds (x:=vl) rfl (l_ (wpAny_field hos hds (x:=vu) rfl (l_ (wpAny_field hos hds (x:=.none) rfl (A_ ?_)))))))
 refine l_ (slicePart_none ?_)
 show wpAny _ _ (if ((1:Int)==0)=true then _ else _) _ _ s
 rw[if_neg (by decide)]
 refine l_ (jX pl (l_ (jX pu (l_ (A_ ?_)))))
 show wpAny _ _ (match Builtin.Slice.sliceAdjust lo hi 1 (n:Int) with |(lo,hi)=>pure (lo,(1:Int),Builtin.Slice.slicePlaces lo hi 1)) _ _ s
 rw[sA lo hi n]
 show wpAny _ _ (pure (((sIx n 0 lo:Nat):Int),(1:Int),Builtin.Slice.slicePlaces ((sIx n 0 lo:Nat):Int) ((sIx n n hi:Nat):Int) 1)) _ _ s
 rw[sT]
 exact A_ h
def wd(xs:Array Value)(i k:Nat):((List.range k).filterMap λ(m:Nat)=>xs[((i:Int)+(m:Int)*1).toNat]?).toArray=((xs.toList.drop i).take k).toArray:=by
 have e:(λ(m:Nat)=>xs[((i:Int)+(m:Int)*1).toNat]?)=λm=>xs[i+m]?:=by
  funext m
  have:((i:Int)+(m:Int)*1).toNat=i+m:=by omega
  rw[this]
 rw[e]
 have:=pick_run xs i k
 rw[List.filterMap_map] at this
 have e2:((λx=>xs[x]?) ∘ λx=>i+x)=λm=>xs[i+m]?:=rfl
 rw[e2] at this
 rw[this]
def getItem_tuple_cut{t sl:Addr}{items:Array Value}{vl vu:Value}{lo hi:Option Int}{Q:Kc}(ht:IsTup s.heap t items)(hs:s.heap.IsSliceOf sl vl vu .none)(pl:IsPart vl lo)(pu:IsPart vu hi)
 (hw:¬ (sIx items.size 0 lo=0/\sIx items.size items.size hi=items.size))
 (h:Q (.ref s.heap.objs.size) { s with heap:=s.heap.push { cls:=.type "tuple",data:=.seq ((items.toList.drop (sIx items.size 0 lo)).take (sIx items.size items.size hi-sIx items.size 0 lo)).toArray } })
 (hsz:items.size<=sizeLine):wpAny (model prog w) A (getItem (.ref t) (.ref sl)) Q E s:=by
 have htake:sizeOk (.seq ((items.toList.drop (sIx items.size 0 lo)).take (sIx items.size items.size hi-sIx items.size 0 lo)).toArray):=by
  show ((items.toList.drop (sIx items.size 0 lo)).take (sIx items.size items.size hi-sIx items.size 0 lo)).toArray.size<=sizeLine
  rw[u_,Iv,Jg,JT]
  omega
 have hj:sIx items.size items.size hi<=items.size:=D6 _ _ (j_ _) hi
 obtain⟨os,hos,hcs,hds⟩:=id hs
 have hTs:s.TypeIs (.ref sl) "slice":=⟨os,hos,hcs⟩
 unfold getItem
 try with_reducible refine Jm ?_
 first |refine l_ (A_ ?_) |skip
 refine l_ (wpAny_sequenceKey ht.typeIs (by decide) ?_)
 refine l_ (wpAny_callSpecial?_slot (name:=Str.ofString "__getitem__") ht.typeIs PyProof.Rows.slot_tuple_getitem
  (wpAny_call_entry PyProof.Rows.slot_tuple_getitem ht.typeIs entry_tuple_getitem ?_ (args_tuple_getitem _ _)))
 show wpAny _ _ (Builtin.Tuple.tupleItemsOf (.ref t) >>= _) _ _ s
 refine l_ (tupleItemsOf_ ht ?_)
 refine l_ (wpAny_typeOf hTs ?_)
 rw[if_pos (by decide)]
 refine l_ (jA hs pl pu ?_)
 have hno:¬ ((((sIx items.size 0 lo:Nat):Int)==0&&(1:Int)==1&&(sIx items.size items.size hi-sIx items.size 0 lo)==items.size)=true):=by
  intro q
  rw[m_,m_] at q
  have q1:((sIx items.size 0 lo:Nat):Int)=0:=eq_of_beq q.1.1
  have q2:sIx items.size items.size hi-sIx items.size 0 lo=items.size:=eq_of_beq q.2
  exact hw ⟨by omega,by omega⟩
 show wpAny _ _ (if (((sIx items.size 0 lo:Nat):Int)==0&&(1:Int)==1&&(sIx items.size items.size hi-sIx items.size 0 lo)==items.size)=true then _ else _) _ _ s
 rw[if_neg hno,wd]
 first
  |exact l_ (m:=Builtin.Tuple.tupleExact _) (IP (A_ ⟨_,rfl,A_ h⟩) htake)
  |exact l_ (m:=Builtin.Tuple.tupleExact _) (IP (l_ (A_ (A_ ⟨_,rfl,A_ h⟩))) htake)
  |exact l_ (l_ (m:=Builtin.Tuple.tupleExact _) (IP (A_ (A_ ⟨_,rfl,A_ h⟩)) htake))
  |exact l_ (l_ (m:=Builtin.Tuple.tupleExact _) (IP (A_ ⟨_,rfl,A_ h⟩) htake))
end
end HT
namespace L2
open PySem PySem.Spec PyProof.Rows
abbrev TO:=St->Hp->(Option Int->Hp->Prop)->Prop
def PO(X:Cx)(e:Option Expr)(t:TO):Prop:=
 ∀
  (pins:Kb) (s:Shared) (σ:St) (H:Hp) (Q:Option Int->Hp->Prop),Inv X pins σ H s->t σ H Q->
  wpAny (model X.prog X.w) X.A (evalPart e X.env) (λu s'=>∃o H',Inv X pins σ H' s'/\IsPart u o/\Q o H') X.xe s
def zf:TO:=λ_ H Q=>Q none H
def Hu(t:TE):TO:=λσ H Q=>t σ H λx H1=>∃i,x=.int i/\Q (some i) H1
section
variable{X:Cx}{e:Expr}{te:TE}{lo hi:Option Expr}{tl th:TO}{pos p2:Pos}
def Ay:PO X none zf:=by
 intro pins s σ H Q I h
 rw[evalPart_none]
 exact A_ ⟨none,H,I,.none,h⟩
def z8(h:PE X e te):PO X (some e) (Hu te):=by
 intro pins s σ H Q I hw
 rw[evalPart_some]
 refine thn (h pins s σ H _ I hw) λu s1 ⟨x,H1,I1,r1,q1⟩=>?_
 obtain⟨i,rfl,q⟩:=q1
 obtain⟨t,rfl⟩:=r1
 exact⟨some i,H1,I1,.int i t,q⟩
def SlR(X:Cx)(r:V->Option Int->Option Int->Hp->VK->Prop):Prop:=
 ∀
  (pins:Kb) (s:Shared) (σ:St) (H:Hp) (x:V) (v vl vu:Value) (lo hi:Option Int) (sl:Addr) (Q:VK),Inv X pins σ H s->RelV x v->s.heap.IsSliceOf sl vl vu .none->IsPart vl lo->IsPart vu hi->r x lo hi H Q->
  ∃T id,typeLookup (.type T) "__getitem__"=pure (some (.builtin id))/\s.TypeIs v T/\wpAny (model X.prog X.w) X.A (getItem v (.ref sl)) (EP X pins σ Q) X.xe s
def SlR.or(h:SlR X r)(h':SlR X r'):SlR X (λx lo hi H Q=>r x lo hi H Q\/r' x lo hi H Q):=by
 intro pins s σ H x v vl vu lo hi sl Q I rx hs pl pu q
 rcases q with q |q
 ·exact h pins s σ H x v vl vu lo hi sl Q I rx hs pl pu q
 ·exact h' pins s σ H x v vl vu lo hi sl Q I rx hs pl pu q
def tSl(r:V->Option Int->Option Int->Hp->VK->Prop)(te:TE)(tl th:TO):TE:=λσ H Q=>te σ H λx H1=>tl σ H1 λl H2=>th σ H2 λu H3=>r x l u H3 Q
def vx(hr:SlR X r)(he:PE X e te)(hl:PO X lo tl)(hu:PO X hi th):PE X (.Subscript e (.Slice lo hi none p2) pos) (tSl r te tl th):=by
 intro pins s σ H Q I h
 refine Subscript_ (thn (he pins s σ H _ I h) λv s1 ⟨x,H1,I1,r1,q1⟩=>?_)
 refine wpAny_Slice (thn (hl pins s1 σ H1 _ I1 q1) λvl s2 ⟨l,H2,I2,pl,q2⟩=>thn (hu pins s2 σ H2 _ I2 q2) λvu s3 ⟨u,H3,I3,pu,q3⟩=>?_)
 rw[evalPart_none]
 refine A_ ?_
 have I4:Inv X pins σ H3 { s3 with heap:=s3.heap.push { cls:=.type "slice",data:=.fields #[vl,vu,.none] } }:=I3.kept (t':=s3.toks) λb ob q=>p_ _ q
 obtain⟨T,id,hT,ht,hg⟩:=hr pins { s3 with heap:=s3.heap.push { cls:=.type "slice",data:=.fields #[vl,vu,.none] } } σ H3 x v vl vu l u s3.heap.objs.size Q I4 r1 (Heap.IsSliceOf.new ..) pl pu q3
 show wpAny (model X.prog X.w) X.A (subscriptTail e (.Slice lo hi none p2) v (.ref s3.heap.objs.size)) (EP X pins σ Q) X.xe { s3 with heap:=s3.heap.push { cls:=.type "slice",data:=.fields #[vl,vu,.none] } }
 exact tail_any (ops:=[.ref s3.heap.objs.size,v]) ht hT hg (by with_unfolding_all rfl)
def ip(xs:List V)(lo hi:Option Int):List V:=(xs.drop (HT.sIx xs.length 0 lo)).take (HT.sIx xs.length xs.length hi-HT.sIx xs.length 0 lo)
def jr(xs:List V)(lo hi:Option Int):(ip xs lo hi).length<=xs.length:=by
 unfold ip
 rw[Iv,Jg]
 omega
def rSlT(K:W.Frag):V->Option Int->Option Int->Hp->VK->Prop:=λx lo hi H Q=>∃a xs,x=.ref a/\SqT K H a xs/\
 ¬ (HT.sIx xs.length 0 lo=0/\HT.sIx xs.length xs.length hi=xs.length)/\∀p,H p=none->Q (.ref p) (upd H p (.tup (ip xs lo hi)))
def Ep:SlR X (rSlT X.K):=by
 intro pins s σ H x v vl vu lo hi sl Q I rx hs pl pu h
 obtain⟨a,xs,rfl,hx,hw,q⟩:=h
 cases rx
 obtain⟨its,r,ht,hz⟩:=I.tuple hx
 have be:its.toArray.size=xs.length:=by rw[u_];exact r.length.symm
 refine⟨"tuple",_,PyProof.Rows.slot_tuple_getitem.lookup,ht.typeIs,?_⟩
 refine HT.getItem_tuple_cut ht hs pl pu (by rw[be];exact hw) ?_ (by rw[be];exact hz)
 rw[be]
 refine⟨.ref s.heap.objs.size,_,I.laid (t':=s.toks) (o:=.tup (ip xs lo hi)) (λb ob q=>p_ _ q) (j_ _) ?_,rfl,q _ (I.hok.fresh (j_ _))⟩
 exact⟨w_ (jr xs lo hi) hz,_,(r.drop (HT.sIx xs.length 0 lo)).take (HT.sIx xs.length xs.length hi-HT.sIx xs.length 0 lo),IsTup.new _ _⟩
def i0(K:W.Frag):R2:=λx y H Q=>∃a b xs ys,x=.ref a/\y=.ref b/\SqT K H a xs/\SqT K H b ys/\xs≠[]/\xs.length+ys.length<=sizeLine/\
 (ys=[]->Q (.ref a) H)/\(ys≠[]->∀p,H p=none->Q (.ref p) (upd H p (.tup (xs++ys))))
def Vals.nil_iff(r:Vals xs us):us=[] ↔ xs=[]:=by
 cases r with
 |nil=>simp
 |cons _ _=>simp
def Ai:OpR X (binaryOp .Add) (i0 X.K):=by
 intro pins s σ H x y v u Q I rx ry h
 obtain⟨a,b,xs,ys,rfl,rfl,ha,hb,hx,hz,q1,q2⟩:=h
 cases rx
 cases ry
 obtain⟨its,r1,p1,_⟩:=I.tuple ha
 obtain⟨its2,r2,p2,_⟩:=I.tuple hb
 refine HT.cat_tup p1 p2 (λz=>hx (r1.nil_iff.mp z)) (λz=>⟨.ref a,H,I,rfl,q1 (r2.nil_iff.mp z)⟩) (λz=>?_) (by rw[<- r1.length,<- r2.length];exact hz)
 refine⟨.ref s.heap.objs.size,_,I.laid (t':=s.toks) (o:=.tup (xs++ys)) (λb ob q=>p_ _ q) (j_ _) ?_,rfl,q2 (λw=>z (r2.nil_iff.mpr w)) _ (I.hok.fresh (j_ _))⟩
 exact⟨by rw[z_];exact hz,_,r1.append r2,IsTup.new _ _⟩
end
noncomputable def ixN(n:Nat)(i:Int):Option Nat:=if 0<=i then (if i<n then some i.toNat else none) else if -(n:Int)<=i then some (i+n).toNat else none
def atI{α:Type}(xs:List α)(i:Int):Option α:=(ixN xs.length i).bind λj=>xs[j]?
def p8(h:ixN n i=some j):seqIndex? i n=some j/\j<n/\-(n:Int)<=i/\i<n:=by
 unfold ixN at h
 by_cases h0:0<=i
 ·rw[if_pos h0] at h
  by_cases h1:i<n
  ·rw[if_pos h1] at h
   have e:i.toNat=j:=C_ h
   exact⟨by rw[seqIndex_of h0 h1,e],by omega,by omega,h1⟩
  ·rw[if_neg h1] at h;cases h
 ·rw[if_neg h0] at h
  by_cases h1:-(n:Int)<=i
  ·rw[if_pos h1] at h
   have e:(i+n).toNat=j:=C_ h
   exact⟨by rw[seqIndex_neg (by omega) h1,e],by omega,h1,by omega⟩
  ·rw[if_neg h1] at h;cases h
def qJ(h:atI xs i=some v):∃j,seqIndex? i xs.length=some j/\xs[j]?=some v/\j<xs.length/\-(xs.length:Int)<=i/\i<xs.length:=by
 unfold atI at h
 cases e:ixN xs.length i with
 |none=>rw[e] at h;cases h
 |
  some j=>
  rw[e] at h
  obtain⟨h1,h2,h3,h4⟩:=p8 e
  exact⟨j,h1,h,h2,h3,h4⟩
def lj(b:Expr):Prop:=∀o i,subscripted b false o i=operate [o,i] (getItem o i)
def IxR(X:Cx)(r:R2):Prop:=
 ∀
  (value e_:Expr) (pins:Kb) (s:Shared) (σ:St) (H:Hp) (x y:V) (v u:Value) (Q:VK),Inv X pins σ H s->RelV x v->RelV y u->r x y H Q->
  subscripted e_ false v u=operate [v,u] (getItem v u)->wpAny (model X.prog X.w) X.A (subscriptTail value e_ v u) (EP X pins σ Q) X.xe s
def MtR(X:Cx)(id:String)(r:V->List V->Hp->VK->Prop):Prop:=
 ∀
  (pins:Kb) (s:Shared) (σ:St) (H:Hp) (x:V) (xs:List V) (v:Value) (us:List Value) (Q:VK),Inv X pins σ H s->RelV x v->Vals xs us->r x xs H Q->
  wpAny (model X.prog X.w) X.A (call (.builtin id) (v::us)) (EP X pins σ Q) X.xe s
section
variable{X:Cx}{a b:Expr}{ta tb:TE}{pos:Pos}
def IxR.or(h:IxR X r)(h':IxR X r'):IxR X (λx y H Q=>r x y H Q\/r' x y H Q):=by
 intro value e_ pins s σ H x y v u Q I rx ry q hs
 rcases q with q |q
 ·exact h value e_ pins s σ H x y v u Q I rx ry q hs
 ·exact h' value e_ pins s σ H x y v u Q I rx ry q hs
def Ht(hr:IxR X r)(ha:PE X a ta)(hb:PE X b tb)(hs:lj b):PE X (.Subscript a b pos) (tOp r ta tb):=by
 intro pins s σ H Q I h
 exact Subscript_ (xv ha hb I h λv u s2 x y H2 I2 rx ry q=>hr a b pins s2 σ H2 x y v u Q I2 rx ry q (hs _ _))
def sW(K:W.Frag):R2:=λx y H Q=>∃p xs i v,x=.ref p/\y=.int i/\SqL K H p xs/\atI xs i=some v/\Q v H
def rG(K:W.Frag):R2:=λx y H Q=>∃p xs i v,x=.ref p/\y=.int i/\SqT K H p xs/\atI xs i=some v/\Q v H
def ze:IxR X (sW X.K):=by
 intro value e_ pins s σ H x y v u Q I rx ry h hs
 obtain⟨p,xs,i,z,rfl,rfl,hq,he,q⟩:=h
 cases rx
 obtain⟨t,rfl⟩:=ry
 obtain⟨its,r,pl,hz⟩:=I.list hq
 obtain⟨j,h1,h2,h3,h4,h5⟩:=qJ he
 obtain⟨w,ew,rw'⟩:=r.get h2
 have hl:=r.length
 have hn:=iu
 have d_:EP X pins σ Q w s:=⟨z,H,I,rw',q⟩
 by_cases h0:0<=i
 ·have hj:i.toNat=j:=by
   rw[seqIndex_of h0 h5] at h1
   exact C_ h1
  exact item_listR pl.isList h0 (by omega) (by rw[hj];simpa using ew) d_ hs
 ·have hj:(i+(its.toArray.size:Int)).toNat=j:=by
   rw[seqIndex_neg (by omega) h4] at h1
   rw[u_,<- hl]
   exact C_ h1
  exact subscriptTail_builtinR (x:=w) pl.isList.typeIs slot_list_getitem.lookup
   (wpAny_getItem_list_neg (Q:=λr s'=>r=w/\EP X pins σ Q r s') pl.isList (by omega) (by rw[u_] <;> omega) (by omega) (by rw[hj];simpa using ew) ⟨rfl,d_⟩) hs
def CZ:IxR X (rG X.K):=by
 intro value e_ pins s σ H x y v u Q I rx ry h hs
 obtain⟨p,xs,i,z,rfl,rfl,hq,he,q⟩:=h
 cases rx
 obtain⟨t,rfl⟩:=ry
 obtain⟨its,r,pl,hz⟩:=I.tuple hq
 obtain⟨j,h1,h2,h3,h4,h5⟩:=qJ he
 obtain⟨w,ew,rw'⟩:=r.get h2
 have hl:=r.length
 have hn:=iu
 have d_:EP X pins σ Q w s:=⟨z,H,I,rw',q⟩
 exact subscriptTail_builtinR (x:=w) pl.typeIs slot_tuple_getitem.lookup
  (getItem_tuple (j:=j) (Q:=λr s'=>r=w/\EP X pins σ Q r s') pl (by omega) (by omega) (by rw[u_,<- hl];exact h1) (by simpa using ew) ⟨rfl,d_⟩) hs
def sY(its:List Value)(n j:Nat)(u:Value):Obj.mapSeq (·.setIfInBounds j u) { cls:=.type "list",data:=.seq its.toArray n }={ cls:=.type "list",data:=.seq (its.set j u).toArray n }:=by
 simp [Obj.mapSeq]
def Inv.lst(I:Inv X pins σ H s)(h:H p=some (.lst xs)):
 ∃(its:List Value) (n:Nat),Vals xs its/\s.heap.get? p=some { cls:=.type "list",data:=.seq its.toArray n }/\xs.length<=sizeLine:=by
 obtain⟨z,its,n,r,e⟩:=I.hok p _ h
 exact⟨its,n,r,e,z⟩
def Inv.lstUpd{pins:Kb}{σ:St}{H:Hp}{s:Shared}{p:Addr}{xs ys:List V}{its its':List Value}{n n':Nat}{f:Obj->Obj}(I:Inv X pins σ H s)(h:H p=some (.lst xs))
 (ho:s.heap.get? p=some { cls:=.type "list",data:=.seq its.toArray n }) (hf:f { cls:=.type "list",data:=.seq its.toArray n }={ cls:=.type "list",data:=.seq its'.toArray n' }) (r:Vals ys its') (hz:ys.length<=sizeLine) (t:Nat):
 Inv X pins σ (upd H p (.lst ys)) { s with heap:=s.heap.update p f,toks:=t }:=by
 have e:(s.heap.update p f).get? p=some { cls:=.type "list",data:=.seq its'.toArray n' }:=by
  rw[Heap.get?_update_self f ho (by rw[hf] <;> rfl),hf]
 refine I.write (x:=p) (e:=p) (by rw[h];trivial) (.inl rfl) (λb u hb q=>(JB _ _ (Ne.symm hb)).trans q) ⟨_,e⟩ ?_
 exact⟨hz,its',n',r,e⟩
def rO:V->V->V->Hp->(Hp->Prop)->Prop:=λo i v H Q=>∃p xs k j,o=.ref p/\i=.int k/\H p=some (.lst xs)/\ixN xs.length k=some j/\Q (upd H p (.lst (xs.set j v)))
def xG:rC X rO:=by
 intro pins s σ H o i v ov iv u Q I ro ri rv h
 obtain⟨p,xs,k,j,rfl,rfl,hp,hj,q⟩:=h
 cases ro
 obtain⟨t,rfl⟩:=ri
 obtain⟨its,n,r,ho,hz⟩:=I.lst hp
 obtain⟨h1,h2,h3,h4⟩:=p8 hj
 have hl:=r.length
 have hn:=iu
 have I':Inv X pins σ (upd H p (.lst (xs.set j v))) { s with heap:=s.heap.update p (Obj.mapSeq (·.setIfInBounds j u)) }:=
  I.lstUpd hp ho (sY its n j u) (r.set rv j) (by rw[y_];exact hz) s.toks
 by_cases h0:0<=k
 ·have hk:k.toNat=j:=by
   rw[seqIndex_of h0 h4] at h1
   exact C_ h1
  exact W.ki_setAt ho h0 (by omega) (by rw[u_,<- hl];exact h4) (by rw[hk];exact⟨_,I',q⟩)
 ·have hk:(k+(its.toArray.size:Int)).toNat=j:=by
   rw[seqIndex_neg (by omega) h3] at h1
   rw[u_,<- hl]
   exact C_ h1
  exact W.ki_setBack ho (by omega) (by rw[u_,<- hl];exact h3) (by omega) (by rw[hk];exact⟨_,I',q⟩)
def nJ(lo hi:Option Int)(n:Nat):(sliceBounds lo hi none n).1=((HT.sIx n 0 lo:Nat):Int)/\(sliceBounds lo hi none n).2.1=((HT.sIx n n hi:Nat):Int)/\(sliceBounds lo hi none n).2.2=1:=by
 refine⟨?_,?_,rfl⟩
 ·cases lo with
  |none=>simp [sliceBounds,HT.sIx]
  |
   some i=>
   simp only[sliceBounds,HT.sIx,Option.getD_none,show (1:Int)>0 by decide,Jx]
   by_cases h:i<0
   ·simp only[h,Jx] <;> omega
   ·simp only[h,JU] <;> omega
 ·cases hi with
  |none=>simp [sliceBounds,HT.sIx]
  |
   some i=>
   simp only[sliceBounds,HT.sIx,Option.getD_none,show (1:Int)>0 by decide,Jx]
   by_cases h:i<0
   ·simp only[h,Jx] <;> omega
   ·simp only[h,JU] <;> omega
def mB(its:List Value)(lo hi:Option Int):slicePick its.toArray lo hi none=((its.drop (HT.sIx its.length 0 lo)).take (HT.sIx its.length its.length hi-HT.sIx its.length 0 lo)).toArray:=by
 obtain⟨h1,h2,h3⟩:=nJ lo hi its.toArray.size
 unfold slicePick
 rw[h1,h2,h3]
 simp only[sliceRange_one,pick_run,u_] <;> rfl
def rSlL(K:W.Frag):V->Option Int->Option Int->Hp->VK->Prop:=λx lo hi H Q=>∃a xs,x=.ref a/\SqL K H a xs/\∀p,H p=none->Q (.ref p) (upd H p (.lst (ip xs lo hi)))
def AL:SlR X (rSlL X.K):=by
 intro pins s σ H x v vl vu lo hi sl Q I rx hs pl pu h
 obtain⟨a,xs,rfl,hx,q⟩:=h
 cases rx
 obtain⟨its,r,ht,hz⟩:=I.list hx
 have be:=r.length
 refine⟨"list",_,slot_list_getitem.lookup,ht.isList.typeIs,?_⟩
 refine wpAny_getItem_list_slice ht.isList hs pl pu .none (by simp) ?_ (by rw[u_] <;> omega)
 rw[mB,<- be]
 refine⟨.ref s.heap.objs.size,_,I.laid (t':=s.toks) (o:=.lst (ip xs lo hi)) (λb ob q=>p_ _ q) (j_ _) ?_,rfl,q _ (I.hok.fresh (j_ _))⟩
 exact⟨w_ (jr xs lo hi) hz,_,0,(r.drop (HT.sIx xs.length 0 lo)).take (HT.sIx xs.length xs.length hi-HT.sIx xs.length 0 lo),Ic _ rfl⟩
noncomputable def aQ:V->Bool
 |.non=>true
 |.bl _=>true
 |.int _=>true
 |.str _=>true
 |_=>false
noncomputable def eqV:V->V->Bool
 |.non,.non=>true
 |.bl a,.bl b=>a==b
 |.bl a,.int b=>(if a then 1 else 0)==b
 |.int a,.bl b=>a==(if b then 1 else 0)
 |.int a,.int b=>a==b
 |.str a,.str b=>a==b
 |_,_=>false
def BZ(ry:RelV y u)(rx:RelV x v)(fy:aQ y=true)(fx:aQ x=true):SeqAt.EqAt A s u v (eqV y x):=by
 cases y with
 |
  non=>
  cases ry
  cases x with
  |non=>cases rx;exact SeqAt.EqAt.same _
  |bl b=>cases rx;exact SeqAt.EqAt.none_bool b
  |int b=>obtain⟨t,rfl⟩:=rx;exact SeqAt.EqAt.none_int b t
  |str b=>obtain⟨t,rfl⟩:=rx;exact SeqAt.EqAt.none_str b t
  |_=>exact absurd (show false=true from fx) n_
 |
  bl a=>
  cases ry
  cases x with
  |non=>cases rx;exact SeqAt.EqAt.bool_none a
  |bl b=>cases rx;exact SeqAt.EqAt.bool_bool a b
  |int b=>obtain⟨t,rfl⟩:=rx;exact SeqAt.EqAt.bool_int a b t
  |str b=>obtain⟨t,rfl⟩:=rx;exact SeqAt.EqAt.bool_str a b t
  |_=>exact absurd (show false=true from fx) n_
 |
  int a=>
  obtain⟨t',rfl⟩:=ry
  cases x with
  |non=>cases rx;exact SeqAt.EqAt.int_none a t'
  |bl b=>cases rx;exact SeqAt.EqAt.int_bool a t' b
  |int b=>obtain⟨t,rfl⟩:=rx;exact SeqAt.EqAt.int_int a t' b t
  |str b=>obtain⟨t,rfl⟩:=rx;exact SeqAt.EqAt.int_str a t' b t
  |_=>exact absurd (show false=true from fx) n_
 |
  str a=>
  obtain⟨t',rfl⟩:=ry
  cases x with
  |non=>cases rx;exact SeqAt.EqAt.str_none a t'
  |bl b=>cases rx;exact SeqAt.EqAt.str_bool a t' b
  |int b=>obtain⟨t,rfl⟩:=rx;exact SeqAt.EqAt.str_int a t' b t
  |str b=>obtain⟨t,rfl⟩:=rx;exact SeqAt.EqAt.str_str a t' b t
  |_=>exact absurd (show false=true from fx) n_
 |_=>exact absurd (show false=true from fy) n_
def eqU(x:V)(u:Value):Bool:=match u with
 |.none=>eqV .non x
 |.bool b=>eqV (.bl b) x
 |.int i _=>eqV (.int i) x
 |.str z _=>eqV (.str z) x
 |_=>false
def tD(r:RelV y u)(f:aQ y=true):eqU x u=eqV y x:=by
 cases y with
 |non=>cases r;rfl
 |bl b=>cases r;rfl
 |int i=>obtain⟨t,rfl⟩:=r;rfl
 |str z=>obtain⟨t,rfl⟩:=r;rfl
 |_=>exact absurd (show false=true from f) n_
theorem gv:∀{xs:List V}{us:List Value},Vals xs us->xs.all aQ=true->us.any (eqU x)=xs.any λy=>eqV y x
 |_,_,.nil,_=>rfl
 |
  y::xs,u::us,.cons r t,f=>by
  rw[Jk,m_] at f
  rw[IV,IV,tD r f.1,gv t f.2]
theorem fu(rx:RelV x v)(fx:aQ x=true):∀{xs:List V}{us:List Value},Vals xs us->xs.all aQ=true->∀u∈us,SeqAt.EqAt A s u v (eqU x u)
 |_,_,.nil,_=>λu hu=>by cases hu
 |
  y::xs,u::us,.cons r t,f=>λu' hu=>by
  rw[Jk,m_] at f
  rcases G_.mp hu with rfl |hu
  ·rw[tD r f.1];exact BZ r rx f.1 fx
  ·exact fu rx fx t f.2 u' hu
def inV(x:V)(xs:List V):Bool:=xs.any λy=>eqV y x
def rIn(K:W.Frag)(neg:Bool):R2:=λx y H Q=>∃p xs,y=.ref p/\(SqL K H p xs\/SqT K H p xs)/\aQ x=true/\xs.all aQ=true/\Q (.bl (if neg then !inV x xs else inV x xs)) H
def va:OpR X (compareOp .In) (rIn X.K false):=by
 intro pins s σ H x y v u Q I rx ry h
 obtain⟨p,xs,rfl,hq,fx,fs,q⟩:=h
 cases ry
 rcases hq with hq |hq
 ·obtain⟨its,r,pl,hz⟩:=I.list hq
  refine SeqAt.in_listAt (eqU x) pl.isList (λw hw=>fu rx fx r fs w (by simpa using hw)) ⟨.bl _,H,I,rfl,?_⟩
  rw[show its.toArray.any (eqU x)=its.any (eqU x) by simp,gv r fs]
  exact q
 ·obtain⟨its,r,pl,hz⟩:=I.tuple hq
  refine SeqAt.in_tupleAt (eqU x) pl (λw hw=>fu rx fx r fs w (by simpa using hw)) ⟨.bl _,H,I,rfl,?_⟩
  rw[show its.toArray.any (eqU x)=its.any (eqU x) by simp,gv r fs]
  exact q
def ny:OpR X (compareOp .NotIn) (rIn X.K true):=by
 intro pins s σ H x y v u Q I rx ry h
 obtain⟨p,xs,rfl,hq,fx,fs,q⟩:=h
 cases ry
 rcases hq with hq |hq
 ·obtain⟨its,r,pl,hz⟩:=I.list hq
  refine SeqAt.notIn_listAt (eqU x) pl.isList (λw hw=>fu rx fx r fs w (by simpa using hw)) ⟨.bl _,H,I,rfl,?_⟩
  rw[show its.toArray.any (eqU x)=its.any (eqU x) by simp,gv r fs]
  exact q
 ·obtain⟨its,r,pl,hz⟩:=I.tuple hq
  refine SeqAt.notIn_tupleAt (eqU x) pl (λw hw=>fu rx fx r fs w (by simpa using hw)) ⟨.bl _,H,I,rfl,?_⟩
  rw[show its.toArray.any (eqU x)=its.any (eqU x) by simp,gv r fs]
  exact q
def og:CallR X (.builtin "len") (λxs H Q=>∃p ys,xs=[.ref p]/\(SqL X.K H p ys\/SqT X.K H p ys)/\Q (.int ys.length) H):=by
 intro pins s σ H xs us Q I r h
 obtain⟨p,ys,rfl,hq,q⟩:=h
 obtain⟨u,rfl,rx⟩:=eT r
 cases rx
 have hn:=iu
 rcases hq with hq |hq
 ·obtain⟨its,r',pl,hz⟩:=I.list hq
  have be:=r'.length
  exact Calls.call_len_list pl.isList (by simp only[u_] <;> omega) ⟨.int ys.length,H,I.tok _,⟨s.toks+1,by rw[u_,be]⟩,q⟩
 ·obtain⟨its,r',pl,hz⟩:=I.tuple hq
  have be:=r'.length
  exact len_tuple pl (by simp only[u_] <;> omega) ⟨.int ys.length,H,I.tok _,⟨s.toks+1,by rw[u_,be]⟩,q⟩
def oA:CallR X (.builtin "len") (λxs H Q=>∃z,xs=[.str z]/\z.length<=sizeLine/\Q (.int z.length) H):=by
 intro pins s σ H xs us Q I r h
 obtain⟨z,rfl,hz,q⟩:=h
 obtain⟨u,rfl,t,rfl⟩:=eT r
 have hn:=iu
 exact len_str (by omega) ⟨.int z.length,H,I.tok _,⟨_,rfl⟩,q⟩
def CallR.or(h:CallR X f r)(h':CallR X f r'):CallR X f (λxs H Q=>r xs H Q\/r' xs H Q):=by
 intro pins s σ H xs us Q I rs q
 rcases q with q |q
 ·exact h pins s σ H xs us Q I rs q
 ·exact h' pins s σ H xs us Q I rs q
def nE:CallR X (.type "list") (λxs H Q=>∃p ys,xs=[.ref p]/\(SqL X.K H p ys\/SqT X.K H p ys)/\∀l,H l=none->Q (.ref l) (upd H l (.lst ys))):=by
 intro pins s σ H xs us Q I r h
 obtain⟨p,ys,rfl,hq,q⟩:=h
 obtain⟨u,rfl,rx⟩:=eT r
 cases rx
 have d_:∀(its:List Value),Vals ys its->ys.length<=sizeLine->∀(h':Heap) (c':Nat),(∀b o',s.heap.get? b=some o'->h'.get? b=some o')->
  h'.get? s.heap.objs.size=some { cls:=.type "list",dict:=none,data:=.seq its.toArray c',slots:=#[] }->EP X pins σ Q (.ref s.heap.objs.size) { s with heap:=h' }:=λits r' hz h' c' kp e=>
  ⟨.ref s.heap.objs.size,_,I.laid (t':=s.toks) kp (j_ _) (show ObjOk X.prog X.w _ h' _ (.lst ys) from ⟨hz,its,c',r',e⟩),rfl,q _ (I.hok.fresh (j_ _))⟩
 rcases hq with hq |hq
 ·obtain⟨its,r',pl,hz⟩:=I.list hq
  have be:=r'.length
  obtain⟨o,ho,hc,n,hd⟩:=pl.isList
  exact call_list_seq p (.inl rfl) ho hc hd (λh' c' kp e=>d_ its r' hz h' c' kp e) (by simp only[u_] <;> omega)
 ·obtain⟨its,r',pl,hz⟩:=I.tuple hq
  have be:=r'.length
  obtain⟨o,ho,hc,n,hd⟩:=pl
  exact call_list_seq p (.inr rfl) ho hc hd (λh' c' kp e=>d_ its r' hz h' c' kp e) (by simp only[u_] <;> omega)
def mG:CallR X (.type "tuple") (λxs H Q=>∃p ys,xs=[.ref p]/\((SqL X.K H p ys/\∀l,H l=none->Q (.ref l) (upd H l (.tup ys)))\/(SqT X.K H p ys/\Q (.ref p) H))):=by
 intro pins s σ H xs us Q I r h
 obtain⟨p,ys,rfl,h⟩:=h
 obtain⟨u,rfl,rx⟩:=eT r
 cases rx
 rcases h with ⟨hq,q⟩ |⟨hq,q⟩
 ·obtain⟨its,r',pl,hz⟩:=I.list hq
  have be:=r'.length
  refine call_tuple_list pl.isList (λh' kp=>?_) (by simp only[u_] <;> omega)
  have I1:Inv X pins σ H { s with heap:=h' }:=I.kept (t':=s.toks) kp
  have I2:Inv X pins σ (upd H h'.objs.size (.tup ys)) { s with heap:=h'.push { cls:=.type "tuple",data:=.seq its.toArray } }:=
   I1.laid (t':=s.toks) (λb o e=>p_ _ e) (j_ _) (show ObjOk X.prog X.w _ _ _ (.tup ys) from ⟨hz,its,r',IsTup.new _ _⟩)
  exact⟨.ref h'.objs.size,_,I2,rfl,q _ (I1.hok.fresh (j_ _))⟩
 ·obtain⟨its,r',pl,hz⟩:=I.tuple hq
  exact call_tuple_same pl ⟨.ref p,H,I,rfl,q⟩
def tyV(K:W.Frag)(T:String)(x:V)(H:Hp):Prop:=match x with
 |.str _=>T="str"
 |.int _=>T="int"
 |.ref p=>(T="list" /\ ∃xs,SqL K H p xs)\/(T="tuple" /\ ∃o,K.lookup p=some o/\o.cls=.type "tuple" /\ o.dict=none)\/
  (T="dict" /\ ((∃kvs,H p=some (.dK kvs))\/∃kvs,H p=some (.dT kvs)))\/(T="set" /\ ∃S n,H p=some (.set S n))
 |_=>False
def D7(I:Inv X pins σ H s)(r:RelV x v)(ty:tyV X.K T x H):
 s.TypeIs v T/\∀a,v=.ref a->∃ob,s.heap.get? a=some ob/\ob.dict=none:=by
 cases x with
 |
  str z=>
  obtain⟨t,rfl⟩:=r
  cases (show T="str" from ty)
  exact⟨typeIs_str s z t,λ_ e=>nomatch e⟩
 |
  int i=>
  obtain⟨t,rfl⟩:=r
  cases (show T="int" from ty)
  exact⟨typeIs_int s i t,λ_ e=>nomatch e⟩
 |
  ref p=>
  cases r
  rcases ty with ⟨rfl,xs,hq⟩ |⟨rfl,o,hk,hc,hd⟩ |⟨rfl,hk⟩ |⟨rfl,S,n,hk⟩
  ·obtain⟨its,_,pl,_⟩:=I.list hq
   refine⟨pl.isList.typeIs,λa e=>?_⟩
   cases e
   obtain⟨o,n,e,c,hd,_⟩:=pl
   exact⟨o,e,hd⟩
  ·refine⟨⟨o,I.kIn p o hk,hc⟩,λa e=>?_⟩
   cases e
   exact⟨o,I.kIn _ o hk,hd⟩
  ·have z:∃o,s.heap.get? p=some o/\o.ExactDict:=by
    rcases hk with ⟨kvs,hk⟩ |⟨kvs,hk⟩
    ·obtain⟨_,_,_,_,o,_,_,e,ex,_⟩:=I.hok p _ hk
     exact⟨o,e,ex⟩
    ·obtain⟨_,_,_,_,o,_,_,e,ex,_⟩:=I.hok p _ hk
     exact⟨o,e,ex⟩
   obtain⟨o,e,ex⟩:=z
   refine⟨⟨o,e,ex.1⟩,λa e2=>?_⟩
   cases e2
   exact⟨o,e,ex.2.1⟩
  ·obtain⟨o,_,_,_,e,ex,_⟩:=I.hok p _ hk
   refine⟨⟨o,e,ex.1⟩,λa e2=>?_⟩
   cases e2
   exact⟨o,e,ex.2.1⟩
 |_=>exact False.elim ty
def tBM(K:W.Frag)(T:String)(r:V->List V->Hp->VK->Prop)(to:TE)(t:TA):TE:=λσ H Q=>to σ H λx H1=>tyV K T x H1/\t σ H1 λxs H2=>r x xs H2 Q
variable{o e:Expr}{es:List Expr}{to:TE}{t:TA}{name:Str}{apos cpos:Pos}{T id:String}{r:V->List V->Hp->VK->Prop}
def FV(pa:PlainAttrs T)(slot:Slot T name id)(hty:typeOf (.builtin id)=pure (.type "method_descriptor"))(hm:MtR X id r)(ho:PE X o to)(ha:PA X (e::es) t)
 (hbase:attributeBase o name X.env (eval o X.env)=eval o X.env)
 (hfew:((backTo cpos (starEach (e::es) X.env)).all (λx=>!x.1)&&(backToKw cpos (keywordEach [] X.env)).all (λx=>x.1.isSome)
  && decide ((e::es).length+([]:List Keyword).length+(if ([]:List Keyword).isEmpty then 0 else 1)<30))=true)
 (hline:(apos.endLine==cpos.line)=true) (hs:starEach (e::es) X.env=(false,eval e X.env)::starEach es X.env) (ce:(backTo cpos (starEach es X.env)).any (·.1)=false):
 PE X (.Call (.Attribute o name apos) (e::es) [] cpos) (tBM X.K T r to t):=by
 intro pins s σ H Q I h
 refine wpAny_Call_method_late hbase hfew hline rfl (thn (ho pins s σ H _ I h) λv s1 ⟨x,H1,I1,r1,ty,q1⟩=>?_)
 obtain⟨h1,h2⟩:=D7 I1 r1 ty
 refine⟨T,id,pa,slot,hty,h1,h2,?_⟩
 have hA:=ha cpos pins s1 σ H1 _ I1 q1
 rw[hs] at hA ⊢
 refine Calls.callWith_builtin (by show (false || (backTo cpos (starEach es X.env)).any (·.1))=false;rw[ce] <;> rfl) (Calls.evalArgs_plain ?_)
 exact thn hA λus s2 ⟨vs,H2,I2,r2,q2⟩=>hm pins s2 σ H2 x vs v us Q I2 r1 r2 q2
end
def MtM(X:Cx)(id:String)(r:V->List V->Hp->VK->Prop):Prop:=
 ∀
  (pins:Kb) (s:Shared) (σ:St) (H:Hp) (x:V) (xs:List V) (v:Value) (us:List Value) (Q:VK),Inv X pins σ H s->RelV x v->Vals xs us->r x xs H Q->
  wpAny (model X.prog X.w) X.A (call (.builtin id) (v::us)) (EP X pins σ Q) X.xe s
def Vals.one(r:Vals [x] us):∃u,us=[u]/\RelV x u:=by
 cases r with
 |cons r t=>cases t;exact⟨_,rfl,r⟩
section
variable{X:Cx}{pins:Kb}{σ:St}{H:Hp}{s:Shared}{l b:Addr}{xs ys zs:List V}
def Inv.lset{its its':List Value}{n:Nat}{f:Array Value->Array Value}{t':Nat}(I:Inv X pins σ H s)(hH:H l=some (.lst xs))
 (e:s.heap.get? l=some { cls:=.type "list",data:=.seq its.toArray n }) (hf:f its.toArray=its'.toArray) (hv:Vals ys its') (hz:ys.length<=sizeLine):
 Inv X pins σ (upd H l (.lst ys)) { s with heap:=s.heap.update l (Obj.mapSeq f),toks:=t' }:=by
 have q:=PySem.IsL.update e f
 rw[hf] at q
 refine I.write (x:=l) (e:=l) (by rw[hH];exact trivial) (.inl rfl) (λb' u hb hu=>(JB s.heap (Obj.mapSeq f) (Ne.symm hb)).trans hu) ⟨_,q⟩ ?_
 exact⟨hz,its',_,hv,q⟩
def Inv.lnew(I:Inv X pins σ H s)(hv:Vals ys its)(hz:ys.length<=sizeLine):
 Inv X pins σ (upd H s.heap.objs.size (.lst ys)) { s with heap:=s.heap.push { cls:=.type "list",data:=.seq its.toArray },toks:=t' }:=
 I.laid (λ_ _ q=>p_ _ q) (j_ _) ⟨hz,its,0,hv,Ic _ rfl⟩
def Inv.fresh(I:Inv X pins σ H s):H s.heap.objs.size=none:=I.hok.fresh (j_ _)
def Inv.lstM(I:Inv X pins σ H s)(hH:H l=some (.lst xs)):xs.length<=sizeLine/\∃(its:List Value) (n:Nat),Vals xs its/\xs.length=its.length/\s.heap.get? l=some { cls:=.type "list",data:=.seq its.toArray n }:=by
 obtain⟨z,its,n,r,e⟩:=I.hok l _ hH
 exact⟨z,its,n,r,r.length,e⟩
end
section
variable{X:Cx}
def lO:V->List V->Hp->VK->Prop:=λx vs H Q=>∃l xs y,x=.ref l/\vs=[y]/\H l=some (.lst xs)/\xs.length<sizeLine/\Q .non (upd H l (.lst (xs++[y])))
def uT:MtM X "list.append" lO:=by
 intro pins s σ H x vs v us Q I rx rv h
 obtain⟨l,xs,y,rfl,rfl,hH,hz,q⟩:=h
 cases rx
 obtain⟨u,rfl,ru⟩:=rv.one
 obtain⟨z,its,n,r,hl,e⟩:=I.lstM hH
 refine call_meets F.slot_list_append ⟨_,e,rfl⟩ F.entry_list_append (F.args_list_append_2 _ _) (PySem.list_append l its.toArray n u (by rw[u_];omega)) ⟨e,?_⟩
 refine⟨.non,_,I.lset (its':=its++[u]) hH e (by simp) (r.append (.cons ru .nil)) ?_,rfl,q⟩
 rw[z_,List.length_singleton]
 omega
def lU:R2:=λx y H Q=>∃l b xs zs,x=.ref l/\y=.ref b/\H l=some (.lst xs)/\H b=some (.lst zs)/\xs.length+zs.length<=sizeLine/\∀p,H p=none->Q (.ref p) (upd H p (.lst (xs++zs)))
def Bw:OpR X (binaryOp .Add) lU:=by
 intro pins s σ H x y v u Q I rx ry h
 obtain⟨l,b,xs,zs,rfl,rfl,hH,hB,hz,q⟩:=h
 cases rx
 cases ry
 obtain⟨z,its,n,r,hl,e⟩:=I.lstM hH
 obtain⟨z2,its2,n2,r2,hl2,e2⟩:=I.lstM hB
 refine PySem.P.add_list e e2 ?_ (by rw[u_,u_];omega)
 have ea:its.toArray++its2.toArray=(its++its2).toArray:=by simp
 rw[ea]
 exact⟨.ref _,_,I.lnew (t':=s.toks) (r.append r2) (by rw[z_];omega),rfl,q _ I.fresh⟩
end
section
variable{prog:Program}{w:World}{A:Around}{E:Kc}{s:Shared}
set_option maxRecDepth 100000 in
end
section
variable{X:Cx}
end
end L2
namespace Att
open PySem PySem.W PySem.Calls PyProof.Rows
def kG:∀(ns:List Int) (vs:List Value),WellAll P h vs (ns.map WData.int)->IntsAre vs ns:=by
 intro ns
 induction ns with
 |
  nil=>
  intro vs w
  rw[H9] at w
  cases w
  exact .nil
 |
  cons n ns ih=>
  intro vs w
  rw[D_] at w
  cases w with
  |
   cons a b=>
   cases a
   exact .cons _ _ (ih _ b)
def u7{l:OpenLaw}{n:Nat}(hn:l.most=some n){P:Params}{h:Heap}{args:List WData}{vals:List Value}
 (hpre:l.row.toRowW.claim.pre args=true) (hwl:WellAll P h vals args):
 ∃a vs ns,vals=[Value.ref a]/\args=[WData.list (ns.map WData.int)]/\h.get? a=some { cls:=.type "list",data:=.seq vs.toArray }/\IntsAre vs ns/\ns.length<=n:=by
 have hsh:WShape.hasAll [] args [.list .int]=true:=(pre_splitW hpre).1
 have hc:l.pre.holds [] { args:=args }=true:=(pre_splitW hpre).2
 obtain⟨d,r,rfl,h1,h2⟩:=hasAllW_cons hsh
 obtain rfl:=hasAllW_nil h2
 obtain⟨xs,rfl,h3⟩:=hasW_list h1
 obtain⟨ns,rfl⟩:=items_int h3
 have be:ns.length<=n:=by
  unfold OpenLaw.pre at hc
  have h4:(WTm.not (.lt (.lit (.int (n:Int))) (.len (.arg 0)))).holds [] { args:=[.list (ns.map .int)] }=true:=by
   have h4:=(holds_andW hc).1
   rw[hn] at h4
   exact h4
  have h5:=condW_of h4 (w_not (w_lt w_lit (w_len_list (w_arg rfl))))
  rw[g_] at h5
  refine Nat.le_of_not_lt λq=>?_
  have q':(n:Int)<((ns.length:Nat):Int):=by omega
  first
   |(rw[r_ q'] at h5;exact absurd h5 (by decide))
   |(simp at h5;omega)
 cases hwl with
 |
  cons w1 w2=>
  cases w2
  cases w1 with
  |list ho hall=>exact⟨_,_,ns,rfl,rfl,ho,kG ns _ hall,be⟩
def uD(l:OpenLaw)(args:List WData):l.row.toRowW.claim.post args (.bool true) args=true:=
 postW_of (r:=l.row.toRowW) (X:=(true==true))
  (show WShape.has [] (.bool true) .bool=true by first |rfl |decide |simp [WShape.has,WShape.arms,WShape.armsAll])
  (show (WTm.eq .res (.lit (.bool true))).value [] { args:=args,res:=some (.bool true),after:=args }=some (.bool (true==true)) from w_eq_bool (w_res rfl) w_lit) rfl
def attach_call{l:OpenLaw}{n:Nat}{q:Program}{loose:List Str}{XP:(Str->Option Value)->Heap->Prop}{YP:World->Heap->Prop}{d:DefRec}
 (hn:l.most=some n) (hdf:d.params.defaults=[])
 (call:∀(w:World) (s₀ s₁:Shared) (mg mb:Ka) (fa:Addr) (o:Obj) (pm cd doc:Value) (a:Addr) (vs:List Value) (ns:List Int),
  Ground q loose [] XP w s₀ mg mb s₁.heap->YP w s₁.heap->
  s₁.heap.get? fa=some o->o.data=.func (docDef d.name d.params d.body d.scope pm cd doc)->s₁.heap.CodeRec cd d.name->mg d.name=some (.ref fa)->
  s₁.heap.get? a=some { cls:=.type "list",data:=.seq vs.toArray }->IntsAre vs ns->ns.length<=n->s₁.gens=#[]->
  codeAny (model l.prog w) callerA (.call (.ref fa) ⟨[.ref a],[]⟩) (λr s'=>r=.ok (.ret (.bool true))/\OldK s₁.heap s'.heap/\s'.os=s₁.os/\AllBare s'.gens) s₁):
 WalkO q loose XP YP l.row.toRowW d [] (λf vs=>PySem.call f vs):=by
 intro w s₀ s₁ mg mb G Y fa o pm cd doc dV kV ho hd hcd hD hmg hg args vals as hpre hlay hrd hwl hlo
 obtain rfl:dV=.none:=Dflts.none hD hdf
 obtain rfl:kV=.none:=Dflts.noKw hD
 obtain⟨a,vs,ns,rfl,rfl,hobj,hints,be⟩:=u7 hn hpre hwl
 refine enter_call (codeAny_mono (call w s₀ s₁ mg mb fa o pm cd doc a vs ns G Y ho (fd_plain hd) hcd hmg hobj hints be hg) λr s' hq=>?_)
 obtain⟨rfl,h2,h3,h4⟩:=hq
 exact⟨.inl ⟨.bool true,.bool true,[],rfl,λ_=>rfl,.bool true,uD l _,λ_=>⟨List.Pairwise.nil,λ_ hm=>(nomatch hm)⟩⟩,h2,h3,h4⟩
section
variable{prog:Program}{w:World}{A:Around}{E:Kc}{s:Shared}{K:Frag}
noncomputable def oE(h:Heap):Heap:={ h with objs:=#[] }
def rV(h:Heap)(b:Addr):(oE h).get? b=none:=by
 cases e:(oE h).get? b with
 |none=>rfl
 |some o=>exact absurd (s_ e) (IK _)
noncomputable def ledger(h:Heap)(L d:Addr):List (Addr×Obj):=(List.range h.objs.size).filterMap λa=>if a=L\/a=d then none else (h.get? a).map λo=>(a,o)
def fr_all(n:h.Ns L m):Fr (oE h) L h m:=
 ⟨n,λb o e=>(by rw[rV] at e;cases e),HW _⟩
end
end Att
namespace L2
open PySem PySem.Spec PyProof.Rows
theorem mj:∀{vs:List Value}{ns:List Int},IntsAre vs ns->Vals (ns.map V.int) vs
 |_,_,.nil=>.nil
 |_,_,.cons n t h=>.cons ⟨t,rfl⟩ (mj h)
def lL(H:Hp):Prop:=∀b,H b=none\/∃o xs,H b=some (.frz o (.lst xs))
def vo{P:Program}{w:World}{K:W.Frag}{mg mb:Ka}{CX:CXT}{k:Nat}{fa a:Addr}{fd:FuncData}{x:Str}{sp:Sp}{s₁:Shared}{vs:List Value}{ns:List Int}
 (KX:K.In s₁.heap) (hns:s₁.heap.Ns mainGlobals mg) (hb:s₁.heap.Ns builtinsNs mb) (hbb:∀x:Str,x ≠ "__name__"->mb x=bootBuiltins x) (hlim:s₁.heap.NoLimit) (hg:s₁.gens=#[])
 (ha:s₁.heap.get? a=some { cls:=.type "list",data:=.seq vs.toArray }) (hi:IntsAre vs ns) (hl:ns.length<=sizeLine) (hr:Room k callerA)
 (F:∀base:Heap,K.In base->base.Ns mainGlobals mg->FnOk P w K mg base CX k fa fd [x] sp) (hbind:∀(s:Shared) (u:Value),BindsTo s fd ⟨[u],[]⟩ [(x,u)])
 (hsp:∀H:Hp,lL H->SqL K H a (ns.map V.int)->sp [.ref a] H (λv _=>v=.bl true) λ_ _ _=>False)
 (hCX:∀H e s',CX [] H s₁ (λ_ _ _=>False) e s'->False):
 codeAny (model P w) callerA (.call (.ref fa) ⟨[.ref a],[]⟩) (λr s'=>r=.ok (.ret (.bool true))/\OldK s₁.heap s'.heap/\s'.os=s₁.os/\AllBare s'.gens) s₁:=by
 have rv:=mj hi
 have lenV:=hi.length
 have core
  : ∀H:Hp,lL H->SqL K H a (ns.map V.int)->HOk P w H s₁.heap->(∀b,H b≠none->b=a)->(H a≠none->K.lookup a=none)->
  codeAny (model P w) callerA (.call (.ref fa) ⟨[.ref a],[]⟩) (λr s'=>r=.ok (.ret (.bool true))/\OldK s₁.heap s'.heap/\s'.os=s₁.os/\AllBare s'.gens) s₁:=by
  intro H hO hS hok hA hK
  have base_of:∀{b:Addr}{o:Obj},s₁.heap.get? b=some o->H b=none->(gU s₁.heap H).get? b=some o:=λe n=>wx e n
  have noA:∀{b:Addr}{o:Obj}{es:Array DictEntry}{ep:Nat},s₁.heap.get? b=some o->o.data=.dict es ep->H b=none:=λ{b o es ep} e d=>by
   cases q:H b with
   |none=>rfl
   |
    some u=>
    have e':b=a:=hA b (by rw[q];simp)
    subst e'
    rw[ha] at e;cases e
    have d':Data.seq vs.toArray _=Data.dict es ep:=d
    cases d'
  have nsK:∀{b:Addr}{m:Ka},s₁.heap.Ns b m->(gU s₁.heap H).Ns b m:=λ{b m} ⟨o,es,ep,e,d,r⟩=>⟨o,es,ep,base_of e (noA e d),d,r⟩
  have hKb:K.In (gU s₁.heap H):=λb o e=>base_of (KX b o e) (by
   cases q:H b with
   |none=>rfl
   |
    some u=>
    have e':b=a:=hA b (by rw[q];simp)
    subst e'
    rw[hK (by rw[q];simp)] at e;cases e)
  have hM:Mod K mg (gU s₁.heap H):=⟨hKb,nsK hns,⟨mb,nsK hb,hbb⟩,let ⟨mc,h1,h2⟩:=hlim;⟨mc,nsK h1,h2⟩⟩
  have e0:Env0 P w K mg (gU s₁.heap H) callerA [] s₁ H:=⟨rfl,hM,λb o e=>yI e,Nat.le_of_eq (vn _ _),trivial,λb hb=>absurd (show b∈([]:List Addr) from hb) (by simp),hok,.of_eq hg⟩
  refine codeAny_mono ((F _ hKb (nsK hns)).run callerA [] s₁ H ⟨[.ref a],[]⟩ [.ref a] [.ref a] _ _ hr e0 (hbind s₁ (.ref a)) (.cons rfl .nil) (hsp H hO hS)) λr s' h=>?_
  cases r with
  |error e=>exact (hCX H e s' h).elim
  |
   ok fl=>
   cases fl with
   |next=>exact False.elim h
   |brk=>exact False.elim h
   |cont=>exact False.elim h
   |
    ret u=>
    obtain⟨v,H',os,bare,un,hok',r',q⟩:=h
    have q':v=.bl true:=q
    subst q'
    obtain rfl:u=Value.bool true:=r'
    refine⟨rfl,OldK.of_keep λb o e=>?_,os,bare⟩
    cases q:H b with
    |none=>exact un.keep b o e q (by intro z;exact absurd (show b∈([]:List Addr) from z) (by simp)) (by simp)
    |
     some u=>
     rcases hO b with z |⟨ob,xs,z⟩
     ·rw[q] at z;cases z
     ·have z2:=un.frzs b ob _ z
      obtain⟨e1,_⟩:=hok b _ z
      obtain⟨e2,_⟩:=hok' b _ z2
      rw[e] at e1;cases e1
      exact e2
 cases hk:K.lookup a with
 |
  some o=>
  have e:=KX a o hk
  rw[ha] at e
  cases e
  refine core (λ_=>none) (λ_=>.inl rfl) (.inr ⟨_,vs.toArray,_,hk,rfl,rfl,rfl,by rw[u_,lenV];exact hl,by simpa using rv⟩) (λb u z=>by have z':(none:Option HO)=some u:=z;cases z') (λb z=>absurd rfl z) λz=>absurd rfl z
 |
  none=>
  refine core (λb=>if b=a then some (.frz { cls:=.type "list",data:=.seq vs.toArray } (.lst (ns.map V.int))) else none) (λb=>?_) (.inl (.inr ⟨{ cls:=.type "list",data:=.seq vs.toArray },if_pos rfl⟩)) (λb u z=>?_) (λb z=>?_) λ_=>hk
  ·by_cases hb:b=a
   ·exact .inr ⟨_,_,if_pos hb⟩
   ·exact .inl (if_neg hb)
  ·by_cases hb:b=a
   ·have z':=(if_pos hb).symm.trans z
    cases z'
    subst hb
    exact⟨ha,by rw[g_];exact hl,vs,_,rv,ha⟩
   ·have z':=(if_neg hb).symm.trans z
    cases z'
  ·by_cases hb:b=a
   ·exact hb
   ·exact absurd (if_neg hb) z
abbrev KOf{K:W.Frag}{h:Heap}(_:K.In h):W.Frag:=K
def walk_of{l:W.OpenLaw}{n k:Nat}{q:Program}{loose:List Str}{XP:(Str->Option Value)->Heap->Prop}{YP:World->Heap->Prop}{d:DefRec}{K:Params->W.Frag}{CX:World->CXT}{sp:World->Sp}{x:Str}
 (hn:l.most=some n) (hn2:n<=sizeLine) (hdf:d.params.defaults=[]) (hr:Room k callerA)
 (hY:∀(w:World) (h:Heap),YP w h->(K w.params).In h)
 (F:∀(w:World) (mg:Ka) (fa:Addr) (h:Heap),(K w.params).In h->h.Ns mainGlobals mg->mg d.name=some (.ref fa)->
  ∃
   fd:FuncData,(∀(s:Shared) (u:Value),BindsTo s fd ⟨[u],[]⟩ [(x,u)])/\
   ∀base:Heap,(K w.params).In base->base.Ns mainGlobals mg->FnOk l.prog w (K w.params) mg base (CX w) k fa fd [x] (sp w))
 (hsp:∀(w:World) (H:Hp) (a:Addr) (ns:List Int),ns.length<=n->lL H->SqL (K w.params) H a (ns.map V.int)->sp w [.ref a] H (λv _=>v=.bl true) λ_ _ _=>False)
 (hCX:∀(w:World) (H:Hp) (s:Shared) (e:Value) (s':Shared),CX w [] H s (λ_ _ _=>False) e s'->False):
 W.WalkO q loose XP YP l.row.toRowW d [] (λf vs=>PySem.call f vs):=by
 refine Att.attach_call hn hdf λw s₀ s₁ mg mb fa o pm cd doc a vs ns G Y ho hd hcd hmg hobj hints be hg=>?_
 have KX:=hY w _ Y
 obtain⟨fd,hb,hF⟩:=F w mg fa _ KX G.T.g hmg
 exact vo KX G.T.g G.T.b G.T.builtins G.T.nolimit hg hobj hints (w_ be hn2) hr hF hb (λH hO hS=>hsp w H a ns be hO hS) λH e s'=>hCX w H s₁ e s'
noncomputable def bB(s:Stmt):Arguments:=match s with
 |.FunctionDef _ a _ _ _ _ _ _ _ _=>a
 |_=>{ posonlyargs:=[],args:=[],vararg:=none,kwonlyargs:=[],kw_defaults:=[],kwarg:=none,defaults:=[] }
noncomputable def aN(s:Stmt):List Stmt:=match s with
 |.FunctionDef _ _ b _ _ _ _ _ _ _=>b
 |_=>[]
noncomputable def ak(s:Stmt):Scope:=match s with
 |.FunctionDef _ _ _ _ _ _ sc _ _ _=>sc
 |_=>{ kind:=.function,names:=[],isGenerator:=false,isCoroutine:=false }
abbrev E0:XK:=λ_ _ _=>False
structure Fun(K:W.Frag)(x qual:Str)(st:Stmt)(f:Addr)(fd:FuncData):Prop where
 ex:∃(oc:Value) (od:Option Addr) (kV doc pm:Value) (an:Option Addr) (cdv ct:Value) (osl:Array (Option Value)),
  fd=W.fnOf x qual (bB st) (aN st) (ak st) .none kV doc pm an cdv ct/\K.lookup f=some ⟨oc,od,.func fd,osl⟩/\W.codeIn K cdv qual=true
 kp:W.keepIn K (.ref f)=true
section
variable{P:Program}{w:World}{K:W.Frag}{mg:Ka}{base:Heap}
def Fun.binds{x qual:Str}{st:Stmt}{f:Addr}{fd:FuncData}{ps:List Str}(F:Fun K x qual st f fd)
 (h:∀(kV doc pm:Value) (an:Option Addr) (cdv ct:Value) (us:List Value),us.length=ps.length->bindArgs (W.fnOf x qual (bB st) (aN st) (ak st) .none kV doc pm an cdv ct) ⟨us,[]⟩=pure (ps.zip us)):Binds K fd ps []:=by
 obtain⟨oc,od,kV,doc,pm,an,cdv,ct,osl,rfl,lk,hcd⟩:=F.ex
 exact .all (h kV doc pm an cdv ct)
def C8{x qual:Str}{st:Stmt}{f:Addr}{oc:Value}{od an:Option Addr}{osl:Array (Option Value)}{kV doc pm cdv ct:Value}(l:K.lookup f=some ⟨oc,od,.func (W.fnOf x qual (bB st) (aN st) (ak st) .none kV doc pm an cdv ct),osl⟩)
 (c:W.codeIn K cdv qual=true) (k:W.keepIn K (.ref f)=true):Fun K x qual st f (W.fnOf x qual (bB st) (aN st) (ak st) .none kV doc pm an cdv ct):=⟨⟨oc,od,kV,doc,pm,an,cdv,ct,osl,rfl,l,c⟩,k⟩
end
def yg(hr:Room k A):A.units+1<cLine:=I0 (Nat.add_le_add_left (by decide:1<=64) _) hr.units
section
variable{X:Cx}
end
section
variable{X:Cx}{pins:Kb}{σ:St}{H:Hp}{s:Shared}
def Inv.track{a:Addr}{o:HO}(I:Inv X pins σ H s)(hn:H a=none)(h0:X.s₀.heap.get? a=none)(hL:a≠X.env.locals)(hc:∀x c,X.env.cells.lookup x=some c->c≠a)
 (hp:∀p∈X.pn++pins,p.1≠a) (new:ObjOk X.prog X.w (upd H a o) s.heap a o):Inv X pins σ (upd H a o) s:=by
 have ne:∀b u,H b=some u->b≠a:=λb u e z=>by rw[z,hn] at e;cases e
 have ne0:∀b u,X.s₀.heap.get? b=some u->b≠a:=λb u e z=>by rw[z,h0] at e;cases e
 refine⟨I.ok,I.os,I.bare,⟨I.base.keep,I.base.slot,λb u e n hx=>?_,I.base.there,λb xs e=>?_,λb u xs e=>?_,λb ps e=>?_⟩,I.loc,I.cell,?_,λx c e=>?_,λp hp'=>?_,λb u e=>?_,I.len⟩
 ·rw[ay (ne0 b u e)];exact I.base.free b u e n hx
 ·have q:=I.base.tups b xs e
  rw[ay (ne _ _ q)];exact q
 ·have q:=I.base.frzs b u xs e
  rw[ay (ne _ _ q)];exact q
 ·obtain⟨m,q⟩:=I.base.tbls b ps e
  exact⟨m,by rw[ay (ne _ _ q)];exact q⟩
 ·rw[ay (Ne.symm hL)];exact I.free
 ·rw[ay (hc x c e)];exact I.freeC x c e
 ·obtain⟨e,n,r⟩:=I.pin p hp'
  exact⟨e,by rw[ay (hp p hp')];exact n,r⟩
 ·by_cases hb:b=a
  ·subst hb;rw[bF] at e;cases e;exact new
  ·rw[ay hb] at e
   exact (I.hok b u e).stay (λc v _ q=>q) (λc q=>by rw[ay (ne _ _ q)];exact q) λc xs q=>by rw[ay (ne _ _ q)];exact q
end
theorem gC{env:Env}:∀{names:List (Str×NameKind)} (cs:List (Str×Addr)),(∀x∈names,x.2=.free->∃c,env.cells.lookup x.1=some c)->(∀x c,cs.lookup x=some c->env.cells.lookup x=some c)->
 ∃
  cl,(forIn names cs λ(x:Str×NameKind) (r:List (Str×Addr))=>if (x.2==NameKind.free)=true then do let a <- cellOf env x.1;pure (ForInStep.yield ((x.1,a)::r)) else pure (ForInStep.yield r):Sem (List (Str×Addr)))=pure cl/\
  (∀x c,cl.lookup x=some c->env.cells.lookup x=some c)/\(∀x c,cs.lookup x=some c->∃c',cl.lookup x=some c')/\∀x∈names,x.2=.free->∃c,cl.lookup x.1=some c
 | [],cs,_,h=>⟨cs,by simp,h,λx c e=>⟨c,e⟩,λ_ hx=>nomatch hx⟩
 |
  (n,k)::r,cs,hf,h=>by
  rw[List.forIn_cons]
  by_cases hk:k=.free
  ·subst hk
   obtain⟨c,hc⟩:=hf (n,.free) k_ rfl
   have hcell:cellOf env n=pure c:=by unfold cellOf;rw[hc]
   have h':∀x d,((n,c)::cs).lookup x=some d->env.cells.lookup x=some d:=λx d e=>by
    rw[IF] at e
    cases q:x==n with
    |true=>rw[q] at e;cases e;rw[H_.mp q];exact hc
    |false=>rw[q] at e;exact h x d e
   obtain⟨cl,e1,e2,e3,e4⟩:=gC (env:=env) (names:=r) ((n,c)::cs) (λx hx=>hf x (i_ _ hx)) h'
   have top:∃c',cl.lookup n=some c':=e3 n c (by rw[IF];simp)
   refine⟨cl,?_,e2,λx d e=>?_,λx hx hfr=>?_⟩
   ·simp only[beq_self_eq_true,Jx,hcell]
    exact e1
   ·by_cases q:x=n
    ·rw[q];exact top
    ·exact e3 x d (by rw[IF,(v_.mpr q:(x==n)=false)];exact e)
   ·rcases G_.mp hx with rfl |hx
    ·exact top
    ·exact e4 x hx hfr
  ·have hb:(k==NameKind.free)=false:=by simpa using hk
   obtain⟨cl,e1,e2,e3,e4⟩:=gC (env:=env) (names:=r) cs (λx hx=>hf x (i_ _ hx)) h
   refine⟨cl,?_,e2,e3,λx hx hfr=>?_⟩
   ·simp only[hb,Jr,JU]
    exact e1
   ·rcases G_.mp hx with rfl |hx
    ·exact absurd hfr hk
    ·exact e4 x hx hfr
def mK{env:Env}{scope:Scope}(hf:∀x∈scope.names,x.2=.free->∃c,env.cells.lookup x.1=some c):
 ∃cl,closureFor scope env=pure cl/\(∀x c,cl.lookup x=some c->env.cells.lookup x=some c)/\∀x∈scope.names,x.2=.free->∃c,cl.lookup x.1=some c:=by
 obtain⟨cl,e1,e2,_,e4⟩:=gC (env:=env) (names:=scope.names) [] hf (λx c e=>by simp at e)
 refine⟨cl,?_,e2,e4⟩
 unfold closureFor
 simp only[e1]
 rfl
def aC(X:Cx)(N:List Str)(scope:Scope)(cl:List (Str×Addr))(C:Addr)(s₂:Shared)(H:Hp)(fp:List Addr):Cx:=
 { X with N:=N,s₀:=s₂,H₀:=H,env:=compEnvC scope cl C X.env,outer:=X.stack,stack:=X.stack,ex:=fp,fn:=λ_=>false,pn:=[],xe:=λ_ _=>False }
def eB(sub:Kd)(σ:St):St:=sub.map λo=>o.bind λi=>(σ[i]?).bind id
def LcW(J:It)(sub:Kd)(g:TG)(tc:TT)(te:TE)(σ:St)(H1:Hp)(Q:VK):Prop:=∃W:Nat->Nat->List V->St->Hp->Prop,(∃m,W 0 m [] (eB sub σ) H1)/\∀i m ys σ H,W i m ys σ H->
 (J.stop i H/\ys.length<=sizeLine/\∀D,H D=none->Q (.ref D) (upd H D (.lst ys)))\/
 (J.go i H/\ys.length<sizeLine/\∃Nx:List V->St->Hp->Prop,(∀ys' σ' H',Nx ys' σ' H'->∃m',m'<m/\W (i+1) m' ys' σ' H')/\
  ∀x H',J.yld i H x H'->g x σ H' λσ2 H2=>tc σ2 H2 λb H3=>if b=true then te σ2 H3 λy H4=>Nx (ys++[y]) σ2 H4 else Nx ys σ2 H3)
def gW(wi:TI)(sub:Kd)(g:TG)(tc:TT)(te:TE):TE:=λσ H Q=>wi σ H λJ H1=>LcW J sub g tc te σ H1 Q
abbrev xJ:TT:=λ_ H Q=>Q true H
section
variable{prog:Program}{w:World}{A:Around}{R:Result->Shared->Prop}{s:Shared}
def oh{db target al:Expr}{ifs:List Expr}{scope:Scope}{pos:Pos}{it acc:Value}{env:Env}(I:Nat->Shared->Prop)
 (turn
  : ∀n s,I n s->wpAny (model prog w) A (pyNext it) (λr s₁=>match r with
  |none=>R (.ok .next) s₁
  |some v=>wpAny (model prog w) A (letOwnedTupleGo target it v) (λ_ s₁'=>wpAny (model prog w) A (assign target env v) (λ_ s₂=>
   wpAny (model prog w) A (forIn ifs true λc r=>if r=true then do let ok <- isTrue c env (eval c env);pure (ForInStep.yield ok) else pure (ForInStep.yield r))
    (λok s₃=>if ok=true then wpAny (model prog w) A (eval db env) (λx s₄=>wpAny (model prog w) A (call (.builtin "list.append") [acc,x]) (λ_ s₅=>∃m,m<n/\I m s₅) (λ_ _=>False) s₄) (λ_ _=>False) s₃
     else ∃m,m<n/\I m s₃) (λ_ _=>False) s₂) (λ_ _=>False) s₁') (λ_ _=>False) s₁) (λ_ _=>False) s)
 (n:Nat) (h:I n s):
 codeAny (model prog w) A (.compLoop (.ListComp db [⟨target,al,ifs,0⟩] scope pos) 0 it acc env) R s:=by
 refine codeAny_loop rfl I (λn s hI=>?_) n h
 show wpAny _ _ ((compTurn (.ListComp db [⟨target,al,ifs,0⟩] scope pos) 0 it acc env).onRaise (λx=>do noteFrame x env;theTreesLotGoes x)) _ _ s
 refine wpAny_noted ?_
 rw[compTurn_list]
 refine HZ (E:=λ_ _=>False) ?_ (λ_ _ q=>q) λ_ _ q=>q.elim
 refine l_ (JW (l_ (HZ (turn n s hI) (λr s₁ h₁=>?_) λ_ _ h'=>h')))
 cases r with
 |none=>exact A_ h₁
 |
  some v=>
  refine l_ (HZ h₁ (λ_ s₁' h₁'=>?_) λ_ _ h'=>h')
  refine l_ (HZ h₁' (λ_ s₂ h₂=>?_) λ_ _ h'=>h')
  refine l_ (HZ h₂ (λok s₃ h₃=>?_) λ_ _ h'=>h')
  cases ok with
  |
   true=>
   simp only[Jx] at h₃ ⊢
   refine l_ (l_ (HZ h₃ (λx s₄ h₄=>?_) λ_ _ h'=>h'))
   refine l_ (HZ h₄ (λ_ s₅ h₅=>?_) λ_ _ h'=>h')
   exact A_ (A_ ⟨rfl,h₅⟩)
  |
   false=>
   simp only[Jr,JU] at h₃ ⊢
   first
    |exact l_ (A_ (A_ ⟨rfl,h₃⟩))
    |exact A_ ⟨rfl,h₃⟩
end
section
variable{X:Cx}
def PTs(X:Cx)(ifs:List Expr)(t:TT):Prop:=
 ∀
  (pins:Kb) (s:Shared) (σ:St) (H:Hp) (Q:Bool->Hp->Prop),Inv X pins σ H s->t σ H Q->
  wpAny (model X.prog X.w) X.A (forIn ifs true λc r=>if r=true then do let ok <- isTrue c X.env (eval c X.env);pure (ForInStep.yield ok) else pure (ForInStep.yield r)) (TP X pins σ Q) X.xe s
def qV:PTs X [] (λ_ H Q=>Q true H):=λpins s σ H Q I h=>by
 rw[List.forIn_nil]
 exact A_ ⟨H,I,h⟩
structure LcEnd(X:Cx)(pins:Kb)(σ:St)(Q:VK)(D C:Addr)(s4:Shared):Prop where
 ns:∃m,s4.heap.Ns C m
 dc:D<C
 fr:X.env.locals<D
 cell:∀x c,X.env.cells.lookup x=some c->c<D
 pin:∀p∈X.pn++pins,p.1<D
 sz:X.s₀.heap.objs.size<=D
 inv:∃H',H' C=none/\Q (.ref D) H'/\∀h',Heap.SameBut C s4.heap h'->Inv X pins σ H' { s4 with heap:=h' }
def qU{db al tg:Expr}{ifs:List Expr}{scope:Scope}{pos:Pos}{wi:TI}{g:TG}{tc:TT}{te:TE}{N:List Str}{sub:Kd}{use:Option (Value->Sem Unit)}{R:Kc}{pins:Kb}{s:Shared}{σ:St}{H:Hp}{Q:VK}{fpos:Pos}
 (hc:X.calm=true) (hi:PI X tg al wi)
 (hk:scope.kind=.function) (hnc:∀x∈scope.names,x.2 ≠ .cell) (bi:∀x∈scope.names,x.2=.local->scope.names.lookup x.1=some .local)
 (hfr:∀x∈scope.names,x.2=.free->X.env.kindOf x.1=some .cell\/X.env.kindOf x.1=some .free)
 (hsl:sub.length=N.length) (ci:∀(j i:Nat) (x:Str),sub[j]?=some (some i)->N[j]?=some x->X.N[i]?=some x/\scope.names.lookup x=some .free)
 (hg:∀cl C s₂ H fp,PG (aC X N scope cl C s₂ H fp) tg g) (ht:∀cl C s₂ H fp,PTs (aC X N scope cl C s₂ H fp) ifs tc) (he:∀cl C s₂ H fp,PE (aC X N scope cl C s₂ H fp) db te)
 (hs:∀x,foldedSetIterable al X.env x=pure x) (I:Inv X pins σ H s) (h:gW wi sub g tc te σ H Q)
 (d_:∀D C s4,LcEnd X pins σ Q D C s4->compPost (model X.prog X.w) X.A X.xe use R (.ref D) C (.ok .next) s4):
 wpAny (model X.prog X.w) X.A (comprehension (.ListComp db [⟨tg,al,ifs,0⟩] scope pos) scope X.env fpos (newList []) false (eval al X.env) use) R X.xe s:=by
 obtain⟨cl,hclos,hcl,hclf⟩:=mK (env:=X.env) (scope:=scope) λx hx hf=>I.ok.has x.1 (hfr x hx hf)
 refine wpAny_comprehension_free rfl hs hclos hk bi ?_
 show wpAny _ _ (eval al X.env) _ _ _
 refine thn (hi pins s σ H _ I h) λv s1 h1=>thn h1 λitv s2 h2=>?_
 obtain⟨it,fp,tn,J,H2,e,I2,T,st2,f2,W,⟨m0,w0⟩,turn⟩:=h2
 subst e
 refine IP (wpAny_newFunctionEnv hnc (by intro y hy;simp at hy) (λh₁ hns₁ hsb₁=>?_) hk)
 dsimp only at hns₁ hsb₁ ⊢
 generalize hH2:s2.heap.push { cls:=.type "list",dict:=none,data:=.seq ([]:List Value).toArray }=G2 at hns₁ hsb₁ ⊢
 have hC:G2.objs.size=s2.heap.objs.size+1:=by rw[<- hH2,Heap.size_push]
 have hDC:s2.heap.objs.size≠G2.objs.size:=by omega
 have below:∀b,b<s2.heap.objs.size->b≠G2.objs.size/\b≠s2.heap.objs.size:=λb hb=>⟨by omega,by omega⟩
 have old:∀b o,s2.heap.get? b=some o->h₁.get? b=some o:=λb o e=>hsb₁.extBut b o (below b (s_ e)).1 (p_ _ (hH2 ▸ p_ _ e))
 have hD₁:h₁.get? s2.heap.objs.size=some { cls:=.type "list",dict:=none,data:=.seq ([]:List Value).toArray }:=hsb₁.extBut _ _ hDC (p_ _ (hH2 ▸ Ic _ rfl))
 have fresh:∀a,s2.heap.objs.size<=a->s2.heap.get? a=none:=λa ha=>JI ha
 have cellOld:∀x c,cl.lookup x=some c->c<s2.heap.objs.size:=λx c e=>by
  obtain⟨v,z⟩:=I2.cell x c (hcl x c e)
  exact z.lt
 have fpOld:∀b∈fp,b<s2.heap.objs.size:=λb hb=>by
  obtain⟨o,e,_⟩:=T.obj _ _ st2 b hb
  exact s_ e
 let Y:Cx:=aC X N scope cl G2.objs.size s2 H2 fp
 have okY:Y.Ok
  := by
  refine⟨I2.ok.mod,?_,I2.ok.glob,I2.ok.blt,?_,λx y c e1 e2=>I2.ok.inj x y c (hcl x c e1) (hcl y c e2),λx hx=>?_,λx c hfn _=>absurd hfn n_,I2.ok.hd,I2.ok.frames,.inl rfl,
   λb hb=>⟨?_,λx c e z=>?_⟩,I2.bs,w_ I2.ok.bsz I2.sz,λb o e hb=>?_,λb hb hf=>?_,I2.stack,I2.stkFree⟩
  ·show (relabel scope X.env).kind=.function
   exact hk
  ·show s2.heap.objs.size<=G2.objs.size
   omega
  ·have hx':(
    relabel scope X.env).names.lookup x=some .cell\/(relabel scope X.env).names.lookup x=some .free:=hx
   have:∃k,
    (x,k)∈scope.names/\k=.free:=by
    have gen:∀(names:List (Str×NameKind)),(∀y∈names,y.2 ≠ .cell)->∀kk,(kk=NameKind.cell\/kk=NameKind.free)->(names.map λ(n,k)=>if (k==NameKind.free&&X.env.scope.kind == .function&&X.env.kindOf n==some .cell) then (n,NameKind.cell) else (n,k)).lookup x=some kk->∃k,(x,k)∈names/\k=.free:=by
     intro names
     induction names with
     |nil=>intro _ kk _ e;simp at e
     |
      cons y r ih=>
      intro hn kk hkk e
      obtain⟨n,k⟩:=y
      rw[D_,IF] at e
      by_cases hkf:k=.free
      ·subst hkf
       by_cases hxn:x=n
       ·exact⟨.free,by rw[hxn];exact k_,rfl⟩
       ·have hb:(x==(if (NameKind.free==NameKind.free&&X.env.scope.kind == .function&&X.env.kindOf n==some .cell)=true then (n,NameKind.cell) else (n,NameKind.free)).1)=false:=by
         split <;> exact v_.mpr hxn
        rw[hb] at e
        obtain⟨k',m,q⟩:=ih (λz hz=>hn z (i_ _ hz)) kk hkk e
        exact⟨k',i_ _ m,q⟩
      ·have hb0:(k==NameKind.free&&X.env.scope.kind == .function&&X.env.kindOf n==some .cell)=false:=by
        have:(k==NameKind.free)=false:=by simpa using hkf
        rw[this];rfl
       rw[hb0] at e
       simp only[Jr,JU] at e
       cases q:x==n with
       |
        true=>
        rw[q] at e
        have e':k=kk:=C_ e
        subst e'
        rcases hkk with z |z
        ·exact absurd z (hn (n,k) k_)
        ·exact absurd z hkf
       |
        false=>
        rw[q] at e
        obtain⟨k',m,q⟩:=ih (λz hz=>hn z (i_ _ hz)) kk hkk e
        exact⟨k',i_ _ m,q⟩
    rcases hx' with z |z
    ·exact gen scope.names hnc _ (.inl rfl) z
    ·exact gen scope.names hnc _ (.inr rfl) z
   obtain⟨k,m,q⟩:=this
   exact hclf (x,k) m q
  ·show b≠G2.objs.size
   exact (below b (fpOld b hb)).1
  ·exact (f2 b hb).2.2.2.2.1 x c (hcl x c e) z
  ·rcases (f2 b hb).2.2.2.1 with z |z
   ·exact I2.ok.noex b o e z
   ·exact absurd (t_ (s_ e) (w_ I2.ok.bsz z)) (Ih _)
  ·have hf':b∈frs X.stack:=hf
   rcases G_.mp (I2.stkSub b hf') with z |z
   ·exact (f2 b hb).2.1 z
   ·exact (f2 b hb).2.2.1 z
 have startLoc
  : ∃m,h₁.Ns G2.objs.size m/\∀(i:Nat) (x:Str) (v:V),N[i]?=some x->(eB sub σ)[i]?=some (some v)->Vis (relabel scope X.env) x->∃u,RelV v u/\Look Y.env h₁ m x u:=by
  refine⟨_,hns₁,λj x v e1 e2 e3=>?_⟩
  unfold eB at e2
  rw[Em] at e2
  cases q:sub[j]? with
  |none=>rw[q] at e2;cases e2
  |
   some o=>
   rw[q] at e2
   cases o with
   |none=>cases e2
   |
    some i=>
    obtain⟨hNi,hfree⟩:=ci j i x q e1
    have e2':(σ[i]?).bind id=some v:=C_ e2
    have e2'':σ[i]?=some (some v):=by
     cases z:σ[i]? with
     |none=>rw[z] at e2';cases e2'
     |some y=>rw[z] at e2';rw[show y=some v from e2']
    obtain⟨m2,hn2,hl2⟩:=I2.loc
    have hkx:=hfr (x,.free) (Iu hfree) rfl
    obtain⟨u,r,l⟩:=hl2 i x v hNi e2'' (by rcases hkx with z |z;exact .inr (.inl z);exact .inr (.inr z))
    refine⟨u,r,.inr ⟨?_,?_⟩⟩
    ·rcases e3
      with z |z |z
     ·exfalso
      have gen:∀(names:List (Str×NameKind)),names.lookup x=some .free->(names.map λ(n,k)=>if (k==NameKind.free&&X.env.scope.kind == .function&&X.env.kindOf n==some .cell) then (n,NameKind.cell) else (n,k)).lookup x=some .local->False:=by
       intro names
       induction names with
       |nil=>intro e _;simp at e
       |
        cons y r ih=>
        intro e1 e2
        obtain⟨n,k⟩:=y
        rw[IF] at e1
        rw[D_,IF] at e2
        by_cases hxn:x=n
        ·have hb1:(x==n)=true:=H_.mpr hxn
         rw[hb1] at e1
         have:k=.free:=C_ e1
         subst this
         split at e2
         ·rename_i hq
          split at e2 <;> cases e2
         ·rename_i hq
          split at hq <;> (rw[hb1] at hq;cases hq)
        ·have hb1:(x==n)=false:=v_.mpr hxn
         rw[hb1] at e1
         refine ih e1 ?_
         split at e2
         ·rename_i hq
          split at hq <;> (rw[hb1] at hq;cases hq)
         ·exact e2
      exact gen scope.names hfree z
     ·exact .inl z
     ·exact .inr z
    ·obtain⟨c,hc'⟩:=hclf (x,.free) (Iu hfree) rfl
     refine⟨c,hc',?_⟩
     rcases l with ⟨k,_⟩ |⟨_,c2,ec2,z⟩
     ·rcases hkx with z |z <;> (rw[k] at z;cases z)
     ·have:=hcl x c hc'
      rw[ec2] at this
      cases this
      obtain⟨oc,hoc,hd⟩:=z
      exact⟨oc,old _ _ hoc,hd⟩
 have pinD:∀{σ':St}{H':Hp}{s':Shared}{pl:Kb}{o:Obj},Inv Y pl σ' H' s'->s'.heap.get? s2.heap.objs.size=some o->(∀v,o.data ≠ .cell v)->H' s2.heap.objs.size=none->Inv Y [(s2.heap.objs.size,o)] σ' H' s':=λ{σ' H' s' pl o} IY e d n=>
  IY.pins_of λp hp=>by
   have e':p=(s2.heap.objs.size,o):=by simpa using hp
   subst e'
   refine⟨e,n,?_,?_,d⟩
   ·show s2.heap.objs.size≠G2.objs.size
    omega
   ·intro hf
    have hf':s2.heap.objs.size∈frs X.stack:=hf
    obtain⟨_,o',ho',_⟩:=I2.stack.mem hf'
    exact absurd (s_ ho') (Ih _)
 have fpY:∀{H':Hp}{pl:Kb},(∀b∈fp,H' b=none)->(∀p∈pl,p.1∉fp)->∀b∈fp,jB Y pl H' b:=λ{H' pl} hn hp b hb=>by
  refine⟨hn b hb,?_,?_,.inl hb,λx c e=>?_,λp hp'=>?_⟩
  ·exact (okY.exf b hb).1
  ·exact okY.exfs b hb
  ·exact (okY.exf b hb).2 x c e
  ·intro z
   have hp'':p∈pl:=by simpa [Y,aC] using hp'
   exact hp p hp'' (by rw[z];exact hb)
 have hDfp:s2.heap.objs.size∉fp:=λz=>Ih _ (fpOld _ z)
 have loop
  : ∀s₃:Shared,s₃={ s2 with heap:=h₁,toks:=s2.toks+([]:List (Str×Value)).length }->
  codeAny (model X.prog X.w) X.A (.compLoop (.ListComp db [⟨tg,al,ifs,0⟩] scope pos) 0 (.ref it) (.ref s2.heap.objs.size) (compEnvC scope cl G2.objs.size X.env))
   (compPost (model X.prog X.w) X.A X.xe use R (.ref s2.heap.objs.size) G2.objs.size) s₃:=by
  rintro s₃ rfl
  have IY0:Inv Y [(s2.heap.objs.size,{ cls:=.type "list",dict:=none,data:=.seq ([]:List Value).toArray })] (eB sub σ) H2 { s2 with heap:=h₁,toks:=s2.toks+([]:List (Str×Value)).length }:=by
   have J0:Inv Y [] (eB sub σ) H2 { s2 with heap:=h₁,toks:=s2.toks+([]:List (Str×Value)).length }:=by
    refine⟨okY,rfl,I2.bare,Un.kept old,startLoc,λx c e=>?_,I2.hok.fresh (by show s2.heap.objs.size<=G2.objs.size;omega),λx c e=>I2.freeC x c (hcl x c e),λp hp=>absurd (show p∈([]:Kb) from hp) (by simp),I2.hok.kept old,?_⟩
    ·obtain⟨v,oc,hoc,hd⟩:=I2.cell x c (hcl x c e)
     exact⟨v,oc,old _ _ hoc,hd⟩
    ·show (eB sub σ).length=N.length
     unfold eB
     rw[g_];exact hsl
   exact pinD J0 hD₁ (λv z=>by cases z) I2.fresh
  refine oh (λn s'=>∃(i:Nat) (ys:List V) (its:List Value) (k:Nat) (σ':St) (H':Hp),Inv Y [(s2.heap.objs.size,{ cls:=.type "list",dict:=none,data:=.seq its.toArray k })] σ' H' s'/\Vals ys its/\tn i s'.heap/\(∀b∈fp,H' b=none)/\W i n ys σ' H') ?_ m0
   ⟨0,[],[],0,eB sub σ,H2,IY0,.nil,T.keep _ _ _ st2 (λb hb o e=>old b o e),λb hb=>(f2 b hb).1,w0⟩
  rintro n s3 ⟨i,ys,its,k,σ3,H3,I3,rv,st3,fr3,w3⟩
  have npl:∀(o:Obj),∀p∈[(s2.heap.objs.size,o)],p.1∉fp:=λo p hp=>by
   have e':p=(s2.heap.objs.size,o):=by simpa using hp
   subst e'
   exact hDfp
  rcases turn i n ys σ3 H3 w3 with ⟨stop,hz,qn⟩ |⟨go,hz,Nx,hNx,step⟩
  ·refine HZ (T.done Y rfl rfl rfl hc i _ s3 σ3 H3 (λ_ _=>False) I3 (fpY fr3 (npl _)) st3 stop) (λr s4 ⟨hr,I4⟩=>?_) λ_ _ z=>z
   subst hr
   obtain⟨m4,hn4,_⟩:=I4.loc
   have hCfree:H3 G2.objs.size=none:=I4.free
   have hD4:=I4.pin (s2.heap.objs.size,{ cls:=.type "list",dict:=none,data:=.seq its.toArray k }) (HV _ k_)
   have un4:Un (frs X.stack) fp H2 H3 s2.heap s4.heap:=I4.base
   have ne2:∀b o,s2.heap.get? b=some o->b≠G2.objs.size:=λb o e=>(below b (s_ e)).1
   have hDfree:H3 s2.heap.objs.size=none:=hD4.2.1
   have sz0:X.s₀.heap.objs.size<=s2.heap.objs.size:=I2.sz
   refine d_ s2.heap.objs.size G2.objs.size s4 ⟨⟨m4,hn4⟩,by rw[hC];exact Nat.lt_succ_self _,I2.lt,λx c e=>?_,λp hp=>s_ (I2.pin p hp).1,sz0,upd H3 s2.heap.objs.size (.lst ys),by rw[ay (Ne.symm hDC)];exact hCfree,qn _ hDfree,λh' hs'=>?_⟩
   ·obtain⟨v,q⟩:=I2.cell x c e
    exact q.lt
   have up:∀b o,b≠G2.objs.size->s4.heap.get? b=some o->h'.get? b=some o:=λb o hb e=>hs'.extBut b o hb e
   have un5:Un (frs X.stack) fp H2 H3 s2.heap h':=by
    refine⟨λb o e n hb hx=>up b o (ne2 b o e) (un4.keep b o e n hb hx),λb o e n hb hx=>?_,un4.free,λb o e hx=>?_,un4.tups,un4.frzs,un4.tbls⟩
    ·obtain⟨sl,q⟩:=un4.slot b o e n hb hx
     exact⟨sl,up b _ (ne2 b o e) q⟩
    ·obtain⟨o',q⟩:=un4.there b o e hx
     exact⟨o',up b _ (ne2 b o e) q⟩
   have hok5:HOk X.prog X.w H3 h':=λb u e=>(I4.hok b u e).stay (λc v hcc q=>up c v (λz=>by
    rcases hcc with zz |zz
    ·rw[zz] at z;rw[z,hCfree] at e;cases e
    ·rw[z,hCfree] at zz;cases zz) q) (λ_ q=>q) λ_ _ q=>q
   have I5:Inv X pins σ H3 { s4 with heap:=h' }:=I2.call' (s':={ s4 with heap:=h' }) (ch:=fp) I4.os un5 hok5 I4.bare λb hb=>by
    obtain⟨_,g1,_,g3,g4,g5⟩:=f2 b hb
    exact⟨g3,g1,g4,g5⟩
   refine I5.track (o:=.lst ys) hDfree (JI sz0) (Nat.ne_of_gt I2.lt) (λx c e z=>?_) (λp hp z=>?_) ?_
   ·obtain⟨v,q⟩:=I2.cell x c e
    exact absurd q.lt (by rw[z];exact Ih _)
   ·exact absurd (s_ (I2.pin p hp).1) (by rw[z];exact Ih _)
   ·exact⟨hz,its,k,rv,up _ _ hDC hD4.1⟩
  ·refine HZ (T.item Y rfl rfl rfl hc i _ s3 σ3 H3 (λ_ _=>False) I3 (fpY fr3 (npl _)) st3 go) (λr s4 ⟨u,hr,h4⟩=>?_) λ_ _ z=>z
   subst hr
   refine HZ h4 (λ_ s5 ⟨x,H5,I5,r5,y5,st5,fr5⟩=>?_) λ_ _ z=>z
   have I5':=I5.pinned (fpY fr5 (npl _)) (T.obj _ _ st5)
   refine HZ (hg cl G2.objs.size s2 H2 fp _ s5 σ3 H5 x u _ I5' r5 (step x H5 y5)) (λ_ s6 ⟨σ6,H6,I6,q6⟩=>?_) λ_ _ z=>z
   refine HZ (ht cl G2.objs.size s2 H2 fp _ s6 σ6 H6 _ I6 q6) (λok s7 ⟨H7,I7,q7⟩=>?_) λ_ _ z=>z
   have back:∀{σ':St}{H':Hp}{s':Shared},Inv Y ([(s2.heap.objs.size,{ cls:=.type "list",dict:=none,data:=.seq its.toArray k })]++iE fp s5.heap) σ' H' s'->tn (i+1) s'.heap/\∀b∈fp,H' b=none:=λ{σ' H' s'} IB=>by
    refine⟨T.keep _ _ _ st5 λb hb o e=>(IB.pin (b,o) (HV _ (HV _ (eP hb e)))).1,λb hb=>?_⟩
    obtain⟨o,e,d⟩:=T.obj _ _ st5 b hb
    exact (IB.pin (b,o) (HV _ (HV _ (eP hb e)))).2.1
   cases ok with
   |
    false=>
    rw[if_neg n_] at q7
    obtain⟨m',hm,w7⟩:=hNx _ _ _ q7
    rw[if_neg n_]
    obtain⟨t7,f7⟩:=back I7
    exact⟨m',hm,i+1,ys,its,k,σ6,H7,I7.unpinned,rv,t7,f7,w7⟩
   |
    true=>
    rw[if_pos rfl] at q7
    rw[if_pos rfl]
    refine HZ (he cl G2.objs.size s2 H2 fp _ s7 σ6 H7 _ I7 q7) (λy s8 ⟨yv,H8,I8,r8,q8⟩=>?_) λ_ _ z=>z
    obtain⟨m',hm,w8⟩:=hNx _ _ _ q8
    obtain⟨t8,f8⟩:=back I8
    have I9:=I8.unpinned
    have hD9:=I9.pin (s2.heap.objs.size,{ cls:=.type "list",dict:=none,data:=.seq its.toArray k }) (HV _ k_)
    have e9:s8.heap.get? s2.heap.objs.size=some { cls:=.type "list",dict:=none,data:=.seq its.toArray k }:=hD9.1
    have be:=rv.length
    refine call_meets F.slot_list_append ⟨_,e9,rfl⟩ F.entry_list_append (F.args_list_append_2 _ _) (PySem.list_append _ its.toArray k y (by rw[u_];omega)) ⟨e9,?_⟩
    have q9:=PySem.IsL.update e9 (λxs=>xs.push y)
    have ea:its.toArray.push y=(its++[y]).toArray:=by simp
    rw[ea] at q9
    have k9:∀b o,b≠s2.heap.objs.size->s8.heap.get? b=some o->(s8.heap.update s2.heap.objs.size (Obj.mapSeq λxs=>xs.push y)).get? b=some o:=λb o hb e=>(JB _ _ (Ne.symm hb)).trans e
    have I10:Inv Y [] σ6 H8 { s8 with heap:=s8.heap.update s2.heap.objs.size (Obj.mapSeq λxs=>xs.push y) }:=
     (I9.pins_of (pins':=[]) (λp hp=>nomatch hp)).turned (t':=s8.toks) k9 hD9.2.1 hD9.2.2.1 (.inr (j_ _)) (λx c e z=>absurd (cellOld x c e) (by rw[z];exact Ih _))
      (λp hp=>absurd (show p∈([]:Kb) from hp) (by simp))
    refine⟨m',hm,i+1,ys++[yv],its++[y],_,σ6,H8,pinD I10 q9 (λv z=>by cases z) hD9.2.1,rv.append (.cons r8 .nil),?_,f8,w8⟩
    exact T.keep _ _ _ t8 λb hb o e=>k9 b o (λz=>hDfp (by rw[<- z];exact hb)) e
 exact codeAny_compStart_list (loop _ rfl) (T.self _ 0 _ _ _ (T.keep _ _ _ st2 λb hb o e=>old b o e) (loop _ rfl))
def EF{db al tg:Expr}{ifs:List Expr}{scope:Scope}{pos:Pos}{wi:TI}{g:TG}{tc:TT}{te:TE}{N:List Str}{sub:Kd}
 (hc:X.calm=true) (hi:PI X tg al wi)
 (hk:scope.kind=.function) (hnc:∀x∈scope.names,x.2 ≠ .cell) (bi:∀x∈scope.names,x.2=.local->scope.names.lookup x.1=some .local)
 (hfr:∀x∈scope.names,x.2=.free->X.env.kindOf x.1=some .cell\/X.env.kindOf x.1=some .free)
 (hsl:sub.length=N.length) (ci:∀(j i:Nat) (x:Str),sub[j]?=some (some i)->N[j]?=some x->X.N[i]?=some x/\scope.names.lookup x=some .free)
 (hg:∀cl C s₂ H fp,PG (aC X N scope cl C s₂ H fp) tg g) (ht:∀cl C s₂ H fp,PTs (aC X N scope cl C s₂ H fp) ifs tc) (he:∀cl C s₂ H fp,PE (aC X N scope cl C s₂ H fp) db te)
 (hs:∀x,foldedSetIterable al X.env x=pure x):
 PE X (.ListComp db [⟨tg,al,ifs,0⟩] scope pos) (gW wi sub g tc te):=by
 intro pins s σ H Q I h
 rw[eval_ListComp]
 refine qU hc hi hk hnc bi hfr hsl ci hg ht he hs I h λD C s4 e=>?_
 obtain⟨m,hm⟩:=e.ns
 obtain⟨H',_,q,i⟩:=e.inv
 exact⟨m,hm,λh' hs'=>⟨.ref D,H',i h' hs',rfl,q⟩⟩
def eA(M:List Str)(names:List (Str×NameKind))(sub:Kd)(N:List Str):Bool:=(sub.zip N).all λp=>match p.1 with
 |none=>true
 |some i=>M[i]?==some p.2&&names.lookup p.2==some .free
def nN{M:List Str}{names:List (Str×NameKind)}{sub:Kd}{N:List Str}(h:eA M names sub N=true)(j i:Nat)(x:Str)(h1:sub[j]?=some (some i))(h2:N[j]?=some x):
 M[i]?=some x/\names.lookup x=some .free:=by
 unfold eA at h
 rw[HU] at h
 have hm:(some i,x)∈sub.zip N:=by
  refine Jh (i:=j) ?_
  rw[List.getElem?_zip_eq_some]
  exact⟨h1,h2⟩
 have q:=h _ hm
 simp only[m_,H_] at q
 exact q
def fS(kn names:List (Str×NameKind)):Bool:=names.all λx=>x.2 != .free || kn.lookup x.1==some .cell || kn.lookup x.1==some .free
def qb{kn names:List (Str×NameKind)}(h:fS kn names=true):∀x∈names,x.2=.free->kn.lookup x.1=some .cell\/kn.lookup x.1=some .free:=λx hx hf=>by
 unfold fS at h
 rw[HU] at h
 have q:=h x hx
 rw[hf] at q
 simpa using q
def GV{db al tg:Expr}{scope:Scope}{pos:Pos}{wi:TI}{g:TG}{te:TE}(M:List Str)(kn:List (Str×NameKind))(N:List Str)(sub:Kd)
 (hc:X.calm=true) (hi:PI X tg al wi)
 (hg:∀cl C s₂ H fp,PG (aC X N scope cl C s₂ H fp) tg g) (he:∀cl C s₂ H fp,PE (aC X N scope cl C s₂ H fp) db te)
 (hM:X.N=M) (hkn:X.env.scope.names=kn) (ci:eA M scope.names sub N=true)
 (hk:scope.kind=.function) (hnc:∀x∈scope.names,x.2 ≠ .cell) (bi:∀x∈scope.names,x.2=.local->scope.names.lookup x.1=some .local)
 (hfr:fS kn scope.names=true)
 (hsl:sub.length=N.length) (hs:∀x,foldedSetIterable al X.env x=pure x):
 PE X (.ListComp db [⟨tg,al,[],0⟩] scope pos) (gW wi sub g xJ te):=
 EF hc hi hk hnc bi (by subst hkn;exact qb hfr) hsl (by subst hM;exact nN ci) hg (λcl C s₂ H fp=>qV) he hs
end
end L2
namespace L2
open PySem PySem.Spec PyProof.Rows PySem.W PySem.Builtin PySem.Builtin.ObjectAttr PySem.Builtin.Getset_descriptor
structure XCls(K:W.Frag)(C:Addr):Prop where
 cls:(clsIn K C).isSome=true
 ga:findIn K (.ref C) "__getattribute__"=some (some (.builtin "BaseException.__getattribute__"))
 gt:findIn K (.ref C) "__getattr__"=some none
 at_:findIn K (.ref C) "__class__"=some (some (.builtin "object.__class__"))
 gs:specialIn K (.builtin "object.__class__") "__get__"=some (some (.builtin "getset_descriptor.__get__"))
 tk:takesIn K (.builtin "object.__class__")=some true
 mo:mroIn K C (.type "object")=some true
 mb:mroIn K C (.type "BaseException")=some true
section
variable{prog:Program}{w:World}{A:Around}{E:Kc}{K:W.Frag}{x C:Addr}{o:Obj}
noncomputable def gD(hx:h.get? x=some o)(hc:o.cls=.ref C):Looks M h (typeOf (.ref x)) (.ref C):=hc ▸ (Looks.ld hx).andThen .now
noncomputable def vH(X:K.In h)(T:XCls K C):Looks M h (find (.ref x) (.ref C) "__class__") (.bind (.builtin "getset_descriptor.__get__") (.builtin "object.__class__")):=by
 have L1:=looks_findIn (M:=M) X T.at_
 have L2:Looks M h (getOf (some (.builtin "object.__class__"))) (some (.builtin "getset_descriptor.__get__")):=looks_specialIn X T.gs
 have L3:=looks_takesIn (M:=M) X T.tk
 refine L1.andThen (L2.andThen ?_)
 exact (show Looks M h (dataDescriptor? (some (.builtin "object.__class__")) (some (.builtin "getset_descriptor.__get__"))) (some (.builtin "getset_descriptor.__get__",.builtin "object.__class__")) from L3.andThen .now).andThen (Looks.tag .now)
def mL(X:K.In s.heap)(hx:s.heap.get? x=some o)(hc:o.cls=.ref C)(T:XCls K C)
 (h:R (.ok (.ret (.ref C))) s):codeAny (model prog w) A (.call (.builtin "getset_descriptor.__get__") ⟨[.builtin "object.__class__",.ref x,tp],[]⟩) R s:=by
 obtain⟨hh,g,dr,t,os⟩:=s
 have L0:=gD (M:=model prog w) hx hc
 have L1:=looks_mroIn (M:=model prog w) X T.mo
 refine codeAny_call_builtin KF.slot_gs.plain KF.entry_gs (KF.slot_gs.check _ _ _ _ _ _ _ _ KF.type_class (KF.args_gs _ _ _) ?_)
 unfold Builtin.«getset_descriptor.__get__» descrGet
 rw[dga_obj]
 refine l_ (A_ ?_)
 unfold descrGetter descrCheckInstance descrNameAndClass isInstance
 simp only[KF.owner_class]
 repeat lk
 refine⟨Code.quiet_builtin _ (by decide),codeAny_builtin KF.entry_class ?_⟩
 unfold Builtin.«object.__class__» shownTypeOf
 repeat lk
 exact h
def tH(X:K.In s.heap)(hx:s.heap.get? x=some o)(hc:o.cls=.ref C)(T:XCls K C)(hq:Q () s):
 wpAny M A (checkBuiltinCall "BaseException.__getattribute__" ⟨[.ref x,nameV],[]⟩) Q E s:=by
 obtain⟨h,g,dr,t,os⟩:=s
 have hk:builtinKind "BaseException.__getattribute__"=some .slot:=by decide
 have hsplit:splitId "BaseException.__getattribute__"=some ("BaseException", "__getattribute__"):=by decide
 have ha:=PySem.F.args_bexc_ga (.ref x) nameV
 have L0:=gD (M:=M) hx hc
 have LM:=looks_mroIn (M:=M) X T.mb
 have LI:Looks M h (isInstance (.ref x) (.type "BaseException")) true:=L0.andThen LM
 simp only[checkBuiltinCall,hk,hsplit]
 refine l_ ?_
 refine LI.at ?_
 repeat (first |wp_step)
 all_goals exact hq
def C4(X:K.In s.heap)(hx:s.heap.get? x=some o)(hc:o.cls=.ref C)(T:XCls K C)(h:Q (some (.ref C)) { s with toks:=s.toks+1 }):
 wpAny (model prog w) A (getAttr? (.ref x) "__class__") Q E s:=by
 obtain⟨hh,g,d,t,os⟩:=s
 have L0:=gD (M:=model prog w) hx hc
 have L1:=looks_findIn (M:=model prog w) X T.ga
 have L2:=looks_findIn (M:=model prog w) X T.gt
 have LF:=vH (M:=model prog w) (x:=x) X T
 have f3:=PySem.F.excAttr_ValueError.ga.bind (.ref x)
 have hx2:(Value.builtin "BaseException.__getattribute__" == Value.builtin "object.__getattribute__")=false:=by decide
 unfold getAttr? getAttrBy? getAttrBy
 refine l_ (wpAny_mkText (l_ (wpAny_attempt (Jm (l_ (L0.at (l_ (L1.at ?_))))))))
 dsimp only
 rw[if_neg (by rw[hx2];simp)]
 unfold getAttrByItsOwn hookBefore
 rw[if_pos (show onTheHeap (Value.ref C)=true from rfl)]
 refine l_ (L2.at ?_)
 unfold callGetattribute
 refine l_ (wpAny_attempt (Jm ?_))
 rw[if_neg (by simp)]
 unfold boundAndCalled
 refine l_ (wpAny_of_eq f3 ?_)
 refine wpAny_call (codeAny_call_builtin PySem.F.excAttr_ValueError.ga.plain PySem.F.entry_bexc_ga (tH X hx hc T ?_))
 unfold Builtin.«object.__getattribute__»
 repeat (first |(refine l_ (L0.at ?_)) |(refine l_ (LF.at ?_)) |wp_step)
 refine mL (s:=⟨hh,g,d,t+1,os⟩) X hx hc T ?_
 repeat (first |exact h |wp_step)
def vX(x:Addr)(C:Addr)(h:Heap):Prop:=∃o vs,h.get? x=some o/\o.cls=.ref C/\o.data=.fields vs
def xU(T:XCls K C):KitX K (.ref x) (.ref C) (vX x C) where
 ty:=λM h _ ⟨o,_,hx,hc,_⟩=>gD hx hc
 it:=λM h X _=>by
  obtain⟨cd,hcd⟩:=ID.mp T.cls
  unfold clsIn at hcd
  split at hcd
  ·rename_i c' d' cd' sl' ho
   intro A' Q' E' s' k q
   unfold isType loadHead
   exact l_ (wpAny_loadPart (k _ _ (X _ _ ho)) (A_ q))
  ·cases hcd
 ne:=λh tp dd its n sl X htp=>by
  obtain⟨cd,hcd⟩:=ID.mp T.cls
  refine Bool.eq_false_iff.mpr λq=>?_
  have e:C=tp:=Value.ref.inj (H_.mp q)
  subst e
  unfold clsIn at hcd
  split at hcd
  ·rename_i c' d' cd' sl' ho
   have z:=(X _ _ ho).symm.trans htp
   cases z
  ·cases hcd
 ca:=λX ⟨o,_,hx,hc,_⟩ k=>C4 X hx hc T k
end
inductive TyX(K:W.Frag)(H:Hp):V->Value->Prop where
 |of {x:V}{t:Value} (h:TyOf K H x t):TyX K H x t
 |exc {a C:Addr} (e:H a=some (.ext (vX a C))) (T:XCls K C):TyX K H (.ref a) (.ref C)
 |sqT {a:Addr}{xs:List V} (h:SqT K H a xs):TyX K H (.ref a) (.type "tuple")
 |sqL {a:Addr}{xs:List V} (h:SqL K H a xs):TyX K H (.ref a) (.type "list")
section
variable{X:Cx}{pins:Kb}{σ:St}{H:Hp}{s:Shared}{A:Around}{E:Kc}{Q:Kc}{c:Value}{b:Bool}
def qy(I:Inv X pins σ H s)(rx:RelV x u)(ty:TyX X.K H x t):∃Hh:Heap->Prop,KitX X.K u t Hh/\Hh s.heap/\u ≠ .builtin "__main__.__loader__#opaque":=by
 cases ty with
 |
  exc ea T=>
  cases (show u=Value.ref _ from rx)
  exact⟨_,xU T,(I.hok _ _ ea).1,λz=>nomatch z⟩
 |
  sqT h=>
  cases (show u=Value.ref _ from rx)
  obtain⟨its,rv,⟨o,e,c,_⟩,_⟩:=I.tuple h
  exact⟨_,kitx_tuple,⟨o,e,c⟩,λz=>nomatch z⟩
 |
  sqL h=>
  cases (show u=Value.ref _ from rx)
  obtain⟨its,rv,⟨o,n,e,c,_⟩,_⟩:=I.list h
  exact⟨_,kitx_list,⟨o,e,c⟩,λz=>nomatch z⟩
 |
  of ty=>
  cases ty with
  |non=>cases (show u=Value.none from rx);exact⟨_,kitx_none,True.intro,λz=>nomatch z⟩
  |bl y=>cases (show u=Value.bool y from rx);exact⟨_,kitx_bool,True.intro,λz=>nomatch z⟩
  |int i=>obtain⟨t,q⟩:=(show ∃t,u=Value.int i t from rx);cases q;exact⟨_,kitx_int,True.intro,λz=>nomatch z⟩
  |str y=>obtain⟨t,q⟩:=(show ∃t,u=Value.str y t from rx);cases q;exact⟨_,kitx_str,True.intro,λz=>nomatch z⟩
  |flt y=>obtain⟨t,q⟩:=(show ∃t,u=Value.float y t from rx);cases q;exact⟨_,kitx_float,True.intro,λz=>nomatch z⟩
  |
   @lst a xs ea=>
   cases (show u=Value.ref a from rx)
   obtain⟨_,_,n,_,h1⟩:=(show ObjOk X.prog X.w H s.heap a (.lst xs) from I.hok a _ ea)
   exact⟨_,kitx_list,⟨_,h1,rfl⟩,λz=>nomatch z⟩
  |
   @frz a ob xs ea=>
   cases (show u=Value.ref a from rx)
   obtain⟨_,_,_,n,_,h1⟩:=(show ObjOk X.prog X.w H s.heap a (.frz ob (.lst xs)) from I.hok a _ ea)
   exact⟨_,kitx_list,⟨_,h1,rfl⟩,λz=>nomatch z⟩
  |
   @tup a xs ea=>
   cases (show u=Value.ref a from rx)
   obtain⟨_,_,_,p⟩:=(show ObjOk X.prog X.w H s.heap a (.tup xs) from I.hok a _ ea)
   obtain⟨o,h1,h2,_⟩:=p
   exact⟨_,kitx_tuple,⟨o,h1,h2⟩,λz=>nomatch z⟩
  |
   @dK a kvs ea=>
   cases (show u=Value.ref a from rx)
   obtain⟨_,_,vs,_,p⟩:=(show ObjOk X.prog X.w H s.heap a (.dK kvs) from I.hok a _ ea)
   obtain⟨o,es,ep,h1,h2,_⟩:=p
   exact⟨_,kitx_dict,⟨o,h1,h2.1⟩,λz=>nomatch z⟩
  |
   @dT a kvs ea=>
   cases (show u=Value.ref a from rx)
   obtain⟨_,_,xs,_,o,es,ep,h1,h2,_⟩:=(show ObjOk X.prog X.w H s.heap a (.dT kvs) from I.hok a _ ea)
   exact⟨_,kitx_dict,⟨o,h1,h2.1⟩,λz=>nomatch z⟩
  |
   @ins a C dx fs ea cl ha hn htk hm=>
   cases (show u=Value.ref a from rx)
   obtain⟨mA,O,_⟩:=Ag I.hok ea
   obtain⟨od,J,_⟩:=O.look
   exact⟨_,kitx_own (cl.get _) cl.hd ha hn htk hm,J,λz=>nomatch z⟩
end
section
variable{X:Cx}
noncomputable def dO:V->Option Value
 |.ref C=>some (.ref C)
 |.ty T=>some (.type T)
 |_=>none
def oC(h:dO c=some v)(r:RelV c u):u=v:=by
 cases c with
 |ref C=>cases r;exact C_ h
 |ty T=>cases r;exact C_ h
 |_=>cases h
theorem lX:∀{cs:List V}{us vs:List Value},cs.mapM dO=some vs->Vals cs us->us=vs
 |
  [],_,vs,h,.nil=>by
  have h':some ([]:List Value)=some vs:=h
  exact C_ h'
 |
  c::cs,_,vs,h,.cons r rr=>by
  rw[Je] at h
  cases q:dO c with
  |none=>rw[q] at h;cases h
  |
   some v=>
   rw[q] at h
   cases q2:cs.mapM dO with
   |none=>rw[q2] at h;cases h
   |
    some vs'=>
    rw[q2] at h
    have h':some (v::vs')=some vs:=h
    cases h'
    rw[oC q r,lX q2 rr]
def xS:CallR X (.builtin "isinstance") (λxs H Q=>∃x c t v b,xs=[x,c]/\TyX X.K H x t/\dO c=some v/\kitOne X.K t v=some b/\Q (.bl b) H):=by
 intro pins s σ H xs us Q I r h
 obtain⟨x,c,t,v,b,rfl,ty,hc,hk,q⟩:=h
 obtain⟨u,w',rfl,rx,rc⟩:=mU r
 obtain rfl:=oC hc rc
 obtain⟨Hh,Z,p,hne⟩:=qy I rx ty
 exact kia_one Z I.kIn p hk hne λtk=>⟨.bl b,H,I.tok _,rfl,q⟩
end
end L2
namespace L2
open PySem PySem.Spec PyProof.Rows
def ObjOk.there(x:ObjOk P w H h a o):∃u,h.get? a=some u:=by
 cases o with
 |lst xs=>obtain⟨_,_,_,_,e⟩:=x;exact⟨_,e⟩
 |tup xs=>obtain⟨_,_,_,ob,e,_⟩:=x;exact⟨_,e⟩
 |dK kvs=>obtain⟨_,_,_,_,o,_,_,e,_⟩:=x;exact⟨_,e⟩
 |dT kvs=>obtain⟨_,_,_,_,o,_,_,e,_⟩:=x;exact⟨_,e⟩
 |set S n=>obtain⟨o,_,_,_,e,_⟩:=x;exact⟨_,e⟩
 |ins C dx fs=>obtain⟨_,_,_,e,_⟩:=x;exact⟨_,e⟩
 |own y=>exact x
 |xd fs=>obtain⟨_,⟨_,_,_,e,_⟩,_⟩:=x;exact⟨_,e⟩
 |rng lo hi=>obtain⟨_,_,_,e⟩:=x;exact⟨_,e⟩
 |frz ob u=>obtain⟨e,_⟩:=x;exact⟨_,e⟩
 |tbl ps=>exact⟨_,show h.get? a=some _ from x⟩
 |met f y=>exact⟨_,show h.get? a=some _ from x⟩
 |ext φ=>obtain⟨_,e,_⟩:=x;exact e
structure Fly(P:Program)(w:World)(outer:List Env)(H:Hp)(h₀:Heap)(H':Hp)(ea:Addr)(cls:Value)(h:Heap)(B:Heap)(t:Addr):Prop where
 un:Un (frs outer) [] H H' h₀ h
 hok:HOk P w H' h
 fl:Heap.FlyingW B outer ea cls (.ref t) h
 old:∀b o,h₀.get? b=some o->b∉frs outer->∃o',B.get? b=some o'
 trk:∀b o,H' b=some o->∃o',B.get? b=some o'
def CX1(P:Program)(w:World):CXT:=λouter H s E e s'=>∃(ea t:Addr) (cls:Value) (H':Hp) (B:Heap),e=.ref ea/\s'.os=s.os/\AllBare s'.gens/\Fly P w outer H s.heap H' ea cls s'.heap B t/\E cls none H'
def pz(h:env.frame=some L):frs (env::outer)=L::frs outer:=by
 unfold frs
 rw[IE,h]
section
variable{P:Program}{w:World}{outer:List Env}{H H':Hp}{h₀ h h' B:Heap}{ea t L:Addr}{cls:Value}
def Fly.step(F:Fly P w outer H h₀ H' ea cls h B t)(fl':Heap.FlyingW B outer' ea cls (.ref t) h')(up:h.UpToSlots h'):
 Un (frs outer) [] H H' h₀ h'/\HOk P w H' h':=by
 have st:=F.fl.1
 have same:∀b o,(∃o',B.get? b=some o')->h.get? b=some o->h'.get? b=some o:=λb o ⟨o',e⟩ q=>by
  have z:=st b o' e
  rw[q] at z;cases z
  exact fl'.1 b _ e
 have frame:∀b o,b∈frs outer->h.get? b=some o->∃sl,h'.get? b=some { o with slots:=sl }:=λb o hb q=>by
  obtain⟨_,o',ho',hd⟩:=F.fl.2.2.1.mem hb
  rw[q] at ho';cases ho'
  exact up b o q hd
 refine⟨⟨λb o e n hb hx=>same b o (F.old b o e hb) (F.un.keep b o e n hb hx),λb o e n hb hx=>?_,F.un.free,λb o e hx=>?_,F.un.tups,F.un.frzs,F.un.tbls⟩,λa o e=>?_⟩
 ·obtain⟨sl,q⟩:=F.un.slot b o e n hb hx
  obtain⟨sl',q'⟩:=frame b _ hb q
  exact⟨sl',q'⟩
 ·obtain⟨o',q⟩:=F.un.there b o e hx
  by_cases hb:b∈frs outer
  ·obtain⟨sl,q'⟩:=frame b _ hb q
   exact⟨_,q'⟩
  ·exact⟨o',same b o' (F.old b o e hb) q⟩
 ·refine (F.hok a o e).stay (λb u hb q=>same b u ?_ q) (λ_ q=>q) λ_ _ q=>q
  rcases hb with z |z
  ·rw[z];exact F.trk a o e
  ·exact F.trk b _ z
end
structure Cx.Top(X:Cx):Prop where
 ex:X.ex=[]
 stk:X.stack=X.env::X.outer
 fr:X.env.frame=some X.env.locals
section
variable{X:Cx}{pins:Kb}{σ:St}{H:Hp}{s s':Shared}{E:XK}{e:Value}
def uW(T:X.Top)(hA:A.frames=some X.stack)(I:Inv X pins σ H s)(h:CX1 X.prog X.w X.stack H s E e s'):
 wpAny (model X.prog X.w) A (leaving X.env e) (λ_ s''=>CX1 X.prog X.w X.outer X.H₀ X.s₀ E e s'') E' s':=by
 obtain⟨ea,t,cls,H',B,rfl,os,bare,F,q⟩:=h
 have F0:=F
 rw[T.stk] at F
 have hf:=pz (outer:=X.outer) T.fr
 refine wpAny_leaves_onW (by rw[hA,T.stk]) T.fr F.fl λh'' fl'' up=>?_
 obtain⟨un2,hok2⟩:=F.step fl'' up
 have exn:∀b,b∉X.ex:=λb z=>by rw[T.ex] at z;cases z
 have neL:∀b o,X.s₀.heap.get? b=some o->b≠X.env.locals:=λb o e=>HY (t_ (s_ e) I.ok.above)
 have notin:∀b o,X.s₀.heap.get? b=some o->b∉frs X.outer->b∉frs (X.env::X.outer):=λb o e hb z=>by
  rw[hf] at z
  rcases G_.mp z with z |z
  ·exact neL b o e z
  ·exact hb z
 refine⟨ea,t,cls,H',B,rfl,os.trans I.os,bare,⟨⟨λb o e n hb hx=>?_,λb o e n hb hx=>?_,λb o e n hx=>?_,λb o e hx=>?_,λb xs e=>un2.tups b xs (I.base.tups b xs e),λb o xs e=>un2.frzs b o xs (I.base.frzs b o xs e),λb ps e=>?_⟩,hok2,fl'',λb o e hb=>?_,F.trk⟩,q⟩
 ·exact un2.keep b o (I.base.keep b o e n hb (exn b)) (I.base.free b o e n (exn b)) (notin b o e hb) (by simp)
 ·obtain⟨sl,e1⟩:=I.base.slot b o e n hb (exn b)
  obtain⟨sl',e2⟩:=un2.slot b _ e1 (I.base.free b o e n (exn b)) (by rw[hf];exact i_ _ hb) (by simp)
  exact⟨sl',e2⟩
 ·obtain⟨o',e1⟩:=I.base.there b o e (exn b)
  exact un2.free b o' e1 (I.base.free b o e n (exn b)) (by simp)
 ·obtain⟨o',e1⟩:=I.base.there b o e (exn b)
  exact un2.there b o' e1 (by simp)
 ·obtain⟨m1,e1⟩:=I.base.tbls b ps e
  obtain⟨m2,e2⟩:=un2.tbls b _ e1
  exact⟨m1++m2,by rw[e2,Array.append_assoc]⟩
 ·obtain⟨o',e1⟩:=I.base.there b o e (exn b)
  exact F.old b o' e1 (notin b o e hb)
def xx(T:X.Top)(hA:A.frames=some X.stack)(I:Inv X pins σ H s)(hx:Heap.MadeExcOf s.heap h' ea cls args)(q:E cls none H):
 wpAny (model X.prog X.w) A (leaving X.env (.ref ea)) (λ_ s''=>CX1 X.prog X.w X.outer X.H₀ X.s₀ E (.ref ea) s'') E' { s with heap:=h' }:=by
 have hf:=pz (outer:=X.outer) T.fr
 have stk:=I.stack
 rw[T.stk] at stk
 have hin:∀env∈(X.env::X.outer),∀b,env.frame=some b->b∈frs (X.env::X.outer):=λenv he b hb=>List.mem_filterMap.mpr ⟨env,he,hb⟩
 refine wpAny_leaves_madeW (base:=W.hideAll s.heap (frs (X.env::X.outer))) (h:=s.heap) (by rw[hA,T.stk]) T.fr (λb o q=>W.of_hideAll _ q) (W.funFrames_hide stk hin) hx λh'' t fl tup tn up=>?_
 have inB:∀b o,s.heap.get? b=some o->b∉frs (X.env::X.outer)->(W.hideAll s.heap (frs (X.env::X.outer))).get? b=some o:=λb o e hb=>W.hideAll_get _ e hb
 have free:∀b∈frs (X.env::X.outer),H b=none:=λb hb=>I.stkFree b (by rw[T.stk];exact hb)
 have up2:s.heap.UpToSlots h'':=(Heap.UpToSlots.of_keeps hx.keeps).trans up
 have exn:∀b,b∉X.ex:=λb z=>by rw[T.ex] at z;cases z
 have neL:∀b o,X.s₀.heap.get? b=some o->b≠X.env.locals:=λb o e=>HY (t_ (s_ e) I.ok.above)
 have notin:∀b o,X.s₀.heap.get? b=some o->b∉frs X.outer->b∉frs (X.env::X.outer):=λb o e hb z=>by
  rw[hf] at z
  rcases G_.mp z with z |z
  ·exact neL b o e z
  ·exact hb z
 have trk:∀b o,H b=some o->∃o',(W.hideAll s.heap (frs (X.env::X.outer))).get? b=some o':=λb o e=>by
  obtain⟨u,hu⟩:=(I.hok b o e).there
  exact⟨u,inB b u hu λz=>by rw[free b z] at e;cases e⟩
 refine⟨ea,t,cls,H,_,rfl,I.os,I.bare,⟨⟨λb o e n hb hx=>?_,λb o e n hb hx=>?_,λb o e n hx=>?_,λb o e hx=>?_,I.base.tups,I.base.frzs,I.base.tbls⟩,λa o e=>?_,fl,λb o e hb=>?_,trk⟩,q⟩
 ·exact fl.1 b o (inB b o (I.base.keep b o e n hb (exn b)) (notin b o e hb))
 ·obtain⟨sl,e1⟩:=I.base.slot b o e n hb (exn b)
  obtain⟨_,o',ho',hd⟩:=I.ok.funs.mem hb
  rw[e] at ho';cases ho'
  obtain⟨sl',e2⟩:=up2 b _ e1 hd
  exact⟨sl',e2⟩
 ·exact I.base.free b o e n (exn b)
 ·obtain⟨o',e1⟩:=I.base.there b o e (exn b)
  by_cases hb:b∈frs X.outer
  ·obtain⟨_,o2,ho2,hd⟩:=I.funs.mem hb
   rw[e1] at ho2;cases ho2
   obtain⟨sl',e2⟩:=up2 b _ e1 hd
   exact⟨_,e2⟩
  ·exact⟨o',fl.1 b o' (inB b o' e1 (notin b o e hb))⟩
 ·refine (I.hok a o e).stay (λb u hb q=>?_) (λ_ q=>q) λ_ _ q=>q
  refine fl.1 b u (inB b u q λz=>?_)
  rcases hb with y |y
  ·rw[y] at z;rw[free a z] at e;cases e
  ·rw[free b z] at y;cases y
 ·obtain⟨o',e1⟩:=I.base.there b o e (exn b)
  exact⟨o',inB b o' e1 (notin b o e hb)⟩
end
section
variable{P:Program}{w:World}{K:W.Frag}{mg:Ka}{base:Heap}{N:List Str}{qual:Str}{scope:Scope}{f:Addr}{cd:Value}{A:Around}{outer:List Env}{s:Shared}{H:Hp}{E:XK}
def yd:(cF (CX1 P w) P w K mg base N qual scope f cd A outer s H E).Top:=⟨rfl,rfl,rfl⟩
def FH:nI (CX1 P w) (cF (CX1 P w) P w K mg base N qual scope f cd A outer s H E) E:=λpins σ H s e s' I h=>uW yd I.ok.frames I h
def Hr:nI (CX1 P w) X E0:=λpins σ H s e s' I ⟨_,_,_,_,_,_,_,_,_,q⟩=>q.elim
def own1:PassesOwn (model P w) (cF (CX1 P w) P w K mg base N qual scope f cd A outer s H E).A (cF (CX1 P w) P w K mg base N qual scope f cd A outer s H E).env (cF (CX1 P w) P w K mg base N qual scope f cd A outer s H E).xe:=PassesOwn.leaving
def Rz(X:Cx)(E:XK):Prop:=∀(pins:Kb) (σ:St) (H:Hp) (s:Shared) (h':Heap) (ea:Addr) (cls:Value) (args:List Value),Inv X pins σ H s->Heap.MadeExcOf s.heap h' ea cls args->E cls none H->X.xe (.ref ea) { s with heap:=h' }
def rz1:Rz (cF (CX1 P w) P w K mg base N qual scope f cd A outer s H E) E:=λpins σ H s h' ea cls args I hx q=>xx yd I.ok.frames I hx q
def Fun.okR{x qual:Str}{st:Stmt}{f:Addr}{fd:FuncData}{N ps:List Str}{k:Nat}{sp:Sp}(F:Fun K x qual st f fd)(S:FnScope N ps (ak st))(len:∀vs H Q E,sp vs H Q E->vs.length=ps.length)
 (b_:∀(cdv:Value) (A:Around) (outer:List Env) (s:Shared) (H:Hp) (vs:List V) (Q:VK) (E:XK),Room k (A.deeper (envOfC qual (ak st) s.heap.objs.size f cdv))->sp vs H Q E->
  ∃t,PSs (cF (CX1 P w) P w K mg base N qual (ak st) f cdv A outer s H E) (aN st) t/\t { nx:=λ_ H'=>Q .non H',rt:=Q } (dH N vs) H):FnOk P w K mg base (CX1 P w) (k+1) f fd ps sp:=by
 obtain⟨oc,od,kV,doc,pm,an,cdv,ct,osl,rfl,lk,hcd⟩:=F.ex
 exact Fl lk hcd S len λA outer s H vs Q E hr hsp=>b_ cdv A outer s H vs Q E hr hsp
end
abbrev jN:List Value:=[.type "ValueError",.type "Exception",.type "BaseException",.type "object"]
def uI{K:W.Frag}{h:Heap}{C:Addr}(X:K.In h)(q:W.excIn K C jN "ValueError.__new__"=true):
 ∃bm N nm q' bs hdct sn sub ab col dd k0 k1 k2 k3 k5 mN,h.get? C=some (excClassObj nm q' C N bs bm hdct sn sub ab col dd k0 k1 k2 k3 k5 "ValueError.__new__")/\h.Ns N mN/\mN "__init__"=none/\OwnTail h jN bm:=by
 unfold W.excIn at q
 split at q
 ·rename_i dd cd sl ho
  split at q
  ·rename_i C' bm k0 k1 k2 k3 n k5 hm hs
   simp only[m_,H_,Bool.not_eq_true'] at q
   obtain⟨⟨⟨⟨⟨rfl,rfl⟩,hdel⟩,ht⟩,hok⟩,hni⟩:=q
   obtain⟨nm,bs,mro,ns,qn,hd,sn,sub,ab,col,del⟩:=cd
   dsimp only at hm hdel hok hni
   subst hm hdel
   have hsl:sl=#[k0,k1,k2,k3,some (.builtin "ValueError.__new__"),k5]:=by
    obtain⟨l⟩:=sl
    simp only at hs
    rw[hs]
   subst hsl
   exact⟨bm,ns,nm,qn,bs,hd,sn,sub,ab,col,dd,k0,k1,k2,k3,k5,_,X _ _ ho,.of_isNs (W.isNs_of_in X hok),W.nsMap_none_of_in X hok hni,W.tail_of_in X ht⟩
  ·cases q
 ·cases q
section
variable{X:Cx}{x:Str}{C:Addr}{E:XK}{np cpos pos:Pos}{e₀:Expr}{es:List Expr}{ta:TA}
def Cw(C:Addr)(E:XK)(ta:TA):TS:=λ_ σ H=>ta σ H λvs H1=>vs.length<=sizeLine/\E (.ref C) none H1
def vp(hc:X.calm=true)(hR:Rz X E)(hg:Gl X x)(hm:X.mg x=some (.ref C))(hq:W.excIn X.K C jN "ValueError.__new__"=true)(ha:PA X (e₀::es) ta)
 (he:starEach (e₀::es) X.env=(false,eval e₀ X.env)::starEach es X.env) (ce:(backTo cpos (starEach es X.env)).any (·.1)=false) (hd:(x==("__debug__" : Str))=false):
 PS X (.Raise (some (.Call (.Name x np) (e₀::es) [] cpos)) none pos) (Cw C E ta):=by
 intro pins s σ H D I h
 obtain⟨bm,N,nm,q',bs,hdct,sn,sub,ab,col,dd,k0,k1,k2,k3,k5,mN,hC,hN,hni,T⟩:=uI I.ok.mod.kin hq
 refine wpAny_Raise_call_subT (C:=C) (nm:=nm) (q:=q') (N:=N) (bs:=bs) (bm:=bm) (hdct:=hdct) (sn:=sn) (sub:=sub) (ab:=ab) (col:=col) (dd:=dd) (k0:=k0) (k1:=k1) (k2:=k2) (k3:=k3) (k5:=k5)
  PySem.F.excBase_ValueError (mN:=mN) (T.hasType PySem.F.excBase_ValueError.hasBase) (I.ok.hd hc) (by rw[he];show (false || (backTo cpos (starEach es X.env)).any (·.1))=false;rw[ce];rfl) hni (lN I hg hm ⟨rfl,?_⟩ hd)
 have hA:=ha cpos pins s σ H _ I h
 rw[he] at hA ⊢
 refine Calls.evalArgs_plain (thn hA λus s2 ⟨vs,H2,I2,r2,hz,q2⟩=>⟨rfl,by rw[<- r2.length];exact hz,I2.bk _ _ hC,hN.keeps I2.bk,T.keeps I2.bk,λh' e hm'=>?_⟩)
 exact hR pins σ H2 s2 h' e _ _ I2 hm' q2
end
abbrev XS:=St->XK
abbrev TEx:=St->Hp->VK->XK->Prop
abbrev TSx:=Ends->XS->St->Hp->Prop
def XP(X:Cx)(pins:Kb)(E:XS)(e:Value)(s':Shared):Prop:=∃σ1 H1 s1,Inv X pins σ1 H1 s1/\CX1 X.prog X.w X.stack H1 s1 (E σ1) e s'
def PEx(X:Cx)(e:Expr)(t:TEx):Prop:=
 ∀(pins:Kb) (s:Shared) (σ:St) (H:Hp) (Q:VK) (E:XS),Inv X pins σ H s->t σ H Q (E σ)->wpAny (model X.prog X.w) X.A (eval e X.env) (EP X pins σ Q) (XP X pins E) s
section
variable{X:Cx}{st:Stmt}{ff:List Stmt}{t u:TSx}{e:Expr}{es:List Expr}{te:TEx}{pos p:Pos}{x:Str}{f:Addr}{fd:FuncData}{ps:List Str}{sp:Sp}{k:Nat}{ta:TA}{dvs:List V}{ds:List Value}
end
section
variable{X:Cx}{pins:Kb}{σ:St}{H:Hp}{s:Shared}{ea:Addr}
end
structure XHand(K:W.Frag)(C:Addr):Prop where
 ty:W.typeIn K (.ref C)=some (.type "type")
 cls:(W.clsIn K C).isSome=true
 mb:W.mroIn K C (.type "BaseException")=some true
section
variable{X:Cx}{x n:Str}{C:Addr}{i:Nat}{body suite:List Stmt}{b₀:Stmt}{tb:TSx}{ts:TS}{np hpos pos:Pos}
end
mutual
inductive Rep(K:W.Frag)(H:Hp):V->PyData->Prop where
 |non:Rep K H .non .none
 |bl (b:Bool):Rep K H (.bl b) (.bool b)
 |int (i:Int):Rep K H (.int i) (.int i)
 |str (x:Str):Rep K H (.str x) (.str x)
 |tup {a:Addr}{xs:List V}{ds:List PyData} (h:SqT K H a xs) (r:Reps K H xs ds):Rep K H (.ref a) (.tuple ds)
 |lst {a:Addr}{xs:List V}{ds:List PyData} (h:SqL K H a xs) (r:Reps K H xs ds):Rep K H (.ref a) (.list ds)
inductive Reps(K:W.Frag)(H:Hp):List V->List PyData->Prop where
 |nil:Reps K H [] []
 |cons {x:V}{d:PyData}{xs:List V}{ds:List PyData} (r:Rep K H x d) (rr:Reps K H xs ds):Reps K H (x::xs) (d::ds)
end
section
variable{X:Cx}{pins:Kb}{σ:St}{H H':Hp}{s:Shared}{K:W.Frag}
def Rep.reads(I:Inv X pins σ H s)(r:Rep X.K H v d)(q:RelV v u):∃as,Reads s.heap u d as:=
 Rep.rec (motive_1:=λv d _=>∀u,RelV v u->∃as,Reads s.heap u d as) (motive_2:=λvs ds _=>∀us,Vals vs us->∃as,ReadsAll s.heap us ds as)
  (λu r=>by cases r;exact⟨_,.none⟩) (λb u r=>by cases r;exact⟨_,.bool b⟩) (λi u r=>by obtain⟨t,rfl⟩:=r;exact⟨_,.int i t⟩) (λx u r=>by obtain⟨t,rfl⟩:=r;exact⟨_,.str x t⟩)
  (λh _ ih u r=>by
   cases r
   obtain⟨its,rv,⟨o,e,c,n,d⟩,_⟩:=I.tuple h
   obtain⟨as,q⟩:=ih _ rv
   exact⟨as,.tuple e c d (by simpa using q)⟩)
  (λh _ ih u r=>by
   cases r
   obtain⟨its,rv,⟨o,n,e,c,_,d⟩,_⟩:=I.list h
   obtain⟨as,q⟩:=ih _ rv
   exact⟨_,.list e c d (by simpa using q)⟩)
  (λus r=>by cases r;exact⟨_,.nil⟩)
  (λ_ _ a b us q=>by
   cases q with
   |
    cons q1 q2=>
    obtain⟨as,h1⟩:=a _ q1
    obtain⟨bs,h2⟩:=b _ q2
    exact⟨_,.cons h1 h2⟩) r u q
end
section
variable{X:Cx}
noncomputable def shp(d:PyData):Bool:=d.canLay0&&decide (d.depth<=160)
def i5(h:shp d=true):d.canLay0=true:=(Bool.and_eq_true_iff.mp h).1
def oP{A:Around}{d e:PyData}(h:shp d=true)(hu:A.units+180<cLine):A.units+min d.depth e.depth<cLine:=by
 have h1:d.depth<=160:=of_decide_eq_true (Bool.and_eq_true_iff.mp h).2
 have h2:min d.depth e.depth<=d.depth:=Nat.min_le_left _ _
 omega
def sF(K:W.Frag):R2:=λx y H Q=>∃dx dy,Rep K H x dx/\Rep K H y dy/\shp dx=true/\shp dy=true/\Q (.bl (PyData.eqv dx dy)) H
def so(K:W.Frag):R2:=λx y H Q=>∃dx dy,Rep K H x dx/\Rep K H y dy/\shp dx=true/\shp dy=true/\Q (.bl (!PyData.eqv dx dy)) H
def EC(hu:X.A.units+180<cLine):OpR X (compareOp .Eq) (sF X.K):=by
 intro pins s σ H x y v u Q I rx ry h
 obtain⟨dx,dy,r1,r2,h1,h2,q⟩:=h
 obtain⟨as,q1⟩:=r1.reads I rx
 obtain⟨bs,q2⟩:=r2.reads I ry
 exact SeqAt.compareEq_reads q1 q2 (i5 h1) (i5 h2) (oP h1 hu) (uo I q rfl)
def CV(hu:X.A.units+180<cLine):OpR X (compareOp .NotEq) (so X.K):=by
 intro pins s σ H x y v u Q I rx ry h
 obtain⟨dx,dy,r1,r2,h1,h2,q⟩:=h
 obtain⟨as,q1⟩:=r1.reads I rx
 obtain⟨bs,q2⟩:=r2.reads I ry
 exact SeqAt.compareNe_reads q1 q2 (i5 h1) (i5 h2) (oP h1 hu) (uo I q rfl)
open PySem.Builtin.Int (intBits)
def CDivB(i j:Int):Prop:=j≠0/\intBits j<=8000
def yr(i j:Int):Prop:=intBits i<=100000/\intBits j<=100000
def wo:OpR X (binaryOp .FloorDiv) (rI CDivB λi j=>.int (i.fdiv j)):=opI λi j _ _ _ _ _ hc q=>floordiv_int hc.1 q (.inl (PyProof.noPylong_of_log2 (by
 have h:=hc.2
 have h0:=hc.1
 unfold intBits at h
 have hb:(j==0)=false:=by simpa using h0
 rw[hb] at h
 simp only[Jr,JU] at h
 omega)))
def Aj:OpR X (binaryOp .Mult) (rI yr λi j=>.int (i*j)):=opI λi j _ _ _ _ _ hc q=>mul_int q (PySem.IntMulOk.of_le hc.1 hc.2 (by decide))
def uA(bs:List Bool):((List.range bs.length).all λi=>bs.getD i false)=bs.all id:=by
 rw[Bool.eq_iff_iff,HU,HU]
 constructor
 ·intro h x hx
  obtain⟨i,hi,rfl⟩:=List.mem_iff_getElem.mp hx
  have:=h i (Jw.mpr hi)
  simpa [Ib,hi] using this
 ·intro h i hi
  have hi':=Jw.mp hi
  have:=h bs[i] (List.getElem_mem hi')
  simpa [Ib,hi'] using this
def wK(hc:X.calm=true):CallR X (.builtin "all") (λxs H Q=>∃(a:Addr) (bs:List Bool),xs=[.ref a]/\SqL X.K H a (bs.map V.bl)/\Q (.bl (bs.all id)) H):=by
 intro pins s σ H xs us Q I r h
 obtain⟨a,bs,rfl,hq,q⟩:=h
 obtain⟨u,rfl,ru⟩:=eT r
 cases ru
 obtain⟨its,rv,p,hz⟩:=I.list hq
 have hl:=rv.length
 rw[g_] at hl
 have hlt:a<s.heap.objs.size:=by obtain⟨o,n,e,_⟩:=p;exact s_ e
 refine call_all_walk (wpAny_pyIter_list p.isList ?_)
 refine⟨s.heap.objs.size,_,_,_,_,_,λi=>bs.getD i false,rfl,Walks.list (A:=X.A.in1) (I.ok.hd hc) s.heap.objs.size a (HY hlt) its.toArray,⟨⟨_,Ic _ rfl,rfl,rfl⟩,(p.keeps λb o e=>p_ _ e).isList⟩,λi v s' Q' E' hP hQ=>?_,λh' tk hk=>?_⟩
 ·have hP':its[i]?=some v:=by simpa using hP
  have hi:i<bs.length:=by rw[hl];exact (h_.mp hP').1
  have hb:(bs.map V.bl)[i]?=some (V.bl bs[i]):=by simp [hi]
  obtain⟨u,hu,ru⟩:=rv.get hb
  rw[hP'] at hu
  cases hu
  cases ru
  refine Jc ?_
  have e:bs.getD i false=bs[i]:=by simp [Ib,hi]
  show Q' bs[i] s'
  rw[<- e]
  exact hQ
 ·have e1:its.toArray.size=bs.length:=by rw[u_,hl]
  rw[e1,uA]
  have hn:H s.heap.objs.size=none:=I.fresh
  have I1:Inv X pins σ H { s with heap:=s.heap.push { cls:=.type "list_iterator",dict:=none,data:=.fields #[.ref a,rawInt 0] } }:=I.kept (t':=s.toks) λb o e=>p_ _ e
  refine⟨.bl _,H,?_,rfl,q⟩
  refine I.kept (t':=tk) λb o e=>?_
  have hne:b≠s.heap.objs.size:=HY (s_ e)
  exact hk b o (by simpa using hne) (p_ _ e)
end
structure Def(K:W.Frag)(mg:Ka)(x:Str)(st:Stmt):Prop where
 ex:∃f fd,Fun K x x st f fd/\mg x=some (.ref f)
def uu{K:W.Frag}{h:Heap}{mg:Ka}{x:Str}{st:Stmt}{f:Addr}{oc:Value}{od an:Option Addr}{osl:Array (Option Value)}{kV doc pm cdv ct:Value}(X:K.In h)(G:h.Ns mainGlobals mg)
 (a:W.nsIn K mainGlobals x=some (some (.ref f))) (l:K.lookup f=some ⟨oc,od,.func (W.fnOf x x (bB st) (aN st) (ak st) .none kV doc pm an cdv ct),osl⟩)
 (c:W.codeIn K cdv x=true) (k:W.keepIn K (.ref f)=true):Def K mg x st:=⟨f,_,C8 l c k,W.mg_of X G a⟩
def Fun.look{K:W.Frag}{x qual:Str}{st:Stmt}{f:Addr}{fd:FuncData}(F:Fun K x qual st f fd):∃oc od osl,K.lookup f=some ⟨oc,od,.func fd,osl⟩:=by
 obtain⟨oc,od,kV,doc,pm,an,cdv,ct,osl,rfl,lk,hcd⟩:=F.ex
 exact⟨oc,od,osl,lk⟩
structure Callee(P:Program)(w:World)(K:W.Frag)(mg:Ka)(base:Heap)(x:Str)(k:Nat)(ps:List Str)(sp:Sp):Prop where
 ex:∃f fd,FnOk P w K mg base (CX1 P w) k f fd ps sp/\mg x=some (.ref f)/\W.keepIn K (.ref f)=true/\Binds K fd ps []/\∃oc od osl,K.lookup f=some ⟨oc,od,.func fd,osl⟩
section
variable{P:Program}{w:World}{K:W.Frag}{mg:Ka}{base:Heap}{x:Str}{st:Stmt}{k:Nat}{ps N:List Str}{sp:Sp}
def Callee.imp(C:Callee P w K mg base x k ps sp)(h:∀vs H Q E,sp' vs H Q E->sp vs H Q E):Callee P w K mg base x k ps sp':=by
 obtain⟨f,fd,F,r⟩:=C.ex
 exact⟨f,fd,F.imp h,r⟩
def Def.okR(D:Def K mg x st)(S:FnScope N ps (ak st))
 (hb:∀(kV doc pm:Value) (an:Option Addr) (cdv ct:Value) (us:List Value),us.length=ps.length->bindArgs (W.fnOf x x (bB st) (aN st) (ak st) .none kV doc pm an cdv ct) ⟨us,[]⟩=pure (ps.zip us))
 (len:∀vs H Q E,sp vs H Q E->vs.length=ps.length)
 (b_:∀(f:Addr) (cdv:Value) (A:Around) (outer:List Env) (s:Shared) (H:Hp) (vs:List V) (Q:VK) (E:XK),Room k (A.deeper (envOfC x (ak st) s.heap.objs.size f cdv))->sp vs H Q E->
  ∃t,PSs (cF (CX1 P w) P w K mg base N x (ak st) f cdv A outer s H E) (aN st) t/\t { nx:=λ_ H'=>Q .non H',rt:=Q } (dH N vs) H):Callee P w K mg base x (k+1) ps sp:=by
 obtain⟨f,fd,F,m⟩:=D.ex
 exact⟨f,fd,F.okR S len (b_ f),m,F.kp,F.binds hb,F.look⟩
end
section
variable{X:Cx}{x:Str}{p pos:Pos}{e:Expr}{es:List Expr}{ta:TA}{k:Nat}{ps:List Str}{sp:Sp}{E:XK}
end
section
variable{X:Cx}{K:W.Frag}{tg l:Expr}{tl:TE}
def allK(h:X.K=K)(hc:X.calm=true):CallR X (.builtin "all") (λxs H Q=>∃(a:Addr) (bs:List Bool),xs=[.ref a]/\SqL K H a (bs.map V.bl)/\Q (.bl (bs.all id)) H):=by subst h;exact wK hc
def Room.u180(r:Room k A):A.units+180<cLine:=by have:=r.un;omega
def eqDK(h:X.K=K)(hu:X.A.units+180<cLine):OpR X (compareOp .Eq) (sF K):=by subst h;exact EC hu
def neDK(h:X.K=K)(hu:X.A.units+180<cLine):OpR X (compareOp .NotEq) (so K):=by subst h;exact CV hu
def inK(h:X.K=K):OpR X (compareOp .In) (rIn K false):=by subst h;exact va
def Bk(h:X.K=K):OpR X (compareOp .NotIn) (rIn K true):=by subst h;exact ny
end
section
variable{X:Cx}
def BG{db al tg:Expr}{ifs:List Expr}{scope:Scope}{pos:Pos}{wi:TI}{g:TG}{tc:TT}{te:TE}{N:List Str}{sub:Kd}{iT:Nat}{xT:Str}{px spos:Pos}
 (hc:X.calm=true) (hN:X.N.Nodup) (hix:X.N[iT]?=some xT) (hxl:Loc X.env.scope xT) (hi:PI X tg al wi)
 (hk:scope.kind=.function) (hnc:∀x∈scope.names,x.2 ≠ .cell) (bi:∀x∈scope.names,x.2=.local->scope.names.lookup x.1=some .local)
 (hfr:∀x∈scope.names,x.2=.free->X.env.kindOf x.1=some .cell\/X.env.kindOf x.1=some .free)
 (hsl:sub.length=N.length) (ci:∀(j i:Nat) (x:Str),sub[j]?=some (some i)->N[j]?=some x->X.N[i]?=some x/\scope.names.lookup x=some .free)
 (hg:∀cl C s₂ H fp,PG (aC X N scope cl C s₂ H fp) tg g) (ht:∀cl C s₂ H fp,PTs (aC X N scope cl C s₂ H fp) ifs tc) (he:∀cl C s₂ H fp,PE (aC X N scope cl C s₂ H fp) db te)
 (hsw:swapsWith (.ListComp db [⟨tg,al,ifs,0⟩] scope pos) (some (.Name xT px)) spos.line X.env=pure true)
 (hs:∀x,foldedSetIterable al X.env x=pure x) (hf:X.fn xT=true\/X.env.scope.names.lookup xT=some .local):
 PS X (.Assign [.Name xT px] (.ListComp db [⟨tg,al,ifs,0⟩] scope pos) spos) (nq (gW wi sub g tc te) (kg iT)):=by
 intro pins s σ H D0 I h
 rw[exec_Assign_Name_used _ _ _ _ hsw]
 refine l_ (JW (l_ ?_))
 show wpAny _ X.A (do let _ <- comprehension (.ListComp db [⟨tg,al,ifs,0⟩] scope pos) scope X.env _ (newList []) false (eval al X.env) (some (assign (.Name xT px) X.env))) _ _ s
 refine l_ (HZ (qU (use:=some (assign (.Name xT px) X.env)) (R:=λ_ s'=>SP X pins D0 .next s') hc hi hk hnc bi hfr hsl ci hg ht he hs I h λD C s4 e=>?_) (λ_ s' hq=>A_ (A_ hq)) λ_ _ e=>e)
 obtain⟨m,hm⟩:=e.ns
 obtain⟨H',hC,q,i⟩:=e.inv
 have dc:=e.dc
 have fr:=e.fr
 refine wpAny_assign_Name (l8 (v:=.ref D) (i s4.heap ⟨rfl,λ_ _=>rfl⟩) hN hix hxl rfl (λs7 I7 ⟨a7,sb7,ha7⟩=>?_) hf)
 have ha:a7<D:=by
  rcases ha7 with z |z
  ·rw[z];exact fr
  ·exact e.cell xT a7 z
 refine⟨m,hm.sameBut sb7 (Nat.ne_of_gt (JP ha dc)),λh8 hs8=>⟨_,_,I7.turned (it:=C) (t':=s7.toks) (λb o hb e=>hs8.extBut b o hb e) hC (Nat.ne_of_gt (JP fr dc)) (.inr (w_ e.sz (JO dc))) (λx c q=>HY (JP (e.cell x c q) dc)) (λp hp=>HY (JP (e.pin p hp) dc)),q⟩⟩
def Gz{db al tg:Expr}{scope:Scope}{pos px spos:Pos}{wi:TI}{g:TG}{te:TE}{iT:Nat}{xT:Str}(M:List Str)(kn:List (Str×NameKind))(N:List Str)(sub:Kd)
 (hc:X.calm=true) (hN:X.N.Nodup) (hix:X.N[iT]?=some xT) (hxl:Loc X.env.scope xT) (hi:PI X tg al wi)
 (hg:∀cl C s₂ H fp,PG (aC X N scope cl C s₂ H fp) tg g) (he:∀cl C s₂ H fp,PE (aC X N scope cl C s₂ H fp) db te)
 (hsw:swapsWith (.ListComp db [⟨tg,al,[],0⟩] scope pos) (some (.Name xT px)) spos.line X.env=pure true)
 (hM:X.N=M) (hkn:X.env.scope.names=kn) (ci:eA M scope.names sub N=true)
 (hk:scope.kind=.function) (hnc:∀x∈scope.names,x.2 ≠ .cell) (bi:∀x∈scope.names,x.2=.local->scope.names.lookup x.1=some .local)
 (hfr:fS kn scope.names=true)
 (hsl:sub.length=N.length) (hs:∀x,foldedSetIterable al X.env x=pure x) (hf:X.fn xT=true\/X.env.scope.names.lookup xT=some .local):
 PS X (.Assign [.Name xT px] (.ListComp db [⟨tg,al,[],0⟩] scope pos) spos) (nq (gW wi sub g xJ te) (kg iT)):=
 BG hc hN hix hxl hi hk hnc bi (by subst hkn;exact qb hfr) hsl (by subst hM;exact nN ci) hg (λcl C s₂ H fp=>qV) he hsw hs hf
end
theorem qz:∀{ns:List Int}{its:List Value},Vals (ns.map V.int) its->IntsAre its ns
 | [],_,h=>by cases h;exact .nil
 |
  i::r,_,h=>by
  cases h with
  |
   cons h1 h2=>
   obtain⟨t,rfl⟩:=h1
   exact .cons i t (qz h2)
def uZ{X:Cx}{K:W.Frag}(hK:X.K=K)(hc:X.calm=true):CallR X (.builtin "sum") (λxs H Q=>∃(a:Addr) (ns:List Int),xs=[.ref a]/\SqL K H a (ns.map V.int)/\Q (.int ns.sum) H):=by
 subst hK
 intro pins s σ H xs us Q I r h
 obtain⟨a,ns,rfl,hq,q⟩:=h
 obtain⟨u,rfl,ru⟩:=eT r
 cases ru
 obtain⟨its,rv,p,hz⟩:=I.list hq
 have hi:=qz rv
 obtain⟨ys,hy⟩:=hi.allInts.items
 have hn:numsOf its.toArray.toList=ns:=by rw[show its.toArray.toList=its from rfl,hi.numsOf]
 have pl:=p.isList
 rw[hy] at pl hn
 rw[nums_intItems] at hn
 refine sum_intListG (I.ok.hd hc) pl λh' tk t' hk=>?_
 rw[preSum_eq,IG (by simp),hn]
 exact⟨.int ns.sum,H,I.kept (t':=tk) hk,⟨_,rfl⟩,q⟩
end L2
namespace Fr
noncomputable def dv(a b:Int):Int:=if b<0 then -((Int.gcd a b:Nat):Int) else ((Int.gcd a b:Nat):Int)
def T(a b:Int):Int:=a.fdiv (dv a b)
def B(a b:Int):Int:=b.fdiv (dv a b)
noncomputable def nB(hb:b≠0):0<Int.gcd a b:=Int.gcd_pos_of_ne_zero_right a hb
def dv_ne(hb:b≠0):dv a b≠0:=by
 have:=nB (a:=a) hb
 unfold dv
 split <;> omega
def wF(a b:Int):dv a b ∣ a:=by
 have h:((Int.gcd a b:Nat):Int) ∣ a:=Int.gcd_dvd_left a b
 unfold dv
 split
 ·exact Int.neg_dvd.mpr h
 ·exact h
def wN(a b:Int):dv a b ∣ b:=by
 have h:((Int.gcd a b:Nat):Int) ∣ b:=Int.gcd_dvd_right a b
 unfold dv
 split
 ·exact Int.neg_dvd.mpr h
 ·exact h
def qh{a d q:Int}(hd:d≠0)(h:a=d*q):a.fdiv d=q:=by
 rw[h,Js]
 exact Int.mul_fdiv_cancel q hd
def T_mul(hb:b≠0):T a b*dv a b=a:=by
 obtain⟨q,h⟩:=wF a b
 have:T a b=q:=qh (dv_ne hb) h
 rw[this,Js];exact h.symm
def B_mul(hb:b≠0):B a b*dv a b=b:=by
 obtain⟨q,h⟩:=wN a b
 have:B a b=q:=qh (dv_ne hb) h
 rw[this,Js];exact h.symm
def B_pos(hb:b≠0):0<B a b:=by
 have h:=B_mul (a:=a) hb
 have hg:=nB (a:=a) hb
 generalize hx:B a b=x at h ⊢
 unfold dv at h
 split at h
 ·rename_i hneg
  have h2:x*((Int.gcd a b:Nat):Int)=-b:=by rw[Int.mul_neg] at h;omega
  rcases Int.lt_or_le 0 x with z |z
  ·exact z
  ·have:x*((Int.gcd a b:Nat):Int)<=0:=Int.mul_nonpos_of_nonpos_of_nonneg z (by omega)
   omega
 ·rename_i hpos
  rcases Int.lt_or_le 0 x with z |z
  ·exact z
  ·have:x*((Int.gcd a b:Nat):Int)<=0:=Int.mul_nonpos_of_nonpos_of_nonneg z (by omega)
   omega
def cross(hb:b≠0):T a b*b=a*B a b:=by
 have h1:=T_mul (a:=a) hb
 have h2:=B_mul (a:=a) hb
 generalize T a b=x at *
 generalize B a b=y at *
 generalize dv a b=d at *
 rw[<- h2,<- h1]
 rw[<- Io,Jt]
def dv_abs(a b:Int):(dv a b).natAbs=Int.gcd a b:=by
 unfold dv
 split <;> simp
def low(hb:b≠0):Int.gcd (T a b) (B a b)=1:=by
 have h1:=T_mul (a:=a) hb
 have h2:=B_mul (a:=a) hb
 have hg:=nB (a:=a) hb
 have e1:a.natAbs=(T a b).natAbs*Int.gcd a b:=by rw[<- dv_abs a b,<- Ii,h1]
 have e2:b.natAbs=(B a b).natAbs*Int.gcd a b:=by rw[<- dv_abs a b,<- Ii,h2]
 have e3:Int.gcd a b=Nat.gcd ((T a b).natAbs*Int.gcd a b) ((B a b).natAbs*Int.gcd a b):=by rw[<- e1,<- e2];rfl
 rw[Nat.gcd_mul_right] at e3
 show Nat.gcd (T a b).natAbs (B a b).natAbs=1
 generalize Nat.gcd (T a b).natAbs (B a b).natAbs=k at *
 generalize Int.gcd a b=g at *
 have:(1:Nat)*g=k*g:=by omega
 exact (Nat.eq_of_mul_eq_mul_right hg this).symm
def uniq(hy:0<y)(hy':0<y')(h:Int.gcd x y=1)(h':Int.gcd x' y'=1)(e:x*y'=x'*y):x=x'/\y=y':=by
 have c1:Nat.Coprime y.natAbs x.natAbs:=by rw[Nat.coprime_comm];exact h
 have c2:Nat.Coprime y'.natAbs x'.natAbs:=by rw[Nat.coprime_comm];exact h'
 have e1:x.natAbs*y'.natAbs=x'.natAbs*y.natAbs:=by rw[<- Ii,<- Ii,e]
 have d1:y.natAbs ∣ y'.natAbs:=c1.dvd_of_dvd_mul_left (by rw[e1];exact Nat.dvd_mul_left _ _)
 have d2:y'.natAbs ∣ y.natAbs:=c2.dvd_of_dvd_mul_left (by rw[<- e1];exact Nat.dvd_mul_left _ _)
 have ey:y.natAbs=y'.natAbs:=Nat.dvd_antisymm d1 d2
 have ey':y=y':=by omega
 subst ey'
 exact⟨Jj (by omega) e,rfl⟩
def same(hb:b≠0)(hd:d≠0)(e:a*d=c*b):T a b=T c d/\B a b=B c d:=by
 refine uniq (B_pos hb) (B_pos hd) (low hb) (low hd) ?_
 have h1:=cross (a:=a) hb
 have h2:=cross (a:=c) hd
 have hbd:b*d≠0:=IX hb hd
 refine Jj hbd ?_
 calc T a b*B c d*(b*d)=(T a b*b)*(B c d*d):=by rw[Io,Ja (B c d) b d,<- Io]
  _=(a*B a b)*(B c d*d):=by rw[h1]
  _=(a*d)*(B c d*B a b):=by rw[Io a,Io a,Ja (B a b),Ja d,Js (B a b) d]
  _=(c*b)*(B c d*B a b):=by rw[e]
  _=(c*B c d)*(B a b*b):=by rw[Io c,Io c,Ja b,Js b (B a b)]
  _=(T c d*d)*(B a b*b):=by rw[<- h2]
  _=T c d*B a b*(b*d):=by rw[Io,Io,Ja d,Js d b]
def self(hb:0<b)(h:Int.gcd a b=1):T a b=a/\B a b=b:=
 uniq (B_pos (by omega)) hb (low (by omega)) h (cross (by omega))
def euc(m n:Nat):Nat.gcd n (m % n)=Nat.gcd m n:=by
 rw[Nat.gcd_comm,<- Nat.gcd_rec,Nat.gcd_comm]
end Fr
set_option maxHeartbeats 1000000
namespace L2
open PySem PySem.Spec PyProof.Rows
def SqB(K:W.Frag)(b:Bool)(H:Hp)(a:Addr)(xs:List V):Prop:=match b with
 |true=>SqL K H a xs
 |false=>SqT K H a xs
def IteE(K:W.Frag)(b:Bool)(a:Addr):It:=
 ⟨λi H=>∃xs x,SqB K b H a xs/\xs[i]?=some x,λi H x H'=>∃p u,x=.ref p/\H p=none/\H'=upd H p (.tup [.int (i:Nat),u])/\∀xs,SqB K b H a xs->xs[i]?=some u,λi H=>∃xs,SqB K b H a xs/\xs.length=i⟩
section
variable{prog:Program}{w:World}{A:Around}{E:Kc}{s:Shared}{b1 b2:Bool}{z p q j1 j2 a1 a2:Addr}{n:Nat}{xs ys:Array Value}{x y u v:Value}
end
def ItZ(K:W.Frag)(b c:Bool)(a d:Addr):It:=
 ⟨λi H=>∃xs ys x y,SqB K b H a xs/\SqB K c H d ys/\xs[i]?=some x/\ys[i]?=some y,
  λi H x H'=>∃p u v,x=.ref p/\H p=none/\H'=upd H p (.tup [u,v])/\(∀xs,SqB K b H a xs->xs[i]?=some u)/\∀ys,SqB K c H d ys->ys[i]?=some v,
  λi H=>∃xs ys,SqB K b H a xs/\SqB K c H d ys/\(xs[i]?=none\/ys[i]?=none)⟩
inductive D where
 |non |bl (b:Bool) |int (i:Int) |str (x:Str) |ty (n:String) |glb (x:Str) |exc (x:Str) |tup (xs:List D) |ref (n:Nat) |kl (xs:List D)
 deriving Inhabited
inductive Ob where
 |lst (xs:List D) |fz (xs:List D) |set (xs:List Int) |dct (kvs:List (Key×D)) |any
 deriving Inhabited
abbrev AH:=List Ob
abbrev AE:=List (Option D)
inductive R(α:Type) where
 |ok (a:α) (h:AH) |exc (c:Str) (h:AH) |stuck
inductive SR where
 |nx (ae:AE) (h:AH) |rt (d:D) (h:AH) |bk (ae:AE) (h:AH) |ct (ae:AE) (h:AH) |exc (c:Str) (ae:AE) (h:AH) |stuck
abbrev ME:=AE->AH->R D
abbrev MT:=AE->AH->R Bool
abbrev MA:=AE->AH->R (List D)
abbrev MS:=AE->AH->SR
abbrev Fn:=List D->AH->R D
def R.bind{α β:Type}(r:R α)(f:α->AH->R β):R β:=match r with
 |.ok a h=>f a h
 |.exc c h=>.exc c h
 |.stuck=>.stuck
section
variable(K:W.Frag)(mg:Ka)
mutual
inductive RelD(ρ:List Addr)(H:Hp):D->V->Prop where
 |non:RelD ρ H .non .non
 |bl (b:Bool):RelD ρ H (.bl b) (.bl b)
 |int (i:Int):RelD ρ H (.int i) (.int i)
 |str (x:Str):RelD ρ H (.str x) (.str x)
 |ty (n:String):RelD ρ H (.ty n) (.ty n)
 |glb {x:Str}{a:Addr} (m:mg x=some (.ref a)):RelD ρ H (.glb x) (.ref a)
 |exc {x:Str}{a C:Addr} (m:mg x=some (.ref C)) (e:H a=some (.ext (vX a C))):RelD ρ H (.exc x) (.ref a)
 |tup {p:Addr}{vs:List V}{ds:List D} (h:SqT K H p vs) (r:RelDs ρ H ds vs):RelD ρ H (.tup ds) (.ref p)
 |ref {n:Nat}{a:Addr} (e:ρ[n]?=some a):RelD ρ H (.ref n) (.ref a)
 |kl {a:Addr}{vs:List V}{ds:List D} (h:∃(o:Obj) (its:Array Value) (n:Nat),K.lookup a=some o/\o.cls=.type "list" /\ o.dict=none/\o.data=.seq its n/\its.size<=sizeLine/\Vals vs its.toList) (r:RelDs ρ H ds vs):RelD ρ H (.kl ds) (.ref a)
inductive RelDs(ρ:List Addr)(H:Hp):List D->List V->Prop where
 |nil:RelDs ρ H [] []
 |cons {d:D}{v:V}{ds:List D}{vs:List V} (r:RelD ρ H d v) (rr:RelDs ρ H ds vs):RelDs ρ H (d::ds) (v::vs)
end
structure Le(ρ:List Addr)(H:Hp)(ρ':List Addr)(H':Hp):Prop where
 pre:∀(n:Nat) (a:Addr),ρ[n]?=some a->ρ'[n]?=some a
 tup:∀b xs,H b=some (.tup xs)->H' b=some (.tup xs)
 frz:∀b o u,H b=some (.frz o u)->H' b=some (.frz o u)
 ext:∀b φ,H b=some (.ext φ)->H' b=some (.ext φ)
def ObR(ρ:List Addr)(H:Hp)(a:Addr):Ob->Prop
 |.lst ds=>∃vs,H a=some (.lst vs)/\RelDs K mg ρ H ds vs
 |.fz ds=>∃o vs,H a=some (.frz o (.lst vs))/\RelDs K mg ρ H ds vs
 |.set xs=>xs.Nodup/\H a=some (.set (λi=>decide (i∈xs)) xs.length)
 |.dct kvs=>∃ws,H a=some (.dK ws)/\ws.map (·.1)=kvs.map (·.1)/\RelDs K mg ρ H (kvs.map (·.2)) (ws.map (·.2))
 |.any=>∃o,H a=some o
structure Wd(ρ:List Addr)(h:AH)(H:Hp):Prop where
 len:ρ.length=h.length
 nd:ρ.Nodup
 ob:∀(n:Nat) (a:Addr) (o:Ob),ρ[n]?=some a->h[n]?=some o->ObR K mg ρ H a o
structure RelE(ρ:List Addr)(H:Hp)(ae:AE)(σ:St):Prop where
 len:ae.length=σ.length
 at_:∀(i:Nat) (d:D),ae[i]?=some (some d)->∃v,σ[i]?=some (some v)/\RelD K mg ρ H d v
def PostG{α:Type}(ρ:List Addr)(H:Hp)(E:XK)(k:α->AH->List Addr->Hp->Prop):R α->Prop
 |.ok a h=>∀ρ' H',Le ρ H ρ' H'->Wd K mg ρ' h H'->k a h ρ' H'
 |.exc c h=>∀ρ' H' C,Le ρ H ρ' H'->Wd K mg ρ' h H'->mg c=some (.ref C)->E (.ref C) none H'
 |.stuck=>False
abbrev cI(ρ:List Addr)(H:Hp)(Q:VK)(E:XK)(r:R D):Prop:=PostG K mg ρ H E (λd _ ρ' H'=>∀v,RelD K mg ρ' H' d v->Q v H') r
abbrev yw(ρ:List Addr)(H:Hp)(Q:Bool->Hp->Prop)(E:XK)(r:R Bool):Prop:=PostG K mg ρ H E (λb _ ρ' H'=>Q b H') r
abbrev yp(ρ:List Addr)(H:Hp)(Q:List V->Hp->Prop)(E:XK)(r:R (List D)):Prop:=PostG K mg ρ H E (λd _ ρ' H'=>∀vs,RelDs K mg ρ' H' d vs->Q vs H') r
def PostS(ρ:List Addr)(H:Hp)(D:Ends)(ES:St->XK):SR->Prop
 |.nx ae h=>∀ρ' H' σ',Le ρ H ρ' H'->Wd K mg ρ' h H'->RelE K mg ρ' H' ae σ'->D.nx σ' H'
 |.bk ae h=>∀ρ' H' σ',Le ρ H ρ' H'->Wd K mg ρ' h H'->RelE K mg ρ' H' ae σ'->D.bk σ' H'
 |.ct ae h=>∀ρ' H' σ',Le ρ H ρ' H'->Wd K mg ρ' h H'->RelE K mg ρ' H' ae σ'->D.ct σ' H'
 |.rt d h=>∀ρ' H' v,Le ρ H ρ' H'->Wd K mg ρ' h H'->RelD K mg ρ' H' d v->D.rt v H'
 |.exc c ae h=>∀ρ' H' σ' C,Le ρ H ρ' H'->Wd K mg ρ' h H'->RelE K mg ρ' H' ae σ'->mg c=some (.ref C)->ES σ' (.ref C) none H'
 |.stuck=>False
def rdE(ES:St->XK)(F:ME):TE:=λσ H Q=>∃ρ h ae,Wd K mg ρ h H/\RelE K mg ρ H ae σ/\cI K mg ρ H Q (ES σ) (F ae h)
def rdT(ES:St->XK)(F:MT):TT:=λσ H Q=>∃ρ h ae,Wd K mg ρ h H/\RelE K mg ρ H ae σ/\yw K mg ρ H Q (ES σ) (F ae h)
def rdA(ES:St->XK)(F:MA):TA:=λσ H Q=>∃ρ h ae,Wd K mg ρ h H/\RelE K mg ρ H ae σ/\yp K mg ρ H Q (ES σ) (F ae h)
def rdS(ES:St->XK)(F:MS):TS:=λD σ H=>∃ρ h ae,Wd K mg ρ h H/\RelE K mg ρ H ae σ/\PostS K mg ρ H D ES (F ae h)
def spD(n:Nat)(S:Fn):Sp:=λvs H Q E=>∃ρ h ds,Wd K mg ρ h H/\RelDs K mg ρ H ds vs/\ds.length=n/\cI K mg ρ H Q E (S ds h)
end
def rdE.el{K:W.Frag}{mg:Ka}{ES:St->XK}{F:ME}{σ:St}{H:Hp}{Q:VK}{C:Prop}(q:rdE K mg ES F σ H Q)(k:∀ρ h ae,Wd K mg ρ h H->RelE K mg ρ H ae σ->cI K mg ρ H Q (ES σ) (F ae h)->C):C:=by
 obtain⟨ρ,h,ae,w,re,p⟩:=q
 exact k ρ h ae w re p
def rdT.el{K:W.Frag}{mg:Ka}{ES:St->XK}{F:MT}{σ:St}{H:Hp}{Q:Bool->Hp->Prop}{C:Prop}(q:rdT K mg ES F σ H Q)(k:∀ρ h ae,Wd K mg ρ h H->RelE K mg ρ H ae σ->yw K mg ρ H Q (ES σ) (F ae h)->C):C:=by
 obtain⟨ρ,h,ae,w,re,p⟩:=q
 exact k ρ h ae w re p
def rdA.el{K:W.Frag}{mg:Ka}{ES:St->XK}{F:MA}{σ:St}{H:Hp}{Q:List V->Hp->Prop}{C:Prop}(q:rdA K mg ES F σ H Q)(k:∀ρ h ae,Wd K mg ρ h H->RelE K mg ρ H ae σ->yp K mg ρ H Q (ES σ) (F ae h)->C):C:=by
 obtain⟨ρ,h,ae,w,re,p⟩:=q
 exact k ρ h ae w re p
def rdS.el{K:W.Frag}{mg:Ka}{ES:St->XK}{F:MS}{σ:St}{H:Hp}{De:Ends}{C:Prop}(q:rdS K mg ES F De σ H)(k:∀ρ h ae,Wd K mg ρ h H->RelE K mg ρ H ae σ->PostS K mg ρ H De ES (F ae h)->C):C:=by
 obtain⟨ρ,h,ae,w,re,p⟩:=q
 exact k ρ h ae w re p
section
variable{K:W.Frag}{mg:Ka}{ρ ρ' ρ1:List Addr}{H H' H1:Hp}{h h':AH}{ae:AE}{σ:St}
noncomputable def Le.refl:Le ρ H ρ H:=⟨λ_ _ e=>e,λ_ _ e=>e,λ_ _ _ e=>e,λ_ _ e=>e⟩
noncomputable def Le.trans(a:Le ρ H ρ1 H1)(b:Le ρ1 H1 ρ' H'):Le ρ H ρ' H':=
 ⟨λn x e=>b.pre n x (a.pre n x e),λx y e=>b.tup x y (a.tup x y e),λx y z e=>b.frz x y z (a.frz x y z e),λx y e=>b.ext x y (a.ext x y e)⟩
noncomputable def Le.sqT(l:Le ρ H ρ' H')(q:SqT K H a xs):SqT K H' a xs:=by
 rcases q with (q |⟨o,q⟩) |q
 ·exact .inl (.inl (l.tup _ _ q))
 ·exact .inl (.inr ⟨o,l.frz _ _ _ q⟩)
 ·exact .inr q
def RelD.mono(l:Le ρ H ρ' H')(r:RelD K mg ρ H d v):RelD K mg ρ' H' d v:=
 RelD.rec (motive_1:=λd v _=>RelD K mg ρ' H' d v) (motive_2:=λds vs _=>RelDs K mg ρ' H' ds vs) .non (λb=>.bl b) (λi=>.int i) (λx=>.str x) (λn=>.ty n) (λm=>.glb m) (λm e=>.exc m (l.ext _ _ e)) (λh _ ih=>.tup (l.sqT h) ih) (λe=>.ref (l.pre _ _ e)) (λh _ ih=>.kl h ih) .nil (λ_ _ a b=>.cons a b) r
def RelDs.ind{M:List D->List V->Prop}(h0:M [] [])(h1:∀{d v ds vs},RelD K mg ρ H d v->RelDs K mg ρ H ds vs->M ds vs->M (d::ds) (v::vs)){ds:List D}{vs:List V}(r:RelDs K mg ρ H ds vs):M ds vs:=by
 induction ds generalizing vs with
 |nil=>cases r;exact h0
 |
  cons d ds ih=>
  cases r with
  |cons r rr=>exact h1 r rr (ih rr)
def RelDs.mono(l:Le ρ H ρ' H'){ds:List D}{vs:List V}(r:RelDs K mg ρ H ds vs):RelDs K mg ρ' H' ds vs:=r.ind .nil λr _ ih=>.cons (r.mono l) ih
def RelDs.len{ds:List D}{vs:List V}(r:RelDs K mg ρ H ds vs):ds.length=vs.length:=r.ind (M:=λds vs=>ds.length=vs.length) rfl λ_ _ ih=>Iw (· + 1) ih
def RelDs.getD{ds:List D}{vs:List V}{i:Nat}{d:D}(r:RelDs K mg ρ H ds vs)(e:ds[i]?=some d):∃v,vs[i]?=some v/\RelD K mg ρ H d v:=
 r.ind (M:=λds vs=>∀i,ds[i]?=some d->∃v,vs[i]?=some v/\RelD K mg ρ H d v) (λ_ e=>by rw[List.getElem?_nil] at e;cases e) (λr _ ih i e=>match i,e with
  |0,e=>by cases e;exact⟨_,rfl,r⟩
  |i+1,e=>ih i e) i e
noncomputable def RelDs.append{ds es:List D}{vs ws:List V}(r:RelDs K mg ρ H ds vs)(q:RelDs K mg ρ H es ws):RelDs K mg ρ H (ds++es) (vs++ws):=r.ind (M:=λds vs=>RelDs K mg ρ H (ds++es) (vs++ws)) q λr _ ih=>.cons r ih
def RelDs.take{ds:List D}{vs:List V}(n:Nat)(r:RelDs K mg ρ H ds vs):RelDs K mg ρ H (ds.take n) (vs.take n):=
 r.ind (M:=λds vs=>∀n:Nat,RelDs K mg ρ H (ds.take n) (vs.take n)) (λn=>by rw[IW,IW];exact .nil) (λr _ ih n=>by cases n with |zero=>exact .nil |succ n=>exact .cons r (ih n)) n
def RelDs.drop{ds:List D}{vs:List V}(n:Nat)(r:RelDs K mg ρ H ds vs):RelDs K mg ρ H (ds.drop n) (vs.drop n):=
 r.ind (M:=λds vs=>∀n:Nat,RelDs K mg ρ H (ds.drop n) (vs.drop n)) (λn=>by rw[Jl,Jl];exact .nil) (λr rr ih n=>by cases n with |zero=>exact .cons r rr |succ n=>exact ih n) n
def RelDs.set{d:D}{v:V}(r:RelD K mg ρ H d v){ds:List D}{vs:List V}(i:Nat)(q:RelDs K mg ρ H ds vs):RelDs K mg ρ H (ds.set i d) (vs.set i v):=
 q.ind (M:=λds vs=>∀i:Nat,RelDs K mg ρ H (ds.set i d) (vs.set i v)) (λ_=>.nil) (λq qq ih i=>by cases i with |zero=>exact .cons r qq |succ i=>exact .cons q (ih i)) i
def RelDs.ints:∀{ns:List Int}{vs:List V},RelDs K mg ρ H (ns.map D.int) vs->vs=ns.map V.int:=by
 intro ns
 induction ns with
 |nil=>intro vs r;cases r;rfl
 |
  cons n ns ih=>
  intro vs r
  cases r with
  |cons r rr=>cases r;rw[ih rr];rfl
def RelDs.bls:∀{ns:List Bool}{vs:List V},RelDs K mg ρ H (ns.map D.bl) vs->vs=ns.map V.bl:=by
 intro ns
 induction ns with
 |nil=>intro vs r;cases r;rfl
 |
  cons n ns ih=>
  intro vs r
  cases r with
  |cons r rr=>cases r;rw[ih rr];rfl
def RelE.mono(l:Le ρ H ρ' H')(r:RelE K mg ρ H ae σ):RelE K mg ρ' H' ae σ:=⟨r.len,λi d e=>by
 obtain⟨v,h1,h2⟩:=r.at_ i d e
 exact⟨v,h1,h2.mono l⟩⟩
def RelE.set(i:Nat)(r:RelE K mg ρ H ae σ)(q:RelD K mg ρ H d v):RelE K mg ρ H (ae.set i (some d)) (σ.set i (some v)):=⟨by rw[y_,y_];exact r.len,λj d' e=>by
 rw[Jz] at e ⊢
 by_cases hij:i=j
 ·rw[if_pos hij] at e ⊢
  by_cases hi:i<ae.length
  ·rw[if_pos hi] at e
   cases e
   rw[if_pos (by rw[<- r.len];exact hi)]
   exact⟨v,rfl,q⟩
  ·rw[if_neg hi] at e;cases e
 ·rw[if_neg hij] at e ⊢
  exact r.at_ j d' e⟩
def ObR.mono(l:Le ρ H ρ' H')(e:H' a=H a)(q:ObR K mg ρ H a o):ObR K mg ρ' H' a o:=by
 cases o with
 |lst ds=>obtain⟨vs,h1,h2⟩:=q;exact⟨vs,e.trans h1,h2.mono l⟩
 |fz ds=>obtain⟨o,vs,h1,h2⟩:=q;exact⟨o,vs,e.trans h1,h2.mono l⟩
 |set xs=>exact⟨q.1,e.trans q.2⟩
 |dct kvs=>obtain⟨ws,h1,h2,h3⟩:=q;exact⟨ws,e.trans h1,h2,h3.mono l⟩
 |any=>obtain⟨o,h1⟩:=q;exact⟨o,e.trans h1⟩
def ObR.there(q:ObR K mg ρ H a o):∃u,H a=some u:=by
 cases o with
 |lst ds=>obtain⟨vs,h1,_⟩:=q;exact⟨_,h1⟩
 |fz ds=>obtain⟨o,vs,h1,_⟩:=q;exact⟨_,h1⟩
 |set xs=>exact⟨_,q.2⟩
 |dct kvs=>obtain⟨ws,h1,_⟩:=q;exact⟨_,h1⟩
 |any=>exact q
def Wd.fresh(w:Wd K mg ρ h H)(hp:H p=none):p∉ρ:=λhm=>by
 obtain⟨n,hn⟩:=List.getElem?_of_mem hm
 have hl:n<h.length:=by rw[<- w.len];exact (h_.mp hn).1
 obtain⟨u,hu⟩:=(w.ob n p h[n] hn (x_ hl)).there
 rw[hp] at hu;cases hu
def cP(hp:H p=none):Le ρ H ρ (upd H p o):=
 ⟨λ_ _ e=>e,λb xs e=>by rw[ay (bc e hp)];exact e,λb xs u e=>by rw[ay (bc e hp)];exact e,λb xs e=>by rw[ay (bc e hp)];exact e⟩
noncomputable def lE:Le ρ H (ρ++m) H:=
 ⟨λn a e=>by rw[B_ (h_.mp e).1];exact e,λ_ _ e=>e,λ_ _ _ e=>e,λ_ _ e=>e⟩
def Wd.alloc(w:Wd K mg ρ h H)(hp:H p=none)(hn:ObR K mg (ρ++[p]) (upd H p u) p o):Wd K mg (ρ++[p]) (h++[o]) (upd H p u):=by
 refine⟨by rw[z_,z_,w.len];rfl,?_,λn a ob e1 e2=>?_⟩
 ·rw[List.nodup_append]
  exact⟨w.nd,by simp,λa ha b hb=>by rw[IZ] at hb;subst hb;intro z;subst z;exact w.fresh hp ha⟩
 ·by_cases hl:n<ρ.length
  ·rw[B_ hl] at e1
   rw[B_ (by rw[<- w.len];exact hl)] at e2
   have q:=w.ob n a ob e1 e2
   obtain⟨v,hv⟩:=q.there
   exact q.mono ((cP hp).trans lE) (ay (bc hv hp))
  ·have h1:n=ρ.length:=by
    have:=(h_.mp e1).1
    rw[z_] at this
    simp at this
    omega
   subst h1
   rw[HX (j_ _),JQ] at e1
   rw[w.len,HX (j_ _),JQ] at e2
   simp at e1 e2
   subst e1 e2
   exact hn
def Wd.tuple(w:Wd K mg ρ h H)(hp:H p=none):Wd K mg ρ h (upd H p u):=
 ⟨w.len,w.nd,λn a ob e1 e2=>by
  have q:=w.ob n a ob e1 e2
  obtain⟨v,hv⟩:=q.there
  exact q.mono (cP hp) (ay (bc hv hp))⟩
def m5(e:H a=some u)(hu:(∀xs,u ≠ .tup xs)/\(∀x y,u ≠ .frz x y)/\∀φ,u ≠ .ext φ):Le ρ H ρ (upd H a o):=by
 refine⟨λ_ _ e=>e,λb xs q=>?_,λb x y q=>?_,λb φ q=>?_⟩ <;> rw[ay] <;> (try exact q) <;> (intro z;subst z;rw[e] at q;have:=C_ q;first |exact hu.1 _ this |exact hu.2.1 _ _ this |exact hu.2.2 _ this)
def Wd.write{n:Nat}{a:Addr}{o u:HO}{ob:Ob}(w:Wd K mg ρ h H)(ea:ρ[n]?=some a)(e:H a=some u)(hu:(∀xs,u ≠ .tup xs)/\(∀x y,u ≠ .frz x y)/\∀φ,u ≠ .ext φ)
 (hn:ObR K mg ρ (upd H a o) a ob):Wd K mg ρ (h.set n ob) (upd H a o):=by
 refine⟨by rw[y_];exact w.len,w.nd,λm b ob' e1 e2=>?_⟩
 rw[Jz] at e2
 by_cases hm:n=m
 ·subst hm
  rw[ea] at e1;cases e1
  rw[if_pos rfl] at e2
  split at e2
  ·cases e2;exact hn
  ·cases e2
 ·rw[if_neg hm] at e2
  have q:=w.ob m b ob' e1 e2
  refine q.mono (m5 e hu) (ay λz=>hm ?_)
  subst z
  have h1:=(h_.mp e1)
  have h2:=(h_.mp ea)
  exact (List.getElem_inj (h₀:=h2.1) (h₁:=h1.1) w.nd).mp (h2.2.trans h1.2.symm)
def m9:(∀xs,HO.lst vs ≠ .tup xs)/\(∀x y,HO.lst vs ≠ .frz x y)/\∀φ,HO.lst vs ≠ .ext φ:=⟨λ_ z=>(nomatch z),λ_ _ z=>(nomatch z),λ_ z=>(nomatch z)⟩
noncomputable def dKNo:(∀xs,HO.dK ws ≠ .tup xs)/\(∀x y,HO.dK ws ≠ .frz x y)/\∀φ,HO.dK ws ≠ .ext φ:=⟨λ_ z=>(nomatch z),λ_ _ z=>(nomatch z),λ_ z=>(nomatch z)⟩
def PostG.mono(l:Le ρ H ρ' H')(p:PostG K mg ρ H E k r):PostG K mg ρ' H' E k r:=by
 cases r with
 |ok d h=>exact λρ2 H2 l2=>p ρ2 H2 (l.trans l2)
 |exc c h=>exact λρ2 H2 C l2=>p ρ2 H2 C (l.trans l2)
 |stuck=>exact p
def PostG.imp(p:PostG K mg ρ H E k r)(i:∀a h1 ρ' H',Le ρ H ρ' H'->Wd K mg ρ' h1 H'->k a h1 ρ' H'->k' a h1 ρ' H'):PostG K mg ρ H E k' r:=by
 cases r with
 |ok d h=>exact λρ2 H2 l2 w2=>i _ _ _ _ l2 w2 (p ρ2 H2 l2 w2)
 |exc c h=>exact p
 |stuck=>exact p
def PostG.bind(p:PostG K mg ρ H E k (r.bind f)):PostG K mg ρ H E (λa h1 ρ' H'=>PostG K mg ρ' H' E k (f a h1)) r:=by
 cases r with
 |ok d h=>exact λρ2 H2 l2 w2=>PostG.mono l2 p
 |exc c h=>exact p
 |stuck=>exact p
def PostS.mono(l:Le ρ H ρ' H')(p:PostS K mg ρ H De ES r):PostS K mg ρ' H' De ES r:=by
 cases r with
 |nx ae h=>exact λρ2 H2 σ l2=>p ρ2 H2 σ (l.trans l2)
 |bk ae h=>exact λρ2 H2 σ l2=>p ρ2 H2 σ (l.trans l2)
 |ct ae h=>exact λρ2 H2 σ l2=>p ρ2 H2 σ (l.trans l2)
 |rt d h=>exact λρ2 H2 v l2=>p ρ2 H2 v (l.trans l2)
 |exc c ae h=>exact λρ2 H2 σ C l2=>p ρ2 H2 σ C (l.trans l2)
 |stuck=>exact p
end
section
variable{X:Cx}{e:Expr}{es:List Expr}{st:Stmt}{sts:List Stmt}
def PE.imp(h:PE X e t)(k:∀σ H Q,t' σ H Q->t σ H Q):PE X e t':=λpins s σ H Q I w=>h pins s σ H Q I (k σ H Q w)
def PT.imp(h:PT X e t)(k:∀σ H Q,t' σ H Q->t σ H Q):PT X e t':=λpins s σ H Q I w=>h pins s σ H Q I (k σ H Q w)
def PW.imp(h:PW X e t)(k:∀σ H Q,t' σ H Q->t σ H Q):PW X e t':=λwh pins s σ H Q I w=>h wh pins s σ H Q I (k σ H Q w)
def PA.imp(h:PA X es t)(k:∀σ H Q,t' σ H Q->t σ H Q):PA X es t':=λpos pins s σ H Q I w=>h pos pins s σ H Q I (k σ H Q w)
def PS.imp(h:PS X st t)(k:∀D σ H,t' D σ H->t D σ H):PS X st t':=λpins s σ H D I w=>h pins s σ H D I (k D σ H w)
def PSs.imp(h:PSs X sts t)(k:∀D σ H,t' D σ H->t D σ H):PSs X sts t':=λpins s σ H D I w=>h pins s σ H D I (k D σ H w)
def PG.imp(h:PG X e t)(k:∀v σ H Q,t' v σ H Q->t v σ H Q):PG X e t':=λpins s σ H v u Q I r w=>h pins s σ H v u Q I r (k v σ H Q w)
def PGs.imp(h:PGs X es t)(k:∀v σ H Q,t' v σ H Q->t v σ H Q):PGs X es t':=λpins s σ H v u Q I r w=>h pins s σ H v u Q I r (k v σ H Q w)
def PO.imp(h:PO X o t)(k:∀σ H Q,t' σ H Q->t σ H Q):PO X o t':=λpins s σ H Q I w=>h pins s σ H Q I (k σ H Q w)
end
section
variable(K:W.Frag)(mg:Ka)(X:Cx)(ES:St->XK)
def DE(e:Expr)(F:ME):Prop:=PE X e (rdE K mg ES F)
def DT(e:Expr)(F:MT):Prop:=PT X e (rdT K mg ES F)
def DW(e:Expr)(F:MT):Prop:=PW X e (rdT K mg ES F)
def DA(es:List Expr)(F:MA):Prop:=PA X es (rdA K mg ES F)
def DS(st:Stmt)(F:MS):Prop:=PS X st (rdS K mg ES F)
def DSs(st:List Stmt)(F:MS):Prop:=PSs X st (rdS K mg ES F)
end
def OpD(K:W.Frag)(mg:Ka)(r:R2)(g:D->D->AH->R D):Prop:=∀ρ h H dx dy x y Q E,Wd K mg ρ h H->RelD K mg ρ H dx x->RelD K mg ρ H dy y->cI K mg ρ H Q E (g dx dy h)->r x y H Q
def UnD(K:W.Frag)(mg:Ka)(r:V->Hp->VK->Prop)(g:D->AH->R D):Prop:=∀ρ h H dx x Q E,Wd K mg ρ h H->RelD K mg ρ H dx x->cI K mg ρ H Q E (g dx h)->r x H Q
def aR(K:W.Frag)(mg:Ka)(r:List V->Hp->VK->Prop)(g:Fn):Prop:=∀ρ h H ds vs Q E,Wd K mg ρ h H->RelDs K mg ρ H ds vs->cI K mg ρ H Q E (g ds h)->r vs H Q
def cK(i:Nat):ME:=λae h=>match ae[i]? with
 |some (some d)=>.ok d h
 |_=>.stuck
def eC(d:D):ME:=λ_ h=>.ok d h
def eOp(g:D->D->AH->R D)(F G:ME):ME:=λae h=>(F ae h).bind λx h1=>(G ae h1).bind λy h2=>g x y h2
def eUn(g:D->AH->R D)(F:ME):ME:=λae h=>(F ae h).bind g
def rP:MA:=λ_ h=>.ok [] h
def m8(F:ME)(G:MA):MA:=λae h=>(F ae h).bind λx h1=>(G ae h1).bind λxs h2=>.ok (x::xs) h2
def eFn(g:Fn)(A:MA):ME:=λae h=>(A ae h).bind g
def kC(ds:List D)(h:AH):R D:=if ds.length<=16777216 then .ok (.tup ds) h else .stuck
def cG(ds:List D)(h:AH):R D:=if ds.length<=16777216 then .ok (.ref h.length) (h++[.lst ds]) else .stuck
def asB(d:D)(h:AH):R Bool:=match d with
 |.bl b=>.ok b h
 |_=>.stuck
def vv(F G:ME):ME:=λae h=>(F ae h).bind λx h1=>(asB x h1).bind λb h2=>if b=true then G ae h2 else .ok (.bl false) h2
def xI(F:ME):ME:=λae h=>(F ae h).bind λx h1=>(asB x h1).bind λb h2=>.ok (.bl (!b)) h2
def tOf(F:ME):MT:=λae h=>(F ae h).bind asB
def tAn(c d:MT):MT:=λae h=>(c ae h).bind λb h1=>if b=true then d ae h1 else .ok false h1
def tO(c d:MT):MT:=λae h=>(c ae h).bind λb h1=>if b=true then .ok true h1 else d ae h1
def tNo(c:MT):MT:=λae h=>(c ae h).bind λb h1=>.ok (!b) h1
section
variable{K:W.Frag}{mg:Ka}{ρ:List Addr}{H:Hp}{h:AH}
def du(w:Wd K mg ρ h H)(rs:RelDs K mg ρ H ds vs)(hp:H p=none)(q:cI K mg ρ H Q E (.ok (.ref h.length) (h++[.lst ds]))):Q (.ref p) (upd H p (.lst vs)):=by
 have l:Le ρ H (ρ++[p]) (upd H p (.lst vs)):=(cP hp).trans lE
 refine q (ρ++[p]) _ l (w.alloc hp ⟨vs,bF,rs.mono l⟩) _ (.ref ?_)
 rw[<- w.len,HX (j_ _),JQ]
 rfl
def gA(w:Wd K mg ρ h H)(rs:RelDs K mg ρ H ds vs)(hp:H p=none)(q:cI K mg ρ H Q E (.ok (.tup ds) h)):Q (.ref p) (upd H p (.tup vs)):=
 q ρ _ (cP hp) (w.tuple hp) _ (.tup (SqT.of bF) (rs.mono (cP hp)))
def av(w:Wd K mg ρ h H)(r:RelD K mg ρ H d v)(q:cI K mg ρ H Q E (.ok d h)):Q v H:=q ρ H Le.refl w v r
end
section
variable{K:W.Frag}{mg:Ka}{X:Cx}{ES:St->XK}{e a b c:Expr}{es:List Expr}{F G:ME}{A:MA}{cf cg:MT}{pos:Pos}
def Ef(i:Nat)(hN:X.N[i]?=some x)(hv:Vis X.env.scope x)(hd:(x==("__debug__" : Str))=false)
 (hcd:(x==("__classdict__" : Str))=false):DE K mg X ES (.Name x pos) (cK i):=PE.imp (Fb hN hv hd hcd) λσ H Q q_=>q_.el λρ h ae w re p=>by
 unfold cK at p
 split at p
 ·rename_i d ed
  obtain⟨v,e1,r⟩:=re.at_ i d ed
  exact⟨v,e1,av w r p⟩
 ·exact p.elim
def oG(hp:PE X e (tC v))(r:∀ρ H,RelD K mg ρ H d v):DE K mg X ES e (eC d):=PE.imp hp λσ H Q q_=>q_.el λρ h ae w re p=>av w (r ρ H) p
def Ee:DE K mg X ES (.Constant (.int i) j pos) (eC (.int i)):=oG Bh λ_ _=>.int i
def FX:DE K mg X ES (.Constant (.bool i) j pos) (eC (.bl i)):=oG GH λ_ _=>.bl i
def Ek:DE K mg X ES (.Constant (.str x) j pos) (eC (.str x)):=oG ui λ_ _=>.str x
structure GC(K:W.Frag)(mg:Ka)(x:Str)(d:D):Prop where
 ex:∃u v,mg x=some u/\RelV v u/\∀ρ H,RelD K mg ρ H d v
def Fe(hg:Gl X x)(ha:GC K mg x d)(hm:X.mg=mg)(hd:(x==("__debug__" : Str))=false):DE K mg X ES (.Name x pos) (eC d):=by
 subst hm
 obtain⟨u,v,h1,h2,h3⟩:=ha.ex
 exact oG (AG hg h1 h2 hd) h3
def Fw(hg:Gl X x)(hm:mg x=none)(hv:bootBuiltins x=some (.type n))(he:X.mg=mg)(hn:x ≠ "__name__")(hd:(x==("__debug__" : Str))=false):DE K mg X ES (.Name x pos) (eC (.ty n)):=by
 subst he
 exact oG (yR hg hm hv (v:=.ty n) rfl hn hd) λ_ _=>.ty n
def ni(hd:OpD K mg r g)(σ:St)(H:Hp)(Q:VK)(q:rdE K mg ES (eOp g F G) σ H Q):tOp r (rdE K mg ES F) (rdE K mg ES G) σ H Q:=by
 obtain⟨ρ,h,ae,w,re,p⟩:=q
 exact⟨ρ,h,ae,w,re,p.bind.imp λdx h1 ρ1 H1 l1 w1 p1 x rx=>⟨ρ1,h1,ae,w1,re.mono l1,p1.bind.imp λdy h2 ρ2 H2 l2 w2 p2 y ry=>hd ρ2 h2 H2 dx dy x y Q _ w2 (rx.mono l2) ry p2⟩⟩
def GZ(ho:OpR X (binaryOp op) r)(hd:OpD K mg r g)(ha:DE K mg X ES a F)(hb:DE K mg X ES b G):DE K mg X ES (.BinOp a op b pos) (eOp g F G):=PE.imp (Gf ho ha hb) (ni hd)
def Hx(hr:IxR X r)(hd:OpD K mg r g)(ha:DE K mg X ES a F)(hb:DE K mg X ES b G)(hs:lj b):DE K mg X ES (.Subscript a b pos) (eOp g F G):=PE.imp (Ht hr ha hb hs) (ni hd)
def Et(ho:OpR X (compareOp op) r)(hd:OpD K mg r g)(ha:DE K mg X ES a F)(hb:DE K mg X ES b G)(hm:behindInMarks op b=false):DE K mg X ES (.Compare a [op] [b] pos) (eOp g F G):=PE.imp (zP ho ha hb hm) (ni hd)
def p6(σ:St)(H:Hp)(Q:Bool->Hp->Prop)(q:rdT K mg ES (tOf F) σ H Q):rdE K mg ES F σ H λx H'=>∃k,x=.bl k/\Q k H':=by
 obtain⟨ρ,h,ae,w,re,p⟩:=q
 refine⟨ρ,h,ae,w,re,p.bind.imp λd h1 ρ1 H1 l1 w1 p1 x rx=>?_⟩
 unfold asB at p1
 split at p1
 ·cases rx;exact⟨_,rfl,p1 ρ1 H1 Le.refl w1⟩
 ·exact p1.elim
def C5(ho:OpR X (compareOp op) r)(hd:OpD K mg r g)(ha:DE K mg X ES a F)(hb:DE K mg X ES b G)(hm:behindInMarks op b=false):DT K mg X ES (.Compare a [op] [b] pos) (tOf (eOp g F G)):=
 PT.imp (Ak ho ha hb hm) λσ H Q q=>ni hd σ H _ (p6 σ H Q q)
def BB(ha:DE K mg X ES a F)(he:∀gl,isTrue a X.env gl=(do let v <- gl;standAt a.pos;holding [v] (truthy v))):DT K mg X ES a (tOf F):=
 PT.imp (Cs ha he) λσ H Q q=>p6 σ H Q q
def Cy(ha:DT K mg X ES a cf):DT K mg X ES (.UnaryOp .Not a pos) (tNo cf):=PT.imp (Es ha) λσ H Q q_=>q_.el λρ h ae w re p=>
 ⟨ρ,h,ae,w,re,p.bind.imp λb h1 ρ1 H1 l1 w1 p1=>p1 ρ1 H1 Le.refl w1⟩
def zr(ha:DT K mg X ES a cf):DW K mg X ES (.BoolOp .And [a] pos) cf:=z9 ha
def C9(ha:DT K mg X ES a cf):DW K mg X ES (.BoolOp .Or [a] pos) cf:=C7 ha
def CU(ha:DT K mg X ES a cf)(hb:DW K mg X ES (.BoolOp .And (b::es) pos) cg):DW K mg X ES (.BoolOp .And (a::b::es) pos) (tAn cf cg):=PW.imp (BD ha hb) λσ H Q q_=>q_.el λρ h ae w re p=>
 ⟨ρ,h,ae,w,re,p.bind.imp λb h1 ρ1 H1 l1 w1 p1=>by
  cases b with
  |true=>exact⟨ρ1,h1,ae,w1,re.mono l1,p1⟩
  |false=>exact p1 ρ1 H1 Le.refl w1⟩
def Ft(ha:DT K mg X ES a cf)(hb:DW K mg X ES (.BoolOp .Or (b::es) pos) cg):DW K mg X ES (.BoolOp .Or (a::b::es) pos) (tO cf cg):=PW.imp (GF ha hb) λσ H Q q_=>q_.el λρ h ae w re p=>
 ⟨ρ,h,ae,w,re,p.bind.imp λb h1 ρ1 H1 l1 w1 p1=>by
  cases b with
  |true=>exact p1 ρ1 H1 Le.refl w1
  |false=>exact⟨ρ1,h1,ae,w1,re.mono l1,p1⟩⟩
def DW.dt(h:DW K mg X ES a cf):DT K mg X ES a cf:=PW.pt h
def EE{op}(h:DE K mg X ES a F):DE K mg X ES (.BoolOp op [a] pos) F:=EG h
def DF(ha:DE K mg X ES a F)(hb:DE K mg X ES (.BoolOp .And (b::es) pos) G):DE K mg X ES (.BoolOp .And (a::b::es) pos) (vv F G):=PE.imp (CG ha hb) λσ H Q q_=>q_.el λρ h ae w re p=>by
 refine⟨ρ,h,ae,w,re,p.bind.imp λd h1 ρ1 H1 l1 w1 p1 x rx=>?_⟩
 unfold asB at p1
 split at p1
 ·rename_i b'
  cases rx
  refine⟨b',rfl,?_⟩
  cases b' with
  |true=>exact⟨ρ1,h1,ae,w1,re.mono l1,p1⟩
  |false=>exact p1 ρ1 H1 Le.refl w1 _ (.bl false)
 ·exact p1.elim
def DU(ha:DE K mg X ES a F):DE K mg X ES (.UnaryOp .Not a pos) (xI F):=PE.imp (Ba ha) λσ H Q q_=>q_.el λρ h ae w re p=>by
 refine⟨ρ,h,ae,w,re,p.bind.imp λd h1 ρ1 H1 l1 w1 p1 x rx=>?_⟩
 unfold asB at p1
 split at p1
 ·cases rx
  exact⟨_,rfl,p1 ρ1 H1 Le.refl w1 _ (.bl _)⟩
 ·exact p1.elim
def Fo(ho:UnR X (unaryOp op) r)(hd:UnD K mg r g)(ha:DE K mg X ES a F):DE K mg X ES (.UnaryOp op a pos) (eUn g F):=PE.imp (Gb ho ha) λσ H Q q_=>q_.el λρ h ae w re p=>
 ⟨ρ,h,ae,w,re,p.bind.imp λd h1 ρ1 H1 l1 w1 p1 x rx=>hd ρ1 h1 H1 d x Q _ w1 rx p1⟩
def Ey:DA K mg X ES [] rP:=PA.imp Cm λσ H Q q_=>q_.el λρ h ae w re p=>p ρ H Le.refl w _ .nil
def AS(ha:DE K mg X ES e F)(hr:DA K mg X ES es A)(hs:starEach (e::es) X.env=(false,eval e X.env)::starEach es X.env):DA K mg X ES (e::es) (m8 F A):=PA.imp (zR ha hr hs) λσ H Q q_=>q_.el λρ h ae w re p=>
 ⟨ρ,h,ae,w,re,p.bind.imp λd h1 ρ1 H1 l1 w1 p1 x rx=>⟨ρ1,h1,ae,w1,re.mono l1,p1.bind.imp λds h2 ρ2 H2 l2 w2 p2 vs rs=>p2 ρ2 H2 Le.refl w2 _ (.cons (rx.mono l2) rs)⟩⟩
def A7{x1}(h:DA K mg X ES es A):DE K mg X ES (.Tuple es x1 pos) (eFn kC A):=PE.imp (Dq h) λσ H Q q_=>q_.el λρ h ae w re p=>
 ⟨ρ,
  h,ae,w,re,p.bind.imp λds h1 ρ1 H1 l1 w1 p1 vs rs=>by
  unfold kC at p1
  split at p1
  ·rename_i hl
   exact⟨by rw[<- rs.len];exact hl,λq hq=>gA w1 rs hq p1⟩
  ·exact p1.elim⟩
def Cv(h:DA K mg X ES es A):DE K mg X ES (.List es pos) (eFn cG A):=PE.imp (DD h) λσ H Q q_=>q_.el λρ h ae w re p=>
 ⟨ρ,
  h,ae,w,re,p.bind.imp λds h1 ρ1 H1 l1 w1 p1 vs rs=>by
  unfold cG at p1
  split at p1
  ·rename_i hl
   exact⟨by rw[<- rs.len];exact hl,λq hq=>du w1 rs hq p1⟩
  ·exact p1.elim⟩
def r9(hd:aR K mg r g)(σ:St)(H:Hp)(Q:VK)(q:rdE K mg ES (eFn g A) σ H Q):tCB r (rdA K mg ES A) σ H Q:=by
 obtain⟨ρ,h,ae,w,re,p⟩:=q
 exact⟨ρ,h,ae,w,re,p.bind.imp λds h1 ρ1 H1 l1 w1 p1 vs rs=>hd ρ1 h1 H1 ds vs Q _ w1 rs p1⟩
def vN{id:String}{r:List V->Hp->VK->Prop}{g:Fn}{x:Str}{p:Pos}(hc:CallR X (.builtin id) r)(hd:aR K mg r g)(hg:Gl X x)(hm:mg x=none)(hv:bootBuiltins x=some (.builtin id))(ha:DA K mg X ES (e::es) A)(hk:X.mg=mg)(hn:x ≠ "__name__")(hdb:(x==("__debug__" : Str))=false)
 (he:starEach (e::es) X.env=(false,eval e X.env)::starEach es X.env) (hpl:(backTo pos (starEach es X.env)).any (·.1)=false):DE K mg X ES (.Call (.Name x p) (e::es) [] pos) (eFn g A):=by
 subst hk
 exact PE.imp (vD hc hg hm hv ha hn hdb he hpl) (r9 hd)
def uO(hc:CallR X (.type T) r)(hd:aR K mg r g)(hg:Gl X x)(hm:mg x=none)(hv:bootBuiltins x=some (.type T))(ha:DA K mg X ES (e::es) A)(hk:X.mg=mg)(hn:x ≠ "__name__")(hdb:(x==("__debug__" : Str))=false)
 (he:starEach (e::es) X.env=(false,eval e X.env)::starEach es X.env) (hpl:(backTo pos (starEach es X.env)).any (·.1)=false):DE K mg X ES (.Call (.Name x p) (e::es) [] pos) (eFn g A):=by
 subst hk
 exact PE.imp (uJ hc hg hm hv ha hn hdb he hpl) (r9 hd)
end
def SR.then(r:SR)(f:AE->AH->SR):SR:=match r with
 |.nx ae h=>f ae h
 |.rt d h=>.rt d h
 |.bk ae h=>.bk ae h
 |.ct ae h=>.ct ae h
 |.exc c ae h=>.exc c ae h
 |.stuck=>.stuck
def R.toS{α:Type}(r:R α)(ae:AE)(f:α->AH->SR):SR:=match r with
 |.ok a h=>f a h
 |.exc c h=>.exc c ae h
 |.stuck=>.stuck
def sNx:MS:=λae h=>.nx ae h
def sBk:MS:=λae h=>.bk ae h
def vW(F G:MS):MS:=λae h=>(F ae h).then G
def xn(F:ME):MS:=λae h=>(F ae h).toS ae λd h1=>.rt d h1
def sm(F:ME):MS:=λae h=>(F ae h).toS ae λ_ h1=>.nx ae h1
def sIf(c:MT)(F G:MS):MS:=λae h=>(c ae h).toS ae λb h1=>if b=true then F ae h1 else G ae h1
abbrev MG:=D->AE->AH->R AE
abbrev MGs:=List D->AE->AH->R AE
def f9(F:ME)(g:MG):MS:=λae h=>(F ae h).toS ae λd h1=>(g d ae h1).toS ae λa_ h2=>.nx a_ h2
def gN(i:Nat):MG:=λd ae h=>.ok (ae.set i (some d)) h
def gsN:MGs:=λds ae h=>match ds with
 | []=>.ok ae h
 |_=>.stuck
def gsC(g:MG)(u:MGs):MGs:=λds ae h=>match ds with
 |d::r=>(g d ae h).bind λa_ h'=>u r a_ h'
 | []=>.stuck
def gT(u:MGs):MG:=λd ae h=>match d with
 |.tup ds=>u ds ae h
 |_=>.stuck
def gS(F G:ME)(w:D->D->D->AH->R Unit):MG:=λv ae h=>(F ae h).bind λo h1=>(G ae h1).bind λi h2=>(w o i v h2).bind λ_ h3=>.ok ae h3
def wg(i j:Nat)(A:MA):MS:=λae h=>(A ae h).toS ae λds h1=>match ds with
 | [d,e]=>.nx ((ae.set i (some d)).set j (some e)) h1
 |_=>.stuck
def oI(i:Nat)(g:D->D->AH->R D)(F:ME):MS:=λae h=>match ae[i]? with
 |some (some x)=>(F ae h).toS ae λy h1=>(g x y h1).toS ae λz h2=>.nx (ae.set i (some z)) h2
 |_=>.stuck
def o9(c:Str)(A:MA):MS:=λae h=>(A ae h).toS ae λds h1=>if ds.length<=16777216 then .exc c ae h1 else .stuck
section
variable(K:W.Frag)(mg:Ka)
def rdG(ES:St->XK)(g:MG):TG:=λv σ H Q=>∃ρ h ae d,Wd K mg ρ h H/\RelE K mg ρ H ae σ/\RelD K mg ρ H d v/\PostG K mg ρ H (ES σ) (λa_ _ ρ' H'=>∀σ',RelE K mg ρ' H' a_ σ'->Q σ' H') (g d ae h)
def rdGs(ES:St->XK)(g:MGs):TGs:=λvs σ H Q=>∃ρ h ae ds,Wd K mg ρ h H/\RelE K mg ρ H ae σ/\RelDs K mg ρ H ds vs/\PostG K mg ρ H (ES σ) (λa_ _ ρ' H'=>∀σ',RelE K mg ρ' H' a_ σ'->Q σ' H') (g ds ae h)
def DG(X:Cx)(ES:St->XK)(e:Expr)(g:MG):Prop:=PG X e (rdG K mg ES g)
def DGs(X:Cx)(ES:St->XK)(es:List Expr)(g:MGs):Prop:=PGs X es (rdGs K mg ES g)
def ja(X:Cx)(ES:St->XK):Prop:=∀(pins:Kb) (σ:St) (H:Hp) (s:Shared) (e:Value) (s':Shared),Inv X pins σ H s->CX1 X.prog X.w X.stack H s (ES σ) e s'->X.xe e s'
end
def rdG.el{K:W.Frag}{mg:Ka}{ES:St->XK}{g:MG}{v:V}{σ:St}{H:Hp}{Q:St->Hp->Prop}{C:Prop}(q:rdG K mg ES g v σ H Q)(k:∀ρ h ae d,Wd K mg ρ h H->RelE K mg ρ H ae σ->RelD K mg ρ H d v->PostG K mg ρ H (ES σ) (λa_ _ ρ' H'=>∀σ',RelE K mg ρ' H' a_ σ'->Q σ' H') (g d ae h)->C):C:=by
 obtain⟨ρ,h,ae,d,w,re,rd,p⟩:=q
 exact k ρ h ae d w re rd p
def rdGs.el{K:W.Frag}{mg:Ka}{ES:St->XK}{g:MGs}{v:List V}{σ:St}{H:Hp}{Q:St->Hp->Prop}{C:Prop}(q:rdGs K mg ES g v σ H Q)(k:∀ρ h ae d,Wd K mg ρ h H->RelE K mg ρ H ae σ->RelDs K mg ρ H d v->PostG K mg ρ H (ES σ) (λa_ _ ρ' H'=>∀σ',RelE K mg ρ' H' a_ σ'->Q σ' H') (g d ae h)->C):C:=by
 obtain⟨ρ,h,ae,d,w,re,rd,p⟩:=q
 exact k ρ h ae d w re rd p
section
variable{K:W.Frag}{mg:Ka}{X:Cx}{ES:St->XK}{ρ:List Addr}{H:Hp}{h:AH}{ae:AE}{σ:St}{De:Ends}
def bq(p:PostS K mg ρ H De ES (r.toS ae f))(re:RelE K mg ρ H ae σ)
 (i:∀a h1 ρ1 H1,Le ρ H ρ1 H1->Wd K mg ρ1 h1 H1->RelE K mg ρ1 H1 ae σ->PostS K mg ρ1 H1 De ES (f a h1)->k a h1 ρ1 H1):PostG K mg ρ H (ES σ) k r:=by
 cases r with
 |ok a h1=>exact λρ1 H1 l1 w1=>i a h1 ρ1 H1 l1 w1 (re.mono l1) (PostS.mono l1 p)
 |exc c h1=>exact λρ1 H1 C l1 w1 m=>p ρ1 H1 σ C l1 w1 (re.mono l1) m
 |stuck=>exact p
def eR(p:PostS K mg ρ H De ES (.nx a_ h))(w:Wd K mg ρ h H)(re:RelE K mg ρ H a_ σ):De.nx σ H:=p ρ H σ Le.refl w re
def v3(p:PostS K mg ρ H De ES (r.then f))(i:∀c_ h1 ρ1 H1 σ1,Le ρ H ρ1 H1->Wd K mg ρ1 h1 H1->RelE K mg ρ1 H1 c_ σ1->PostS K mg ρ1 H1 De ES (f c_ h1)->N σ1 H1):PostS K mg ρ H { De with nx:=N } ES r:=by
 cases r with
 |nx c_ h1=>exact λρ1 H1 σ1 l1 w1 re1=>i c_ h1 ρ1 H1 σ1 l1 w1 re1 (PostS.mono l1 p)
 |rt d h1=>exact p
 |bk c_ h1=>exact p
 |ct c_ h1=>exact p
 |exc c c_ h1=>exact p
 |stuck=>exact p
end
section
variable{K:W.Frag}{mg:Ka}{X:Cx}{ES:St->XK}{e a b c o i:Expr}{es:List Expr}{st:Stmt}{sts sts':List Stmt}{F G:ME}{A:MA}{cf:MT}{U V':MS}{g:MG}{gs:MGs}{pos:Pos}
def AU:DSs K mg X ES [] sNx:=PSs.imp y7 λD σ H q_=>q_.el λρ h ae w re p=>eR p w re
def AM(h1:DS K mg X ES st U):DSs K mg X ES [st] U:=zS h1
def wZ(h1:DS K mg X ES st U)(h2:DSs K mg X ES sts V'):DSs K mg X ES (st::sts) (vW U V'):=PSs.imp (wW h1 h2) λD σ H q_=>q_.el λρ h ae w re p=>
 ⟨ρ,h,ae,w,re,v3 p λc_ h1 ρ1 H1 σ1 l1 w1 re1 p1=>⟨ρ1,h1,c_,w1,re1,p1⟩⟩
def xB:DS K mg X ES (.Break pos) sBk:=PS.imp xh λD σ H q_=>q_.el λρ h ae w re p=>p ρ H σ Le.refl w re
def Dx(he:DE K mg X ES e F):DS K mg X ES (.Return (some e) pos) (xn F):=PS.imp (BA he) λD σ H q_=>q_.el λρ h ae w re p=>
 ⟨ρ,h,ae,w,re,bq p re λd h1 ρ1 H1 l1 w1 re1 p1 v rv=>p1 ρ1 H1 v Le.refl w1 rv⟩
def Aw(he:DE K mg X ES e F)(hs:swapsWith e none pos.line X.env=pure false):DS K mg X ES (.Expr e pos) (sm F):=PS.imp (Au he hs) λD σ H q_=>q_.el λρ h ae w re p=>
 ⟨ρ,h,ae,w,re,bq p re λd h1 ρ1 H1 l1 w1 re1 p1 v rv=>eR p1 w1 re1⟩
def G7(hc:DT K mg X ES c cf)(ha:DSs K mg X ES sts U)(hb:DSs K mg X ES sts' V'):DS K mg X ES (.If c sts sts' pos) (sIf cf U V'):=PS.imp (FN hc ha hb) λD σ H q_=>q_.el λρ h ae w re p=>
 ⟨ρ,h,ae,w,re,bq p re λb h1 ρ1 H1 l1 w1 re1 p1=>by
  cases b with
  |true=>exact⟨ρ1,h1,ae,w1,re1,p1⟩
  |false=>exact⟨ρ1,h1,ae,w1,re1,p1⟩⟩
def zH{i:Nat}{x:Str}(hN:X.N.Nodup)(hi:X.N[i]?=some x)(hx:Loc X.env.scope x)(hf:X.fn x=true\/X.env.scope.names.lookup x=some .local):DG K mg X ES (.Name x pos) (gN i):=
 PG.imp (y9 hN hi hx hf) λv σ H Q q_=>q_.el λρ h ae d w re rd p=>p ρ H Le.refl w _ (re.set i rd)
def yK:DGs K mg X ES [] gsN:=PGs.imp Ad λvs σ H Q q_=>q_.el λρ h ae ds w re rd p=>by
 cases rd with
 |nil=>exact⟨rfl,p ρ H Le.refl w _ re⟩
 |cons r rr=>exact p.elim
def wC(h1:DG K mg X (λ_=>E0) e g)(h2:DGs K mg X (λ_=>E0) es gs)
 (hs:(assignEach (e::es) X.env).map (·.2)=assign e X.env::(assignEach es X.env).map (·.2)):DGs K mg X (λ_=>E0) (e::es) (gsC g gs):=PGs.imp (xr h1 h2 hs) λvs σ H Q q_=>q_.el λρ h ae ds w re rd p=>by
 cases rd with
 |nil=>exact p.elim
 |cons r rr=>exact⟨_,_,rfl,ρ,h,ae,_,w,re,r,p.bind.imp λc_ h1 ρ1 H1 l1 w1 p1 σ1 re1=>⟨ρ1,h1,c_,_,w1,re1,rr.mono l1,p1⟩⟩
def DN{k n:Nat}(hK:X.K=K)(hc:X.calm=true)(h:DGs K mg X (λ_=>E0) es gs)
 (hn:(assignEach es X.env).length=n) (hst:(assignEach es X.env).findIdx? (·.1)=none):DG K mg X (λ_=>E0) (.Tuple es k pos) (gT λds ae h=>if ds.length=n then gs ds ae h else .stuck):=by
 subst hK
 refine PG.imp (EZ hc h hn hst) λv σ H Q q_=>q_.el λρ h ae d w re rd p=>?_
 unfold gT at p
 cases rd with
 |
  tup q rs=>
  dsimp only at p
  split at p
  ·rename_i hl
   exact⟨_,_,rfl,q,by rw[<- rs.len];exact hl,ρ,h,ae,_,w,re,rs,p⟩
  ·exact p.elim
 |_=>exact p.elim
def noX{α:Type}(r:R α):R α:=match r with
 |.exc _ _=>.stuck
 |.ok a h=>.ok a h
 |.stuck=>.stuck
def DG.weak(hg:DG K mg X (λ_=>E0) e g):DG K mg X ES e (λd ae h=>noX (g d ae h)):=PG.imp hg λv σ H Q q_=>q_.el λρ h ae d w re rd p=>by
 refine⟨ρ,h,ae,d,w,re,rd,?_⟩
 try dsimp only at p
 cases q:g d ae h with
 |ok a h1=>rw[q] at p;exact p
 |exc c h1=>rw[q] at p;exact p.elim
 |stuck=>rw[q] at p;exact p.elim
def tj(K:W.Frag)(mg:Ka)(r:wa)(f:D->D->D->AH->R Unit):Prop:=∀ρ h H do_ di dv o i v (Q:Hp->Prop) E,Wd K mg ρ h H->RelD K mg ρ H do_ o->RelD K mg ρ H di i->RelD K mg ρ H dv v->PostG K mg ρ H E (λ_ _ _ H'=>Q H') (f do_ di dv h)->r o i v H Q
def u5(he:DE K mg X ES e F)(hg:DG K mg X ES a g)(hs:swapsWithSole [a] e pos.line X.env=pure false)(hw:swappedStores [a] e X.env=pure none)
 (h1:(assignEach [a] X.env).map (·.2)=[assign a X.env]):DS K mg X ES (.Assign [a] e pos) (f9 F g):=PS.imp (Bl he hg hs hw h1) λD σ H q_=>q_.el λρ h ae w re p=>
 ⟨ρ,h,ae,w,re,bq p re λd h1 ρ1 H1 l1 w1 re1 p1 v rv=>⟨ρ1,h1,ae,d,w1,re1,rv,bq p1 re1 λae2 h2 ρ2 H2 l2 w2 re2 p2 σ' re'=>eR p2 w2 re'⟩⟩
def Cc{i:Nat}{x:Str}{f_:Pos}(hN:X.N.Nodup)(hi:X.N[i]?=some x)(hx:Loc X.env.scope x)(he:DE K mg X ES e F)(hs:swapsWith e (some (.Name x f_)) pos.line X.env=pure false)(hf:X.fn x=true\/X.env.scope.names.lookup x=some .local):
 DS K mg X ES (.Assign [.Name x f_] e pos) (f9 F (gN i)):=PS.imp (CF hN hi hx he hs hf) λD σ H q_=>q_.el λρ h ae w re p=>
 ⟨ρ,h,ae,w,re,bq p re λd h1 ρ1 H1 l1 w1 re1 p1 v rv=>eR p1 w1 (re1.set i rv)⟩
def Cq{i j:Nat}{x y:Str}{px py pt:Pos}{kt k2 pt2}(hc:X.calm=true)(hN:X.N.Nodup)(hi:X.N[i]?=some x)(hj:X.N[j]?=some y)(hij:i≠j)
 (hx:X.env.scope.names.lookup x=some .local) (hy:X.env.scope.names.lookup y=some .local) (ha:DA K mg X ES [a,b] A)
 (hw:swappedStores [.Tuple [.Name x px,.Name y py] kt pt] (.Tuple [a,b] k2 pt2) X.env=pure (some [x,y]))
 (hs:swapsWithSole [.Tuple [.Name x px,.Name y py] kt pt] (.Tuple [a,b] k2 pt2) pos.line X.env=pure false):
 DS K mg X ES (.Assign [.Tuple [.Name x px,.Name y py] kt pt] (.Tuple [a,b] k2 pt2) pos) (wg i j A):=PS.imp (Dl hc hN hi hj hij hx hy ha hw hs) λD σ H q_=>q_.el λρ h ae w re p=>
 ⟨ρ,h,ae,w,re,bq p re λds h1 ρ1 H1 l1 w1 re1 p1 vs rs=>by
  split at p1
  ·cases rs with
   |
    cons r1 rs=>
    cases rs with
    |
     cons r2 rs=>
     cases rs
     exact⟨_,_,rfl,eR p1 w1 ((re1.set i r1).set j r2)⟩
  ·exact p1.elim⟩
def IpD(K:W.Frag)(mg:Ka)(r:TIp)(g:D->D->AH->R D):Prop:=∀ρ h H dx dy x y Q E,Wd K mg ρ h H->RelD K mg ρ H dx x->RelD K mg ρ H dy y->cI K mg ρ H Q E (g dx dy h)->r x y H Q
def E7{i:Nat}{x:Str}{op:Operator}{ti:TIp}{f_:Pos}{gg:D->D->AH->R D}(hN:X.N.Nodup)(hi:X.N[i]?=some x)(hx:Loc X.env.scope x)(he:DE K mg X ES e F)(ho:PIp X op ti)(hd:IpD K mg ti gg)(hf:X.fn x=true\/X.env.scope.names.lookup x=some .local):
 DS K mg X ES (.AugAssign (.Name x f_) op e pos) (oI i gg F):=PS.imp (CL hN hi hx he ho hf) λD σ H q_=>q_.el λρ h ae w re p=>by
 unfold oI at p
 split at p
 ·rename_i d ed
  obtain⟨v,e1,r⟩:=re.at_ i d ed
  exact⟨v,e1,ρ,h,ae,w,re,bq p re λdy h1 ρ1 H1 l1 w1 re1 p1 y ry=>hd ρ1 h1 H1 d dy v y _ _ w1 (r.mono l1) ry (bq p1 re1 λdz h2 ρ2 H2 l2 w2 re2 p2 z rz=>eR p2 w2 (re2.set i rz))⟩
 ·exact p.elim
def xj(hc:X.calm=true)(hR:Rz X E)(hg:Gl X x)(hm:mg x=some (.ref C))(hq:W.excIn X.K C jN "ValueError.__new__"=true)(ha:DA K mg X (λ_=>E) (e::es) A)(hk:X.mg=mg)
 (he:starEach (e::es) X.env=(false,eval e X.env)::starEach es X.env) (ce:(backTo cpos (starEach es X.env)).any (·.1)=false) (hd:(x==("__debug__" : Str))=false):
 DS K mg X (λ_=>E) (.Raise (some (.Call (.Name x np) (e::es) [] cpos)) none pos) (o9 x A):=by
 subst hk
 exact
  PS.imp (vp hc hR hg hm hq ha he ce hd) λD σ H q_=>q_.el λρ h ae w re p=>
  ⟨ρ,
   h,ae,w,re,bq p re λds h1 ρ1 H1 l1 w1 re1 p1 vs rs=>by
   split at p1
   ·rename_i hl
    exact⟨by rw[<- rs.len];exact hl,p1 ρ1 H1 σ C Le.refl w1 re1 hm⟩
   ·exact p1.elim⟩
def Ah(C:Callee X.prog X.w X.K X.mg X.base x k ps (spD K mg n S))(hr:Room k X.A)(hg:Gl X x)(hx:ja X ES)(ha:DA K mg X ES (e::es) A)
 (hdb:(x==("__debug__" : Str))=false) (he:starEach (e::es) X.env=(false,eval e X.env)::starEach es X.env) (hpl:(backTo pos (starEach es X.env)).any (·.1)=false):
 DE K mg X ES (.Call (.Name x p) (e::es) [] pos) (eFn (λds h=>if ds.length=n then S ds h else .stuck) A):=by
 obtain⟨f,fd,F',m,kp,bb,_⟩:=C.ex
 intro pins s σ H Q I hh
 refine I_ (lN I hg m ?_ hdb)
 have rd:rdA K mg ES A σ H (λvs H1=>spD K mg n S vs H1 Q (ES σ)):=by
  obtain⟨ρ,h,ae,w,re,p⟩:=hh
  refine⟨ρ,h,ae,w,re,p.bind.imp λds h1 ρ1 H1 l1 w1 p1 vs rs=>?_⟩
  split at p1
  ·rename_i hl
   exact⟨ρ1,h1,ds,w1,rs,hl,p1⟩
  ·exact p1.elim
 refine W.callWith_K (h₀:=X.base) I.ok.mod.kin kp (HZ (ha pos pins s σ H _ I rd) (λus s1 ⟨vs,H1,I1,r,q⟩=>⟨I1.kIn,?_⟩) λ_ _ z=>z) he hpl
 have hl:(us++[]).length=ps.length:=by rw[Iz,<- r.length];exact F'.len _ _ _ _ q
 refine wpAny_call (codeAny_mono (F'.run X.A X.stack s1 H1 ⟨us,[]⟩ us vs Q (ES σ) hr I1.env0 (by simpa using bb s1 us I1.kIn hl) r q) λr s' hq=>?_)
 cases r with
 |error ex=>exact hx pins σ H1 s1 ex s' I1 hq
 |
  ok fl=>
  cases fl with
  |ret u=>exact I1.after hq
  |next=>exact False.elim hq
  |brk=>exact False.elim hq
  |cont=>exact False.elim hq
def fnD(n:Nat)(F:MS):Fn:=λds h=>match F (ds.map some++List.replicate (n-ds.length) none) h with
 |.nx _ h'=>.ok .non h'
 |.rt d h'=>.ok d h'
 |.exc c _ h'=>.exc c h'
 |_=>.stuck
def pR(hp:nI (CX1 X.prog X.w) X E):ja X (λ_=>E):=λpins σ H s e s' I h=>hp pins σ H s e s' I h
def wD:ja X (λ_=>E0):=λpins σ H s e s' I h=>Hr pins σ H s e s' I h
end
section
variable{P:Program}{w:World}{K:W.Frag}{mg:Ka}{base:Heap}{x:Str}{st:Stmt}{k:Nat}{ps N:List Str}{F:MS}
def sP(rs:RelDs K mg ρ H ds vs):RelE K mg ρ H (ds.map some++List.replicate (N.length-ds.length) none) (dH N vs):=by
 unfold dH
 refine⟨by rw[z_,z_,g_,g_,Im,Im,rs.len],λi d e=>?_⟩
 by_cases hi:i<ds.length
 ·rw[B_ (by rw[g_];exact hi),Em] at e
  have e':ds[i]?=some d:=by
   cases q:ds[i]? with
   |none=>rw[q] at e;cases e
   |some z=>rw[q] at e;cases e;rfl
  obtain⟨v,h1,h2⟩:=rs.getD e'
  refine⟨v,?_,h2⟩
  rw[B_ (by rw[g_,<- rs.len];exact hi),Em,h1];rfl
 ·rw[HX (by rw[g_];omega),Ig] at e
  split at e <;> cases e
def Def.okD(D:Def K mg x st)(S:FnScope N ps (ak st))
 (hb:∀(kV doc pm:Value) (an:Option Addr) (cdv ct:Value) (us:List Value),us.length=ps.length->bindArgs (W.fnOf x x (bB st) (aN st) (ak st) .none kV doc pm an cdv ct) ⟨us,[]⟩=pure (ps.zip us))
 (b_:∀(f:Addr) (cdv:Value) (A:Around) (outer:List Env) (s:Shared) (H:Hp) (E:XK),Room k (A.deeper (envOfC x (ak st) s.heap.objs.size f cdv))->
  DSs K mg (cF (CX1 P w) P w K mg base N x (ak st) f cdv A outer s H E) (λ_=>E) (aN st) F):Callee P w K mg base x (k+1) ps (spD K mg ps.length (fnD N.length F)):=by
 refine D.okR S hb (λvs H Q E ⟨ρ,h,ds,w,rs,hl,p⟩=>by rw[<- rs.len];exact hl) λf cdv A outer s H vs Q E hr ⟨ρ,h,ds,w',rs,hl,p⟩=>?_
 refine⟨_,b_ f cdv A outer s H E hr,ρ,h,_,w',sP rs,?_⟩
 unfold fnD at p
 split at p
 ·rename_i e;rw[e];exact λρ1 H1 σ1 l1 w1 re1=>p ρ1 H1 l1 w1 _ .non
 ·rename_i e;rw[e];exact λρ1 H1 v l1 w1 rv=>p ρ1 H1 l1 w1 v rv
 ·rename_i e;rw[e];exact λρ1 H1 σ1 C l1 w1 re1 m=>p ρ1 H1 C l1 w1 m
 ·exact p.elim
end
def aP(h:AH)(n:Nat):Option (List D):=match h[n]? with
 |some (.lst xs)=>some xs
 |some (.fz xs)=>some xs
 |_=>none
def d9(h:AH):D->Option (List D)
 |.tup xs=>some xs
 |.ref n=>aP h n
 |.kl xs=>some xs
 |_=>none
section
variable{K:W.Frag}{mg:Ka}{ρ:List Addr}{H:Hp}{h:AH}
def bO(w:Wd K mg ρ h H)(ea:ρ[n]?=some a)(e:aP h n=some xs):∃vs,SqL K H a vs/\RelDs K mg ρ H xs vs:=by
 unfold aP at e
 split at e
 ·rename_i ys eo
  cases e
  obtain⟨vs,h1,h2⟩:=w.ob n a _ ea eo
  exact⟨vs,SqL.of h1,h2⟩
 ·rename_i ys eo
  cases e
  obtain⟨o,vs,h1,h2⟩:=w.ob n a _ ea eo
  exact⟨vs,.inl (.inr ⟨o,h1⟩),h2⟩
 ·cases e
def df(w:Wd K mg ρ h H)(r:RelD K mg ρ H d v)(e:d9 h d=some xs):∃p vs,v=.ref p/\(SqL K H p vs\/SqT K H p vs)/\RelDs K mg ρ H xs vs:=by
 cases r with
 |
  tup q rs=>
  have e':some _=some xs:=e
  cases e'
  exact⟨_,_,rfl,.inr q,rs⟩
 |
  ref ea=>
  obtain⟨vs,h1,h2⟩:=bO w ea e
  exact⟨_,vs,rfl,.inl h1,h2⟩
 |
  kl q rs=>
  have e':some _=some xs:=e
  cases e'
  exact⟨_,_,rfl,.inl (.inr q),rs⟩
 |_=>cases e
end
noncomputable def g2(f:Int->Int->R D)(x y:D):R D:=match x,y with
 |.int i,.int j=>f i j
 |_,_=>.stuck
def gI(f:Int->Int->D):D->D->AH->R D:=λx y h=>match x,y with
 |.int i,.int j=>.ok (f i j) h
 |_,_=>.stuck
open Classical in
def gIc(C:Int->Int->Prop)(f:Int->Int->D):D->D->AH->R D:=λx y h=>match x,y with
 |.int i,.int j=>if C i j then .ok (f i j) h else .stuck
 |_,_=>.stuck
section
variable{K:W.Frag}{mg:Ka}{X:Cx}
def iB(hr:∀i j ρ H,RelD K mg ρ H (g i j) (f i j)):OpD K mg (rI0 f) (gI g):=λρ h H dx dy x y Q E w rx ry p=>by
 unfold gI at p
 split at p
 ·cases rx;cases ry;exact⟨_,_,rfl,rfl,av w (hr _ _ ρ H) p⟩
 ·exact p.elim
def j4(hr:∀i j ρ H,RelD K mg ρ H (g i j) (f i j)):OpD K mg (rI C f) (gIc C g):=λρ h H dx dy x y Q E w rx ry p=>by
 unfold gIc at p
 split at p
 ·cases rx;cases ry
  split at p
  ·rename_i hc;exact⟨_,_,rfl,rfl,hc,av w (hr _ _ ρ H) p⟩
  ·exact p.elim
 ·exact p.elim
def gOr(g g':D->D->AH->R D):D->D->AH->R D:=λx y h=>match g x y h with
 |.stuck=>g' x y h
 |r=>r
def OpD.or(a:OpD K mg r g)(b:OpD K mg r' g'):OpD K mg (λx y H Q=>r x y H Q\/r' x y H Q) (gOr g g'):=λρ h H dx dy x y Q E w rx ry p=>by
 unfold gOr at p
 split at p
 ·exact .inr (b ρ h H dx dy x y Q E w rx ry p)
 ·exact .inl (a ρ h H dx dy x y Q E w rx ry p)
end
def jv:D->D->AH->R D:=λx y h=>match x,y with
 |.ref n,.ref m=>match h[n]?,h[m]? with
  |some (.lst xs),some (.lst ys)=>if xs.length+ys.length<=16777216 then .ok (.ref h.length) (h++[.lst (xs++ys)]) else .stuck
  |_,_=>.stuck
 |.tup xs,.tup ys=>if xs.length+ys.length<=16777216 then .ok (.tup (xs++ys)) h else .stuck
 |_,_=>.stuck
def gIx:D->D->AH->R D:=λx y h=>match d9 h x,y with
 |some xs,.int i=>match atI xs i with
  |some d=>.ok d h
  |none=>.stuck
 |_,_=>.stuck
section
variable{K:W.Frag}{mg:Ka}{X:Cx}
def i7(K:W.Frag):R2:=λx y H Q=>∃a b ys,x=.ref a/\y=.ref b/\SqT K H a []/\SqT K H b ys/\Q (.ref b) H
def yU:OpR X (binaryOp .Add) (i7 X.K):=by
 intro pins s σ H x y v u Q I rx ry h
 obtain⟨a,b,ys,rfl,rfl,ha,hb,q⟩:=h
 cases rx
 cases ry
 obtain⟨its,r1,p1,_⟩:=I.tuple ha
 obtain⟨its2,r2,p2,_⟩:=I.tuple hb
 have e:its=[]:=r1.nil_iff.mpr rfl
 subst e
 obtain⟨⟨cls,dd,data,sl⟩,ho,hc,n,hd⟩:=id p1
 obtain⟨⟨cls2,dd2,data2,sl2⟩,ho2,hc2,n2,hd2⟩:=id p2
 simp only at hc hd hc2 hd2
 subst hc hd hc2 hd2
 exact concat_meets ⟨_,ho,rfl⟩ ⟨_,ho2,rfl⟩ noFill_tuple_add seq_tuple_add JD Jy (Jv _ _)
  (tuple_addW0 _ _ _ _ n n2 dd dd2 sl sl2 rfl) ⟨ho,ho2,⟨.ref b,H,I,rfl,q⟩⟩
def yL:OpD K mg (λx y H Q=>lU x y H Q\/(i0 K x y H Q\/i7 K x y H Q)) jv:=λρ h H dx dy x y Q E w rx ry p=>by
 unfold jv at p
 split at p
 ·cases
   rx with
  |
   ref ea=>
   cases ry with
   |
    ref eb=>
    split at p
    ·rename_i xs ys e1 e2
     split at p
     ·rename_i hl
      obtain⟨vs,q1,r1⟩:=w.ob _ _ _ ea e1
      obtain⟨ws,q2,r2⟩:=w.ob _ _ _ eb e2
      exact .inl ⟨_,_,vs,ws,rfl,rfl,q1,q2,by rw[<- r1.len,<- r2.len];exact hl,λp' hp=>du w (r1.append r2) hp p⟩
     ·exact p.elim
    ·exact p.elim
 ·cases
   rx with
  |
   tup q1 r1=>
   cases ry with
   |
    tup q2 r2=>
    split at p
    ·rename_i hl
     cases r1 with
     |nil=>exact .inr (.inr ⟨_,_,_,rfl,rfl,q1,q2,av w (.tup q2 r2) p⟩)
     |
      cons r0 r1=>
      refine .inr (.inl ⟨_,_,_,_,rfl,rfl,q1,q2,(λz=>nomatch z),by rw[<- (RelDs.cons r0 r1).len,<- r2.len];exact hl,λz=>?_,λ_ p' hp=>gA w ((RelDs.cons r0 r1).append r2) hp p⟩)
      subst z
      cases r2
      rw[Iz] at p
      exact av w (.tup q1 (.cons r0 r1)) p
    ·exact p.elim
 ·exact p.elim
def Am(r:RelDs K mg ρ H xs vs)(e:atI xs i=some d):∃v,atI vs i=some v/\RelD K mg ρ H d v:=by
 unfold atI at e ⊢
 rw[<- r.len]
 cases q:ixN xs.length i with
 |none=>rw[q] at e;cases e
 |some j=>rw[q] at e;exact r.getD e
def E5:OpD K mg (λx y H Q=>sW K x y H Q\/rG K x y H Q) gIx:=λρ h H dx dy x y Q E w rx ry p=>by
 unfold gIx at p
 split at p
 ·rename_i xs i e1
  split at p
  ·rename_i d e2
   cases ry
   obtain⟨pa,vs,rfl,hq,rs⟩:=df w rx e1
   obtain⟨v,e3,rv⟩:=Am rs e2
   rcases hq with hq |hq
   ·exact .inl ⟨_,_,_,_,rfl,rfl,hq,e3,av w rv p⟩
   ·exact .inr ⟨_,_,_,_,rfl,rfl,hq,e3,av w rv p⟩
  ·exact p.elim
 ·exact p.elim
def ixK(h:X.K=K):IxR X (λx y H Q=>sW K x y H Q\/rG K x y H Q):=by subst h;exact ze.or CZ
def catK(h:X.K=K):OpR X (binaryOp .Add) (λx y H Q=>lU x y H Q\/(i0 K x y H Q\/i7 K x y H Q)):=by subst h;exact Bw.or (Ai.or yU)
end
def cX:Nat->AH->D->Option PyData
 |0,_,_=>none
 |_+1,_,.non=>some .none
 |_+1,_,.bl b=>some (.bool b)
 |_+1,_,.int i=>some (.int i)
 |_+1,_,.str x=>some (.str x)
 |k+1,h,.tup xs=>(xs.mapM (cX k h)).map .tuple
 |k+1,h,.ref n=>match aP h n with
  |some xs=>(xs.mapM (cX k h)).map .list
  |none=>none
 |_+1,_,_=>none
def mq{K:W.Frag}{mg:Ka}{ρ:List Addr}{H:Hp}{f:D->Option PyData}(hf:∀d v pd,RelD K mg ρ H d v->f d=some pd->Rep K H v pd):∀{xs:List D}{vs:List V}{ps:List PyData},RelDs K mg ρ H xs vs->xs.mapM f=some ps->Reps K H vs ps:=by
 intro xs
 induction xs with
 |
  nil=>
  intro vs ps r e
  cases r
  have e':some []=some _:=e
  cases e';exact .nil
 |
  cons x xs ih=>
  intro vs ps r e
  cases r with
  |
   cons r rr=>
   rw[Je] at e
   cases q:f x with
   |none=>rw[q] at e;cases e
   |
    some pd=>
    rw[q] at e
    cases q2:xs.mapM f with
    |none=>rw[q2] at e;cases e
    |
     some pds=>
     rw[q2] at e
     have e':some (pd::pds)=some ps:=e
     cases e'
     exact .cons (hf _ _ _ r q) (ih rr q2)
theorem hE{K:W.Frag}{mg:Ka}{ρ:List Addr}{H:Hp}{h:AH}(w:Wd K mg ρ h H):∀(k:Nat) {d:D}{v:V}{pd:PyData},RelD K mg ρ H d v->cX k h d=some pd->Rep K H v pd
 |0,_,_,_,_,e=>by cases e
 |
  k+1,d,v,pd,r,e=>by
  cases r with
  |non=>have e':some _=some pd:=e;cases e';exact .non
  |bl b=>have e':some _=some pd:=e;cases e';exact .bl b
  |int b=>have e':some _=some pd:=e;cases e';exact .int b
  |str b=>have e':some _=some pd:=e;cases e';exact .str b
  |
   tup q rs=>
   rename_i ds
   have e':(ds.mapM (cX k h)).map PyData.tuple=some pd:=e
   cases q2:ds.mapM (cX k h) with
   |none=>rw[q2] at e';cases e'
   |
    some ps=>
    rw[q2] at e'
    cases e'
    exact .tup q (mq (λd v pd r e=>hE w k r e) rs q2)
  |
   ref ea=>
   rename_i n a
   unfold cX at e
   split at e
   ·rename_i xs e1
    obtain⟨vs,h1,h2⟩:=bO w ea e1
    cases q2:xs.mapM (cX k h) with
    |none=>rw[q2] at e;cases e
    |
     some ps=>
     rw[q2] at e
     cases e
     exact .lst h1 (mq (λd v pd r e=>hE w k r e) h2 q2)
   ·cases e
  |_=>cases e
def oK(h:AH)(x y:D):Option Bool:=match cX 164 h x,cX 164 h y with
 |some a,some b=>if shp a=true/\shp b=true then some (PyData.eqv a b) else none
 |_,_=>none
def gEq(neg:Bool):D->D->AH->R D:=λx y h=>match oK h x y with
 |some b=>.ok (.bl (if neg then !b else b)) h
 |none=>.stuck
section
variable{K:W.Frag}{mg:Ka}{X:Cx}
def p7(w:Wd K mg ρ h H)(rx:RelD K mg ρ H dx x)(ry:RelD K mg ρ H dy y)(e:oK h dx dy=some b):
 ∃a c,Rep K H x a/\Rep K H y c/\shp a=true/\shp c=true/\PyData.eqv a c=b:=by
 unfold oK at e
 split at e
 ·rename_i a c e1 e2
  split at e
  ·rename_i hs
   cases e
   exact⟨a,c,hE w 164 rx e1,hE w 164 ry e2,hs.1,hs.2,rfl⟩
  ·cases e
 ·cases e
def CS:OpD K mg (sF K) (gEq false):=λρ h H dx dy x y Q E w rx ry p=>by
 unfold gEq at p
 split at p
 ·rename_i b e
  obtain⟨a,c,h1,h2,h3,h4,rfl⟩:=p7 w rx ry e
  exact⟨a,c,h1,h2,h3,h4,av w (.bl _) p⟩
 ·exact p.elim
def AW:OpD K mg (so K) (gEq true):=λρ h H dx dy x y Q E w rx ry p=>by
 unfold gEq at p
 split at p
 ·rename_i b e
  obtain⟨a,c,h1,h2,h3,h4,rfl⟩:=p7 w rx ry e
  exact⟨a,c,h1,h2,h3,h4,av w (.bl _) p⟩
 ·exact p.elim
end
noncomputable def i6:D->Bool
 |.non=>true
 |.bl _=>true
 |.int _=>true
 |.str _=>true
 |_=>false
noncomputable def toV:D->V
 |.bl b=>.bl b
 |.int i=>.int i
 |.str x=>.str x
 |_=>.non
def eqF(x y:D):Bool:=eqV (toV x) (toV y)
def gIn(neg:Bool):D->D->AH->R D:=λx y h=>match d9 h y with
 |some xs=>if i6 x=true/\xs.all i6=true then .ok (.bl (if neg then !(xs.any λd=>eqF d x) else xs.any λd=>eqF d x)) h else .stuck
 |none=>.stuck
section
variable{K:W.Frag}{mg:Ka}{X:Cx}{ρ:List Addr}{H:Hp}
def oO(r:RelD K mg ρ H d v)(f:i6 d=true):v=toV d/\aQ v=true:=by
 cases r with
 |non=>exact⟨rfl,rfl⟩
 |bl=>exact⟨rfl,rfl⟩
 |int=>exact⟨rfl,rfl⟩
 |str=>exact⟨rfl,rfl⟩
 |_=>cases f
def uw:∀{ds:List D}{vs:List V},RelDs K mg ρ H ds vs->ds.all i6=true->vs=ds.map toV/\vs.all aQ=true:=by
 intro ds
 induction ds with
 |
  nil=>
  intro vs r f
  cases r
  exact⟨rfl,rfl⟩
 |
  cons d0 ds ih=>
  intro vs r f
  cases r with
  |
   cons r rr=>
   rw[Jk,m_] at f
   obtain⟨rfl,h1⟩:=oO r f.1
   obtain⟨rfl,h2⟩:=ih rr f.2
   exact⟨rfl,by rw[Jk,h1,h2];rfl⟩
def tI(neg:Bool):OpD K mg (rIn K neg) (gIn neg):=λρ h H dx dy x y Q E w rx ry p=>by
 unfold gIn at p
 split at p
 ·rename_i xs e
  split at p
  ·rename_i hf
   obtain⟨pa,vs,rfl,hq,rs⟩:=df w ry e
   obtain⟨rfl,f1⟩:=oO rx hf.1
   obtain⟨rfl,f2⟩:=uw rs hf.2
   refine⟨pa,_,rfl,hq,f1,f2,?_⟩
   have e2:inV (toV dx) (xs.map toV)=xs.any λd=>eqF d dx:=by
    unfold inV eqF
    rw[List.any_map];rfl
   rw[e2]
   exact av w (.bl _) p
  ·exact p.elim
 ·exact p.elim
def xy(neg:Bool):D->D->AH->R D:=λx y h=>match x,y with
 |.non,.non=>.ok (.bl (!neg)) h
 |_,.non=>.ok (.bl neg) h
 |_,_=>.stuck
end
noncomputable def Itd(lo:Int)(n:Nat):It:=⟨λj _=>j<n,λj G v G'=>G'=G/\v=.int (lo-j),λj _=>n<=j⟩
inductive AIt where
 |lst (n:Nat) (xs:List D) |tup (xs:List D) |rng (lo:Int) (k:Nat) |rgd (lo:Int) (k:Nat) |enm (s:AIt) |zip (s t:AIt)
noncomputable def fU:Nat->List D->List D
 |_,[]=>[]
 |i,d::ds=>.tup [.int (i:Nat),d]::fU (i+1) ds
def AIt.items:AIt->List D
 |.lst _ xs=>xs
 |.tup xs=>xs
 |.rng lo k=>(List.range k).map λi=>D.int (lo+(i:Nat))
 |.rgd lo k=>(List.range k).map λi=>D.int (lo-(i:Nat))
 |.enm s=>fU 0 s.items
 |.zip s t=>List.zipWith (λx y=>.tup [x,y]) s.items t.items
def AIt.guard:AIt->AH->Prop
 |.lst n xs,h=>aP h n=some xs
 |.enm s,h=>s.guard h
 |.zip s t,h=>s.guard h/\t.guard h
 |_,_=>True
def SrcR(K:W.Frag)(mg:Ka)(ρ:List Addr)(H:Hp):AIt->Bool->Addr->Prop
 |.lst n _,true,a=>ρ[n]?=some a
 |.tup xs,false,p=>∃vs,SqT K H p vs/\RelDs K mg ρ H xs vs
 |_,_,_=>False
def ItR(K:W.Frag)(mg:Ka)(ρ:List Addr)(H:Hp):AIt->It->Prop
 |.lst n _,J=>∃a,ρ[n]?=some a/\J=Itl K a
 |.tup xs,J=>∃p vs,SqT K H p vs/\RelDs K mg ρ H xs vs/\J=Itt K p
 |.rng lo k,J=>J=Itr lo k
 |.rgd lo k,J=>J=Itd lo k
 |.enm s,J=>∃b a,SrcR K mg ρ H s b a/\J=IteE K b a
 |.zip s t,J=>∃b c a d,SrcR K mg ρ H s b a/\SrcR K mg ρ H t c d/\J=ItZ K b c a d
theorem oy:∀{ds:List D}{k i:Nat}{e:D},(fU k ds)[i]?=some e->∃d,ds[i]?=some d/\e=.tup [.int ((k+i:Nat):Int),d]
 | [],_,_,_,q=>by simp [fU] at q
 |d::ds,k,0,e,q=>⟨d,rfl,by simpa [fU] using q.symm⟩
 |
  d::ds,k,i+1,e,q=>by
  obtain⟨d',q1,q2⟩:=oy (ds:=ds) (k:=k+1) (i:=i) (e:=e) (by simpa [fU] using q)
  refine⟨d',by simpa using q1,?_⟩
  rw[q2]
  congr 4
  omega
theorem pq:∀(ds:List D) (k:Nat),(fU k ds).length=ds.length
 | [],_=>rfl
 |_::ds,k=>by show (fU (k+1) ds).length+1=ds.length+1;rw[pq ds]
section
variable{K:W.Frag}{mg:Ka}{ρ ρ1:List Addr}{H H1:Hp}{h h1:AH}
def SrcR.at_(r:SrcR K mg ρ H s b a)(l:Le ρ H ρ1 H1)(w:Wd K mg ρ1 h1 H1)(g:s.guard h1):∃vs,SqB K b H1 a vs/\RelDs K mg ρ1 H1 s.items vs:=by
 cases s with
 |
  lst n xs=>
  cases b with
  |true=>exact bO w (l.pre _ _ r) g
  |false=>exact r.elim
 |
  tup xs=>
  cases b with
  |true=>exact r.elim
  |false=>obtain⟨vs,q,rs⟩:=r;exact⟨vs,l.sqT q,rs.mono l⟩
 |rng _ _=>cases b <;> exact r.elim
 |rgd _ _=>cases b <;> exact r.elim
 |enm _=>cases b <;> exact r.elim
 |zip _ _=>cases b <;> exact r.elim
def ItR.nums{f:Nat->Int}{k:Nat}(w:Wd K mg ρ1 h1 H1):(∀(i:Nat) (d:D),((List.range k).map λi=>D.int (f i))[i]?=some d->i<k/\∀x H',(H'=H1/\x=V.int (f i))->Le ρ1 H1 ρ1 H'/\Wd K mg ρ1 h1 H'/\RelD K mg ρ1 H' d x)/\k<=((List.range k).map λi=>D.int (f i)).length:=by
 refine⟨λi d e=>?_,by simp⟩
 rw[Em] at e
 cases q:(List.range k)[i]? with
 |none=>rw[q] at e;cases e
 |
  some j=>
  rw[q] at e
  have hj:=h_.mp q
  have e2:=hj.2
  rw[List.getElem_range] at e2
  subst e2
  cases e
  refine⟨by simpa using hj.1,λx H' ⟨e1,e2⟩=>?_⟩
  subst e1 e2
  exact⟨Le.refl,w,.int _⟩
def ItR.step(hJ:ItR K mg ρ H it J)(l:Le ρ H ρ1 H1)(w:Wd K mg ρ1 h1 H1)(g:it.guard h1):
 (∀(i:Nat) (d:D),it.items[i]?=some d->J.go i H1/\∀x H',J.yld i H1 x H'->Le ρ1 H1 ρ1 H'/\Wd K mg ρ1 h1 H'/\RelD K mg ρ1 H' d x)/\J.stop it.items.length H1:=by
 cases it with
 |
  lst n xs=>
  obtain⟨a,ea,rfl⟩:=hJ
  obtain⟨vs,q,rs⟩:=bO w (l.pre _ _ ea) g
  refine⟨λi d e=>?_,vs,q,by rw[<- rs.len];exact j_ _⟩
  obtain⟨v,ev,rv⟩:=rs.getD e
  refine⟨⟨vs,v,q,ev⟩,λx H' ⟨e1,y⟩=>?_⟩
  subst e1
  have:=(y vs q).symm.trans ev
  cases this
  exact⟨Le.refl,w,rv⟩
 |
  tup xs=>
  obtain⟨p,vs,q,rs,rfl⟩:=hJ
  have q1:=l.sqT q
  have rs1:=rs.mono l
  refine⟨λi d e=>?_,vs,q1,by rw[<- rs1.len];exact j_ _⟩
  obtain⟨v,ev,rv⟩:=rs1.getD e
  refine⟨⟨vs,v,q1,ev⟩,λx H' ⟨e1,y⟩=>?_⟩
  subst e1
  have:=(y vs q1).symm.trans ev
  cases this
  exact⟨Le.refl,w,rv⟩
 |rng lo k=>cases hJ;exact ItR.nums w
 |rgd lo k=>cases hJ;exact ItR.nums w
 |
  enm s=>
  obtain⟨b,a,r,rfl⟩:=hJ
  obtain⟨vs,q,rs⟩:=r.at_ l w g
  refine⟨λi d e=>?_,vs,q,by show vs.length=(fU 0 s.items).length;rw[pq,rs.len]⟩
  obtain⟨d',q1,rfl⟩:=oy (show (fU 0 s.items)[i]?=some d from e)
  obtain⟨v,ev,rv⟩:=rs.getD q1
  refine⟨⟨vs,v,q,ev⟩,λx H' ⟨p,u,e1,hp,e2,hu⟩=>?_⟩
  subst e1 e2
  have:=(hu vs q).symm.trans ev
  cases this
  rw[Nat.zero_add]
  exact⟨cP hp,w.tuple hp,.tup (SqT.of bF) (.cons (.int _) (.cons (rv.mono (cP hp)) .nil))⟩
 |
  zip s t=>
  obtain⟨b,c,a,d,r1,r2,rfl⟩:=hJ
  obtain⟨vs,q,rs⟩:=r1.at_ l w g.1
  obtain⟨us,q',rs'⟩:=r2.at_ l w g.2
  refine⟨λi e ei=>?_,vs,us,q,q',?_⟩
  ·have ei':(List.zipWith (λx y=>D.tup [x,y]) s.items t.items)[i]?=some e:=ei
   rw[IJ] at ei'
   cases k1:s.items[i]? with
   |none=>rw[k1] at ei';cases ei'
   |
    some d1=>
    cases k2:t.items[i]? with
    |none=>rw[k1,k2] at ei';cases ei'
    |
     some d2=>
     rw[k1,k2] at ei'
     cases ei'
     obtain⟨v,ev,rv⟩:=rs.getD k1
     obtain⟨v',ev',rv'⟩:=rs'.getD k2
     refine⟨⟨vs,us,v,v',q,q',ev,ev'⟩,λx H' ⟨p,u,u',e1,hp,e2,hu,hu'⟩=>?_⟩
     subst e1 e2
     have:=(hu vs q).symm.trans ev
     cases this
     have:=(hu' us q').symm.trans ev'
     cases this
     exact⟨cP hp,w.tuple hp,.tup (SqT.of bF) (.cons (rv.mono (cP hp)) (.cons (rv'.mono (cP hp)) .nil))⟩
  ·have hl:(AIt.zip s t).items.length=min s.items.length t.items.length:=IT ..
   rw[hl,rs.len,rs'.len]
   rcases Nat.le_total vs.length us.length with z |z
   ·left;rw[Nat.min_eq_left z];exact Jd (j_ _)
   ·right;rw[Nat.min_eq_right z];exact Jd (j_ _)
end
def SR.loop(r:SR)(f:AE->AH->SR):SR:=match r with
 |.nx ae h=>f ae h
 |.ct ae h=>f ae h
 |.bk ae h=>.nx ae h
 |.rt d h=>.rt d h
 |.exc c ae h=>.exc c ae h
 |.stuck=>.stuck
open Classical in
def gR(G:AH->Prop)(g:MG)(B:MS):List D->MS
 | [],ae,h=>if G h then .nx ae h else .stuck
 |d::ds,ae,h=>if G h then (g d ae h).toS ae λc_ h1=>(B c_ h1).loop (gR G g B ds) else .stuck
abbrev MI:=AE->AH->R AIt
def vB(I:MI)(g:MG)(B:MS):MS:=λae h=>(I ae h).toS ae λit h1=>gR it.guard g B it.items ae h1
open Classical in
def lcL(G:AH->Prop)(g:MG)(c:MT)(F:ME):List D->List D->AE->AH->R (List D)
 | [],acc,_,h=>if G h then .ok acc h else .stuck
 |d::ds,acc,ae,h=>if G h/\acc.length<16777216 then (g d ae h).bind λc_ h1=>(c c_ h1).bind λb h2=>if b=true then (F c_ h2).bind λy h3=>lcL G g c F ds (acc++[y]) c_ h3 else lcL G g c F ds acc c_ h2 else .stuck
def gL(sub:Kd)(ae:AE):AE:=sub.map λo=>o.bind λi=>(ae[i]?).bind id
def eLC(I:MI)(sub:Kd)(g:MG)(c:MT)(F:ME):ME:=λae h=>(I ae h).bind λit h1=>(noX (lcL it.guard g c F it.items [] (gL sub ae) h1)).bind cG
def tY:MT:=λ_ h=>.ok true h
section
variable(K:W.Frag)(mg:Ka)
def rdI(ES:St->XK)(F:MI):TI:=λσ H R'=>∃ρ h ae,Wd K mg ρ h H/\RelE K mg ρ H ae σ/\PostG K mg ρ H (ES σ) (λit _ ρ' H'=>∀J,ItR K mg ρ' H' it J->R' J H') (F ae h)
def DI(X:Cx)(ES:St->XK)(tg al:Expr)(F:MI):Prop:=PI X tg al (rdI K mg ES F)
end
def vV(F:ME):MI:=λae h=>(F ae h).bind λd h1=>match d with
 |.tup xs=>.ok (.tup xs) h1
 |.ref n=>match aP h1 n with
  |some xs=>.ok (.lst n xs) h1
  |none=>.stuck
 |_=>.stuck
def wc(A:MA):MI:=λae h=>(A ae h).bind λds h1=>match ds with
 | [.int j]=>if -(2^62)<=j/\j<2^62 then .ok (.rng 0 j.toNat) h1 else .stuck
 |_=>.stuck
def iX(d:D)(h:AH):Option AIt:=match d with
 |.tup xs=>some (.tup xs)
 |.ref n=>(aP h n).map (.lst n)
 |_=>none
section
variable{K:W.Frag}{mg:Ka}{X:Cx}{ES:St->XK}{tg al e a b c db:Expr}{F:ME}{A:MA}{I:MI}{g:MG}{cf:MT}{U:MS}{sts:List Stmt}{pos:Pos}
def PI.imp(h:PI X tg al t)(k:∀σ H Q,t' σ H Q->t σ H Q):PI X tg al t':=λpins s σ H Q I w=>h pins s σ H Q I (k σ H Q w)
def Dw(hl:PE X l tl):PI X tg l (λσ H R=>tl σ H λx H1=>(∃a,x=.ref a/\(∃xs,SqL X.K H1 a xs)/\R (Itl X.K a) H1)\/(∃a,x=.ref a/\(∃xs,SqT X.K H1 a xs)/\R (Itt X.K a) H1)):=by
 intro pins s σ H R I h
 refine thn (hl pins s σ H _ I h) λv s1 ⟨x,H1,I1,r1,q1⟩=>?_
 rcases q1 with ⟨a,e,⟨xs,hq⟩,q⟩ |⟨a,e,⟨xs,hq⟩,q⟩
 ·subst e
  cases r1
  obtain⟨its,rv,p,hz⟩:=I1.list hq
  refine wpAny_pyIter_list p.isList ?_
  refine⟨s1.heap.objs.size,[s1.heap.objs.size],_,_,H1,rfl,I1.kept (t':=s1.toks) λb o e=>p_ _ e,uL a _,⟨_,Ic _ rfl,rfl,rfl⟩,λb hb=>?_,q⟩
  have e:b=s1.heap.objs.size:=by simpa using hb
  subst e
  exact I1.fpOk (j_ _) (I1.hok.fresh (j_ _))
 ·subst e
  cases r1
  obtain⟨its,rv,p,hz⟩:=I1.tuple hq
  refine wpAny_pyIter_tuple (show s1.heap.IsTuple a its.toArray from p) ?_
  refine⟨s1.heap.objs.size,[s1.heap.objs.size],_,_,H1,rfl,I1.kept (t':=s1.toks) λb o e=>p_ _ e,sg a _,⟨_,Ic _ rfl,rfl,rfl⟩,λb hb=>?_,q⟩
  have e:b=s1.heap.objs.size:=by simpa using hb
  subst e
  exact I1.fpOk (j_ _) (I1.hok.fresh (j_ _))
def AX(hK:X.K=K)(he:DE K mg X ES e F):DI K mg X ES tg e (vV F):=by
 subst hK
 refine PI.imp (Dw he) λσ H R ⟨ρ,h,ae,w,re,p⟩=>⟨ρ,h,ae,w,re,p.bind.imp λd h1 ρ1 H1 l1 w1 p1 v rv=>?_⟩
 cases rv with
 |tup q rs=>exact .inr ⟨_,rfl,⟨_,q⟩,p1 ρ1 H1 Le.refl w1 _ ⟨_,_,q,rs,rfl⟩⟩
 |
  ref ea=>
  dsimp only at p1
  split at p1
  ·rename_i xs e1
   obtain⟨vs,q,rs⟩:=bO w1 ea e1
   exact .inl ⟨_,rfl,⟨_,q⟩,p1 ρ1 H1 Le.refl w1 _ ⟨_,ea,rfl⟩⟩
  ·exact p1.elim
 |_=>exact p1.elim
def uB(hg:Gl X "range")(hm:mg "range"=none)(ha:DA K mg X ES [a] A)(hk:X.mg=mg)(hs:starEach [a] X.env=[(false,eval a X.env)]):DI K mg X ES tg (.Call (.Name "range" p) [a] [] pos) (wc A):=by
 subst hk
 refine PI.imp (vf hg hm ha hs) λσ H R ⟨ρ,h,ae,w,re,p⟩=>⟨ρ,h,ae,w,re,p.bind.imp λds h1 ρ1 H1 l1 w1 p1 vs rs=>?_⟩
 split at p1
 ·cases rs with
  |
   cons r rs=>
   cases r;cases rs
   split at p1
   ·rename_i hb
    exact⟨_,rfl,hb.1,hb.2,p1 ρ1 H1 Le.refl w1 _ rfl⟩
   ·exact p1.elim
 ·exact p1.elim
def nV(p:PostS K mg ρ H De ES (r.loop f))(i:∀c_ h1 ρ1 H1 σ1,Le ρ H ρ1 H1->Wd K mg ρ1 h1 H1->RelE K mg ρ1 H1 c_ σ1->PostS K mg ρ1 H1 De ES (f c_ h1)->N σ1 H1):
 PostS K mg ρ H { De with nx:=N,ct:=N,bk:=De.nx } ES r:=by
 cases r with
 |nx c_ h1=>exact λρ1 H1 σ1 l1 w1 re1=>i c_ h1 ρ1 H1 σ1 l1 w1 re1 (PostS.mono l1 p)
 |rt d h1=>exact p
 |bk c_ h1=>exact p
 |ct c_ h1=>exact λρ1 H1 σ1 l1 w1 re1=>i c_ h1 ρ1 H1 σ1 l1 w1 re1 (PostS.mono l1 p)
 |exc c c_ h1=>exact p
 |stuck=>exact p
def CK(hp:PassesOwn (model X.prog X.w) X.A X.env X.xe)(hc:X.calm=true)(hi:DI K mg X ES tg al I)(hg:DG K mg X ES tg g)(hb:DSs K mg X ES sts U)
 (hs:∀x,foldedSetIterable al X.env x=pure x):DS K mg X ES (.For tg al sts [] pos) (vB I g U):=by
 refine PS.imp (Eo hp hc hi hg hb hs) λDe σ H q_=>q_.el λρ h ae w re p=>⟨ρ,h,ae,w,re,bq p re λit h1 ρ1 H1 l1 w1 re1 p1 J hJ=>?_⟩
 refine⟨λi m σ2 H2=>m=it.items.length-i/\i<=it.items.length/\∃ρ2 h2 ae2,Le ρ1 H1 ρ2 H2/\Wd K mg ρ2 h2 H2/\RelE K mg ρ2 H2 ae2 σ2/\PostS K mg ρ2 H2 De ES (gR it.guard g U (it.items.drop i) ae2 h2),⟨_,rfl,HW _,ρ1,h1,ae,Le.refl,w1,re1,p1⟩,?_⟩
 rintro i m σ2 H2 ⟨rfl,hi',ρ2,h2,ae2,l2,w2,re2,p2⟩
 by_cases hlt:i<it.items.length
 ·have hd:it.items.drop i=it.items[i]::it.items.drop (i+1):=List.drop_eq_getElem_cons hlt
  rw[hd] at p2
  unfold gR at p2
  split at p2
  ·rename_i hG
   obtain⟨st,_⟩:=hJ.step l2 w2 hG
   obtain⟨go,yl⟩:=st i it.items[i] (x_ hlt)
   refine .inr ⟨go,λσ' H'=>∃ρ3 h3 ae3,Le ρ1 H1 ρ3 H'/\Wd K mg ρ3 h3 H'/\RelE K mg ρ3 H' ae3 σ'/\PostS K mg ρ3 H' De ES (gR it.guard g U (it.items.drop (i+1)) ae3 h3),
    λσ' H' ⟨ρ3,h3,ae3,q⟩=>⟨_,by omega,rfl,hlt,ρ3,h3,ae3,q⟩,λx H' hy=>?_⟩
   obtain⟨ly,wy,rx⟩:=yl x H' hy
   refine⟨ρ2,h2,ae2,_,wy,re2.mono ly,rx,bq (PostS.mono ly p2) (re2.mono ly) λae3 h3 ρ3 H3 l3 w3 re3 p3 σ' re'=>⟨ρ3,h3,ae3,w3,re',nV p3 λae4 h4 ρ4 H4 σ4 l4 w4 re4 p4=>⟨ρ4,h4,ae4,((l2.trans ly).trans l3).trans l4,w4,re4,p4⟩⟩⟩
  ·exact p2.elim
 ·have hi2:i=it.items.length:=by omega
  subst hi2
  rw[List.drop_length] at p2
  unfold gR at p2
  split at p2
  ·rename_i hG
   exact .inl ⟨(hJ.step l2 w2 hG).2,eR p2 w2 re2⟩
  ·exact p2.elim
def xm(re:RelE K mg ρ H ae σ)(sub:Kd):RelE K mg ρ H (gL sub ae) (eB sub σ):=by
 unfold gL eB
 refine⟨by rw[g_,g_],λj d e=>?_⟩
 rw[Em] at e ⊢
 cases q:sub[j]? with
 |none=>rw[q] at e;cases e
 |
  some o=>
  rw[q] at e
  cases o with
  |none=>cases e
  |
   some i=>
   have e':(ae[i]?).bind id=some d:=C_ e
   cases q2:ae[i]? with
   |none=>rw[q2] at e';cases e'
   |
    some z=>
    rw[q2] at e'
    have e3:z=some d:=e'
    subst e3
    obtain⟨v,h1,h2⟩:=re.at_ i d q2
    refine⟨v,?_,h2⟩
    show some ((σ[i]?).bind id)=some (some v)
    rw[h1];rfl
def jG(p:PostG K mg ρ H E k ((noX (r.bind f)).bind m)):
 PostG K mg ρ H E0 (λa h1 ρ' H'=>PostG K mg ρ' H' E k ((noX (f a h1)).bind m)) r:=by
 cases r with
 |ok a h1=>exact λρ1 H1 l1 w1=>PostG.mono l1 p
 |exc c h1=>exact p.elim
 |stuck=>exact p.elim
def x6(σ:St)(H:Hp)(Q:VK)(q:rdE K mg ES (eLC I sub g cf F) σ H Q):gW (rdI K mg ES I) sub (rdG K mg (λ_=>E0) g) (rdT K mg (λ_=>E0) cf) (rdE K mg (λ_=>E0) F) σ H Q:=by
 obtain⟨ρ,h,ae,w,re,p⟩:=q
 refine⟨ρ,h,ae,w,re,p.bind.imp λit h1 ρ1 H1 l1 w1 p1 J hJ=>?_⟩
 have re1:=xm (re.mono l1) sub
 refine⟨λi m ys σ2 H2=>m=it.items.length-i/\i<=it.items.length/\∃ρ2 h2 ae2 acc,Le ρ1 H1 ρ2 H2/\Wd K mg ρ2 h2 H2/\RelE K mg ρ2 H2 ae2 σ2/\RelDs K mg ρ2 H2 acc ys/\
  PostG K mg ρ2 H2 (ES σ) (λd _ ρ' H'=>∀v,RelD K mg ρ' H' d v->Q v H') ((noX (lcL it.guard g cf F (it.items.drop i) acc ae2 h2)).bind cG),
  ⟨_,rfl,HW _,ρ1,h1,gL sub ae,[],Le.refl,w1,re1,.nil,p1⟩,?_⟩
 rintro i m ys σ2 H2 ⟨rfl,hi',ρ2,h2,ae2,acc,l2,w2,re2,rs,p2⟩
 by_cases hlt:i<it.items.length
 ·have hd:it.items.drop i=it.items[i]::it.items.drop (i+1):=List.drop_eq_getElem_cons hlt
  rw[hd] at p2
  unfold lcL at p2
  split at p2
  ·rename_i hG
   obtain⟨st,_⟩:=hJ.step l2 w2 hG.1
   obtain⟨go,yl⟩:=st i it.items[i] (x_ hlt)
   refine .inr ⟨go,by rw[<- rs.len];exact hG.2,λys' σ' H'=>∃ρ3 h3 ae3 acc3,Le ρ1 H1 ρ3 H'/\Wd K mg ρ3 h3 H'/\RelE K mg ρ3 H' ae3 σ'/\RelDs K mg ρ3 H' acc3 ys'/\
    PostG K mg ρ3 H' (ES σ) (λd _ ρ' H'=>∀v,RelD K mg ρ' H' d v->Q v H') ((noX (lcL it.guard g cf F (it.items.drop (i+1)) acc3 ae3 h3)).bind cG),
    λys' σ' H' ⟨ρ3,h3,ae3,acc3,q⟩=>⟨_,by omega,rfl,hlt,ρ3,h3,ae3,acc3,q⟩,λx H' hy=>?_⟩
   obtain⟨ly,wy,rx⟩:=yl x H' hy
   refine⟨ρ2,h2,ae2,_,wy,re2.mono ly,rx,(jG (PostG.mono ly p2)).imp λae3 h3 ρ3 H3 l3 w3 p3 σ3 re3=>⟨ρ3,h3,ae3,w3,re3,(jG p3).imp λb h4 ρ4 H4 l4 w4 p4=>?_⟩⟩
   cases b with
   |true=>exact⟨ρ4,h4,ae3,w4,re3.mono l4,(jG p4).imp λy h5 ρ5 H5 l5 w5 p5 v rv=>⟨ρ5,h5,ae3,acc++[y],(((l2.trans ly).trans l3).trans l4).trans l5,w5,(re3.mono l4).mono l5,((((rs.mono ly).mono l3).mono l4).mono l5).append (.cons rv .nil),p5⟩⟩
   |false=>exact⟨ρ4,h4,ae3,acc,((l2.trans ly).trans l3).trans l4,w4,re3.mono l4,((rs.mono ly).mono l3).mono l4,p4⟩
  ·exact p2.elim
 ·have hi2:i=it.items.length:=by omega
  subst hi2
  rw[List.drop_length] at p2
  unfold lcL at p2
  split at p2
  ·rename_i hG
   refine .inl ⟨(hJ.step l2 w2 hG).2,?_⟩
   have p3:PostG K mg ρ2 H2 (ES σ) (λd _ ρ' H'=>∀v,RelD K mg ρ' H' d v->Q v H') (cG acc h2):=p2
   unfold cG at p3
   split at p3
   ·rename_i hl
    exact⟨by rw[<- rs.len];exact hl,λq hq=>du w2 rs hq p3⟩
   ·exact p3.elim
  ·exact p2.elim
def GK(M:List Str)(kn:List (Str×NameKind))(N:List Str)(sub:Kd)
 (hc:X.calm=true) (hi:DI K mg X ES tg al I)
 (hg:∀cl C s₂ H fp,DG K mg (aC X N scope cl C s₂ H fp) (λ_=>E0) tg g) (he:∀cl C s₂ H fp,DE K mg (aC X N scope cl C s₂ H fp) (λ_=>E0) db F)
 (hM:X.N=M) (hkn:X.env.scope.names=kn) (ci:eA M scope.names sub N=true)
 (hk:scope.kind=.function) (hnc:∀x∈scope.names,x.2 ≠ .cell) (bi:∀x∈scope.names,x.2=.local->scope.names.lookup x.1=some .local)
 (hfr:fS kn scope.names=true)
 (hsl:sub.length=N.length) (hs:∀x,foldedSetIterable al X.env x=pure x):
 DE K mg X ES (.ListComp db [⟨tg,al,[],0⟩] scope pos) (eLC I sub g tY F):=
 PE.imp (GV M kn N sub hc hi hg he hM hkn ci hk hnc bi hfr hsl hs) λσ H Q q=>by
  have:=x6 (cf:=tY) σ H Q q
  obtain⟨ρ,h,ae,w,re,p⟩:=this
  refine⟨ρ,h,ae,w,re,p.imp λit h1 ρ1 H1 l1 w1 k J hJ=>?_⟩
  obtain⟨W,w0,tn⟩:=k J hJ
  refine⟨W,w0,λi m ys σ2 H2 hW=>?_⟩
  rcases tn i m ys σ2 H2 hW with z |⟨go,hl,Nx,hN,st⟩
  ·exact .inl z
  ·refine .inr ⟨go,hl,Nx,hN,λx H' hy=>?_⟩
   obtain⟨ρ3,h3,ae3,d3,w3,re3,rd3,p3⟩:=st x H' hy
   refine⟨ρ3,h3,ae3,d3,w3,re3,rd3,p3.imp λae4 h4 ρ4 H4 l4 w4 k4 σ4 re4=>?_⟩
   obtain⟨ρ5,h5,ae5,w5,re5,p5⟩:=k4 σ4 re4
   exact p5 ρ5 _ Le.refl w5
def EN(σ:St)(H:Hp)(Q:VK)(q:rdE K mg ES (eLC I sub g tY F) σ H Q):gW (rdI K mg ES I) sub (rdG K mg (λ_=>E0) g) xJ (rdE K mg (λ_=>E0) F) σ H Q:=by
 have:=x6 (cf:=tY) σ H Q q
 obtain⟨ρ,h,ae,w,re,p⟩:=this
 refine⟨ρ,h,ae,w,re,p.imp λit h1 ρ1 H1 l1 w1 k J hJ=>?_⟩
 obtain⟨W,w0,tn⟩:=k J hJ
 refine⟨W,w0,λi m ys σ2 H2 hW=>?_⟩
 rcases tn i m ys σ2 H2 hW with z |⟨go,hl,Nx,hN,st⟩
 ·exact .inl z
 ·refine .inr ⟨go,hl,Nx,hN,λx H' hy=>?_⟩
  obtain⟨ρ3,h3,ae3,d3,w3,re3,rd3,p3⟩:=st x H' hy
  refine⟨ρ3,h3,ae3,d3,w3,re3,rd3,p3.imp λae4 h4 ρ4 H4 l4 w4 k4 σ4 re4=>?_⟩
  obtain⟨ρ5,h5,ae5,w5,re5,p5⟩:=k4 σ4 re4
  exact p5 ρ5 _ Le.refl w5
def yW(ht:∀σ H Q,rdE K mg ES F σ H Q->t σ H Q)(De:Ends)(σ:St)(H:Hp)(q:rdS K mg ES (f9 F (gN i)) De σ H):nq t (kg i) De σ H:=by
 obtain⟨ρ,h,ae,w,re,p⟩:=q
 exact ht σ H _ ⟨ρ,h,ae,w,re,bq p re λd h1 ρ1 H1 l1 w1 re1 p1 v rv=>eR p1 w1 (re1.set i rv)⟩
def Gn(M:List Str)(kn:List (Str×NameKind))(N:List Str)(sub:Kd)
 (hc:X.calm=true) (hN:X.N.Nodup) (hix:X.N[iT]?=some xT) (hxl:Loc X.env.scope xT) (hi:DI K mg X ES tg al I)
 (hg:∀cl C s₂ H fp,DG K mg (aC X N scope cl C s₂ H fp) (λ_=>E0) tg g) (he:∀cl C s₂ H fp,DE K mg (aC X N scope cl C s₂ H fp) (λ_=>E0) db F)
 (hsw:swapsWith (.ListComp db [⟨tg,al,[],0⟩] scope pos) (some (.Name xT px)) spos.line X.env=pure true)
 (hM:X.N=M) (hkn:X.env.scope.names=kn) (ci:eA M scope.names sub N=true)
 (hk:scope.kind=.function) (hnc:∀x∈scope.names,x.2 ≠ .cell) (bi:∀x∈scope.names,x.2=.local->scope.names.lookup x.1=some .local)
 (hfr:fS kn scope.names=true)
 (hsl:sub.length=N.length) (hs:∀x,foldedSetIterable al X.env x=pure x) (hf:X.fn xT=true\/X.env.scope.names.lookup xT=some .local):
 DS K mg X ES (.Assign [.Name xT px] (.ListComp db [⟨tg,al,[],0⟩] scope pos) spos) (f9 (eLC I sub g tY F) (gN iT)):=
 PS.imp (Gz M kn N sub hc hN hix hxl hi hg he hsw hM hkn ci hk hnc bi hfr hsl hs hf) (yW EN)
end
def whN(c:MT)(B:MS):Nat->MS
 |0,_,_=>.stuck
 |k+1,ae,h=>(c ae h).toS ae λb h1=>if b=true then (B ae h1).loop (whN c B k) else .nx ae h1
open Classical in
def sWh(c:MT)(B:MS):MS:=λae h=>if q:∃k,whN c B k ae h ≠ .stuck then whN c B q.choose ae h else .stuck
theorem jK:∀{k:Nat}{ae:AE}{h:AH},whN c B k ae h ≠ .stuck->whN c B (k+1) ae h=whN c B k ae h
 |0,_,_,q=>absurd rfl q
 |
  k+1,ae,h,q=>by
  have e1:whN c B (k+2) ae h=(c ae h).toS ae λb h1=>if b=true then (B ae h1).loop (whN c B (k+1)) else .nx ae h1:=rfl
  have e2:whN c B (k+1) ae h=(c ae h).toS ae λb h1=>if b=true then (B ae h1).loop (whN c B k) else .nx ae h1:=rfl
  rw[e2] at q
  rw[e1,e2]
  cases r:c ae h with
  |exc _ _=>rfl
  |stuck=>rfl
  |
   ok b h1=>
   rw[r] at q
   cases b with
   |false=>rfl
   |
    true=>
    have q':(B ae h1).loop (whN c B k) ≠ .stuck:=q
    show (B ae h1).loop (whN c B (k+1))=(B ae h1).loop (whN c B k)
    cases s:B ae h1 with
    |nx a2 h2=>rw[s] at q';exact jK q'
    |ct a2 h2=>rw[s] at q';exact jK q'
    |_=>rfl
def tJ(q:whN c B k ae h ≠ .stuck)(hj:k<=j):whN c B j ae h=whN c B k ae h:=by
 induction hj with
 |refl=>rfl
 |step _ ih=>rw[jK (by rw[ih];exact q),ih]
def tE(q:whN c B k ae h ≠ .stuck):sWh c B ae h=whN c B k ae h:=by
 have hq:∃k,whN c B k ae h ≠ .stuck:=⟨k,q⟩
 unfold sWh
 rw[dif_pos hq]
 rcases Nat.le_total hq.choose k with z |z
 ·exact (tJ hq.choose_spec z).symm
 ·exact tJ q z
section
variable{K:W.Frag}{mg:Ka}{X:Cx}{ES:St->XK}{c:Expr}{cf:MT}{U:MS}{sts:List Stmt}{pos:Pos}
def wb(hp:PassesOwn (model X.prog X.w) X.A X.env X.xe)(hc:DT K mg X ES c cf)(hb:DSs K mg X ES sts U):DS K mg X ES (.While c sts [] pos) (sWh cf U):=by
 refine PS.imp (wY hp hc hb) λDe σ H q_=>q_.el λρ h ae w re p=>?_
 have hx:∃k,whN cf U k ae h ≠ .stuck:=Jo λz=>by
  unfold sWh at p
  rw[dif_neg z] at p
  exact p.elim
 obtain⟨k,hk⟩:=hx
 rw[tE hk] at p
 refine⟨λm σ2 H2=>∃ρ2 h2 ae2,Wd K mg ρ2 h2 H2/\RelE K mg ρ2 H2 ae2 σ2/\PostS K mg ρ2 H2 De ES (whN cf U m ae2 h2),⟨k,ρ,h,ae,w,re,p⟩,?_⟩
 rintro m σ2 H2 ⟨ρ2,h2,ae2,w2,re2,p2⟩
 cases m with
 |zero=>exact p2.elim
 |
  succ m=>
  refine⟨ρ2,h2,ae2,w2,re2,bq p2 re2 λb h3 ρ3 H3 l3 w3 re3 p3=>?_⟩
  cases b with
  |true=>exact⟨λσ' H'=>∃ρ4 h4 ae4,Wd K mg ρ4 h4 H'/\RelE K mg ρ4 H' ae4 σ'/\PostS K mg ρ4 H' De ES (whN cf U m ae4 h4),λσ' H' q=>⟨m,Nat.lt_succ_self _,q⟩,ρ3,h3,ae2,w3,re3,nV p3 λae4 h4 ρ4 H4 σ4 l4 w4 re4 p4=>⟨ρ4,h4,ae4,w4,re4,p4⟩⟩
  |false=>exact eR p3 w3 re3
end
def nL:Fn:=λds h=>match ds with
 | [d]=>match d9 h d with
  |some xs=>.ok (.int xs.length) h
  |none=>match d with
   |.str z=>if z.length<=16777216 then .ok (.int z.length) h else .stuck
   |_=>.stuck
 |_=>.stuck
def rq:Fn:=λds h=>match ds with
 | [.int i]=>.ok (.int (if i<0 then -i else i)) h
 |_=>.stuck
def m7:Fn:=λds h=>match ds with
 | [.int i,.int j]=>.ok (.int (if j>i then j else i)) h
 |_=>.stuck
def ng:Fn:=λds h=>match ds with
 | [.int i,.int j]=>.ok (.int (if j<i then j else i)) h
 |_=>.stuck
noncomputable def fM:List D->Option (List Bool)
 | []=>some []
 |.bl b::r=>(fM r).map (b :: ·)
 |_=>none
noncomputable def eG:List D->Option (List Int)
 | []=>some []
 |.int b::r=>(eG r).map (b :: ·)
 |_=>none
theorem ou:∀{ds:List D}{bs:List Bool},fM ds=some bs->ds=bs.map D.bl
 | [],bs,e=>by cases e;rfl
 |
  .bl b::r,bs,e=>by
  have e':(fM r).map (b :: ·)=some bs:=e
  cases q:fM r with
  |none=>rw[q] at e';cases e'
  |some z=>rw[q] at e';cases e';rw[ou q];rfl
theorem lY:∀{ds:List D}{bs:List Int},eG ds=some bs->ds=bs.map D.int
 | [],bs,e=>by cases e;rfl
 |
  .int b::r,bs,e=>by
  have e':(eG r).map (b :: ·)=some bs:=e
  cases q:eG r with
  |none=>rw[q] at e';cases e'
  |some z=>rw[q] at e';cases e';rw[lY q];rfl
def oZ:Fn:=λds h=>match ds with
 | [.ref n]=>match (aP h n).bind fM with
  |some bs=>.ok (.bl (bs.all id)) h
  |none=>.stuck
 |_=>.stuck
def nX:Fn:=λds h=>match ds with
 | [.ref n]=>match (aP h n).bind eG with
  |some ns=>.ok (.int ns.sum) h
  |none=>.stuck
 |_=>.stuck
def kd:Fn:=λds h=>match ds with
 | [d]=>match d9 h d with
  |some xs=>.ok (.ref h.length) (h++[.lst xs])
  |none=>.stuck
 |_=>.stuck
def iC:Fn:=λds h=>match ds with
 | [d]=>match d9 h d with
  |some xs=>.ok (.tup xs) h
  |none=>.stuck
 |_=>.stuck
def rL:Fn:=λds h=>match ds with
 | [.int i]=>.ok (.int i) h
 | [.bl b]=>.ok (.int (if b then 1 else 0)) h
 |_=>.stuck
section
variable{K:W.Frag}{mg:Ka}{X:Cx}
def Cu:aR K mg (λxs H Q=>(∃p ys,xs=[.ref p]/\(SqL K H p ys\/SqT K H p ys)/\Q (.int ys.length) H)\/(∃z,xs=[.str z]/\z.length<=sizeLine/\Q (.int z.length) H)) nL:=λρ h H ds vs Q E w rs p=>by
 unfold nL at p
 split at p
 ·cases
   rs with
  |
   cons r rs=>
   cases rs
   split at p
   ·rename_i xs e
    obtain⟨pa,vs,rfl,hq,rs⟩:=df w r e
    exact .inl ⟨_,_,rfl,hq,by rw[<- rs.len];exact av w (.int _) p⟩
   ·split at p
    ·cases r
     split at p
     ·rename_i hl;exact .inr ⟨_,rfl,hl,av w (.int _) p⟩
     ·exact p.elim
    ·exact p.elim
 ·exact p.elim
def G0(h:X.K=K):CallR X (.builtin "len") (λxs H Q=>(∃p ys,xs=[.ref p]/\(SqL K H p ys\/SqT K H p ys)/\Q (.int ys.length) H)\/(∃z,xs=[.str z]/\z.length<=sizeLine/\Q (.int z.length) H)):=by subst h;exact og.or oA
def DL:aR K mg (λxs H Q=>∃i,xs=[.int i]/\Q (.int (if i<0 then -i else i)) H) rq:=λρ h H ds vs Q E w rs p=>by
 unfold rq at p
 split at p
 ·cases rs with
  |cons r rs=>cases r;cases rs;exact⟨_,rfl,av w (.int _) p⟩
 ·exact p.elim
def zN:aR K mg (λxs H Q=>∃i j,xs=[.int i,.int j]/\Q (.int (if j>i then j else i)) H) m7:=λρ h H ds vs Q E w rs p=>by
 unfold m7 at p
 split at p
 ·cases rs with
  |cons r rs=>cases rs with |cons r2 rs=>cases r;cases r2;cases rs;exact⟨_,_,rfl,av w (.int _) p⟩
 ·exact p.elim
def zx:aR K mg (λxs H Q=>∃i j,xs=[.int i,.int j]/\Q (.int (if j<i then j else i)) H) ng:=λρ h H ds vs Q E w rs p=>by
 unfold ng at p
 split at p
 ·cases rs with
  |cons r rs=>cases rs with |cons r2 rs=>cases r;cases r2;cases rs;exact⟨_,_,rfl,av w (.int _) p⟩
 ·exact p.elim
def Bc:aR K mg (λxs H Q=>∃(a:Addr) (bs:List Bool),xs=[.ref a]/\SqL K H a (bs.map V.bl)/\Q (.bl (bs.all id)) H) oZ:=λρ h H ds vs Q E w rs p=>by
 unfold oZ at p
 split at p
 ·cases
   rs with
  |
   cons r rs=>
   cases r with
   |
    ref ea=>
    cases rs
    split at p
    ·rename_i bs e
     obtain⟨xs,q,e2⟩:=Ia.mp e
     ·obtain⟨vs,h1,h2⟩:=bO w ea q
      rw[ou e2] at h2
      rw[h2.bls] at h1
      exact⟨_,bs,rfl,h1,av w (.bl _) p⟩
    ·exact p.elim
 ·exact p.elim
def BW:aR K mg (λxs H Q=>∃(a:Addr) (ns:List Int),xs=[.ref a]/\SqL K H a (ns.map V.int)/\Q (.int ns.sum) H) nX:=λρ h H ds vs Q E w rs p=>by
 unfold nX at p
 split at p
 ·cases
   rs with
  |
   cons r rs=>
   cases r with
   |
    ref ea=>
    cases rs
    split at p
    ·rename_i bs e
     obtain⟨xs,q,e2⟩:=Ia.mp e
     ·obtain⟨vs,h1,h2⟩:=bO w ea q
      rw[lY e2] at h2
      rw[h2.ints] at h1
      exact⟨_,bs,rfl,h1,av w (.int _) p⟩
    ·exact p.elim
 ·exact p.elim
def yJ:aR K mg (λxs H Q=>∃p ys,xs=[.ref p]/\(SqL K H p ys\/SqT K H p ys)/\∀l,H l=none->Q (.ref l) (upd H l (.lst ys))) kd:=λρ h H ds vs Q E w rs p=>by
 unfold kd at p
 split at p
 ·cases rs with
  |
   cons r rs=>
   cases rs
   split at p
   ·rename_i xs e
    obtain⟨pa,vs,rfl,hq,rs⟩:=df w r e
    exact⟨_,_,rfl,hq,λl hl=>du w rs hl p⟩
   ·exact p.elim
 ·exact p.elim
def wU:aR K mg (λxs H Q=>∃p ys,xs=[.ref p]/\((SqL K H p ys/\∀l,H l=none->Q (.ref l) (upd H l (.tup ys)))\/(SqT K H p ys/\Q (.ref p) H))) iC:=λρ h H ds vs Q E w rs p=>by
 unfold iC at p
 split at p
 ·cases rs with
  |
   cons r rs=>
   cases rs
   split at p
   ·rename_i xs e
    obtain⟨pa,vs,rfl,hq,rs⟩:=df w r e
    rcases hq with hq |hq
    ·exact⟨_,_,rfl,.inl ⟨hq,λl hl=>gA w rs hl p⟩⟩
    ·exact⟨_,_,rfl,.inr ⟨hq,av w (.tup hq rs) p⟩⟩
   ·exact p.elim
 ·exact p.elim
def E9:aR K mg (λxs H Q=>(∃i,xs=[.int i]/\Q (.int i) H)\/∃k,xs=[.bl k]/\Q (.int (if k then 1 else 0)) H) rL:=λρ h H ds vs Q E w rs p=>by
 unfold rL at p
 split at p
 ·cases rs with
  |cons r rs=>cases r;cases rs;exact .inl ⟨_,rfl,av w (.int _) p⟩
 ·cases rs with
  |cons r rs=>cases r;cases rs;exact .inr ⟨_,rfl,av w (.int _) p⟩
 ·exact p.elim
def Dp(h:X.K=K):CallR X (.type "list") (λxs H Q=>∃p ys,xs=[.ref p]/\(SqL K H p ys\/SqT K H p ys)/\∀l,H l=none->Q (.ref l) (upd H l (.lst ys))):=by subst h;exact nE
def AR(h:X.K=K):CallR X (.type "tuple") (λxs H Q=>∃p ys,xs=[.ref p]/\((SqL K H p ys/\∀l,H l=none->Q (.ref l) (upd H l (.tup ys)))\/(SqT K H p ys/\Q (.ref p) H))):=by subst h;exact mG
end
inductive Cl where
 |b (n:String) |o (x:Str)
 deriving DecidableEq
def tyD(h:AH):D->Option Cl
 |.non=>some (.b "NoneType")
 |.bl _=>some (.b "bool")
 |.int _=>some (.b "int")
 |.str _=>some (.b "str")
 |.tup _=>some (.b "tuple")
 |.exc x=>some (.o x)
 |.ref n=>match h[n]? with
  |some (.lst _)=>some (.b "list")
  |some (.fz _)=>some (.b "list")
  |some (.dct _)=>some (.b "dict")
  |_=>none
 |_=>none
noncomputable def clD:D->Option Cl
 |.ty n=>some (.b n)
 |.glb x=>some (.o x)
 |_=>none
def ClV(mg:Ka):Cl->Value->Prop
 |.b n,v=>v=.type n
 |.o x,v=>∃a,v=.ref a/\mg x=some (.ref a)
abbrev gQ:=List (Cl×Cl×Bool)
structure KitsOk(K:W.Frag)(mg:Ka)(kt:gQ):Prop where
 one:∀p∈kt,∀t v,ClV mg p.1 t->ClV mg p.2.1 v->W.kitOne K t v=some p.2.2
 xc:∀p∈kt,∀x C,p.1=.o x->mg x=some (.ref C)->XCls K C
def kit(kt:gQ)(t c:Cl):Option Bool:=(kt.find? λp=>decide (p.1=t)&&decide (p.2.1=c)).map (·.2.2)
def ec(kt:gQ)(t:Cl):List Cl->Option Bool
 | []=>some false
 |c::r=>match kit kt t c with
  |some true=>some true
  |some false=>ec kt t r
  |none=>none
def nY(kt:gQ):Fn:=λds h=>match ds with
 | [d,c]=>match tyD h d with
  |some t=>match c with
   |.tup cs=>match cs.mapM clD with
    |some (c0::cr)=>match ec kt t (c0::cr),kit kt t c0 with
     |some b,some _=>.ok (.bl b) h
     |_,_=>.stuck
    |_=>.stuck
   |c=>match clD c with
    |some cl=>match kit kt t cl with
     |some b=>.ok (.bl b) h
     |none=>.stuck
    |none=>.stuck
  |none=>.stuck
 |_=>.stuck
def kU(e:kit kt t c=some b):(t,c,b)∈kt:=by
 unfold kit at e
 cases q:kt.find? (λp=>decide (p.1=t)&&decide (p.2.1=c)) with
 |none=>rw[q] at e;cases e
 |
  some p=>
  rw[q] at e
  have h1:=List.find?_some q
  have h2:=List.mem_of_find?_eq_some q
  simp only[m_,Jb] at h1
  obtain⟨p1,p2,p3⟩:=p
  have e3:p3=b:=C_ e
  obtain⟨rfl,rfl⟩:=h1
  subst e3
  exact h2
section
variable{K:W.Frag}{mg:Ka}{X:Cx}{ρ:List Addr}{H:Hp}{h:AH}
def qL(ok:KitsOk K mg kt)(w:Wd K mg ρ h H)(r:RelD K mg ρ H d v)(e:tyD h d=some t)(k:kit kt t c=some b):∃tv,TyX K H v tv/\ClV mg t tv:=by
 cases r with
 |non=>cases e;exact⟨_,.of .non,rfl⟩
 |bl=>cases e;exact⟨_,.of (.bl _),rfl⟩
 |int=>cases e;exact⟨_,.of (.int _),rfl⟩
 |str=>cases e;exact⟨_,.of (.str _),rfl⟩
 |tup q rs=>cases e;exact⟨_,.sqT q,rfl⟩
 |
  exc m ex=>
  cases e
  exact⟨_,.exc ex (ok.xc _ (kU k) _ _ rfl m),_,rfl,m⟩
 |
  ref ea=>
  unfold tyD at e
  dsimp only at e
  split at e
  ·rename_i e1;cases e;obtain⟨vs,h1,h2⟩:=w.ob _ _ _ ea e1;exact⟨_,.of (.lst h1),rfl⟩
  ·rename_i e1;cases e;obtain⟨o,vs,h1,h2⟩:=w.ob _ _ _ ea e1;exact⟨_,.of (.frz h1),rfl⟩
  ·rename_i e1;cases e;obtain⟨ws,h1,_⟩:=w.ob _ _ _ ea e1;exact⟨_,.of (.dK h1),rfl⟩
  ·cases e
 |_=>cases e
def qf(r:RelD K mg ρ H d v)(e:clD d=some c):∃cv,dO v=some cv/\ClV mg c cv:=by
 cases r with
 |ty n=>cases e;exact⟨_,rfl,rfl⟩
 |glb m=>cases e;exact⟨_,rfl,_,rfl,m⟩
 |_=>cases e
def xQ:∀{ds:List D}{vs:List V}{cs:List Cl},RelDs K mg ρ H ds vs->ds.mapM clD=some cs->∃cvs,vs.mapM dO=some cvs/\Paired (ClV mg) cs cvs:=by
 intro ds
 induction ds with
 |
  nil=>
  intro vs cs r e
  cases r
  have e':some ([]:List Cl)=some cs:=e
  cases e';exact⟨[],rfl,.nil⟩
 |
  cons d ds ih=>
  intro vs cs r e
  cases r with
  |
   cons r rr=>
   rw[Je] at e
   cases q:clD d with
   |none=>rw[q] at e;cases e
   |
    some c=>
    rw[q] at e
    cases q2:ds.mapM clD with
    |none=>rw[q2] at e;cases e
    |
     some cs'=>
     rw[q2] at e
     have e':some (c::cs')=some cs:=e
     cases e'
     obtain⟨cv,h1,h2⟩:=qf r q
     obtain⟨cvs,h3,h4⟩:=ih rr q2
     refine⟨cv::cvs,?_,.cons h2 h4⟩
     rw[Je,h1,h3];rfl
def tK(ok:KitsOk K mg kt)(ht:ClV mg t tv):∀{cs:List Cl}{cvs:List Value}{b:Bool},Paired (ClV mg) cs cvs->ec kt t cs=some b->W.kitAny K tv cvs=some b:=by
 intro cs
 induction cs with
 |
  nil=>
  intro cvs b r e
  cases r
  cases e;rfl
 |
  cons c cs ih=>
  intro cvs b r e
  cases r with
  |
   cons r rr=>
   unfold ec at e
   unfold W.kitAny
   cases q:kit kt t c with
   |none=>rw[q] at e;cases e
   |
    some z=>
    rw[q] at e
    rw[ok.one _ (kU q) _ _ ht r]
    cases z with
    |true=>exact e
    |false=>exact ih rr e
def ve:CallR X (.builtin "isinstance") (λxs H Q=>∃x tp cs t vs b,xs=[x,.ref tp]/\SqT X.K H tp cs/\TyX X.K H x t/\cs.mapM dO=some vs/\W.kitAny X.K t vs=some b/\Q (.bl b) H):=by
 intro pins s σ H xs us Q I r h
 obtain⟨x,tp,cs,t,vs,b,rfl,ht,ty,hc,hk,q⟩:=h
 obtain⟨u,w',rfl,rx,rc⟩:=mU r
 cases rc
 obtain⟨its,rv,⟨o,e,c,n,d⟩,_⟩:=I.tuple ht
 obtain rfl:=lX hc rv
 obtain⟨Hh,Z,p,hne⟩:=qy I rx ty
 obtain⟨oc,od,odt,osl⟩:=o
 have c':oc=.type "tuple":=c
 have d':odt=.seq its.toArray n:=d
 subst c' d'
 exact W.kia_tup Z I.kIn p e hk hne λtk=>⟨.bl b,H,I.tok _,rfl,q⟩
def Gm(hK:X.K=K):CallR X (.builtin "isinstance") (λxs H Q=>(∃x c t v b,xs=[x,c]/\TyX K H x t/\dO c=some v/\W.kitOne K t v=some b/\Q (.bl b) H)\/
 (∃x tp cs t vs b,xs=[x,.ref tp]/\SqT K H tp cs/\TyX K H x t/\cs.mapM dO=some vs/\W.kitAny K t vs=some b/\Q (.bl b) H)):=by subst hK;exact xS.or ve
def CB(ok:KitsOk K mg kt):aR K mg (λxs H Q=>(∃x c t v b,xs=[x,c]/\TyX K H x t/\dO c=some v/\W.kitOne K t v=some b/\Q (.bl b) H)\/
 (∃x tp cs t vs b,xs=[x,.ref tp]/\SqT K H tp cs/\TyX K H x t/\cs.mapM dO=some vs/\W.kitAny K t vs=some b/\Q (.bl b) H)) (nY kt):=λρ h H ds vs Q E w rs p=>by
 unfold nY at p
 split at p
 ·cases
   rs with
  |
   cons r rs=>
   cases rs with
   |
    cons r2 rs=>
    cases rs
    split at p
    ·rename_i t e1
     split at p
     ·split
       at p
      ·rename_i cs c0 cr e2
       split at p
       ·rename_i b b' e3 e4
        cases r2 with
        |
         tup q rs2=>
         obtain⟨tv,h1,h2⟩:=qL ok w r e1 e4
         obtain⟨cvs,h3,h4⟩:=xQ rs2 e2
         exact .inr ⟨_,_,_,tv,cvs,b,rfl,q,h1,h3,tK ok h2 h4 e3,av w (.bl _) p⟩
       ·exact p.elim
      ·exact p.elim
     ·split at p
      ·rename_i cl e2
       split at p
       ·rename_i b e3
        obtain⟨tv,h1,h2⟩:=qL ok w r e1 e3
        obtain⟨cv,h3,h4⟩:=qf r2 e2
        exact .inl ⟨_,_,tv,cv,b,rfl,h1,h3,ok.one _ (kU e3) _ _ h2 h4,av w (.bl _) p⟩
       ·exact p.elim
      ·exact p.elim
    ·exact p.elim
 ·exact p.elim
end
def MtD(K:W.Frag)(mg:Ka)(r:V->List V->Hp->VK->Prop)(g:D->List D->AH->R D):Prop:=∀ρ h H dx ds x vs Q E,Wd K mg ρ h H->RelD K mg ρ H dx x->RelDs K mg ρ H ds vs->cI K mg ρ H Q E (g dx ds h)->r x vs H Q
def jZ(h:AH):D->Bool
 |.ref n=>(aP h n).isSome
 |_=>false
def eM(g:D->List D->AH->R D)(F:ME)(A:MA):ME:=λae h=>(F ae h).bind λx h1=>if jZ h1 x=true then (A ae h1).bind λds h2=>g x ds h2 else .stuck
section
variable{K:W.Frag}{mg:Ka}{X:Cx}{ES:St->XK}{o e:Expr}{es:List Expr}{F G:ME}{A:MA}{pos:Pos}
def uj(w:Wd K mg ρ h H)(r:RelD K mg ρ H d v)(q:jZ h d=true):tyV K "list" v H:=by
 cases r with
 |
  ref ea=>
  obtain⟨xs,e⟩:=ID.mp q
  obtain⟨vs,h1,_⟩:=bO w ea e
  exact .inl ⟨rfl,vs,h1⟩
 |_=>cases q
def de_m{name:Str}{id:String}{apos cpos:Pos}{r:V->List V->Hp->VK->Prop}{g:D->List D->AH->R D}(hK:X.K=K)(slot:Slot "list" name id)(hty:typeOf (.builtin id)=pure (.type "method_descriptor"))(hm:MtM X id r)(hd:MtD K mg r g)(ho:DE K mg X ES o F)(ha:DA K mg X ES (e::es) A)
 (hbase:attributeBase o name X.env (eval o X.env)=eval o X.env)
 (hfew:((backTo cpos (starEach (e::es) X.env)).all (λx=>!x.1)&&(backToKw cpos (keywordEach [] X.env)).all (λx=>x.1.isSome)
  && decide ((e::es).length+([]:List Keyword).length+(if ([]:List Keyword).isEmpty then 0 else 1)<30))=true)
 (hline:(apos.endLine==cpos.line)=true) (hs:starEach (e::es) X.env=(false,eval e X.env)::starEach es X.env) (ce:(backTo cpos (starEach es X.env)).any (·.1)=false):
 DE K mg X ES (.Call (.Attribute o name apos) (e::es) [] cpos) (eM g F A):=by
 subst hK
 refine PE.imp (FV PySem.F.plainAttrs_list slot hty hm ho ha hbase hfew hline hs ce) λσ H Q q_=>q_.el λρ h ae w re p=>⟨ρ,h,ae,w,re,p.bind.imp λdx h1 ρ1 H1 l1 w1 p1 x rx=>?_⟩
 split at p1
 ·rename_i hl
  exact⟨uj w1 rx hl,ρ1,h1,ae,w1,re.mono l1,p1.bind.imp λds h2 ρ2 H2 l2 w2 p2 vs rs=>hd ρ2 h2 H2 dx ds x vs Q _ w2 (rx.mono l2) rs p2⟩
 ·exact p1.elim
end
def j8(h:AH)(d:D)(f:Nat->List D->R D):R D:=match d with
 |.ref n=>match h[n]? with
  |some (.lst xs)=>f n xs
  |_=>.stuck
 |_=>.stuck
def iP:D->List D->AH->R D:=λx ds h=>j8 h x λn xs=>match ds with
 | [d]=>if xs.length<16777216 then .ok .non (h.set n (.lst (xs++[d]))) else .stuck
 |_=>.stuck
section
variable{K:W.Frag}{mg:Ka}{X:Cx}{ρ:List Addr}{H:Hp}{h:AH}
def uR(w:Wd K mg ρ h H)(r:RelD K mg ρ H d v)(p:cI K mg ρ H Q E (j8 h d f)):
 ∃n xs a vs,d=.ref n/\h[n]?=some (.lst xs)/\ρ[n]?=some a/\v=.ref a/\H a=some (.lst vs)/\RelDs K mg ρ H xs vs/\cI K mg ρ H Q E (f n xs):=by
 unfold j8 at p
 split at p
 ·cases r with
  |
   ref ea=>
   split at p
   ·rename_i n xs e
    obtain⟨vs,h1,h2⟩:=w.ob _ _ _ ea e
    exact⟨_,_,_,vs,rfl,e,ea,rfl,h1,h2,p⟩
   ·exact p.elim
 ·exact p.elim
def wu(w:Wd K mg ρ h H)(ea:ρ[n]?=some a)(e:H a=some (.lst vs))(rs:RelDs K mg ρ H ys ws)(rd:RelD K mg ρ H d v)(p:cI K mg ρ H Q E (.ok d (h.set n (.lst ys)))):Q v (upd H a (.lst ws)):=by
 have l:Le ρ H ρ (upd H a (.lst ws)):=m5 e m9
 exact p ρ _ l (w.write ea e m9 ⟨ws,bF,rs.mono l⟩) v (rd.mono l)
def tu:MtD K mg lO iP:=λρ h H dx ds x vs Q E w rx rs p=>by
 obtain⟨n,xs,a,us,rfl,e,ea,rfl,h1,h2,p⟩:=uR w rx p
 split at p
 ·cases rs with
  |
   cons r rs=>
   cases rs
   split at p
   ·rename_i hl
    exact⟨a,us,_,rfl,rfl,h1,by rw[<- h2.len];exact hl,wu w ea h1 (h2.append (.cons r .nil)) .non p⟩
   ·exact p.elim
 ·exact p.elim
end
def wL(o i v:D)(h:AH):R Unit:=match o,i with
 |.ref n,.int k=>match h[n]? with
  |some (.lst xs)=>match ixN xs.length k with
   |some j=>.ok () (h.set n (.lst (xs.set j v)))
   |none=>.stuck
  |_=>.stuck
 |_,_=>.stuck
section
variable{K:W.Frag}{mg:Ka}{X:Cx}{ES:St->XK}{o i:Expr}{F G:ME}{pos:Pos}
def Af:tj K mg rO wL:=λρ h H do_ di dv o i v Q E w ro ri rv p=>by
 unfold wL at p
 split at p
 ·cases
   ro with
  |
   ref ea=>
   cases ri
   split at p
   ·rename_i n k xs e
    split at p
    ·rename_i j ej
     obtain⟨vs,h1,h2⟩:=w.ob _ _ _ ea e
     have l:Le ρ H ρ (upd H _ (.lst (vs.set j v))):=m5 h1 m9
     exact⟨_,vs,_,j,rfl,rfl,h1,by rw[<- h2.len];exact ej,p ρ _ l (w.write ea h1 m9 ⟨_,bF,(h2.set rv j).mono l⟩)⟩
    ·exact p.elim
   ·exact p.elim
 ·exact p.elim
def Dy(ho:DE K mg X ES o F)(hi:DE K mg X ES i G)(hs:rC X t)(hd:tj K mg t f)
 (ha:∀v,assign (.Subscript o i pos) X.env v=(do
  let ov <- holding [v] (eval o X.env)
  let iv <- holding [v,ov] (eval i X.env)
  standAt pos
  holding [v,ov,iv] (setItem ov iv v)
  release [v,ov,iv] [])):DG K mg X ES (.Subscript o i pos) (gS F G f):=
 PG.imp (A8 ho hi hs ha) λv σ H Q q_=>q_.el λρ h ae d w re rd p=>
  ⟨ρ,h,ae,w,re,p.bind.imp λdo_ h1 ρ1 H1 l1 w1 p1 o' ro=>⟨ρ1,h1,ae,w1,re.mono l1,p1.bind.imp λdi h2 ρ2 H2 l2 w2 p2 i' ri=>
   hd ρ2 h2 H2 do_ di d o' i' v _ _ w2 (ro.mono l2) ri ((rd.mono l1).mono l2) (p2.bind.imp λ_ h3 ρ3 H3 l3 w3 p3=>p3 ρ3 H3 Le.refl w3 σ (((re.mono l1).mono l2).mono l3))⟩⟩
end
def cutD(xs:List D)(lo hi:Option Int):List D:=(xs.drop (HT.sIx xs.length 0 lo)).take (HT.sIx xs.length xs.length hi-HT.sIx xs.length 0 lo)
abbrev MO:=AE->AH->R (Option Int)
def sZ:MO:=λ_ h=>.ok none h
def sV(F:ME):MO:=λae h=>(F ae h).bind λd h1=>match d with
 |.int i=>.ok (some i) h1
 |_=>.stuck
def gSl(x:D)(lo hi:Option Int)(h:AH):R D:=match x with
 |.tup xs=>if HT.sIx xs.length 0 lo=0/\HT.sIx xs.length xs.length hi=xs.length then .stuck else .ok (.tup (cutD xs lo hi)) h
 |.ref n=>match aP h n with
  |some xs=>.ok (.ref h.length) (h++[.lst (cutD xs lo hi)])
  |none=>.stuck
 |.kl xs=>.ok (.ref h.length) (h++[.lst (cutD xs lo hi)])
 |_=>.stuck
def eSl(F:ME)(L U:MO):ME:=λae h=>(F ae h).bind λx h1=>(L ae h1).bind λlo h2=>(U ae h2).bind λhi h3=>gSl x lo hi h3
section
variable{K:W.Frag}{mg:Ka}{X:Cx}{ES:St->XK}{e:Expr}{F:ME}{L U:MO}{lo hi:Option Expr}{pos p2:Pos}
def rdO(K:W.Frag)(mg:Ka)(ES:St->XK)(F:MO):TO:=λσ H Q=>∃ρ h ae,Wd K mg ρ h H/\RelE K mg ρ H ae σ/\PostG K mg ρ H (ES σ) (λo _ ρ' H'=>Q o H') (F ae h)
def DO(K:W.Frag)(mg:Ka)(X:Cx)(ES:St->XK)(e:Option Expr)(F:MO):Prop:=PO X e (rdO K mg ES F)
def zC:DO K mg X ES none sZ:=PO.imp Ay λσ H Q ⟨ρ,h,ae,w,re,p⟩=>p ρ H Le.refl w
def yV(he:DE K mg X ES e F):DO K mg X ES (some e) (sV F):=PO.imp (z8 he) λσ H Q ⟨ρ,h,ae,w,re,p⟩=>⟨ρ,h,ae,w,re,p.bind.imp λd h1 ρ1 H1 l1 w1 p1 v rv=>by
 split at p1
 ·cases rv;exact⟨_,rfl,p1 ρ1 H1 Le.refl w1⟩
 ·exact p1.elim⟩
def lC(r:RelDs K mg ρ H xs vs)(lo hi:Option Int):RelDs K mg ρ H (cutD xs lo hi) (ip vs lo hi):=by
 unfold cutD ip
 rw[<- r.len]
 exact (r.drop _).take _
def slK(h:X.K=K):SlR X (λx lo hi H Q=>rSlL K x lo hi H Q\/rSlT K x lo hi H Q):=by subst h;exact AL.or Ep
def wV(hK:X.K=K)(he:DE K mg X ES e F)(hl:DO K mg X ES lo L)(hu:DO K mg X ES hi U):DE K mg X ES (.Subscript e (.Slice lo hi none p2) pos) (eSl F L U):=
 PE.imp (
  vx (slK hK) he hl hu) λσ H Q q_=>q_.el λρ h ae w re p=>⟨ρ,h,ae,w,re,p.bind.imp λd h1 ρ1 H1 l1 w1 p1 x rx=>⟨ρ1,h1,ae,w1,re.mono l1,p1.bind.imp λlo h2 ρ2 H2 l2 w2 p2=>⟨ρ2,h2,ae,w2,(re.mono l1).mono l2,p2.bind.imp λhi h3 ρ3 H3 l3 w3 p3=>by
  have rx3:=(rx.mono l2).mono l3
  unfold gSl at p3
  split at p3
  ·split at p3
   ·exact p3.elim
   ·rename_i hn
    cases rx3 with
    |tup q rs=>exact .inr ⟨_,_,rfl,q,by rw[<- rs.len];exact hn,λl hl=>gA w3 (lC rs lo hi) hl p3⟩
  ·split at p3
   ·rename_i xs e1
    cases rx3 with
    |
     ref ea=>
     obtain⟨vs,q,rs⟩:=bO w3 ea e1
     exact .inl ⟨_,_,rfl,q,λl hl=>du w3 (lC rs lo hi) hl p3⟩
   ·exact p3.elim
  ·cases rx3 with
   |kl q rs=>exact .inl ⟨_,_,rfl,.inr q,λl hl=>du w3 (lC rs lo hi) hl p3⟩
  ·exact p3.elim⟩⟩⟩
end
section
variable{K:W.Frag}{mg:Ka}{X:Cx}{ES:St->XK}{a:Expr}{F:ME}
end
section
variable{X:Cx}{pins pins2 pn:Kb}{σ:St}{H:Hp}{s:Shared}{xe:Kc}
end
section
variable{K:W.Frag}{mg:Ka}{X:Cx}{ES:St->XK}{x n:Str}{C:Addr}{i:Nat}{body suite:List Stmt}{b₀:Stmt}{B U:MS}{np hpos pos:Pos}{mro:List Str}
end
structure Script(h:AH)(d:D)(ns:List Int):Prop where
 form:(∃n,d=.ref n/\h[n]?=some (.fz (ns.map D.int)))\/d=.kl (ns.map D.int)
theorem gZ{K:W.Frag}{mg:Ka}{ρ:List Addr}{H:Hp}:∀(ns:List Int),RelDs K mg ρ H (ns.map D.int) (ns.map V.int)
 | []=>.nil
 |_::r=>.cons (.int _) (gZ r)
def vE{P:Program}{w:World}{K:W.Frag}{mg:Ka}{base:Heap}{x y:Str}{k:Nat}{S:Fn}(C:Callee P w K mg base x k [y] (spD K mg 1 S))
 (hS:∀(d:D) (h:AH) (ns:List Int),ns.length<=63->Script h d ns->∃h',S [d] h=.ok (.bl true) h'):Callee P w K mg base x k [y] (λvs H Q _=>∃(a:Addr) (ns:List Int),vs=[.ref a]/\lL H/\SqL K H a (ns.map V.int)/\ns.length<=63/\∀H',Q (.bl true) H'):=by
 refine C.imp λvs H Q E ⟨a,ns,e,hO,hq,hl,q⟩=>?_
 subst e
 rcases hq with (hq |⟨o,hq⟩) |hq
 ·rcases hO a with z |⟨o,xs,z⟩ <;> rw[hq] at z <;> cases z
 ·obtain⟨h',e⟩:=hS (.ref 0) [.fz (ns.map D.int)] ns hl ⟨.inl ⟨0,rfl,rfl⟩⟩
  refine⟨[a],[.fz (ns.map D.int)],[.ref 0],⟨rfl,by simp,λn b ob e1 e2=>?_⟩,.cons (.ref rfl) .nil,rfl,?_⟩
  ·cases n with
   |zero=>cases e1;cases e2;exact⟨o,_,hq,gZ ns⟩
   |succ n=>simp at e1
  ·rw[e]
   exact λρ' H' l' w' v rv=>by cases rv;exact q H'
 ·obtain⟨h',e⟩:=hS (.kl (ns.map D.int)) [] ns hl ⟨.inr rfl⟩
  refine⟨[],[],[.kl (ns.map D.int)],⟨rfl,by simp,λn b ob e1 e2=>by simp at e1⟩,.cons (.kl hq (gZ ns)) .nil,rfl,?_⟩
  rw[e]
  exact λρ' H' l' w' v rv=>by cases rv;exact q H'
def walk_lawD{l:W.OpenLaw}{q:Program}{loose:List Str}{XP:(Str->Option Value)->Heap->Prop}{YP:World->Heap->Prop}{d:DefRec}{K:Params->W.Frag}{x:Str}{k:Nat}(hn:l.most=some 63)(hdf:d.params.defaults=[])(hr:Room k callerA)
 (hY:∀(w:World) (h:Heap),YP w h->(K w.params).In h)
 (F:∀(w:World) (mg:Ka) (h:Heap),(K w.params).In h->h.Ns mainGlobals mg->∀base:Heap,(K w.params).In base->base.Ns mainGlobals mg->Callee l.prog w (K w.params) mg base d.name k [x] (λvs H Q _=>∃(a:Addr) (ns:List Int),vs=[.ref a]/\lL H/\SqL (K w.params) H a (ns.map V.int)/\ns.length<=63/\∀H',Q (.bl true) H'))
 (D:∀(w:World) (mg:Ka) (h:Heap),(K w.params).In h->h.Ns mainGlobals mg->∃st,Def (K w.params) mg d.name st/\∀(kV doc pm:Value) (an:Option Addr) (cdv ct:Value) (us:List Value),us.length=1->bindArgs (W.fnOf d.name d.name (bB st) (aN st) (ak st) .none kV doc pm an cdv ct) ⟨us,[]⟩=pure ([x].zip us)):
 W.WalkO q loose XP YP l.row.toRowW d [] (λf vs=>PySem.call f vs):=by
 refine L2.walk_of (n:=63) (k:=k) (x:=x) (CX:=λw=>CX1 l.prog w) (sp:=λw=>λvs H Q _=>∃(a:Addr) (ns:List Int),vs=[.ref a]/\lL H/\SqL (K w.params) H a (ns.map V.int)/\ns.length<=63/\∀H',Q (.bl true) H') hn (by decide) hdf hr hY (λw mg fa h KX G hmg=>?_) (λ_ _ a ns hl hO hS=>⟨a,ns,rfl,hO,hS,hl,λ_=>rfl⟩) λ_ _ _ _ _ ⟨_,_,_,_,_,_,_,_,_,z⟩=>z
 obtain⟨st,Dd,hbind⟩:=D w mg h KX G
 obtain⟨f,fd,Ff,m⟩:=Dd.ex
 have e:=hmg.symm.trans m
 cases e
 obtain⟨oc,od,kV,doc,pm,an,cdv,ct,osl,rfl,lk,hcd⟩:=Ff.ex
 refine⟨_,λs u=>.of_eq (hbind kV doc pm an cdv ct [u] rfl),λbase kb nb=>?_⟩
 obtain⟨f',fd',F',m',kp',b',oc',od',osl',lk'⟩:=(F w mg h KX G base kb nb).ex
 rw[m] at m'
 cases m'
 rw[lk] at lk'
 cases lk'
 exact F'
section
variable{K:W.Frag}{mg:Ka}{ρ ρ1 ρ2:List Addr}{H H1:Hp}{h:AH}
end
section
variable{K:W.Frag}{mg:Ka}{ρ:List Addr}{H:Hp}{h:AH}
end
def rR:D->D->AH->R D:=gOr (gI λi j=>.int (i+j)) jv
def xa:D->D->AH->R D:=gI λi j=>.int (i-j)
def CMulA(i j:Int):Prop:=yr i j\/CMul i j
def xq:D->D->AH->R D:=gIc CMulA λi j=>.int (i*j)
def xF:D->D->AH->R D:=gIc CDivB λi j=>.int (i.fdiv j)
def vy:D->D->AH->R D:=gIc (λ_ j=>j≠0) λi j=>.int (i.fmod j)
def wG:D->D->AH->R D:=gIc eK λi j=>.int (i^j.toNat)
def v7:D->D->AH->R D:=gIc eK λi j=>.int (i*2^j.toNat)
def gLt:D->D->AH->R D:=gI λi j=>.bl (decide (i<j))
def gGt:D->D->AH->R D:=gI λi j=>.bl (decide (j<i))
def gGe:D->D->AH->R D:=gI λi j=>.bl (decide (j<=i))
def sS:D->AH->R D:=λx h=>match x with
 |.int i=>.ok (.int (-i)) h
 |_=>.stuck
def sH(n:Nat)(S:Fn)(A:MA):ME:=eFn (λds h=>if ds.length=n then S ds h else .stuck) A
section
variable{K:W.Frag}{mg:Ka}{X:Cx}
def Eg(h:X.K=K):OpR X (binaryOp .Add) (λx y H Q=>rI0 (λi j=>.int (i+j)) x y H Q\/(lU x y H Q\/(i0 K x y H Q\/i7 K x y H Q))):=BR.or (catK h)
def Eu:OpD K mg (λx y H Q=>rI0 (λi j=>.int (i+j)) x y H Q\/(lU x y H Q\/(i0 K x y H Q\/i7 K x y H Q))) rR:=(iB λ_ _ _ _=>.int _).or yL
def B0:OpD K mg (rI0 λi j=>.int (i-j)) xa:=iB λ_ _ _ _=>.int _
def CO:OpR X (binaryOp .Mult) (rI CMulA λi j=>.int (i*j)):=by
 intro pins s σ H x y v u Q I rx ry h
 obtain⟨i,j,e1,e2,hc,q⟩:=h
 rcases hc with hc |hc
 ·exact Aj pins s σ H x y v u Q I rx ry ⟨i,j,e1,e2,hc,q⟩
 ·exact EV pins s σ H x y v u Q I rx ry ⟨i,j,e1,e2,hc,q⟩
def Dj:OpD K mg (rI CMulA λi j=>.int (i*j)) xq:=j4 λ_ _ _ _=>.int _
def EB:OpD K mg (rI CDivB λi j=>.int (i.fdiv j)) xF:=j4 λ_ _ _ _=>.int _
def Bf:OpD K mg (rI (λ_ j=>j≠0) λi j=>.int (i.fmod j)) vy:=j4 λ_ _ _ _=>.int _
def Er:OpD K mg (rI eK λi j=>.int (i^j.toNat)) wG:=j4 λ_ _ _ _=>.int _
def Bm:OpD K mg (rI eK λi j=>.int (i*2^j.toNat)) v7:=j4 λ_ _ _ _=>.int _
def Gg:OpD K mg (rI0 λi j=>.bl (decide (i<j))) gLt:=iB λ_ _ _ _=>.bl _
def GB:OpD K mg (rI0 λi j=>.bl (decide (j<i))) gGt:=iB λ_ _ _ _=>.bl _
def HG:OpD K mg (rI0 λi j=>.bl (decide (j<=i))) gGe:=iB λ_ _ _ _=>.bl _
def DZ:UnD K mg (rU λi=>.int (-i)) sS:=λρ h H dx x Q E w rx p=>by
 unfold sS at p
 split at p
 ·cases rx;exact⟨_,rfl,av w (.int _) p⟩
 ·exact p.elim
def AK:IpD K mg (ipI λi j=>i+j) (gI λi j=>.int (i+j)):=λρ h H dx dy x y Q E w rx ry p=>by
 unfold gI at p
 split at p
 ·cases rx;cases ry;exact⟨_,_,rfl,rfl,av w (.int _) p⟩
 ·exact p.elim
variable{ES:St->XK}{e:Expr}{es:List Expr}{A:MA}{pos:Pos}
def xb(C:Callee X.prog X.w X.K X.mg X.base x k ps (spD K mg n S))(hr:Room k X.A)(hg:Gl X x)(hx:ja X ES)(ha:DA K mg X ES (e::es) A)
 (hdb:(x==("__debug__" : Str))=false) (he:starEach (e::es) X.env=(false,eval e X.env)::starEach es X.env) (hpl:(backTo pos (starEach es X.env)).any (·.1)=false):
 DE K mg X ES (.Call (.Name x p) (e::es) [] pos) (sH n S A):=Ah C hr hg hx ha hdb he hpl
end
section
variable{ae:AE}{h:AH}
@[simp] theorem eU(a:α)(h:AH)(f:α->AH->R β):(R.ok a h).bind f=f a h:=rfl
end
def fH(h1:pd.canLay0=true)(h2:pd.depth<=160):shp pd=true:=by
 unfold shp
 rw[h1,r_ h2];rfl
def Sm(n:Nat)(x:Int):Prop:=x.natAbs<2^n
noncomputable def Sm.mono(h:Sm n x)(l:n<=m):Sm m x:=t_ h (IQ (by omega) l)
noncomputable def Sm.mul(h:Sm n x)(k:Sm m y):Sm (n+m) (x*y):=by
 unfold Sm at *
 rw[Ii,Jn]
 exact Nat.mul_lt_mul'' h k
noncomputable def Sm.bits(h:Sm n x):Builtin.Int.intBits x<=n:=intBits_le_iff.mpr h
noncomputable def Sm.of_le(h:Sm n y)(l:x.natAbs<=y.natAbs):Sm n x:=I0 l h
def CMulA.of(h:Sm n x)(k:Sm m y)(hn:n<=100000)(hm:m<=100000):CMulA x y:=.inl ⟨w_ h.bits hn,w_ k.bits hm⟩
noncomputable def CMulA.left(h:-(2^64)<x)(k:x<2^64):CMulA x y:=.inr (.inl ⟨h,k⟩)
noncomputable def CMulA.right(h:-(2^64)<y)(k:y<2^64):CMulA x y:=.inr (.inr ⟨h,k⟩)
def CDivB.of(h0:y≠0)(h:Sm 8000 y):CDivB x y:=⟨h0,h.bits⟩
structure Sz(n:Nat)(q:Rat):Prop where
 top:Sm n q.num
 bot:Sm n (q.den:Int)
def ua{a b:Int}(hb:b≠0):((a:Rat)/(b:Rat)).num*b=a*((a:Rat)/(b:Rat)).den:=by
 have h2:=Rat.num_divInt_den ((a:Rat)/(b:Rat))
 have h3:Rat.divInt ((a:Rat)/(b:Rat)).num (((a:Rat)/(b:Rat)).den:Int)=Rat.divInt a b:=by rw[h2,Rat.divInt_eq_div]
 exact (Rat.divInt_eq_divInt_iff (by have:=((a:Rat)/(b:Rat)).den_nz;omega) hb).mp h3
def qI(q:Rat):Int.gcd q.num q.den=1:=by
 have:=q.reduced
 exact this
def j3(hb:b≠0):Fr.T a b=((a:Rat)/(b:Rat)).num/\Fr.B a b=(((a:Rat)/(b:Rat)).den:Int):=by
 refine Fr.uniq (Fr.B_pos hb) (by have:=((a:Rat)/(b:Rat)).den_pos;omega) (Fr.low hb) (qI _) ?_
 have h1:=Fr.cross (a:=a) hb
 have h2:=ua (a:=a) hb
 generalize ((a:Rat)/(b:Rat)).num=n at *
 generalize (((a:Rat)/(b:Rat)).den:Int)=d at *
 generalize Fr.T a b=x at *
 generalize Fr.B a b=y at *
 have h3:(x*d)*b=(n*y)*b:=by
  calc x*d*b=(x*b)*d:=by rw[Jt]
   _=a*y*d:=by rw[h1]
   _=(a*d)*y:=by rw[Jt]
   _=n*b*y:=by rw[h2]
   _=n*y*b:=by rw[Jt]
 exact Jj hb h3
def sx{a b:Int}(hb:b≠0):((a:Rat)/(b:Rat)).num.natAbs<=a.natAbs:=by
 have h:=(j3 (a:=a) hb).1
 rw[<- h]
 have h1:=Fr.T_mul (a:=a) hb
 have h2:=Fr.dv_ne (a:=a) hb
 have h3:(Fr.T a b).natAbs*(Fr.dv a b).natAbs=a.natAbs:=by rw[<- Ii,h1]
 have h4:1<=(Fr.dv a b).natAbs:=by omega
 calc (Fr.T a b).natAbs=(Fr.T a b).natAbs*1:=by omega
  _<=(Fr.T a b).natAbs*(Fr.dv a b).natAbs:=IU _ h4
  _=a.natAbs:=h3
def rA{a b:Int}(hb:b≠0):((((a:Rat)/(b:Rat)).den:Int)).natAbs<=b.natAbs:=by
 have h:=(j3 (a:=a) hb).2
 rw[<- h]
 have h1:=Fr.B_mul (a:=a) hb
 have h2:=Fr.dv_ne (a:=a) hb
 have h3:(Fr.B a b).natAbs*(Fr.dv a b).natAbs=b.natAbs:=by rw[<- Ii,h1]
 have h4:1<=(Fr.dv a b).natAbs:=by omega
 calc (Fr.B a b).natAbs=(Fr.B a b).natAbs*1:=by omega
  _<=(Fr.B a b).natAbs*(Fr.dv a b).natAbs:=IU _ h4
  _=b.natAbs:=h3
def Sz.div(hb:b≠0)(ha:Sm n a)(hb':Sm m b)(k:Nat)(h1:n<=k)(h2:m<=k):Sz k ((a:Rat)/(b:Rat)):=
 ⟨(ha.of_le (sx hb)).mono h1,(hb'.of_le (rA hb)).mono h2⟩
def bN(q:Rat):(q.den:Int)≠0:=by have:=q.den_nz;omega
def eg(q:Rat):q=(q.num:Rat)/((q.den:Int):Rat):=by
 have:=Rat.num_divInt_den q
 rw[Rat.divInt_eq_div] at this
 exact this.symm
def fk{b:Int}(h:b≠0):(b:Rat)≠0:=by
 intro z
 exact h (by exact_mod_cast z)
def qN(p q:Rat):p+q=((p.num*q.den+q.num*p.den:Int):Rat)/((p.den*q.den:Int):Rat):=by
 have h1:=fk (bN p)
 have h2:=fk (bN q)
 conv=>lhs;rw[eg p,eg q]
 simp only[Rat.intCast_add,H0]
 grind
def rh(p q:Rat):p*q=((p.num*q.num:Int):Rat)/((p.den*q.den:Int):Rat):=by
 have h1:=fk (bN p)
 have h2:=fk (bN q)
 conv=>lhs;rw[eg p,eg q]
 simp only[H0]
 grind
def Sz.mul(hp:Sz n p)(hq:Sz m q):Sz (n+m) (p*q):=by
 rw[rh]
 exact Sz.div (by have:=bN p;have:=bN q;exact IX ‹_› ‹_›) (hp.top.mul hq.top) (hp.bot.mul hq.bot) _ (by omega) (by omega)
def gp{q:Rat}:0<q.num ↔ 0<q:=by
 have h1:=Rat.num_nonneg (q:=q)
 have h2:=JR (q:=q)
 constructor
 ·intro h
  refine Rat.lt_of_le_of_ne (h1.mp (by omega)) λz=>?_
  have:=h2.mpr z.symm
  omega
 ·intro h
  have h3:=h1.mpr (Rat.le_of_lt h)
  have h4:q.num≠0:=λz=>(Rat.ne_of_lt h) (h2.mp z).symm
  omega
noncomputable def gx(p q:Rat):p<q ↔ p.num*q.den<q.num*p.den:=Rat.lt_iff p q
section
variable(ae:AE)(h:AH)
end
theorem dN:∀{ws:List Int},(∀w∈ws,0<=w)->0<=ws.sum
 | [],_=>Int.le_refl _
 |
  w::ws,h=>by
  have:=h w (k_ ..)
  have:=dN (ws:=ws) λv hv=>h v (i_ _ hv)
  rw[Ie];omega
def A6{K:W.Frag}{h:Heap}{mg:Ka}{x:Str}{a:Addr}{dd:Option Addr}{its:Array Value}{n:Nat}{sl:Array (Option Value)}{vs:List V}{ds:List D}(X:K.In h)(G:h.Ns mainGlobals mg)(e:W.nsIn K mainGlobals x=some (some (.ref a)))
 (l:K.lookup a=some ⟨.type "tuple",dd,.seq its n,sl⟩) (hs:its.size<=sizeLine) (hv:Vals vs its.toList) (hr:∀ρ H,RelDs K mg ρ H ds vs):GC K mg x (.tup ds):=
 ⟨_,.ref a,W.mg_of X G e,rfl,λρ H=>.tup (.inr ⟨_,its,n,l,rfl,rfl,hs,hv⟩) (hr ρ H)⟩
def xt{P:Program}{w:World}{H:Hp}(h:Heap)(hb:sysModules<h.objs.size):ObjOk P w H (h.push { cls:=.type "dict",data:=.dict #[] }) h.objs.size (.dK []):=
 ⟨HW _,v_.mpr (Ne.symm (HY hb)),[],.nil,Heap.DictOf.new h⟩
def Inv.big{X:Cx}{pins:Kb}{σ:St}{H:Hp}{s:Shared}(I:Inv X pins σ H s):sysModules<s.heap.objs.size:=by
 have h:mainGlobals<s.heap.objs.size:=(I.mod.glob.keeps I.bk).lt
 exact JP (by decide) h
section
variable{K:W.Frag}{mg:Ka}{X:Cx}{ES:St->XK}{pos:Pos}
end
variable{K:W.Frag}{mg:Ka}
end L2
namespace L2
open PySem PySem.Spec PyProof.Rows
section
variable{K:W.Frag}{mg:Ka}{X:Cx}{ES:St->XK}{e:Expr}{es:List Expr}{A:MA}{pos:Pos}
end
section
variable{K:W.Frag}{mg:Ka}{X:Cx}{ES:St->XK}{e a b c o lo hi:Expr}{F G L U:ME}{pos p2:Pos}{ρ:List Addr}{H:Hp}{h:AH}{ae:AE}
end
section
variable{κ:Type}[DecidableEq κ]
noncomputable def cW(kvs:List (κ×V))(k:κ):Option V:=(kvs.find? λkv=>decide (kv.1=k)).map (·.2)
def ft(kvs:List (κ×V))(k:κ)(v:V):List (κ×V):=
 if (kvs.any λkv=>decide (kv.1=k))=true then kvs.map (λkv=>if kv.1=k then (kv.1,v) else kv) else kvs++[(k,v)]
def jO{p:κ×V}{r:List (κ×V)}{k:κ}(e:p.1=k):cW (p::r) k=some p.2:=by simp [cW,IA,e]
def jP{p:κ×V}{r:List (κ×V)}{k:κ}(e:¬ p.1=k):cW (p::r) k=cW r k:=by simp [cW,IA,e]
theorem om(k:κ):∀kvs:List (κ×V),(kvs.any λkv=>decide (kv.1=k))=(cW kvs k).isSome
 | []=>rfl
 |
  p::r=>by
  rw[IV]
  by_cases e:p.1=k
  ·simp only[jO e,r_ e,Bool.true_or,Option.isSome_some]
  ·rw[jP e,o_ e,Bool.false_or];exact om k r
def pG(kvs:List (κ×V))(k:κ)(v:V):(ft kvs k v).length<=kvs.length+1:=by
 unfold ft
 split
 ·rw[g_];omega
 ·rw[z_,F_,Ir];omega
def wA{kvs:List (κ×V)}{k:κ}(v:V)(h:cW kvs k=none):ft kvs k v=kvs++[(k,v)]:=by
 unfold ft
 rw[om,h]
 exact if_neg (by decide)
def KV.val(r:KV kvs vs)(k:κ):RelO (cW kvs k) (valueAt vs k):=by
 unfold KV at r
 induction r with
 |nil=>exact True.intro
 |
  @cons p q ps qs h t ih=>
  obtain⟨h1,h2⟩:=h
  by_cases e:p.1=k
  ·have e':q.1=k:=h1.symm.trans e
   have b:valueAt (q::qs) k=some q.2:=by simp [valueAt,IA,e']
   rw[jO e,b];exact h2
  ·have e':¬ q.1=k:=λz=>e (h1.trans z)
   have b:valueAt (q::qs) k=valueAt qs k:=by simp [valueAt,IA,e']
   rw[jP e,b];exact ih
def KV.any(r:KV kvs vs)(k:κ):(kvs.any λkv=>decide (kv.1=k))=vs.any λkv=>decide (kv.1=k):=by
 unfold KV at r
 induction r with
 |nil=>rfl
 |cons h t ih=>rw[IV,IV,ih,h.1]
def KV.repl(r:KV kvs vs)(k:κ)(ry:RelV y u):
 KV (kvs.map λkv=>if kv.1=k then (kv.1,y) else kv) (vs.map λkv=>if kv.1=k then (kv.1,u) else kv):=by
 unfold KV at r ⊢
 induction r with
 |nil=>exact .nil
 |
  @cons p q ps qs h t ih=>
  rw[D_,D_]
  refine .cons ?_ ih
  obtain⟨h1,h2⟩:=h
  by_cases e:p.1=k
  ·rw[if_pos e,if_pos (h1.symm.trans e)];exact⟨h1,ry⟩
  ·rw[if_neg e,if_neg (λz=>e (h1.trans z))];exact⟨h1,h2⟩
def KV.put(r:KV kvs vs)(k:κ)(ry:RelV y u):KV (ft kvs k y) (stored vs k u):=by
 unfold ft stored
 rw[r.any k]
 by_cases e:(vs.any λkv=>decide (kv.1=k))=true
 ·rw[if_pos e,if_pos e];exact r.repl k ry
 ·rw[if_neg e,if_neg e];exact Paired.snoc r ⟨rfl,ry⟩
end
def sI(r:RelV (kV k) u):(bj P w).is k u=true:=by
 cases k with
 |inl i=>obtain⟨t,e⟩:=(show ∃t,u=Value.int i t from r);subst e;exact pS P w i t
 |inr x=>obtain⟨t,e⟩:=(show ∃t,u=Value.str x t from r);subst e;exact pM P w x t
theorem mf:∀{ks:List Key}{us:List Value},Vals (ks.map kV) us->ItemsAre (bj P w) ks us
 | [],_,r=>by rw[H9] at r;cases r;exact .nil
 |
  k::ks,_,r=>by
  rw[D_] at r
  cases r with
  |cons h t=>exact .cons (sI h) (mf t)
abbrev KT(H:Hp):List (List Key×V)->List (List Key×Addr×Value)->Prop:=Paired λp q=>p.1=q.1/\H q.2.1=some (.tup (p.1.map kV))/\RelV p.2 q.2.2
def KT.val(r:KT H kvs xs)(k:List Key):RelO (cW kvs k) ((atKey xs k).map (·.2)):=by
 induction r with
 |nil=>exact True.intro
 |
  @cons p q ps qs h t ih=>
  obtain⟨h1,_,h2⟩:=h
  by_cases e:p.1=k
  ·have e':q.1=k:=h1.symm.trans e
   have b:atKey (q::qs) k=some q.2:=by simp [atKey,IA,e']
   rw[jO e,b];exact h2
  ·have e':¬ q.1=k:=λz=>e (h1.trans z)
   have b:atKey (q::qs) k=atKey qs k:=by simp [atKey,IA,e']
   rw[jP e,b];exact ih
section
variable{P:Program}{w:World}{H:Hp}{h:Heap}{a:Addr}
def yB(ok:HOk P w H h)(e:Rd H a u):ObjOk P w H h a u:=e.ok ok
def rH(ok:HOk P w H h)(e:Rd H a (.dK kvs)):kvs.length<=sizeLine/\(a==sysModules)=false/\∃vs,KV kvs vs/\h.DictOf (bj P w) a vs:=
 show ObjOk P w H h a (.dK kvs) from yB ok e
def Gv(ok:HOk P w H h)(e:H a=some (.dK kvs)):kvs.length<=sizeLine/\(a==sysModules)=false/\∃vs,KV kvs vs/\h.DictOf (bj P w) a vs:=rH ok (.inl e)
def tF(ok:HOk P w H h)(e:H a=some (.tup (ks.map kV))):(tupleKind (bj P w)).is h ks a:=by
 obtain⟨_,its,r,o,h1,h2,n,h3⟩:=(show ObjOk P w H h a (.tup (ks.map kV)) from ok a _ e)
 exact⟨o,its.toArray,n,h1,h2,h3,by simpa using mf r⟩
def xZ(ok:HOk P w H h)(e:Rd H a (.dT kvs)):kvs.length<=sizeLine/\(a==sysModules)=false/\
 ∃xs,KT H kvs xs/\h.DictOfH (tupleKind (bj P w)) a xs:=by
 obtain⟨z,y,xs,r,o,es,ep,h1,h2,h3,h4,h5⟩:=(show ObjOk P w H h a (.dT kvs) from yB ok e)
 refine⟨z,y,xs,r,o,es,ep,h1,h2,h3,h4,λx hx=>?_,h5⟩
 have all:∀{l:List (List Key×V)}{m:List (List Key×Addr×Value)},KT H l m->∀x∈m,(tupleKind (bj P w)).is h x.1 x.2.1:=by
  intro l m q
  induction q with
  |nil=>intro x hx;exact nomatch hx
  |
   @cons p q ps qs hq t ih=>
   intro x hx
   rcases G_.mp hx with e |hx
   ·subst e
    exact tF ok (by rw[<- hq.1];exact hq.2.1)
   ·exact ih x hx
 exact all r x hx
end
def DGet(H:Hp)(a:Addr)(y:V)(r:Option V):Prop:=
 (∃kvs k,Rd H a (.dK kvs)/\y=kV k/\r=cW kvs k)\/∃kvs k b,Rd H a (.dT kvs)/\y=.ref b/\H b=some (.tup (k.map kV))/\r=cW kvs k
def DGet.k{H:Hp}{a:Addr}{kvs:List (Key×V)}{k:Key}(e:H a=some (.dK kvs)):DGet H a (kV k) (cW kvs k):=.inl ⟨kvs,k,.inl e,rfl,rfl⟩
section
variable{X:Cx}{pins:Kb}{σ:St}{H:Hp}{s:Shared}{a:Addr}{y v:V}{u r:Value}{o:Option V}{A:Around}{E:Kc}
def tX(hu:A.units+1<cLine)(I:Inv X pins σ H s)(g:DGet H a y (some v))(ry:RelV y u)(h:∀w' s',Inv X pins σ H s'->RelV v w'->Q w' s'):
 wpAny (model X.prog X.w) A (getItem (.ref a) u) Q E s:=by
 rcases g with ⟨kvs,k,e,ey,l⟩ |⟨kvs,k,b,e,ey,eb,l⟩
 ·subst ey
  obtain⟨z,hd,vs,rel,dd⟩:=rH I.hok e
  obtain⟨w',hw,rw'⟩:=RelO.some_of (v:=v) (o:=valueAt vs k) (by rw[l];exact rel.val k)
  exact wpAny_getItem_of (sI ry) dd.mapOf hw (h w' _ (I.tok _) rw')
 ·subst ey
  cases (show u=Value.ref b from ry)
  obtain⟨z,hd,xs,rel,dd⟩:=xZ I.hok e
  obtain⟨w',hw,rw'⟩:=RelO.some_of (v:=v) (o:=(atKey xs k).map (·.2)) (by rw[l];exact rel.val k)
  obtain⟨p,hp,hp2⟩:=E_.mp hw
  refine wpAny_getItem_heap (tupleKind_room_in1 hu) (tF I.hok eb) dd hp ?_
  rw[hp2]
  exact h w' _ (I.tok _) rw'
def yP(I:Inv X pins σ H s)(mu:Mut (H a))(hs:Heap.SameBut a s.heap h')(he:∃q,h'.get? a=some q)(new:ObjOk X.prog X.w (upd H a ob) h' a ob):
 Inv X pins σ (upd H a ob) { s with heap:=h',toks:=t' }:=
 I.write (x:=a) (e:=a) mu (.inl rfl) (λb q hb z=>(hs.2 b hb).trans z) he new
def El(z:kvs.length<=sizeLine)(hd:(a==sysModules)=false)(rel:KV kvs vs)(dd:h'.DictOf (bj P w) a vs):
 ObjOk P w H' h' a (.dK kvs):=⟨z,hd,vs,rel,dd⟩
end
section
variable{X:Cx}{pins:Kb}{σ:St}{H:Hp}{s:Shared}{a:Addr}{kvs:List (Key×V)}{k:Key}{u:Value}{A:Around}{E:Kc}
end
def rF(i:Expr):Prop:=∀ov iv,subscripted i false ov iv=operate [ov,iv] (getItem ov iv)
def yS{prog:Program}{w:World}{A:Around}{E:Kc}{s:Shared}{env:Env}{value e_:Expr}{pos:Pos}{T id:String}{Q:Kc}
 (hl:typeLookup (.type T) "__getitem__"=pure (some (.builtin id))) (hs:rF e_)
 (h:wpAny (model prog w) A (eval value env) (λo s₁=>wpAny (model prog w) A (eval e_ env) (λi s₂=>s₂.TypeIs o T/\wpAny (model prog w) A (getItem o i) Q E s₂) E s₁) E s):
 wpAny (model prog w) A (eval (.Subscript value e_ pos) env) Q E s:=by
 refine Subscript_ (HZ h (λo s₁ h₁=>HZ h₁ (λi s₂ h₂=>?_) λ_ _ x=>x) λ_ _ x=>x)
 obtain⟨hT,h₂⟩:=h₂
 unfold subscriptTail
 refine l_ ?_
 rw[getitemInPython_of_ne hT.not_modules]
 refine l_ (wpAny_specialOf hT hl ?_)
 have d_:wpAny (model prog w) A (subscripted e_ false o i) (λr s₃=>wpAny (model prog w) A (letTemporaryGo value o r >>= λ_=>pure r) Q E s₃) E s₂:=by
  rw[hs o i]
  exact wpAny_operating (HZ h₂ (λr s₃ h₃=>l_ (wpAny_letTemporaryGo (A_ h₃))) λ_ _ x=>x)
 first
  |exact A_ (l_ d_)
  |exact l_ (A_ (l_ d_))
  |exact l_ d_
def pB(I:Inv X pins σ H s)(g:DGet H a y o):s.TypeIs (.ref a) "dict":=by
 rcases g with ⟨kvs,k,e,_,_⟩ |⟨kvs,k,b,e,_,_,_⟩
 ·obtain⟨_,_,vs,_,dd⟩:=rH I.hok e
  exact dd.typeIs
 ·obtain⟨_,_,xs,_,dd⟩:=xZ I.hok e
  exact dd.typeIs
def HM(td ty:TE):TE:=λσ H Q=>td σ H λx H1=>ty σ H1 λy H2=>∃a v,x=.ref a/\DGet H2 a y (some v)/\Q v H2
section
variable{X:Cx}{o i e value:Expr}{pos f_ tpos:Pos}{td ty tv:TE}
def yN(hu:X.A.units+1<cLine)(ho:PE X o td)(hi:PE X i ty)(hs:rF i):PE X (.Subscript o i pos) (HM td ty):=by
 intro pins s σ H Q I h
 refine yS PySem.F.slot_dict_getitem.lookup hs (thn (ho pins s σ H _ I h) λu s1 ⟨x,H1,I1,rx,q1⟩=>thn (hi pins s1 σ H1 _ I1 q1) λiv s2 ⟨y,H2,I2,ry,a,v,ex,g,q2⟩=>?_)
 subst ex
 obtain rfl:u=Value.ref a:=rx
 exact⟨pB I2 g,tX hu I2 g ry λw' s3 I3 rw'=>⟨v,H2,I3,rw',q2⟩⟩
end
section
variable{X:Cx}{pos:Pos}
end
def ki:List (TE×TE)->St->Hp->(List (V×V)->Hp->Prop)->Prop
 | [],_,H,Q=>Q [] H
 |(tk,tv)::r,σ,H,Q=>tk σ H λx H1=>tv σ H1 λy H2=>ki r σ H2 λps H3=>Q ((x,y)::ps) H3
abbrev VV:List (V×V)->List (Value×Value)->Prop:=Paired λp q=>RelV p.1 q.1/\RelV p.2 q.2
def PPs(X:Cx)(pos:Pos)(keys:List (Option Expr))(values:List Expr)(trs:List (TE×TE)):Prop:=
 ∀
  (pins:Kb) (s:Shared) (σ:St) (H:Hp) (Q:List (V×V)->Hp->Prop),Inv X pins σ H s->ki trs σ H Q->
  wpAny (model X.prog X.w) X.A (evalPairs (pairTrees keys values X.env pos)) (λvs s'=>∃ps H',Inv X pins σ H' s'/\VV ps vs/\Q ps H') X.xe s
noncomputable def zU:PPs X pos [] [] []:=λpins s σ H Q I h=>pairTrees_nil_walk ⟨[],H,I,.nil,h⟩
def w6(hk:PE X k tk)(hv:PE X v tv)(hr:PPs X pos ks vs trs):
 PPs X pos (some k::ks) (v::vs) ((tk,tv)::trs):=λpins s σ H Q I h=>
 pairTrees_cons_walk (thn (hk pins s σ H _ I h) λu s1 ⟨x,H1,I1,rx,q1⟩=>thn (hv pins s1 σ H1 _ I1 q1) λw2 s2 ⟨y,H2,I2,ry,q2⟩=>
  thn (hr pins s2 σ H2 _ I2 q2) λws s3 ⟨ps,H3,I3,rel,q3⟩=>⟨(x,y)::ps,H3,I3,.cons ⟨rx,ry⟩ rel,q3⟩)
def fE(kvs more:List (Key×V)):List (Key×V):=more.foldl (λacc kv=>ft acc kv.1 kv.2) kvs
def KV.merge:∀{more:List (Key×V)}{rs:List (Key×Value)}{kvs:List (Key×V)}{vs:List (Key×Value)},KV more rs->KV kvs vs->KV (fE kvs more) (merged vs rs):=by
 intro more rs kvs vs r
 unfold KV at r
 induction r generalizing kvs vs with
 |nil=>intro q;exact q
 |
  @cons p q ps qs h t ih=>
  intro r0
  have e:KV (ft kvs p.1 p.2) (stored vs q.1 q.2):=by
   have:=r0.put p.1 h.2
   rw[<- h.1];exact this
  exact ih e
theorem ie:∀(more kvs:List (Key×V)),(fE kvs more).length<=kvs.length+more.length
 | [],kvs=>by show kvs.length<=kvs.length+0;omega
 |
  p::r,kvs=>by
  have h1:=ie r (ft kvs p.1 p.2)
  have h2:=pG kvs p.1 p.2
  show (fE (ft kvs p.1 p.2) r).length<=_
  rw[F_];omega
theorem kH:∀{kvs:List (Key×V)}{ws:List (Value×Value)},VV (kvs.map λkv=>(kV kv.1,kv.2)) ws->∃rs,Carries (bj P w) ws rs/\KV kvs rs
 | [],_,r=>by rw[H9] at r;cases r;exact⟨[],True.intro,.nil⟩
 |
  p::kvs,_,r=>by
  rw[D_] at r
  cases r with
  |
   @cons a b as bs h t=>
   obtain⟨rs,c,q⟩:=kH (P:=P) (w:=w) t
   obtain⟨b1,b2⟩:=b
   exact⟨(p.1,b2)::rs,⟨sI h.1,rfl,c⟩,.cons ⟨rfl,h.2⟩ q⟩
def HF(trs:List (TE×TE)):TE:=λσ H Q=>∀p,H p=none->ki trs σ (upd H p (.dK [])) λps H2=>H2 p=some (.dK [])/\∃kvs:List (Key×V),ps=kvs.map (λkv=>(kV kv.1,kv.2))/\kvs.length<=15/\Q (.ref p) (upd H2 p (.dK (fE [] kvs)))
def zT(h:PPs X pos keys values trs)(hall:keys.all (·.isSome)=true)(hl:keys.length=values.length)(h0:keys≠[])
 (h15:keys.length<=15):PE X (.Dict keys values pos) (HF trs):=by
 intro pins s σ H Q I q
 have hn:=I.hok.fresh (j_ s.heap.objs.size)
 have I1:=I.laid (a:=s.heap.objs.size) (o:=.dK []) (h':=s.heap.push { cls:=.type "dict",data:=.dict #[] }) (t':=s.toks) (λ_ _ q=>p_ _ q) (j_ _) (xt s.heap I.big)
 refine wpAny_Dict_walk (knd:=bj X.prog X.w) hall hl h0 h15 (thn (h pins _ σ _ _ I1 (q _ hn)) λws s2 ⟨ps,H2,I2,rel,e,kvs,ep,lk,q2⟩=>?_)
 subst ep
 obtain⟨rs,c,rk⟩:=kH (P:=X.prog) (w:=X.w) rel
 obtain⟨z,hd,vs0,r0,dd⟩:=Gv I2.hok e
 cases r0
 refine⟨rs,c,dd,λh' dd' hs=>⟨.ref s.heap.objs.size,_,?_,rfl,q2⟩⟩
 have hz:(fE [] kvs).length<=sizeLine:=by
  have h1:=ie kvs []
  rw[Ir] at h1
  rw[sizeLine_eq];omega
 have he:∃q,h'.get? s.heap.objs.size=some q:=let ⟨q,_,_,hq,_⟩:=dd';⟨q,hq⟩
 exact yP I2 (by rw[e];exact True.intro) hs he (El hz hd (rk.merge .nil) dd')
section
variable{X:Cx}{pins:Kb}{σ:St}{H:Hp}{s:Shared}{a:Addr}{y d:V}{u r:Value}{o:Option V}{A:Around}{E:Kc}
end
section
variable{X:Cx}{o e f:Expr}{apos cpos:Pos}{td ty tx:TE}
end
section
variable{X:Cx}{pins:Kb}{σ:St}{H:Hp}{s:Shared}{a:Addr}{kvs:List (Key×V)}{A:Around}{E:Kc}
end
section
variable{X:Cx}{pins:Kb}{σ:St}{H:Hp}{s:Shared}{a:Addr}{y:V}{u:Value}{A:Around}{E:Kc}
end
section
variable{prog:Program}{w:World}{A:Around}{E:Kc}{s:Shared}
end
section
variable[DecidableEq κ]
def lkD(kvs:List (κ×α))(k:κ):Option α:=(kvs.find? λkv=>decide (kv.1=k)).map (·.2)
def putD(kvs:List (κ×α))(k:κ)(v:α):List (κ×α):=if (kvs.any λkv=>decide (kv.1=k))=true then kvs.map λkv=>if kv.1=k then (kv.1,v) else kv else kvs++[(k,v)]
end
section
variable{K:W.Frag}{mg:Ka}{ρ:List Addr}{H:Hp}
def zq:∀{kvs:List (Key×D)}{ws:List (Key×V)},ws.map (·.1)=kvs.map (·.1)->RelDs K mg ρ H (kvs.map (·.2)) (ws.map (·.2))->lkD kvs k=some d->∃v,cW ws k=some v/\RelD K mg ρ H d v:=by
 intro kvs
 induction kvs with
 |nil=>intro ws e r q;cases q
 |
  cons p kvs ih=>
  intro ws e r q
  cases ws with
  |nil=>cases e
  |
   cons w ws=>
   obtain⟨k1,d1⟩:=p
   obtain⟨k2,v2⟩:=w
   rw[D_,D_] at e
   injection e with e1 e2
   dsimp only at e1
   subst e1
   cases r with
   |
    cons r rr=>
    unfold lkD at q
    unfold cW
    rw[IA] at q ⊢
    dsimp only at q ⊢
    by_cases hk:k2=k
    ·rw[r_ hk] at q ⊢
     cases q
     exact⟨v2,rfl,r⟩
    ·rw[o_ hk] at q ⊢
     exact ih e2 rr q
def oz:D->D->AH->R D:=λx y h=>match x with
 |.ref n=>(match y with
  |.str k=>(match h[n]? with
   |some (.dct kvs)=>(match lkD kvs (.inr k) with
    |some d=>.ok d h
    |none=>.stuck)
   |_=>.stuck)
  |_=>.stuck)
 |_=>.stuck
variable{X:Cx}{ES:St->XK}{a b:Expr}{F G:ME}{pos:Pos}
def zA(hu:X.A.units+1<cLine)(ha:DE K mg X ES a F)(hb:DE K mg X ES b G)(hs:rF b):DE K mg X ES (.Subscript a b pos) (eOp oz F G):=PE.imp (yN hu ha hb hs) λσ H Q q_=>q_.el λρ h ae w re p=>⟨ρ,h,ae,w,re,p.bind.imp λdx h1 ρ1 H1 l1 w1 p1 x rx=>⟨ρ1,h1,ae,w1,re.mono l1,p1.bind.imp λdy h2 ρ2 H2 l2 w2 p2 y ry=>by
 have rx2:=rx.mono l2
 unfold oz at p2
 split at p2
 ·split
   at p2
  ·split
    at p2
   ·rename_i n k _ kvs e
    split at p2
    ·rename_i d q
     cases rx2 with
     |
      ref ea=>
      cases ry
      obtain⟨ws,k1,k2,k3⟩:=w2.ob _ _ _ ea e
      obtain⟨v,q1,rv⟩:=zq k2 k3 q
      refine⟨_,v,rfl,?_,av w2 rv p2⟩
      rw[<- q1]
      exact DGet.k (k:=.inr k) k1
    ·exact p2.elim
   ·exact p2.elim
  ·exact p2.elim
 ·exact p2.elim⟩⟩
def jW(ks:List Str)(A:MA):ME:=λae h=>(A ae (h++[.dct []])).bind λds h2=>match h2[h.length]? with
 |some (.dct [])=>if ks.length=ds.length then .ok (.ref h.length) (h2.set h.length (.dct ((ks.map Sum.inr).zip ds))) else .stuck
 |_=>.stuck
def aL:List (Str×ME)->MA
 | []=>rP
 |p::r=>m8 p.2 (aL r)
def tps(K:W.Frag)(mg:Ka)(ES:St->XK)(prs:List (Str×ME)):List (TE×TE):=prs.map λp=>(tC (.str p.1),rdE K mg ES p.2)
theorem oi:∀(prs:List (Str×ME)) {ρ:List Addr}{h:AH}{ae:AE}{H:Hp}{Q:List (V×V)->Hp->Prop},Wd K mg ρ h H->RelE K mg ρ H ae σ->PostG K mg ρ H (ES σ) (λds _ ρ' H'=>∀vs,RelDs K mg ρ' H' ds vs->Q ((prs.map λp=>V.str p.1).zip vs) H') (aL prs ae h)->ki (tps K mg ES prs) σ H Q
 | [],ρ,h,ae,H,Q,w,re,p=>p ρ H Le.refl w [] .nil
 |pr::r,ρ,h,ae,H,Q,w,re,p=>⟨ρ,h,ae,w,re,(PostG.bind p).imp λd h1 ρ1 H1 l1 w1 p1 y ry=>oi r w1 (re.mono l1) ((PostG.bind p1).imp λds h2 ρ2 H2 l2 w2 p2 vs rs=>p2 ρ2 H2 Le.refl w2 (y::vs) (.cons (ry.mono l2) rs))⟩
theorem nU:∀(more acc:List (Key×V)),((acc++more).map (·.1)).Nodup->fE acc more=acc++more
 | [],acc,_=>(Iz _).symm
 |
  (k,v)::more,acc,h=>by
  show fE (ft acc k v) more=_
  have hk:cW acc k=none:=by
   unfold cW
   rw[Option.map_eq_none_iff,List.find?_eq_none]
   intro p hp z
   have z:=of_decide_eq_true z
   rw[Jq,List.nodup_append] at h
   exact h.2.2 p.1 (List.mem_map_of_mem hp) k (k_ ..) z
  rw[wA v hk,nU more (acc++[(k,v)]) (by rw[IM];exact h),IM]
  rfl
def qx:PPs X pos [] [] (tps K mg ES []):=zU
def xX(hv:DE K mg X ES v F)(hr:PPs X pos ks vs (tps K mg ES prs)):PPs X pos (some (.Constant (.str k) j kp)::ks) (v::vs) (tps K mg ES ((k,F)::prs)):=w6 ui hv hr
theorem oX:∀(ks:List Str) (vs:List V),(ks.map V.str).zip vs=((ks.map Sum.inr).zip vs).map λkv:Key×V=>(kV kv.1,kv.2)
 | [],_=>rfl
 |_::_,[]=>rfl
 |
  k::ks,v::vs=>by
  show (V.str k,v)::(ks.map V.str).zip vs=_
  rw[oX ks vs]
  rfl
def Ac(hp:PPs X pos keys values (tps K mg ES prs))(hall:keys.all (·.isSome)=true)(hl:keys.length=values.length)(h0:keys≠[])(h15:keys.length<=15)(hn:(prs.map (·.1)).Nodup)(hp15:prs.length<=15):DE K mg X ES (.Dict keys values pos) (jW (prs.map (·.1)) (aL prs)):=PE.imp (zT hp hall hl h0 h15) λσ H Q q_=>q_.el λρ h ae w re p=>λpp hpp=>by
 have l:Le ρ H (ρ++[pp]) (upd H pp (.dK [])):=(cP hpp).trans lE
 have w1:=w.alloc hpp (o:=.dct []) (u:=.dK []) ⟨[],bF,rfl,.nil⟩
 refine oi prs w1 (re.mono l) ((PostG.mono l (PostG.bind p)).imp λds h2 ρ2 H2 l2 w2 p2 vs rs=>?_)
 split at p2
 ·rename_i e
  split at p2
  ·rename_i be
   have ea:ρ2[h.length]?=some pp:=l2.pre _ _ (by rw[<- w.len,HX (j_ _),JQ];rfl)
   obtain⟨ws,k1,k2,_⟩:=w2.ob _ _ _ ea e
   have:ws=[]:=by cases ws with |nil=>rfl |cons _ _=>cases k2
   subst this
   have hlv:vs.length=prs.length:=by rw[<- rs.len,<- be,g_]
   refine⟨k1,((prs.map (·.1)).map Sum.inr).zip vs,?_,?_,?_⟩
   ·rw[<- oX,Jf]
    rfl
   ·rw[List.length_zip,g_,g_]
    omega
   ·have hz:(((prs.map (·.1)).map Sum.inr).zip vs:List (Key×V)).map (·.1)=(prs.map (·.1)).map Sum.inr:=List.map_fst_zip (by rw[g_,g_];omega)
    rw[nU _ [] (by
     rw[Ik,hz]
     exact List.Pairwise.map _ (λa b hab z=>hab (Sum.inr.inj z)) hn),Ik]
    have l3:Le ρ2 H2 ρ2 (upd H2 pp (.dK (((prs.map (·.1)).map Sum.inr).zip vs))):=m5 k1 dKNo
    refine p2 ρ2 _ l3 (w2.write ea k1 dKNo ⟨_,bF,?_,?_⟩) _ (.ref ea)
    ·rw[hz,List.map_fst_zip (by rw[g_];omega)]
    ·rw[List.map_snd_zip (by rw[g_];omega),List.map_snd_zip (by rw[g_,g_];omega)]
     exact rs.mono l3
  ·exact p2.elim
 ·exact p2.elim
end
section
variable{X:Cx}
end
section
variable{K:W.Frag}{mg:Ka}
end
section
variable{K:W.Frag}{mg:Ka}{X:Cx}{ES:St->XK}{o:Expr}{F:ME}{pos p2:Pos}
end
end L2
namespace L2
open PySem PySem.Spec PySem.Calls PyProof.Rows
section
variable{X:Cx}{K:W.Frag}{mg:Ka}{ES:St->XK}{es:List Expr}{gs:MGs}{pos:Pos}
end
section
variable{X:Cx}{K:W.Frag}{mg:Ka}{ES:St->XK}{a:Expr}{A:MA}{pos q2 p1 p2:Pos}
noncomputable def nW(j:Int):List V:=(List.range j.toNat).map λi=>V.int ((i:Nat):Int)
def rLrg:List V->Hp->VK->Prop:=λxs H Q=>∃j:Int,xs=[.int j]/\-(2^62)<=j/\j<=16777216/\∀l,H l=none->Q (.ref l) (upd H l (.lst (nW j)))
theorem rn:∀(n:Nat) (f:Nat->Int) (is:List Nat) (ys:List Value),CarriedAll ys (is.map λi=>PyData.int (f i))->Vals (is.map λi=>V.int (f i)) ys
 |n,f,[],ys,h=>by cases h;exact .nil
 |
  n,f,i::is,ys,h=>by
  cases h with
  |
   cons c r=>
   cases c
   exact .cons ⟨_,rfl⟩ (rn n f is _ r)
def DK(hc:X.calm=true)(hl:Gl X "list")(hml:X.mg "list"=none)(hg:Gl X "range")(hm:X.mg "range"=none)(ha:PA X [a] ta)(hs:starEach [a] X.env=[(false,eval a X.env)])
 (hs1:starEach [.Call (.Name "range" p2) [a] [] q2] X.env=[(false,eval (.Call (.Name "range" p2) [a] [] q2) X.env)]):
 PE X (.Call (.Name "list" p1) [.Call (.Name "range" p2) [a] [] q2] [] pos) (tCB rLrg ta):=by
 intro pins s σ H Q I h
 refine I_ (gu I hl hml (show bootBuiltins "list"=some (.type "list") from rfl) ?_ (by decide) (by decide))
 refine IH ?_ hs1 rfl
 rw[hs1]
 show wpAny _ _ (spliced ((false,eval (.Call (.Name "range" p2) [a] [] q2) X.env)::[])) _ _ s
 refine Calls.spliced_cons ?_
 refine I_ (gu I hg hm (show bootBuiltins "range"=some (.type "range") from rfl) ?_ (by decide) (by decide))
 refine IH (thn (ha q2 pins s σ H _ I h) λus s1 ⟨vs,H1,I1,r1,q1⟩=>?_) hs rfl
 obtain⟨j,e,h1,h2,q⟩:=q1
 subst e
 cases r1 with
 |
  cons r rr=>
  cases rr
  obtain⟨t,rfl⟩:=r
  refine call_range_1 (Calls.spliced_nil ?_)
  have I2:Inv X pins σ H1 { s1 with heap:=s1.heap.push { cls:=.type "range",data:=.fields #[.int 0 s1.toks,.int j t,.int 1 (s1.toks+1)] },toks:=s1.toks+1+1 }:=I1.kept λb o e=>p_ _ e
  obtain⟨m,hns,_⟩:=I2.loc
  refine list_rangeD (I.ok.hd hc) (Att.fr_all hns) (news:=[]) (λp hp=>nomatch hp) (IsRange.new ..) (small_one (by omega) (by omega) (by omega) (by omega)) (n:=j.toNat) (by rw[rangeSize_one];split <;> omega) (by omega) ?_
  intro h' tk ys hf hn hk _ _ ⟨⟨c,hpl⟩,_⟩ hcar
  have rv:Vals (nW j) ys:=rn 0 (λi=>((i:Nat):Int)) (List.range j.toNat) ys (by
   unfold rangeInts at hcar
   rw[Jf] at hcar
   have e:((λi=>PyData.int i) ∘ λ(i:Nat)=>(0:Int)+(i:Int)*1)=λi:Nat=>PyData.int (i:Int):=by
    funext i
    simp
   rw[show (PyData.int ∘ λ(i:Nat)=>(0:Int)+(i:Int)*1)=λi:Nat=>PyData.int (i:Int) from e] at hcar
   exact hcar)
  have hz:(nW j).length<=sizeLine:=by
   unfold nW
   rw[g_,Ij]
   have:sizeLine=16777216:=rfl
   omega
  exact⟨.ref _,_,I2.laid (t':=tk) hk (j_ _) (show ObjOk X.prog X.w _ h' _ (.lst (nW j)) from ⟨hz,ys,c,rv,hpl⟩),rfl,q _ (I2.hok.fresh (j_ _))⟩
noncomputable def wX(j:Int):List D:=(List.range j.toNat).map λi=>D.int ((i:Nat):Int)
def kS:Fn:=λds h=>match ds with
 | [.int j]=>if -(2^62)<=j/\j<=16777216 then .ok (.ref h.length) (h++[.lst (wX j)]) else .stuck
 |_=>.stuck
theorem uV(ρ:List Addr)(H:Hp):∀is:List Nat,RelDs K mg ρ H (is.map λi=>D.int ((i:Nat):Int)) (is.map λi=>V.int ((i:Nat):Int))
 | []=>.nil
 |i::is=>.cons (.int _) (uV ρ H is)
def Ed:aR K mg rLrg kS:=λρ h H ds vs Q E w rs p=>by
 unfold kS at p
 split at p
 ·split at p
  ·rename_i hb
   cases rs with
   |
    cons r rs=>
    cases r
    cases rs
    exact⟨_,rfl,hb.1,hb.2,λl hl=>du w (uV ρ H _) hl p⟩
  ·exact p.elim
 ·exact p.elim
def Bt(hc:X.calm=true)(hl:Gl X "list")(hml:mg "list"=none)(hg:Gl X "range")(hm:mg "range"=none)(ha:DA K mg X ES [a] A)(hk:X.mg=mg)(hs:starEach [a] X.env=[(false,eval a X.env)])
 (hs1:starEach [.Call (.Name "range" p2) [a] [] q2] X.env=[(false,eval (.Call (.Name "range" p2) [a] [] q2) X.env)]):
 DE K mg X ES (.Call (.Name "list" p1) [.Call (.Name "range" p2) [a] [] q2] [] pos) (eFn kS A):=by
 subst hk
 exact PE.imp (DK hc hl hml hg hm ha hs hs1) (r9 Ed)
end
section
variable{X:Cx}{K:W.Frag}{mg:Ka}{w:World}{n:Str}{kvs:List (Str×Int)}
end
end L2
namespace L2
open PySem
end L2
namespace L2
open PySem PySem.Spec PySem.Calls PyProof.Rows
section
variable{X:Cx}{K:W.Frag}{mg:Ka}
end
section
variable{P:Program}{w:World}{K:W.Frag}{mg:Ka}{base:Heap}{x:Str}{st:Stmt}{k:Nat}{ps N:List Str}{sp:Sp}
variable{F:MS}
end
section
variable{X:Cx}{K:W.Frag}{mg:Ka}{ES:St->XK}{e:Expr}{es:List Expr}{A:MA}{pos:Pos}
end
end L2
namespace L2
open PySem PySem.Spec PyProof.Rows
section
variable{X:Cx}
end
section
variable{K:W.Frag}{mg:Ka}
end
section
variable{X:Cx}{K:W.Frag}{mg:Ka}
end
section
variable{X:Cx}
end
section
variable{K:W.Frag}{mg:Ka}{X:Cx}{ES:St->XK}{o e:Expr}{es:List Expr}{F:ME}{A:MA}{pos:Pos}
end
section
variable{K:W.Frag}{mg:Ka}
variable{X:Cx}{ES:St->XK}{a b:Expr}{F G:ME}{pos:Pos}
end
section
variable{X:Cx}{K:W.Frag}{mg:Ka}
end
section
variable{X:Cx}{e st:Expr}{te tst:TE}{pos p2:Pos}
end
section
variable{K:W.Frag}{mg:Ka}{X:Cx}{ES:St->XK}{e st:Expr}{F G:ME}{pos p2:Pos}
end
section
variable{X:Cx}{K:W.Frag}{mg:Ka}
end
section
variable{K:W.Frag}{mg:Ka}{X:Cx}
end
section
variable{X:Cx}
end
section
variable{K:W.Frag}{mg:Ka}
end
section
variable{K:W.Frag}{mg:Ka}{X:Cx}
end
section
variable{K:W.Frag}{mg:Ka}{X:Cx}
end
section
variable{X:Cx}{tg:Expr}{p pos:Pos}{a b c:Expr}
end
end L2
namespace L3
open PySem PySem.Spec PyProof.Rows L2
set_option genInjectivity true in
inductive Val where
 |non |bl (b:Bool) |int (i:Int) |str (x:Str) |ty (n:String) |glb (x:Str) |exc (x:Str)
 |tup (xs:List Val) |lst (xs:List Val) |kl (xs:List Val) |dct (kvs:List (Key×Val)) |set (xs:List Int)
 deriving Inhabited
mutual
inductive Rd(P:Nat->Prop)(h:AH):D->Val->Prop where
 |non:Rd P h .non .non
 |bl (b:Bool):Rd P h (.bl b) (.bl b)
 |int (i:Int):Rd P h (.int i) (.int i)
 |str (x:Str):Rd P h (.str x) (.str x)
 |ty (n:String):Rd P h (.ty n) (.ty n)
 |glb (x:Str):Rd P h (.glb x) (.glb x)
 |exc (x:Str):Rd P h (.exc x) (.exc x)
 |tup {ds:List D}{vs:List Val} (r:Rds P h ds vs):Rd P h (.tup ds) (.tup vs)
 |kl {ds:List D}{vs:List Val} (r:Rds P h ds vs):Rd P h (.kl ds) (.kl vs)
 |cell {n:Nat}{o:Ob}{v:Val} (p:P n) (e:h[n]?=some o) (r:Rc P h o v):Rd P h (.ref n) v
inductive Rc(P:Nat->Prop)(h:AH):Ob->Val->Prop where
 |lst {ds:List D}{vs:List Val} (r:Rds P h ds vs):Rc P h (.lst ds) (.lst vs)
 |fz {ds:List D}{vs:List Val} (r:Rds P h ds vs):Rc P h (.fz ds) (.kl vs)
 |dct {ws:List (Key×D)}{us:List (Key×Val)} (r:Rk P h ws us):Rc P h (.dct ws) (.dct us)
 |set (xs:List Int):Rc P h (.set xs) (.set xs)
inductive Rds(P:Nat->Prop)(h:AH):List D->List Val->Prop where
 |nil:Rds P h [] []
 |cons {d:D}{v:Val}{ds:List D}{vs:List Val} (r:Rd P h d v) (rr:Rds P h ds vs):Rds P h (d::ds) (v::vs)
inductive Rk(P:Nat->Prop)(h:AH):List (Key×D)->List (Key×Val)->Prop where
 |nil:Rk P h [] []
 |cons {k:Key}{d:D}{v:Val}{ds:List (Key×D)}{vs:List (Key×Val)} (r:Rd P h d v) (rr:Rk P h ds vs):Rk P h ((k,d)::ds) ((k,v)::vs)
end
section
variable{P P':Nat->Prop}{h h':AH}
abbrev Mov(P P':Nat->Prop)(h h':AH):Prop:=∀n o,P n->h[n]?=some o->P' n/\h'[n]?=some o
def Rd.mono(m:Mov P P' h h')(r:Rd P h d v):Rd P' h' d v:=@Rd.rec P h (λd v _=>Rd P' h' d v) (λo v _=>Rc P' h' o v) (λds vs _=>Rds P' h' ds vs) (λws us _=>Rk P' h' ws us) .non (λb=>.bl b) (λi=>.int i) (λx=>.str x) (λn=>.ty n) (λx=>.glb x) (λx=>.exc x) (λ_ ih=>.tup ih) (λ_ ih=>.kl ih) (λp e _ ih=>.cell (m _ _ p e).1 (m _ _ p e).2 ih) (λ_ ih=>.lst ih) (λ_ ih=>.fz ih) (λ_ ih=>.dct ih) (λxs=>.set xs) .nil (λ_ _ a b=>.cons a b) .nil (λ_ _ a b=>.cons a b) d v r
def Rds.ind{M:List D->List Val->Prop}(h0:M [] [])(h1:∀{d v ds vs},Rd P h d v->Rds P h ds vs->M ds vs->M (d::ds) (v::vs)){ds:List D}{vs:List Val}(r:Rds P h ds vs):M ds vs:=by
 induction ds generalizing vs with
 |nil=>cases r;exact h0
 |
  cons d ds ih=>
  cases r with
  |cons r rr=>exact h1 r rr (ih rr)
def Rk.ind{M:List (Key×D)->List (Key×Val)->Prop}(h0:M [] [])(h1:∀{k d v ds vs},Rd P h d v->Rk P h ds vs->M ds vs->M ((k,d)::ds) ((k,v)::vs)){ds:List (Key×D)}{vs:List (Key×Val)}(r:Rk P h ds vs):M ds vs:=by
 induction ds generalizing vs with
 |nil=>cases r;exact h0
 |
  cons d ds ih=>
  cases r with
  |cons r rr=>exact h1 r rr (ih rr)
def Rds.mono(m:Mov P P' h h'){d:List D}{v:List Val}(r:Rds P h d v):Rds P' h' d v:=r.ind .nil λr _ ih=>.cons (r.mono m) ih
def Rk.mono(m:Mov P P' h h'){d:List (Key×D)}{v:List (Key×Val)}(r:Rk P h d v):Rk P' h' d v:=r.ind .nil λr _ ih=>.cons (r.mono m) ih
def Rc.mono(m:Mov P P' h h')(r:Rc P h d v):Rc P' h' d v:=by
 cases r with
 |lst r=>exact .lst (r.mono m)
 |fz r=>exact .fz (r.mono m)
 |dct r=>exact .dct (r.mono m)
 |set xs=>exact .set xs
def Rds.len{ds:List D}{vs:List Val}(r:Rds P h ds vs):ds.length=vs.length:=r.ind (M:=λds vs=>ds.length=vs.length) rfl λ_ _ ih=>Iw (· + 1) ih
def Rds.get{ds:List D}{vs:List Val}{i:Nat}{v:Val}(r:Rds P h ds vs)(e:vs[i]?=some v):∃d,ds[i]?=some d/\Rd P h d v:=
 r.ind (M:=λds vs=>∀i,vs[i]?=some v->∃d,ds[i]?=some d/\Rd P h d v) (λ_ e=>by rw[List.getElem?_nil] at e;cases e) (λr _ ih i e=>match i,e with
  |0,e=>by cases e;exact⟨_,rfl,r⟩
  |i+1,e=>ih i e) i e
def Rds.append{ds es:List D}{vs ws:List Val}(r:Rds P h ds vs)(q:Rds P h es ws):Rds P h (ds++es) (vs++ws):=r.ind (M:=λds vs=>Rds P h (ds++es) (vs++ws)) q λr _ ih=>.cons r ih
def Rds.take{ds:List D}{vs:List Val}(n:Nat)(r:Rds P h ds vs):Rds P h (ds.take n) (vs.take n):=
 r.ind (M:=λds vs=>∀n:Nat,Rds P h (ds.take n) (vs.take n)) (λn=>by rw[IW,IW];exact .nil) (λr _ ih n=>by cases n with |zero=>exact .nil |succ n=>exact .cons r (ih n)) n
def Rds.drop{ds:List D}{vs:List Val}(n:Nat)(r:Rds P h ds vs):Rds P h (ds.drop n) (vs.drop n):=
 r.ind (M:=λds vs=>∀n:Nat,Rds P h (ds.drop n) (vs.drop n)) (λn=>by rw[Jl,Jl];exact .nil) (λr rr ih n=>by cases n with |zero=>exact .cons r rr |succ n=>exact ih n) n
def Rds.set{d:D}{v:Val}(r:Rd P h d v){ds:List D}{vs:List Val}(i:Nat)(q:Rds P h ds vs):Rds P h (ds.set i d) (vs.set i v):=
 q.ind (M:=λds vs=>∀i:Nat,Rds P h (ds.set i d) (vs.set i v)) (λ_=>.nil) (λq qq ih i=>by cases i with |zero=>exact .cons r qq |succ i=>exact .cons q (ih i)) i
def ShR(P:Nat->Prop)(h:AH)(d:D)(v:Val):Prop:=Rd P h d v\/∃n o,d=.ref n/\h[n]?=some o/\Rc P h o v
inductive ShRs(P:Nat->Prop)(h:AH):List D->List Val->Prop where
 |nil:ShRs P h [] []
 |cons {d:D}{v:Val}{ds:List D}{vs:List Val} (r:ShR P h d v) (rr:ShRs P h ds vs):ShRs P h (d::ds) (v::vs)
def Val.items:Val->Option (List Val)
 |.tup xs=>some xs
 |.lst xs=>some xs
 |.kl xs=>some xs
 |_=>none
def ShR.int(r:ShR P h d (.int i)):d=.int i:=by
 rcases r with r |⟨n,o,rfl,e,r⟩
 ·cases r with
  |int=>rfl
  |cell p e r=>cases r
 ·cases r
def ShR.str(r:ShR P h d (.str i)):d=.str i:=by
 rcases r with r |⟨n,o,rfl,e,r⟩
 ·cases r with
  |str=>rfl
  |cell p e r=>cases r
 ·cases r
def ShR.bl(r:ShR P h d (.bl i)):d=.bl i:=by
 rcases r with r |⟨n,o,rfl,e,r⟩
 ·cases r with
  |bl=>rfl
  |cell p e r=>cases r
 ·cases r
def ShR.non(r:ShR P h d .non):d=.non:=by
 rcases r with r |⟨n,o,rfl,e,r⟩
 ·cases r with
  |non=>rfl
  |cell p e r=>cases r
 ·cases r
def ShR.exc(r:ShR P h d (.exc x)):d=.exc x:=by
 rcases r with r |⟨n,o,rfl,e,r⟩
 ·cases r with
  |exc=>rfl
  |cell p e r=>cases r
 ·cases r
def ShR.ty(r:ShR P h d (.ty x)):d=.ty x:=by
 rcases r with r |⟨n,o,rfl,e,r⟩
 ·cases r with
  |ty=>rfl
  |cell p e r=>cases r
 ·cases r
def ShR.glb(r:ShR P h d (.glb x)):d=.glb x:=by
 rcases r with r |⟨n,o,rfl,e,r⟩
 ·cases r with
  |glb=>rfl
  |cell p e r=>cases r
 ·cases r
def ShR.tup(r:ShR P h d (.tup vs)):∃ds,d=.tup ds/\Rds P h ds vs:=by
 rcases r with r |⟨n,o,rfl,e,r⟩
 ·cases r with
  |tup r=>exact⟨_,rfl,r⟩
  |cell p e r=>cases r
 ·cases r
def Rc.seq(e:h[n]?=some o)(r:Rc P h o (.lst vs)):∃ds,h[n]?=some (.lst ds)/\aP h n=some ds/\Rds P h ds vs:=by
 cases r with
 |lst r=>exact⟨_,e,by unfold aP;rw[e],r⟩
def ShR.lst(r:ShR P h d (.lst vs)):∃n ds,d=.ref n/\h[n]?=some (.lst ds)/\aP h n=some ds/\Rds P h ds vs:=by
 rcases r with r |⟨n,o,rfl,e,r⟩
 ·cases r with
  |
   cell p e r=>
   obtain⟨ds,q,r⟩:=Rc.seq e r
   exact⟨_,ds,rfl,q,r⟩
 ·obtain⟨ds,q,r⟩:=Rc.seq e r
  exact⟨_,ds,rfl,q,r⟩
def ShR.kl(r:ShR P h d (.kl vs)):∃ds,Rds P h ds vs/\(d=.kl ds\/∃n,d=.ref n/\aP h n=some ds):=by
 rcases r with r |⟨n,o,rfl,e,r⟩
 ·cases r with
  |kl r=>exact⟨_,r,.inl rfl⟩
  |cell p e r=>cases r with |fz r=>exact⟨_,r,.inr ⟨_,rfl,by unfold aP;rw[e]⟩⟩
 ·cases r with |fz r=>exact⟨_,r,.inr ⟨_,rfl,by unfold aP;rw[e]⟩⟩
def ShR.dct(r:ShR P h d (.dct us)):∃n ws,d=.ref n/\h[n]?=some (.dct ws)/\Rk P h ws us:=by
 rcases r with r |⟨n,o,rfl,e,r⟩
 ·cases r with
  |cell p e r=>cases r with |dct r=>exact⟨_,_,rfl,e,r⟩
 ·cases r with |dct r=>exact⟨_,_,rfl,e,r⟩
def ShR.items(r:ShR P h d v)(e:v.items=some vs):∃ds,d9 h d=some ds/\Rds P h ds vs:=by
 cases v with
 |tup xs=>cases e;obtain⟨ds,rfl,q⟩:=r.tup;exact⟨ds,rfl,q⟩
 |lst xs=>cases e;obtain⟨n,ds,rfl,_,e,q⟩:=r.lst;exact⟨ds,e,q⟩
 |
  kl xs=>
  cases e
  obtain⟨ds,q,rfl |⟨n,rfl,e⟩⟩:=r.kl
  ·exact⟨ds,rfl,q⟩
  ·exact⟨ds,e,q⟩
 |_=>cases e
end
inductive Sl where
 |no |sh (v:Val) |ow (v:Val) |mu (v:Val) |lo (v:Val) |lm (v:Val)
 deriving Inhabited
abbrev E3:=List Sl
noncomputable def Sl.val:Sl->Option Val
 |.no=>none
 |.sh v=>some v
 |.ow v=>some v
 |.mu v=>some v
 |.lo v=>some v
 |.lm v=>some v
noncomputable def Sl.mt:Sl->Bool
 |.ow _=>true
 |.mu _=>true
 |_=>false
noncomputable def Sl.lk:Sl->Bool
 |.lo _=>true
 |.lm _=>true
 |_=>false
abbrev Ns:=List (Option Nat)
def Oc(X:Nat->Prop)(ns:Ns)(n:Nat):Prop:=¬ X n/\some n∉ns
noncomputable def bp:Ob->Prop
 |.fz _=>False
 |.any=>False
 |_=>True
def SlR(P:Nat->Prop)(h0:Nat)(n:Option (Option Nat))(d:Option (Option D))(h:AH):Sl->Prop
 |.no=>n=some none
 |.sh v=>n=some none/\∃x,d=some (some x)/\Rd P h x v
 |.ow v=>∃m o,n=some (some m)/\d=some (some (.ref m))/\h0<=m/\h[m]?=some o/\bp o/\Rc P h o v
 |.lo v=>∃m o,n=some (some m)/\d=some (some (.ref m))/\h0<=m/\h[m]?=some o/\bp o/\Rc P h o v
 |.mu v=>∃m o,n=some (some m)/\d=some (some (.ref m))/\h[m]?=some o/\bp o/\Rc P h o v
 |.lm v=>∃m o,n=some (some m)/\d=some (some (.ref m))/\h[m]?=some o/\bp o/\Rc P h o v
structure Sat(X:Nat->Prop)(h0:Nat)(ns:Ns)(e:E3)(ae:AE)(h:AH):Prop where
 l1:ae.length=e.length
 l2:ns.length=e.length
 lh:h0<=h.length
 xl:∀(n:Nat),X n->n<h.length
 inj:∀(i j n:Nat),ns[i]?=some (some n)->ns[j]?=some (some n)->i=j
 nx:∀(i n:Nat),ns[i]?=some (some n)->¬ X n
 sl:∀(i:Nat) (s:Sl),e[i]?=some s->SlR (Oc X ns) h0 (ns[i]?) (ae[i]?) h s
def Mt(ns:Ns)(e:E3)(n:Nat):Prop:=∃(i:Nat) (s:Sl),ns[i]?=some (some n)/\e[i]?=some s/\s.mt=true
structure Stp(ns:Ns)(e:E3)(h:AH)(ns':Ns)(e':E3)(h':AH):Prop where
 len:h.length<=h'.length
 keep:∀(m:Nat) (o:Ob),h[m]?=some o->¬ Mt ns e m->h'[m]?=some o
 nw:∀(i n:Nat),ns'[i]?=some (some n)->ns[i]?=some (some n)\/h.length<=n
 lk:∀(i:Nat) (s:Sl),e[i]?=some s->s.lk=true->e'[i]?=some s/\ns'[i]?=ns[i]?
 lk':∀(i:Nat) (s:Sl),e'[i]?=some s->s.lk=true->e[i]?=some s/\ns'[i]?=ns[i]?
 mu:∀(i:Nat) (v:Val),e'[i]?=some (.mu v)->∃u,e[i]?=some (.mu u)/\ns'[i]?=ns[i]?
 mu':∀(i:Nat) (u:Val),e[i]?=some (.mu u)->∃v,e'[i]?=some (.mu v)/\ns'[i]?=ns[i]?
section
variable{X:Nat->Prop}{h0:Nat}{ns ns' ns1 bn:Ns}{e e' e1 e2:E3}{ae:AE}{h h' h1 h2:AH}
def aO:some n∈ns ↔ ∃i:Nat,ns[i]?=some (some n):=by
 constructor
 ·intro m;exact List.getElem?_of_mem m
 ·rintro⟨i,e⟩;exact Jh e
def Sat.own(S:Sat X h0 ns e ae h){i n:Nat}(q:ns[i]?=some (some n)):∃s v o,e[i]?=some s/\(s.mt=true\/s.lk=true)/\s.val=some v/\ae[i]?=some (some (.ref n))/\h[n]?=some o/\bp o/\Rc (Oc X ns) h o v:=by
 have hi:i<e.length:=by rw[<- S.l2];exact (h_.mp q).1
 have hs:=S.sl i e[i] (x_ hi)
 refine⟨e[i],?_⟩
 have he:=x_ hi
 generalize e[i]=s at *
 rw[q] at hs
 cases s with
 |no=>cases hs
 |sh v=>cases hs.1
 |ow v=>obtain⟨m,o,e1,e2,_,e3,e4,e5⟩:=hs;cases e1;exact⟨v,o,he,.inl rfl,rfl,e2,e3,e4,e5⟩
 |lo v=>obtain⟨m,o,e1,e2,_,e3,e4,e5⟩:=hs;cases e1;exact⟨v,o,he,.inr rfl,rfl,e2,e3,e4,e5⟩
 |mu v=>obtain⟨m,o,e1,e2,e3,e4,e5⟩:=hs;cases e1;exact⟨v,o,he,.inl rfl,rfl,e2,e3,e4,e5⟩
 |lm v=>obtain⟨m,o,e1,e2,e3,e4,e5⟩:=hs;cases e1;exact⟨v,o,he,.inr rfl,rfl,e2,e3,e4,e5⟩
noncomputable def Stp.refl:Stp ns e h ns e h:=⟨j_ _,λ_ _ q _=>q,λ_ _ q=>.inl q,λ_ _ q _=>⟨q,rfl⟩,λ_ _ q _=>⟨q,rfl⟩,λ_ _ q=>⟨_,q,rfl⟩,λ_ _ q=>⟨_,q,rfl⟩⟩
def Stp.trans(S:Sat X h0 ns e ae h)(a:Stp ns e h ns1 e1 h1)(b:Stp ns1 e1 h1 bn e2 h2):Stp ns e h bn e2 h2:=by
 refine⟨w_ a.len b.len,λm o q hm=>?_,λi n q=>?_,λi s q hl=>?_,λi s q hl=>?_,λi v q=>?_,λi v q=>?_⟩
 ·refine b.keep m o (a.keep m o q hm) λ⟨i,s,z1,z2,z3⟩=>hm ?_
  have hlt:=(h_.mp q).1
  rcases a.nw i m z1 with z |z
  ·obtain⟨s0,v,o',q1,q2,_⟩:=S.own z
   rcases q2 with q2 |q2
   ·exact⟨i,s0,z,q1,q2⟩
   ·have:=(a.lk i s0 q1 q2).1
    rw[z2] at this
    cases this
    exfalso
    cases s <;> first |cases z3;done |cases q2;done
  ·omega
 ·rcases b.nw i n q with z |z
  ·exact a.nw i n z
  ·exact .inr (w_ a.len z)
 ·obtain⟨q1,q2⟩:=a.lk i s q hl
  obtain⟨q3,q4⟩:=b.lk i s q1 hl
  exact⟨q3,q4.trans q2⟩
 ·obtain⟨q1,q2⟩:=b.lk' i s q hl
  obtain⟨q3,q4⟩:=a.lk' i s q1 hl
  exact⟨q3,q2.trans q4⟩
 ·obtain⟨u,q1,q2⟩:=b.mu i v q
  obtain⟨u',q3,q4⟩:=a.mu i u q1
  exact⟨u',q3,q2.trans q4⟩
 ·obtain⟨u,q1,q2⟩:=a.mu' i v q
  obtain⟨u',q3,q4⟩:=b.mu' i u q1
  exact⟨u',q3,q4.trans q2⟩
noncomputable def Stp.mov(S:Sat X h0 ns e ae h)(a:Stp ns e h ns1 e1 h1):Mov (Oc X ns) (Oc X ns1) h h1:=λn o p q=>by
 have hlt:=(h_.mp q).1
 have hm:¬ Mt ns e n:=λ⟨i,s,z,_⟩=>p.2 (aO.mpr ⟨i,z⟩)
 refine⟨⟨p.1,λz=>?_⟩,a.keep n o q hm⟩
 obtain⟨i,z⟩:=aO.mp z
 rcases a.nw i n z with z |z
 ·exact p.2 (aO.mpr ⟨i,z⟩)
 ·omega
def bJ(q:h[n]?=some o):n<h.length:=(h_.mp q).1
def i4{n:Nat}{o:Ob}{g:AH}(q:h[n]?=some o):(h++g)[n]?=some o:=by rw[B_ (bJ q)];exact q
def qX:(h++[o])[h.length]?=some o:=by rw[HX (j_ _),JQ];rfl
def SlR.mono(m:Mov P P' h h')(k:∀j o,n=some (some j)->h[j]?=some o->h'[j]?=some o)(r:SlR P h0 n d h s):SlR P' h0 n d h' s:=by
 cases s with
 |no=>exact r
 |sh v=>obtain⟨q,x,q1,q2⟩:=r;exact⟨q,x,q1,q2.mono m⟩
 |ow v=>obtain⟨j,o,q1,q2,q3,q4,q5,q6⟩:=r;exact⟨j,o,q1,q2,q3,k j o q1 q4,q5,q6.mono m⟩
 |lo v=>obtain⟨j,o,q1,q2,q3,q4,q5,q6⟩:=r;exact⟨j,o,q1,q2,q3,k j o q1 q4,q5,q6.mono m⟩
 |mu v=>obtain⟨j,o,q1,q2,q4,q5,q6⟩:=r;exact⟨j,o,q1,q2,k j o q1 q4,q5,q6.mono m⟩
 |lm v=>obtain⟨j,o,q1,q2,q4,q5,q6⟩:=r;exact⟨j,o,q1,q2,k j o q1 q4,q5,q6.mono m⟩
def Xn(X:Nat->Prop)(n:Nat):Nat->Prop:=λm=>X m\/m=n
def Sat.grow(S:Sat X h0 ns e ae h)(o:Ob):Sat (Xn X h.length) h0 ns e ae (h++[o]):=by
 have mv:Mov (Oc X ns) (Oc (Xn X h.length) ns) h (h++[o]):=λn o' p q=>⟨⟨λz=>by
  rcases z with z |z
  ·exact p.1 z
  ·have:=bJ q;omega,p.2⟩,i4 q⟩
 refine⟨S.l1,S.l2,by rw[z_];have:=S.lh;omega,λn z=>?_,S.inj,λi n q z=>?_,λi s q=>(S.sl i s q).mono mv λj o' _ q'=>i4 q'⟩
 ·rw[z_]
  rcases z with z |z
  ·have:=S.xl n z;omega
  ·subst z;show h.length<h.length+1;omega
 ·rcases z with z |z
  ·exact S.nx i n q z
  ·obtain⟨_,_,_,_,_,_,_,q',_⟩:=S.own q
   have:=bJ q';omega
def Sat.weak(S:Sat Y h0 ns e ae h)(hx:∀n,X n->Y n):Sat X h0 ns e ae h:=
 ⟨S.l1,S.l2,S.lh,λn z=>S.xl n (hx n z),S.inj,λi n q z=>S.nx i n q (hx n z),λi s q=>(S.sl i s q).mono (λn o p q=>⟨⟨λz=>p.1 (hx n z),p.2⟩,q⟩) λ_ _ _ q=>q⟩
def Stp.grow(o:Ob):Stp ns e h ns e (h++[o]):=⟨by rw[z_];omega,λ_ _ q _=>i4 q,λ_ _ q=>.inl q,λ_ _ q _=>⟨q,rfl⟩,λ_ _ q _=>⟨q,rfl⟩,λ_ _ q=>⟨_,q,rfl⟩,λ_ _ q=>⟨_,q,rfl⟩⟩
end
section
variable{X:Nat->Prop}{h0:Nat}{ns ns':Ns}{e e':E3}{ae:AE}{h h' hs:AH}
def aW{α:Type}{l:List α}{i j:Nat}{a b:α}(hi:i<l.length)(q:(l.set i a)[j]?=some b):(j=i/\b=a)\/(j≠i/\l[j]?=some b):=by
 rw[Jz] at q
 by_cases z:i=j
 ·subst z
  rw[if_pos rfl,if_pos hi] at q
  exact .inl ⟨rfl,(C_ q).symm⟩
 ·rw[if_neg z] at q
  exact .inr ⟨λy=>z y.symm,q⟩
def aZ{α:Type}{l:List α}{i:Nat}{a:α}(hi:i<l.length):(l.set i a)[i]?=some a:=by rw[Jz,if_pos rfl,if_pos hi]
def aU{α:Type}{l:List α}{i j:Nat}{a:α}(hi:j≠i):(l.set i a)[j]?=l[j]?:=by rw[JK (λy=>hi y.symm)]
def d8(p:Oc X ns n):Oc X (ns.set i none) n:=⟨p.1,λz=>by
 rcases List.mem_or_eq_of_mem_set z with z |z
 ·exact p.2 z
 ·cases z⟩
def Sat.putN(S:Sat X h0 ns e ae h)(hi:i<e.length)(q:SlR (Oc X (ns.set i none)) h0 (some none) (some d) h s):Sat X h0 (ns.set i none) (e.set i s) (ae.set i d) h:=by
 have hn:i<ns.length:=by rw[S.l2];exact hi
 have ha:i<ae.length:=by rw[S.l1];exact hi
 refine⟨by rw[y_,y_];exact S.l1,by rw[y_,y_];exact S.l2,S.lh,S.xl,λj k n q1 q2=>?_,λj n q1=>?_,λj s' q1=>?_⟩
 ·rcases aW hn q1 with ⟨_,z⟩ |⟨_,z⟩
  ·cases z
  rcases aW hn q2 with ⟨_,y⟩ |⟨_,y⟩
  ·cases y
  exact S.inj j k n z y
 ·rcases aW hn q1 with ⟨_,z⟩ |⟨_,z⟩
  ·cases z
  exact S.nx j n z
 ·rcases aW hi q1 with ⟨rfl,rfl⟩ |⟨z,q2⟩
  ·rw[aZ hn,aZ ha];exact q
  ·rw[aU z,aU z]
   exact (S.sl j s' q2).mono (λn o p q=>⟨d8 p,q⟩) λ_ _ _ q=>q
def Sat.putN'(S:Sat X h0 ns e ae h)(hi:i<e.length)(q:SlR (Oc X (ns.set i none)) h0 (some none) (ae[i]?) h s):Sat X h0 (ns.set i none) (e.set i s) ae h:=by
 have ha:i<ae.length:=by rw[S.l1];exact hi
 have:=S.putN hi (s:=s) (d:=ae[i]) (by rw[x_ ha] at q;exact q)
 rw[List.set_getElem_self] at this
 exact this
def Sat.putO(S:Sat (Xn X n) h0 ns e ae h)(hx:¬ X n)(hi:i<e.length)(hn0:h0<=n)(eo:h[n]?=some o)(hf:bp o)(r:Rc (Oc (Xn X n) ns) h o v):Sat X h0 (ns.set i (some n)) (e.set i (.ow v)) (ae.set i (some (.ref n))) h:=by
 have hn:i<ns.length:=by rw[S.l2];exact hi
 have ha:i<ae.length:=by rw[S.l1];exact hi
 have nn:∀j:Nat,ns[j]?≠some (some n):=λj q=>S.nx j n q (.inr rfl)
 have mv:Mov (Oc (Xn X n) ns) (Oc X (ns.set i (some n))) h h:=λm o' p q=>⟨⟨λz=>p.1 (.inl z),λz=>by
  rcases List.mem_or_eq_of_mem_set z with z |z
  ·exact p.2 z
  ·cases z;exact p.1 (.inr rfl)⟩,q⟩
 refine⟨by rw[y_,y_];exact S.l1,by rw[y_,y_];exact S.l2,S.lh,λm z=>S.xl m (.inl z),λj k m q1 q2=>?_,λj m q1 z=>?_,λj s' q1=>?_⟩
 ·rcases aW hn q1 with ⟨z1,z⟩ |⟨z1,z⟩ <;> rcases aW hn q2 with ⟨y1,y⟩ |⟨y1,y⟩
  ·rw[z1,y1]
  ·cases z;exact absurd y (nn k)
  ·cases y;exact absurd z (nn j)
  ·exact S.inj j k m z y
 ·rcases aW hn q1 with ⟨_,y⟩ |⟨_,y⟩
  ·cases y;exact hx z
  ·exact S.nx j m y (.inl z)
 ·rcases aW hi q1 with ⟨rfl,rfl⟩ |⟨z,q2⟩
  ·rw[aZ hn,aZ ha];exact⟨n,o,rfl,rfl,hn0,eo,hf,r.mono mv⟩
  ·rw[aU z,aU z]
   exact (S.sl j s' q2).mono mv λ_ _ _ q=>q
noncomputable def Sl.pl:Sl->Bool
 |.no=>true
 |.sh _=>true
 |.ow _=>true
 |_=>false
def Stp.put(A:Stp ns0 e0 hs ns e h)(hi:i<e.length)(hx:∀n,x=some n->hs.length<=n)(q0:e[i]?=some s0)(p0:s0.pl=true)(p:s.pl=true)(l2:ns.length=e.length):Stp ns0 e0 hs (ns.set i x) (e.set i s) h:=by
 have hn:i<ns.length:=by rw[l2];exact hi
 refine⟨A.len,A.keep,λj n q=>?_,λj s' q hl=>?_,λj s' q hl=>?_,λj v q=>?_,λj v q=>?_⟩
 ·rcases aW hn q with ⟨_,z⟩ |⟨_,z⟩
  ·exact .inr (hx n z.symm)
  ·exact A.nw j n z
 ·obtain⟨q1,q2⟩:=A.lk j s' q hl
  have z:j≠i:=λz=>by
   subst z
   rw[q0] at q1;cases q1
   cases s0 <;> first |cases p0;done |cases hl;done
  rw[aU z,aU z];exact⟨q1,q2⟩
 ·rcases aW hi q with ⟨_,z⟩ |⟨z,q1⟩
  ·subst z;cases s' <;> first |cases p;done |cases hl;done
  ·rw[aU z];exact A.lk' j s' q1 hl
 ·rcases aW hi q with ⟨_,z⟩ |⟨z,q1⟩
  ·subst z;cases p
  ·rw[aU z];exact A.mu j v q1
 ·obtain⟨u,q1,q2⟩:=A.mu' j v q
  have z:j≠i:=λz=>by
   subst z
   rw[q0] at q1;cases q1;cases p0
  exact⟨u,by rw[aU z];exact q1,by rw[aU z];exact q2⟩
end
inductive Tm where
 |val (v:Val) |new (v:Val) |bor (i:Nat)
inductive R3(α:Type) where
 |ok (a:α) (e:E3) |exc (c:Str) (e:E3) |stuck
def R3.bind{α β:Type}(r:R3 α)(f:α->E3->R3 β):R3 β:=match r with
 |.ok a e=>f a e
 |.exc c e=>.exc c e
 |.stuck=>.stuck
abbrev ME3:=E3->R3 Tm
abbrev MT3:=E3->R3 Bool
abbrev MA3:=E3->R3 (List Tm)
def Po{δ α:Type}(X:Nat->Prop)(h0:Nat)(ns:Ns)(e:E3)(ae:AE)(h:AH)(rel:Ns->E3->AH->δ->α->Prop)(r2:R δ):R3 α->Prop
 |.stuck=>True
 |.ok t e'=>∃d h' ns',r2=.ok d h'/\Stp ns e h ns' e' h'/\Sat X h0 ns' e' ae h'/\rel ns' e' h' d t
 |.exc c e'=>∃h' ns',r2=.exc c h'/\Stp ns e h ns' e' h'/\Sat X h0 ns' e' ae h'
def relE(X:Nat->Prop)(h0 L:Nat)(ae:AE)(ns:Ns)(e:E3)(h:AH)(d:D):Tm->Prop
 |.val v=>Rd (Oc X ns) h d v
 |.new v=>∃n o,d=.ref n/\L<=n/\¬ X n/\h[n]?=some o/\bp o/\Sat (Xn X n) h0 ns e ae h/\Rc (Oc (Xn X n) ns) h o v
 |.bor i=>ae[i]?=some (some d)
def relT(_:Ns)(_:E3)(_:AH)(b c:Bool):Prop:=b=c
inductive TsR(X:Nat->Prop)(ns:Ns)(ae:AE)(h:AH):List D->List Tm->Prop where
 |nil:TsR X ns ae h [] []
 |val {d:D}{v:Val}{ds:List D}{ts:List Tm} (r:Rd (Oc X ns) h d v) (rr:TsR X ns ae h ds ts):TsR X ns ae h (d::ds) (.val v::ts)
 |bor {d:D}{i:Nat}{ds:List D}{ts:List Tm} (q:ae[i]?=some (some d)) (rr:TsR X ns ae h ds ts):TsR X ns ae h (d::ds) (.bor i::ts)
def relA(X:Nat->Prop)(ae:AE)(ns:Ns)(_:E3)(h:AH)(ds:List D)(ts:List Tm):Prop:=TsR X ns ae h ds ts
def RE(F:ME)(G:ME3):Prop:=∀X h0 L ns e ae h,Sat X h0 ns e ae h->L<=h.length->Po X h0 ns e ae h (relE X h0 L ae) (F ae h) (G e)
def RT(F:MT)(G:MT3):Prop:=∀X h0 ns e ae h,Sat X h0 ns e ae h->Po X h0 ns e ae h relT (F ae h) (G e)
def RA(F:MA)(G:MA3):Prop:=∀X h0 ns e ae h,Sat X h0 ns e ae h->Po X h0 ns e ae h (relA X ae) (F ae h) (G e)
section
variable{X:Nat->Prop}{h0 L:Nat}{ns ns':Ns}{e e':E3}{ae:AE}{h h':AH}
def Po.bind(S:Sat X h0 ns e ae h)(p:Po X h0 ns e ae h rel r2 r3)
 (k:∀d t h' ns' e',Stp ns e h ns' e' h'->Sat X h0 ns' e' ae h'->rel ns' e' h' d t->Po X h0 ns' e' ae h' rel' (f2 d h') (f3 t e')):Po X h0 ns e ae h rel' (r2.bind f2) (r3.bind f3):=by
 cases r3 with
 |stuck=>trivial
 |exc c e'=>obtain⟨h',ns',q,q1,q2⟩:=p;subst q;exact⟨h',ns',rfl,q1,q2⟩
 |
  ok t e'=>
  obtain⟨d,h',ns',q,q1,q2,q3⟩:=p
  subst q
  have:=k d t h' ns' e' q1 q2 q3
  show Po X h0 ns e ae h rel' (f2 d h') (f3 t e')
  generalize f3 t e'=r at *
  cases r with
  |stuck=>trivial
  |exc c e2=>obtain⟨h2,bn,y,y1,y2⟩:=this;exact⟨h2,bn,y,q1.trans S y1,y2⟩
  |ok t2 e2=>obtain⟨d2,h2,bn,y,y1,y2,y3⟩:=this;exact⟨d2,h2,bn,y,q1.trans S y1,y2,y3⟩
def Po.ret(S:Sat X h0 ns e ae h)(q:rel ns e h d t):Po X h0 ns e ae h rel (.ok d h) (.ok t e):=⟨d,h,ns,rfl,.refl,S,q⟩
def TsR.stp(S:Sat X h0 ns e ae h)(a:Stp ns e h ns' e' h')(r:TsR X ns ae h ds ts):TsR X ns' ae h' ds ts:=by
 induction r with
 |nil=>exact .nil
 |val r _ ih=>exact .val (r.mono (a.mov S)) ih
 |bor q _ ih=>exact .bor q ih
def rs(e:E3):Tm->Option Val
 |.val v=>some v
 |.new v=>some v
 |.bor i=>(e[i]?).bind Sl.val
def Sat.bor(S:Sat X h0 ns e ae h){i:Nat}{d:D}{v:Val}(q:ae[i]?=some (some d))(r:(e[i]?).bind Sl.val=some v):ShR (Oc X ns) h d v:=by
 cases z:e[i]? with
 |none=>rw[z] at r;cases r
 |
  some s=>
  rw[z] at r
  have y:=S.sl i s z
  rw[q] at y
  have r':s.val=some v:=r
  cases s with
  |no=>cases r'
  |sh u=>cases r';obtain⟨_,x,e1,e2⟩:=y;cases e1;exact .inl e2
  |ow u=>cases r';obtain⟨m,o,_,e2,_,e3,_,e4⟩:=y;cases e2;exact .inr ⟨m,o,rfl,e3,e4⟩
  |lo u=>cases r';obtain⟨m,o,_,e2,_,e3,_,e4⟩:=y;cases e2;exact .inr ⟨m,o,rfl,e3,e4⟩
  |mu u=>cases r';obtain⟨m,o,_,e2,e3,_,e4⟩:=y;cases e2;exact .inr ⟨m,o,rfl,e3,e4⟩
  |lm u=>cases r';obtain⟨m,o,_,e2,e3,_,e4⟩:=y;cases e2;exact .inr ⟨m,o,rfl,e3,e4⟩
def relE.new(r:relE X h0 L ae ns e h d (.new v)):Rd (Oc X ns) h d v:=by
 obtain⟨n,o,rfl,_,hx,eo,_,S,rc⟩:=r
 exact .cell ⟨hx,λz=>by obtain⟨i,z⟩:=aO.mp z;exact S.nx i n z (.inr rfl)⟩ eo (rc.mono λm o p q=>⟨⟨λz=>p.1 (.inl z),p.2⟩,q⟩)
def relE.sh{d:D}{t:Tm}{v:Val}(S:Sat X h0 ns e ae h)(r:relE X h0 L ae ns e h d t)(q:rs e t=some v):ShR (Oc X ns) h d v:=by
 cases t with
 |val u=>cases q;exact .inl r
 |new u=>cases q;exact .inl r.new
 |bor i=>exact S.bor r q
def relE.stp(S:Sat X h0 ns e ae h)(a:Stp ns e h ns' e' h')(r:relE X h0 L ae ns e h d t)(hn:∀v,t ≠ .new v):relE X h0 L ae ns' e' h' d t:=by
 cases t with
 |val u=>exact Rd.mono (a.mov S) r
 |new u=>exact absurd rfl (hn u)
 |bor i=>exact r
def Tm.drop:Tm->Tm
 |.new v=>.val v
 |t=>t
def relE.drop(r:relE X h0 L ae ns e h d t):relE X h0 L ae ns e h d t.drop/\∀v,t.drop ≠ .new v:=by
 cases t with
 |val u=>exact⟨r,λ_ z=>nomatch z⟩
 |new u=>exact⟨r.new,λ_ z=>nomatch z⟩
 |bor i=>exact⟨r,λ_ z=>nomatch z⟩
def rss(e:E3):List Tm->Option (List Val)
 | []=>some []
 |t::ts=>match rs e t,rss e ts with
  |some v,some vs=>some (v::vs)
  |_,_=>none
def TsR.sh{ds:List D}{ts:List Tm}{vs:List Val}(S:Sat X h0 ns e ae h)(r:TsR X ns ae h ds ts)(q:rss e ts=some vs):ShRs (Oc X ns) h ds vs:=by
 induction r generalizing vs with
 |nil=>cases q;exact .nil
 |
  val r _ ih=>
  unfold rss at q
  split at q
  ·rename_i e1 e2;cases q;cases e1;exact .cons (.inl r) (ih e2)
  ·cases q
 |
  bor q' _ ih=>
  unfold rss at q
  split at q
  ·rename_i e1 e2;cases q;exact .cons (S.bor q' e1) (ih e2)
  ·cases q
end
inductive Bv where
 |val (v:Val) |new (v:Val) |stuck
def BvR(P:Nat->Prop)(h:AH)(r:R D):Bv->Prop
 |.val v=>∃d,r=.ok d h/\Rd P h d v
 |.new v=>∃o,r=.ok (.ref h.length) (h++[o])/\bp o/\Rc P h o v
 |.stuck=>True
def Bv.at(b:Bv)(e:E3):R3 Tm:=match b with
 |.val v=>.ok (.val v) e
 |.new v=>.ok (.new v) e
 |.stuck=>.stuck
def BvR.po(S:Sat X h0 ns e ae h)(hl:L<=h.length)(q:BvR (Oc X ns) h r b):Po X h0 ns e ae h (relE X h0 L ae) r (b.at e):=by
 cases b with
 |stuck=>trivial
 |val v=>obtain⟨d,rfl,r⟩:=q;exact Po.ret S r
 |
  new v=>
  obtain⟨o,rfl,hf,r⟩:=q
  have S':=S.grow o
  refine⟨_,_,ns,rfl,.grow o,S'.weak λn z=>.inl z,h.length,o,rfl,hl,λz=>?_,qX,hf,S',r.mono λn o' p q=>⟨⟨λz=>?_,p.2⟩,i4 q⟩⟩
  ·have:=S.xl _ z;omega
  ·rcases z with z |z
   ·exact p.1 z
   ·have:=bJ q;omega
def RU(g2:D->AH->R D)(g3:Val->Bv):Prop:=∀P h d v,ShR P h d v->BvR P h (g2 d h) (g3 v)
def RO(g2:D->D->AH->R D)(g3:Val->Val->Bv):Prop:=∀P h d1 d2 v1 v2,ShR P h d1 v1->ShR P h d2 v2->BvR P h (g2 d1 d2 h) (g3 v1 v2)
def RFn(g2:Fn)(g3:List Val->Bv):Prop:=∀P h ds vs,ShRs P h ds vs->BvR P h (g2 ds h) (g3 vs)
def wM(i:Nat):ME3:=λe=>match e[i]? with
 |some (.sh v)=>.ok (.val v) e
 |some .no=>.stuck
 |some _=>.ok (.bor i) e
 |none=>.stuck
def vC(v:Val):ME3:=λe=>.ok (.val v) e
def vUn(g:Val->Bv)(F:ME3):ME3:=λe=>(F e).bind λt e1=>match rs e1 t with
 |some v=>(g v).at e1
 |none=>.stuck
def vOp(g:Val->Val->Bv)(F G:ME3):ME3:=λe=>(F e).bind λt1 e1=>(G e1).bind λt2 e2=>match rs e2 t1.drop,rs e2 t2 with
 |some v1,some v2=>(g v1 v2).at e2
 |_,_=>.stuck
def vNil:MA3:=λe=>.ok [] e
def yC(F:ME3)(A:MA3):MA3:=λe=>(F e).bind λt e1=>(A e1).bind λts e2=>.ok (t.drop::ts) e2
def vFn(g:List Val->Bv)(A:MA3):ME3:=λe=>(A e).bind λts e1=>match rss e1 ts with
 |some vs=>(g vs).at e1
 |none=>.stuck
def bP(e:E3):Tm->Option (E3×Val)
 |.val v=>some (e,v)
 |.new v=>some (e,v)
 |.bor i=>match e[i]? with
  |some (.sh v)=>some (e,v)
  |some (.ow v)=>some (e.set i (.sh v),v)
  |_=>none
def dem(e:E3):List Tm->Option (E3×List Val)
 | []=>some (e,[])
 |t::ts=>match bP e t with
  |some (e1,v)=>match dem e1 ts with
   |some (e2,vs)=>some (e2,v::vs)
   |none=>none
  |none=>none
def vTup(A:MA3):ME3:=λe=>(A e).bind λts e1=>match dem e1 ts with
 |some (e2,vs)=>if vs.length<=16777216 then .ok (.val (.tup vs)) e2 else .stuck
 |none=>.stuck
def vLst(A:MA3):ME3:=λe=>(A e).bind λts e1=>match dem e1 ts with
 |some (e2,vs)=>if vs.length<=16777216 then .ok (.new (.lst vs)) e2 else .stuck
 |none=>.stuck
noncomputable def bOf:Option Val->Option Bool
 |some (.bl b)=>some b
 |_=>none
def vAnd(F G:ME3):ME3:=λe=>(F e).bind λt e1=>match bOf (rs e1 t) with
 |some true=>G e1
 |some false=>.ok (.val (.bl false)) e1
 |none=>.stuck
def vNot(F:ME3):ME3:=λe=>(F e).bind λt e1=>match bOf (rs e1 t) with
 |some b=>.ok (.val (.bl (!b))) e1
 |none=>.stuck
def cOf(F:ME3):MT3:=λe=>(F e).bind λt e1=>match bOf (rs e1 t) with
 |some b=>.ok b e1
 |none=>.stuck
def cAn(c d:MT3):MT3:=λe=>(c e).bind λb e1=>if b=true then d e1 else .ok false e1
def cO(c d:MT3):MT3:=λe=>(c e).bind λb e1=>if b=true then .ok true e1 else d e1
def cNo(c:MT3):MT3:=λe=>(c e).bind λb e1=>.ok (!b) e1
def cY:MT3:=λe=>.ok true e
section
variable{F G:ME}{F3 G3:ME3}{A:MA}{A3:MA3}{c d:MT}{c3 d3:MT3}
def Bp(i:Nat):RE (cK i) (wM i):=λX h0 L ns e ae h S hl=>by
 unfold wM
 cases q:e[i]? with
 |none=>trivial
 |
  some s=>
  have y:=S.sl i s q
  cases s with
  |no=>trivial
  |sh v=>obtain⟨_,x,e1,e2⟩:=y;unfold cK;rw[e1];exact Po.ret S e2
  |ow v=>obtain⟨m,o,_,e2,_⟩:=y;unfold cK;rw[e2];exact Po.ret S e2
  |lo v=>obtain⟨m,o,_,e2,_⟩:=y;unfold cK;rw[e2];exact Po.ret S e2
  |mu v=>obtain⟨m,o,_,e2,_⟩:=y;unfold cK;rw[e2];exact Po.ret S e2
  |lm v=>obtain⟨m,o,_,e2,_⟩:=y;unfold cK;rw[e2];exact Po.ret S e2
def pv{d:D}{v:Val}(r:∀P h,Rd P h d v):RE (eC d) (vC v):=λX h0 L ns e ae h S hl=>Po.ret S (r _ _)
def HS(hg:RU g g3)(hF:RE F F3):RE (eUn g F) (vUn g3 F3):=λX h0 L ns e ae h S hl=>
 Po.bind S (hF X h0 L ns e ae h S hl) λd t h1 ns1 e1 a1 S1 r1=>by
  try dsimp only
  split
  ·rename_i v q
   exact BvR.po S1 (w_ hl a1.len) (hg _ _ _ _ (r1.sh S1 q))
  ·trivial
def Fq(hg:RO g g3)(hF:RE F F3)(hG:RE G G3):RE (eOp g F G) (vOp g3 F3 G3):=λX h0 L ns e ae h S hl=>
 Po.bind S (hF X h0 L ns e ae h S hl) λd1 t1 h1 ns1 e1 a1 S1 r1=>Po.bind S1 (hG X h0 L ns1 e1 ae h1 S1 (w_ hl a1.len)) λd2 t2 h2 bn e2 a2 S2 r2=>by
  try dsimp only
  split
  ·rename_i v1 v2 q1 q2
   obtain⟨r1',hn⟩:=r1.drop
   exact BvR.po S2 (w_ hl (w_ a1.len a2.len)) (hg _ _ _ _ _ _ ((r1'.stp S1 a2 hn).sh S2 q1) (r2.sh S2 q2))
  ·trivial
def C2:RA rP vNil:=λX h0 ns e ae h S=>Po.ret S .nil
def zX(hF:RE F F3)(hA:RA A A3):RA (m8 F A) (yC F3 A3):=λX h0 ns e ae h S=>
 Po.bind S (hF X h0 0 ns e ae h S (HW _)) λd1 t1 h1 ns1 e1 a1 S1 r1=>Po.bind S1 (hA X h0 ns1 e1 ae h1 S1) λds ts h2 bn e2 a2 S2 r2=>by
  obtain⟨r1',hn⟩:=r1.drop
  have r3:=r1'.stp S1 a2 hn
  refine Po.ret S2 ?_
  show TsR X bn ae h2 (d1::ds) (t1.drop::ts)
  generalize t1.drop=t at *
  cases t with
  |val v=>exact .val r3 r2
  |new v=>exact absurd rfl (hn v)
  |bor i=>exact .bor r3 r2
def GO(hg:RFn g g3)(hA:RA A A3):RE (eFn g A) (vFn g3 A3):=λX h0 L ns e ae h S hl=>
 Po.bind S (hA X h0 ns e ae h S) λds ts h1 ns1 e1 a1 S1 r1=>by
  try dsimp only
  split
  ·rename_i vs q
   exact BvR.po S1 (w_ hl a1.len) (hg _ _ _ _ (TsR.sh S1 r1 q))
  ·trivial
def E1(S:Sat X h0 ns e ae h)(q:e[i]?=some (.ow v)):∃n,ae[i]?=some (some (.ref n))/\Sat X h0 (ns.set i none) (e.set i (.sh v)) ae h/\Stp ns e h (ns.set i none) (e.set i (.sh v)) h/\Rd (Oc X (ns.set i none)) h (.ref n) v:=by
 obtain⟨n,o,q1,q2,_,q3,_,q4⟩:=S.sl i _ q
 have hi:=(h_.mp q).1
 have hn:i<ns.length:=by rw[S.l2];exact hi
 have r:Rd (Oc X (ns.set i none)) h (.ref n) v:=.cell ⟨S.nx i n q1,λz=>by
  obtain⟨j,z⟩:=aO.mp z
  rcases aW hn z with ⟨_,y⟩ |⟨y,z⟩
  ·cases y
  ·exact y (S.inj j i n z q1)⟩ q3 (q4.mono λm o p q=>⟨d8 p,q⟩)
 exact⟨n,q2,S.putN' hi ⟨rfl,_,q2,r⟩,Stp.refl.put (x:=none) hi (λ_ z=>by cases z) q rfl rfl S.l2,r⟩
def ek{X:Nat->Prop}{h0 L:Nat}{ns:Ns}{e e':E3}{ae:AE}{h:AH}{d:D}{t:Tm}{v:Val}(S:Sat X h0 ns e ae h)(r:relE X h0 L ae ns e h d t)(q:bP e t=some (e',v)):∃ns',Sat X h0 ns' e' ae h/\Stp ns e h ns' e' h/\Rd (Oc X ns') h d v:=by
 cases t with
 |val u=>cases q;exact⟨ns,S,.refl,r⟩
 |new u=>cases q;exact⟨ns,S,.refl,r.new⟩
 |
  bor i=>
  unfold bP at q
  dsimp only at q
  have r':ae[i]?=some (some d):=r
  split at q
  ·rename_i u q1;cases q
   obtain⟨_,x,e1,e2⟩:=S.sl i _ q1
   rw[r'] at e1;cases e1
   exact⟨ns,S,.refl,e2⟩
  ·rename_i u q1;cases q
   obtain⟨n,e1,S',a',e2⟩:=E1 S q1
   rw[r'] at e1;cases e1
   exact⟨_,S',a',e2⟩
  ·cases q
def gk:∀{ds:List D}{vs:List Val}{ns:Ns}{e e':E3},Sat X h0 ns e ae h->TsR X ns ae h ds ts->dem e ts=some (e',vs)->∃ns',Sat X h0 ns' e' ae h/\Stp ns e h ns' e' h/\Rds (Oc X ns') h ds vs:=by
 induction ts with
 |nil=>intro ds vs ns e e' S r q;cases r;cases q;exact⟨ns,S,.refl,.nil⟩
 |
  cons t ts ih=>
  intro ds vs ns e e' S r q
  unfold dem at q
  split at q
  ·rename_i e1 v q1
   split at q
   ·rename_i e2 vs' q2
    cases q
    have hr:∃d ds',ds=d::ds'/\relE X h0 0 ae ns e h d t/\TsR X ns ae h ds' ts:=by
     cases r with
     |val r rr=>exact⟨_,_,rfl,r,rr⟩
     |bor r rr=>exact⟨_,_,rfl,r,rr⟩
    obtain⟨d,ds',rfl,hr⟩:=hr
    obtain⟨ns1,S1,a1,r1⟩:=ek S hr.1 q1
    obtain⟨bn,S2,a2,r2⟩:=ih S1 (hr.2.stp S a1) q2
    exact⟨bn,S2,a1.trans S a2,.cons (r1.mono (a2.mov S1)) r2⟩
   ·cases q
  ·cases q
def EL(hA:RA A A3):RE (eFn kC A) (vTup A3):=λX h0 L ns e ae h S hl=>
 Po.bind S (hA X h0 ns e ae h S) λds ts h1 ns1 e1 a1 S1 r1=>by
  try dsimp only
  split
  ·rename_i e2 vs q
   split
   ·rename_i hv
    obtain⟨bn,S2,a2,r2⟩:=gk S1 r1 q
    exact⟨.tup ds,h1,bn,by unfold kC;rw[if_pos (by rw[r2.len];exact hv)],a2,S2,.tup r2⟩
   ·trivial
  ·trivial
def Cp(hA:RA A A3):RE (eFn cG A) (vLst A3):=λX h0 L ns e ae h S hl=>
 Po.bind S (hA X h0 ns e ae h S) λds ts h1 ns1 e1 a1 S1 r1=>by
  try dsimp only
  split
  ·rename_i e2 vs q
   split
   ·rename_i hv
    obtain⟨bn,S2,a2,r2⟩:=gk S1 r1 q
    have p:=BvR.po (r:=cG ds h1) (b:=.new (.lst vs)) S2 (w_ hl a1.len) ⟨.lst ds,by unfold cG;rw[if_pos (by rw[r2.len];exact hv)],trivial,.lst r2⟩
    obtain⟨d,h',ns',y,y1,y2,y3⟩:=p
    exact⟨d,h',ns',y,a2.trans S1 y1,y2,y3⟩
   ·trivial
  ·trivial
def kj(S1:Sat X h0 ns1 e1 ae h1)(r1:relE X h0 L ae ns1 e1 h1 d1 t1)(q:bOf (rs e1 t1)=some b):d1=.bl b:=by
 unfold bOf at q
 split at q
 ·rename_i b' q';cases q;exact (r1.sh S1 q').bl
 ·cases q
def CN(hF:RE F F3)(hG:RE G G3):RE (vv F G) (vAnd F3 G3):=λX h0 L ns e ae h S hl=>
 Po.bind S (hF X h0 L ns e ae h S hl) λd1 t1 h1 ns1 e1 a1 S1 r1=>by
  try dsimp only
  split
  ·rename_i q;rw[kj S1 r1 q];exact hG X h0 L ns1 e1 ae h1 S1 (w_ hl a1.len)
  ·rename_i q;rw[kj S1 r1 q];exact Po.ret S1 (.bl false)
  ·trivial
def AY(hF:RE F F3):RE (xI F) (vNot F3):=λX h0 L ns e ae h S hl=>
 Po.bind S (hF X h0 L ns e ae h S hl) λd1 t1 h1 ns1 e1 a1 S1 r1=>by
  try dsimp only
  split
  ·rename_i q;rw[kj S1 r1 q];exact Po.ret S1 (.bl _)
  ·trivial
def GQ(hF:RE F F3):RT (tOf F) (cOf F3):=λX h0 ns e ae h S=>
 Po.bind S (hF X h0 0 ns e ae h S (HW _)) λd1 t1 h1 ns1 e1 a1 S1 r1=>by
  try dsimp only
  split
  ·rename_i q;rw[kj S1 r1 q];exact Po.ret S1 rfl
  ·trivial
def Hj(hc:RT c c3)(hd:RT d d3):RT (tAn c d) (cAn c3 d3):=λX h0 ns e ae h S=>
 Po.bind S (hc X h0 ns e ae h S) λb b' h1 ns1 e1 a1 S1 r1=>by
  cases r1
  try dsimp only
  split
  ·exact hd X h0 ns1 e1 ae h1 S1
  ·exact Po.ret S1 rfl
def rt_o(hc:RT c c3)(hd:RT d d3):RT (tO c d) (cO c3 d3):=λX h0 ns e ae h S=>
 Po.bind S (hc X h0 ns e ae h S) λb b' h1 ns1 e1 a1 S1 r1=>by
  cases r1
  try dsimp only
  split
  ·exact Po.ret S1 rfl
  ·exact hd X h0 ns1 e1 ae h1 S1
def FW(hc:RT c c3):RT (tNo c) (cNo c3):=λX h0 ns e ae h S=>
 Po.bind S (hc X h0 ns e ae h S) λb b' h1 ns1 e1 a1 S1 r1=>by
  cases r1
  exact Po.ret S1 rfl
def rt_y:RT tY cY:=λX h0 ns e ae h S=>Po.ret S rfl
end
inductive Rt where
 |val (v:Val) |new (v:Val) |par (i:Nat)
inductive SR3 where
 |nx (e:E3) |rt (r:Rt) (e:E3) |bk (e:E3) |ct (e:E3) |exc (c:Str) (e:E3) |stuck
abbrev MS3:=E3->SR3
def RtR(X:Nat->Prop)(h0:Nat)(ns:Ns)(e:E3)(ae:AE)(h:AH)(d:D):Rt->Prop
 |.val v=>Sat X h0 ns e ae h/\Rd (Oc X ns) h d v
 |.new v=>∃n o,d=.ref n/\h0<=n/\¬ X n/\h[n]?=some o/\bp o/\Sat (Xn X n) h0 ns e ae h/\Rc (Oc (Xn X n) ns) h o v
 |.par i=>Sat X h0 ns e ae h/\ae[i]?=some (some d)/\∃v,e[i]?=some (.mu v)
def PoS(X:Nat->Prop)(h0:Nat)(ns:Ns)(e:E3)(h:AH)(r2:SR):SR3->Prop
 |.stuck=>True
 |.nx e'=>∃a_ h' ns',r2=.nx a_ h'/\Stp ns e h ns' e' h'/\Sat X h0 ns' e' a_ h'
 |.bk e'=>∃a_ h' ns',r2=.bk a_ h'/\Stp ns e h ns' e' h'/\Sat X h0 ns' e' a_ h'
 |.ct e'=>∃a_ h' ns',r2=.ct a_ h'/\Stp ns e h ns' e' h'/\Sat X h0 ns' e' a_ h'
 |.exc c e'=>∃a_ h' ns',r2=.exc c a_ h'/\Stp ns e h ns' e' h'/\Sat X h0 ns' e' a_ h'
 |.rt r e'=>∃d a_ h' ns',r2=.rt d h'/\Stp ns e h ns' e' h'/\RtR X h0 ns' e' a_ h' d r
def RS(F:MS)(G:MS3):Prop:=∀X h0 ns e ae h,Sat X h0 ns e ae h->PoS X h0 ns e h (F ae h) (G e)
def R3.toS{α:Type}(r:R3 α)(f:α->E3->SR3):SR3:=match r with
 |.ok a e=>f a e
 |.exc c e=>.exc c e
 |.stuck=>.stuck
def SR3.then(r:SR3)(f:E3->SR3):SR3:=match r with
 |.nx e=>f e
 |r=>r
section
variable{X:Nat->Prop}{h0 L:Nat}{ns ns1 ns':Ns}{e e1 e':E3}{ae:AE}{h h1 h':AH}
def PoS.after(S:Sat X h0 ns e ae h)(a:Stp ns e h ns1 e1 h1)(p:PoS X h0 ns1 e1 h1 r2 r3):PoS X h0 ns e h r2 r3:=by
 cases r3 with
 |stuck=>trivial
 |nx e'=>obtain⟨a_,h',ns',q,q1,q2⟩:=p;exact⟨a_,h',ns',q,a.trans S q1,q2⟩
 |bk e'=>obtain⟨a_,h',ns',q,q1,q2⟩:=p;exact⟨a_,h',ns',q,a.trans S q1,q2⟩
 |ct e'=>obtain⟨a_,h',ns',q,q1,q2⟩:=p;exact⟨a_,h',ns',q,a.trans S q1,q2⟩
 |exc c e'=>obtain⟨a_,h',ns',q,q1,q2⟩:=p;exact⟨a_,h',ns',q,a.trans S q1,q2⟩
 |rt r e'=>obtain⟨d,a_,h',ns',q,q1,q2⟩:=p;exact⟨d,a_,h',ns',q,a.trans S q1,q2⟩
def PoS.toS(p:Po X h0 ns e ae h rel r2 r3)
 (k:∀d t h' ns' e',Stp ns e h ns' e' h'->Sat X h0 ns' e' ae h'->rel ns' e' h' d t->PoS X h0 ns e h (f2 d h') (f3 t e')):PoS X h0 ns e h (r2.toS ae f2) (r3.toS f3):=by
 cases r3 with
 |stuck=>trivial
 |exc c e'=>obtain⟨h',ns',rfl,q1,q2⟩:=p;exact⟨ae,h',ns',rfl,q1,q2⟩
 |ok t e'=>obtain⟨d,h',ns',rfl,q1,q2,q3⟩:=p;exact k d t h' ns' e' q1 q2 q3
def PoS.nx(a:Stp ns e h ns' e' h')(S:Sat X h0 ns' e' a_ h'):PoS X h0 ns e h (.nx a_ h') (.nx e'):=⟨a_,h',ns',rfl,a,S⟩
end
def wNx:MS3:=λe=>.nx e
def wBk:MS3:=λe=>.bk e
def wSeq(F G:MS3):MS3:=λe=>(F e).then G
def ym(F:ME3):MS3:=λe=>(F e).toS λ_ e1=>.nx e1
def wIf(c:MT3)(F G:MS3):MS3:=λe=>(c e).toS λb e1=>if b=true then F e1 else G e1
def lH(t:Tm)(e:E3):SR3:=match t with
 |.val v=>.rt (.val v) e
 |.new v=>.rt (.new v) e
 |.bor i=>match e[i]? with
  |some (.sh v)=>.rt (.val v) e
  |some (.ow v)=>.rt (.new v) (e.set i .no)
  |some (.mu _)=>.rt (.par i) e
  |_=>.stuck
def wRet(F:ME3):MS3:=λe=>(F e).toS lH
def fY(o:Bool)(i:Nat)(t:Tm)(e:E3):SR3:=match e[i]? with
 |some s0=>if s0.pl=true then (match t with
  |.val v=>.nx (e.set i (.sh v))
  |.new v=>.nx (e.set i (if o=true then .ow v else .sh v))
  |.bor j=>match bP e (.bor j) with
   |some (e2,v)=>.nx (e2.set i (.sh v))
   |none=>.stuck) else .stuck
 |none=>.stuck
def wAsg(o:Bool)(i:Nat)(F:ME3):MS3:=λe=>(F e).toS (fY o i)
abbrev MG3:=Val->E3->Option E3
abbrev iK:=List Val->E3->Option E3
def pN(i:Nat):MG3:=λv e=>match e[i]? with
 |some s=>if s.pl=true then some (e.set i (.sh v)) else none
 |none=>none
def psN:iK:=λvs e=>match vs with
 | []=>some e
 |_=>none
def psC(g:MG3)(u:iK):iK:=λvs e=>match vs with
 |v::r=>(g v e).bind λe1=>u r e1
 | []=>none
def pT(n:Nat)(u:iK):MG3:=λv e=>match v with
 |.tup vs=>if vs.length=n then u vs e else none
 |_=>none
def x5(F:ME3)(g:MG3):MS3:=λe=>(F e).toS λt e1=>match bP e1 t with
 |some (e2,v)=>match g v e2 with
  |some e3=>.nx e3
  |none=>.stuck
 |none=>.stuck
def wPar(i j:Nat)(A:MA3):MS3:=λe=>(A e).toS λts e1=>match dem e1 ts with
 |some (e2,[v,u])=>match (pN i v e2).bind (pN j u) with
  |some e3=>.nx e3
  |none=>.stuck
 |_=>.stuck
def vZ(i:Nat)(g:Val->Val->Bv)(F:ME3):MS3:=λe=>match e[i]? with
 |some (.sh x)=>(F e).toS λt e1=>match rs e1 t with
  |some y=>match g x y with
   |.val z=>match pN i z e1 with
    |some e2=>.nx e2
    |none=>.stuck
   |_=>.stuck
  |none=>.stuck
 |_=>.stuck
def tW(c:Str)(A:MA3):MS3:=λe=>(A e).toS λts e1=>if ts.length<=16777216 then .exc c e1 else .stuck
def RG(g2:MG)(g3:MG3):Prop:=∀X h0 ns e ae h d v e',Sat X h0 ns e ae h->Rd (Oc X ns) h d v->g3 v e=some e'->∃a_ ns',g2 d ae h=.ok a_ h/\Sat X h0 ns' e' a_ h/\Stp ns e h ns' e' h
def RGs(g2:MGs)(g3:iK):Prop:=∀X h0 ns e ae h ds vs e',Sat X h0 ns e ae h->Rds (Oc X ns) h ds vs->g3 vs e=some e'->∃a_ ns',g2 ds ae h=.ok a_ h/\Sat X h0 ns' e' a_ h/\Stp ns e h ns' e' h
section
variable{F G:ME}{F3 G3:ME3}{A:MA}{A3:MA3}{c d:MT}{c3 d3:MT3}{U V:MS}{U3 V3:MS3}{g:MG}{g3:MG3}{gs:MGs}{gs3:iK}
def Ha:RS sNx wNx:=λX h0 ns e ae h S=>.nx .refl S
def F5:RS sBk wBk:=λX h0 ns e ae h S=>⟨ae,h,ns,rfl,.refl,S⟩
def Bz(hU:RS U U3)(hV:RS V V3):RS (vW U V) (wSeq U3 V3):=λX h0 ns e ae h S=>by
 have p:=hU X h0 ns e ae h S
 show PoS X h0 ns e h ((U ae h).then V) ((U3 e).then V3)
 generalize U3 e=r at *
 cases r with
 |stuck=>trivial
 |nx e'=>obtain⟨a_,h',ns',q,q1,q2⟩:=p;rw[q];exact PoS.after S q1 (hV X h0 ns' e' a_ h' q2)
 |bk e'=>obtain⟨a_,h',ns',q,q1,q2⟩:=p;rw[q];exact⟨a_,h',ns',rfl,q1,q2⟩
 |ct e'=>obtain⟨a_,h',ns',q,q1,q2⟩:=p;rw[q];exact⟨a_,h',ns',rfl,q1,q2⟩
 |exc c e'=>obtain⟨a_,h',ns',q,q1,q2⟩:=p;rw[q];exact⟨a_,h',ns',rfl,q1,q2⟩
 |rt r e'=>obtain⟨d,a_,h',ns',q,q1,q2⟩:=p;rw[q];exact⟨d,a_,h',ns',rfl,q1,q2⟩
def AF(hF:RE F F3):RS (sm F) (ym F3):=λX h0 ns e ae h S=>PoS.toS (hF X h0 0 ns e ae h S (HW _)) λd t h1 ns1 e1 a1 S1 r1=>.nx a1 S1
def FL(hc:RT c c3)(hU:RS U U3)(hV:RS V V3):RS (sIf c U V) (wIf c3 U3 V3):=λX h0 ns e ae h S=>PoS.toS (hc X h0 ns e ae h S) λb b' h1 ns1 e1 a1 S1 r1=>by
 cases r1
 try dsimp only
 split
 ·exact PoS.after S a1 (hU X h0 ns1 e1 ae h1 S1)
 ·exact PoS.after S a1 (hV X h0 ns1 e1 ae h1 S1)
def Br(hF:RE F F3):RS (xn F) (wRet F3):=λX h0 ns e ae h S=>PoS.toS (hF X h0 h0 ns e ae h S S.lh) λd t h1 ns1 e1 a1 S1 r1=>by
 cases t with
 |val v=>exact⟨d,ae,h1,ns1,rfl,a1,S1,r1⟩
 |new v=>obtain⟨n,o,q⟩:=r1;exact⟨d,ae,h1,ns1,rfl,a1,n,o,q⟩
 |
  bor i=>
  unfold lH
  dsimp only
  have r':ae[i]?=some (some d):=r1
  split
  ·rename_i v q
   obtain⟨_,x,e1',e2⟩:=S1.sl i _ q
   rw[r'] at e1';cases e1'
   exact⟨d,ae,h1,ns1,rfl,a1,S1,e2⟩
  ·rename_i v q
   obtain⟨n,o,q1,q2,q3,q4,q5,q6⟩:=S1.sl i _ q
   rw[r'] at q2;cases q2
   have hi:=(h_.mp q).1
   have hn:i<ns1.length:=by rw[S1.l2];exact hi
   have mv:Mov (Oc X ns1) (Oc (Xn X n) (ns1.set i none)) h1 h1:=λm o' p q'=>⟨⟨λz=>by
    rcases z with z |rfl
    ·exact p.1 z
    ·exact p.2 (aO.mpr ⟨i,q1⟩),(d8 p).2⟩,q'⟩
   have S2:=S1.putN' hi (s:=.no) rfl
   refine⟨.ref n,ae,h1,ns1.set i none,rfl,a1.put (x:=none) hi (λ_ z=>by cases z) q rfl rfl S1.l2,n,o,rfl,q3,S1.nx i n q1,q4,q5,⟨S2.l1,S2.l2,S2.lh,λm z=>?_,S2.inj,λj m qj z=>?_,λj s qj=>?_⟩,q6.mono mv⟩
   ·rcases z with z |rfl
    ·exact S2.xl m z
    ·exact bJ q4
   ·rcases z with z |rfl
    ·exact S2.nx j m qj z
    ·rcases aW hn qj with ⟨_,y⟩ |⟨y,z⟩
     ·cases y
     ·exact y (S1.inj j i _ z q1)
   ·rcases aW hi qj with ⟨rfl,rfl⟩ |⟨z,qj'⟩
    ·rw[aZ hn];rfl
    ·rw[aU z]
     exact (S1.sl j s qj').mono mv λ_ _ _ q=>q
  ·rename_i v q
   exact⟨d,ae,h1,ns1,rfl,a1,S1,r',v,q⟩
  ·trivial
def Bs(o:Bool)(i:Nat)(hF:RE F F3):RS (f9 F (gN i)) (wAsg o i F3):=λX h0 ns e ae h S=>PoS.toS (hF X h0 h.length ns e ae h S (j_ _)) λd t h1 ns1 e1 a1 S1 r1=>by
 show PoS X h0 ns e h (.nx (ae.set i (some d)) h1) (fY o i t e1)
 unfold fY
 split
 ·rename_i s0 q0
  split
  ·rename_i p0
   have hi:=(h_.mp q0).1
   cases t with
   |val v=>exact .nx (a1.put (x:=none) (s:=.sh v) hi (λ_ z=>by cases z) q0 p0 rfl S1.l2) (S1.putN hi ⟨rfl,d,rfl,Rd.mono (λm o p q=>⟨d8 p,q⟩) r1⟩)
   |
    new v=>
    try dsimp only
    split
    ·obtain⟨n,ob,rfl,q1,q2,q3,q4,q5,q6⟩:=r1
     exact .nx (a1.put (x:=some n) (s:=.ow v) hi (λm z=>by cases z;exact q1) q0 p0 rfl S1.l2) (Sat.putO q5 q2 hi (w_ S.lh q1) q3 q4 q6)
    ·exact .nx (a1.put (x:=none) (s:=.sh v) hi (λ_ z=>by cases z) q0 p0 rfl S1.l2) (S1.putN hi ⟨rfl,d,rfl,Rd.mono (λm o p q=>⟨d8 p,q⟩) r1.new⟩)
   |
    bor j=>
    try dsimp only
    split
    ·rename_i e2 v q2
     obtain⟨bn,S2,a2,r2⟩:=ek S1 r1 q2
     have hq:∃s2,e2[i]?=some s2/\s2.pl=true:=by
      unfold bP at q2
      dsimp only at q2
      split at q2
      ·cases q2;exact⟨s0,q0,p0⟩
      ·rename_i u q3
       cases q2
       by_cases z:i=j
       ·subst z;exact⟨_,aZ hi,rfl⟩
       ·exact⟨s0,by rw[aU z];exact q0,p0⟩
      ·cases q2
     obtain⟨s2,hq1,hq2⟩:=hq
     have hi2:=(h_.mp hq1).1
     exact .nx ((a1.trans S a2).put (x:=none) (s:=.sh v) hi2 (λ_ z=>by cases z) hq1 hq2 rfl S2.l2) (S2.putN hi2 ⟨rfl,d,rfl,Rd.mono (λm o p q=>⟨d8 p,q⟩) r2⟩)
    ·trivial
  ·trivial
 ·trivial
def rW(i:Nat):RG (gN i) (pN i):=λX h0 ns e ae h d v e' S r q=>by
 unfold pN at q
 split at q
 ·rename_i s q0
  split at q
  ·rename_i p0
   cases q
   have hi:=(h_.mp q0).1
   exact⟨_,ns.set i none,rfl,S.putN hi ⟨rfl,d,rfl,Rd.mono (λm o p q=>⟨d8 p,q⟩) r⟩,Stp.refl.put (x:=none) (s:=.sh v) hi (λ_ z=>by cases z) q0 p0 rfl S.l2⟩
  ·cases q
 ·cases q
def Fh:RGs gsN psN:=λX h0 ns e ae h ds vs e' S r q=>by
 cases r with
 |nil=>cases q;exact⟨ae,ns,rfl,S,.refl⟩
 |cons _ _=>cases q
def Hi(hg:RG g g3)(hs:RGs gs gs3):RGs (gsC g gs) (psC g3 gs3):=λX h0 ns e ae h ds vs e' S r q=>by
 cases r with
 |nil=>cases q
 |
  cons r rr=>
  obtain⟨e1,q1,q2⟩:=Ia.mp q
  obtain⟨c_,ns1,p1,S1,a1⟩:=hg _ _ _ _ _ _ _ _ _ S r q1
  obtain⟨ae2,bn,p2,S2,a2⟩:=hs _ _ _ _ _ _ _ _ _ S1 (rr.mono (a1.mov S)) q2
  refine⟨ae2,bn,?_,S2,a1.trans S a2⟩
  unfold gsC;dsimp only;rw[p1];exact p2
def rg_t(n:Nat)(hs:RGs gs gs3):RG (gT λds ae h=>if ds.length=n then gs ds ae h else .stuck) (pT n gs3):=λX h0 ns e ae h d v e' S r q=>by
 unfold pT at q
 split at q
 ·split at q
  ·rename_i hn
   obtain⟨ds,rfl,r2⟩:=ShR.tup (.inl r)
   obtain⟨c_,ns1,p1,S1,a1⟩:=hs _ _ _ _ _ _ _ _ _ S r2 q
   refine⟨c_,ns1,?_,S1,a1⟩
   unfold gT;dsimp only;rw[if_pos (by rw[r2.len];exact hn)];exact p1
  ·cases q
 ·cases q
def CC(hg:RG g g3):RG (λd ae h=>noX (g d ae h)) g3:=λX h0 ns e ae h d v e' S r q=>by
 obtain⟨c_,ns1,p1,S1,a1⟩:=hg _ _ _ _ _ _ _ _ _ S r q
 exact⟨c_,ns1,by dsimp only;rw[p1];rfl,S1,a1⟩
def AD(hF:RE F F3)(hg:RG g g3):RS (f9 F g) (x5 F3 g3):=λX h0 ns e ae h S=>PoS.toS (hF X h0 0 ns e ae h S (HW _)) λd t h1 ns1 e1 a1 S1 r1=>by
 try dsimp only
 split
 ·rename_i e2 v q
  obtain⟨bn,S2,a2,r2⟩:=ek S1 r1 q
  split
  ·rename_i e3 q3
   obtain⟨ae3,ns3,p3,S3,a3⟩:=hg _ _ _ _ _ _ _ _ _ S2 r2 q3
   rw[p3]
   exact .nx ((a1.trans S a2).trans S a3) S3
  ·trivial
 ·trivial
def BF(i j:Nat)(hA:RA A A3):RS (wg i j A) (wPar i j A3):=λX h0 ns e ae h S=>PoS.toS (hA X h0 ns e ae h S) λds ts h1 ns1 e1 a1 S1 r1=>by
 try dsimp only
 cases q:dem e1 ts with
 |none=>trivial
 |
  some w=>
  obtain⟨e2,vs⟩:=w
  obtain⟨bn,S2,a2,r2⟩:=gk S1 r1 q
  match vs,ds,r2 with
  | [],_,_=>trivial
  | [_],_,_=>trivial
  |_::_::_::_,_,_=>trivial
  |
   [v,u],[d,d'],r2=>
   dsimp only
   split
   ·rename_i e3 q3
    obtain⟨e4,q4,q5⟩:=Ia.mp q3
    cases r2 with
    |
     cons r rr=>
     cases rr with
     |
      cons r' rr=>
      obtain⟨ae3,ns3,p3,S3,a3⟩:=rW i _ _ _ _ _ _ _ _ _ S2 r q4
      obtain⟨ae4,ns4,p4,S4,a4⟩:=rW j _ _ _ _ _ _ _ _ _ S3 (r'.mono (a3.mov S2)) q5
      have z3:ae3=ae.set i (some d):=by have:=p3;unfold gN at this;cases this;rfl
      have z4:ae4=ae3.set j (some d'):=by have:=p4;unfold gN at this;cases this;rfl
      subst z4 z3
      exact .nx (((a1.trans S a2).trans S a3).trans S a4) S4
   ·trivial
def CJ(i:Nat)(hg:RO gg gg3)(hF:RE F F3):RS (oI i gg F) (vZ i gg3 F3):=λX h0 ns e ae h S=>by
 unfold vZ
 split
 ·rename_i x q0
  obtain⟨_,dx,e1,r0⟩:=S.sl i _ q0
  unfold oI
  rw[e1]
  refine PoS.toS (hF X h0 0 ns e ae h S (HW _)) λd t h1 ns1 e1 a1 S1 r1=>?_
  try dsimp only
  split
  ·rename_i y q1
   have b:=hg _ _ _ _ _ _ (.inl (r0.mono (a1.mov S))) (r1.sh S1 q1)
   split
   ·rename_i z q2
    rw[q2] at b
    obtain⟨dz,p1,r2⟩:=b
    split
    ·rename_i e2 q3
     rw[p1]
     obtain⟨ae3,ns3,p3,S3,a3⟩:=rW i _ _ _ _ _ _ _ _ _ S1 r2 q3
     have z3:ae3=ae.set i (some dz):=by have:=p3;unfold gN at this;cases this;rfl
     subst z3
     exact .nx (a1.trans S a3) S3
    ·trivial
   ·trivial
  ·trivial
 ·trivial
def TsR.len(r:TsR X ns ae h ds ts):ds.length=ts.length:=by
 induction r with
 |nil=>rfl
 |val _ _ ih=>rw[F_,F_,ih]
 |bor _ _ ih=>rw[F_,F_,ih]
def xk(x:Str)(hA:RA A A3):RS (o9 x A) (tW x A3):=λX h0 ns e ae h S=>PoS.toS (hA X h0 ns e ae h S) λds ts h1 ns1 e1 a1 S1 r1=>by
 try dsimp only
 by_cases hl:ts.length<=16777216
 ·rw[if_pos hl,if_pos (by rw[TsR.len r1];exact hl)]
  exact⟨ae,h1,ns1,rfl,a1,S1⟩
 ·rw[if_neg hl];trivial
end
noncomputable def Sl.re(s:Sl)(u:Val):Sl:=match s with
 |.ow _=>.ow u
 |.mu _=>.mu u
 |s=>s
noncomputable def Sl.mv:Sl->Option Val
 |.ow v=>some v
 |.mu v=>some v
 |_=>none
section
variable{X:Nat->Prop}{h0 L:Nat}{ns ns1 ns':Ns}{e e1 e':E3}{ae:AE}{h h1 h':AH}
def Sat.write(S:Sat X h0 ns e ae h)(q:e[i]?=some s)(hm:s.mv=some u):∃n o,ae[i]?=some (some (.ref n))/\h[n]?=some o/\bp o/\Rc (Oc X ns) h o u/\
 ∀o' u',bp o'->Rc (Oc X ns) h o' u'->Mov (Oc X ns) (Oc X ns) h (h.set n o')/\Sat X h0 ns (e.set i (s.re u')) ae (h.set n o')/\Stp ns e h ns (e.set i (s.re u')) (h.set n o'):=by
 have hi:=(h_.mp q).1
 have key:∃n o,ns[i]?=some (some n)/\ae[i]?=some (some (.ref n))/\h[n]?=some o/\bp o/\Rc (Oc X ns) h o u/\s.mt=true/\(∀o' u',bp o'->Rc (Oc X ns) (h.set n o') o' u'->SlR (Oc X ns) h0 (some (some n)) (some (some (.ref n))) (h.set n o') (s.re u')):=by
  have y:=S.sl i s q
  cases s with
  |ow v=>cases hm;obtain⟨n,o,q1,q2,q3,q4,q5,q6⟩:=y;exact⟨n,o,q1,q2,q4,q5,q6,rfl,λo' u' hf r=>⟨n,o',rfl,rfl,q3,aZ (bJ q4),hf,r⟩⟩
  |mu v=>cases hm;obtain⟨n,o,q1,q2,q4,q5,q6⟩:=y;exact⟨n,o,q1,q2,q4,q5,q6,rfl,λo' u' hf r=>⟨n,o',rfl,rfl,aZ (bJ q4),hf,r⟩⟩
  |_=>cases hm
 obtain⟨n,o,k1,k2,k3,k4,k5,k6,k7⟩:=key
 refine⟨n,o,k2,k3,k4,k5,λo' u' hf r=>?_⟩
 have mv:Mov (Oc X ns) (Oc X ns) h (h.set n o'):=λm ob p q'=>⟨p,by
  have:m≠n:=λz=>p.2 (aO.mpr ⟨i,by rw[z];exact k1⟩)
  rw[aU this];exact q'⟩
 refine⟨mv,⟨by rw[y_];exact S.l1,by rw[y_];exact S.l2,by rw[y_];exact S.lh,λm z=>by rw[y_];exact S.xl m z,S.inj,S.nx,λj s' qj=>?_⟩,?_⟩
 ·rcases aW hi qj with ⟨rfl,rfl⟩ |⟨z,qj'⟩
  ·rw[k1,k2];exact k7 o' u' hf (r.mono mv)
  ·refine (S.sl j s' qj').mono mv λm ob qm qo=>?_
   have:m≠n:=λy=>by subst y;exact z (S.inj j i m qm k1)
   rw[aU this];exact qo
 ·refine⟨by rw[y_];exact j_ _,λm ob qm hM=>?_,λ_ _ q=>.inl q,λj s' qj hl=>?_,λj s' qj hl=>?_,λj v qj=>?_,λj v qj=>?_⟩
  ·have:m≠n:=λy=>by subst y;exact hM ⟨i,s,k1,q,k6⟩
   rw[aU this];exact qm
  ·have z:j≠i:=λz=>by subst z;rw[q] at qj;cases qj;cases s <;> first |cases hl;done |cases k6;done
   rw[aU z];exact⟨qj,rfl⟩
  ·rcases aW hi qj with ⟨_,y⟩ |⟨z,qj'⟩
   ·subst y;cases s <;> first |cases hl;done |cases k6;done
   ·exact⟨qj',rfl⟩
  ·rcases aW hi qj with ⟨rfl,y⟩ |⟨z,qj'⟩
   ·cases s with
    |mu w=>exact⟨w,q,rfl⟩
    |ow w=>cases y
    |_=>cases k6
   ·exact⟨v,qj',rfl⟩
  ·by_cases z:j=i
   ·subst z;rw[q] at qj;cases qj;exact⟨u',aZ hi,rfl⟩
   ·exact⟨v,by rw[aU z];exact qj,rfl⟩
end
def wk(w2:D->D->D->AH->R Unit)(w3:Val->Val->Val->Option Val):Prop:=∀P h n o u di vi d v u',¬ P n->h[n]?=some o->bp o->Rc P h o u->ShR P h di vi->Rd P h d v->w3 u vi v=some u'->∃o',w2 (.ref n) di d h=.ok () (h.set n o')/\bp o'/\Rc P h o' u'
def wSet(i:Nat)(G:ME3)(F:ME3)(w:Val->Val->Val->Option Val):MS3:=λe=>(F e).toS λt e1=>match (e1[i]?).bind Sl.mv with
 |none=>.stuck
 |some _=>(G e1).toS λt2 e2=>match rs e2 t2 with
  |none=>.stuck
  |some vi=>match bP e2 t.drop with
   |none=>.stuck
   |some (e3,v)=>match e3[i]? with
    |none=>.stuck
    |some s=>match s.mv with
     |none=>.stuck
     |some u=>match w u vi v with
      |some u'=>.nx (e3.set i (s.re u'))
      |none=>.stuck
def RM(m2:D->List D->AH->R D)(m3:Val->List Val->Option (Val×Val)):Prop:=∀P h n o u ds vs u' v,h[n]?=some o->bp o->Rc P h o u->Rds P h ds vs->m3 u vs=some (u',v)->jZ h (.ref n)=true/\∃o' d,m2 (.ref n) ds h=.ok d (h.set n o')/\bp o'/\Rc P h o' u'/\Rd P h d v
def jt:Val->Bool
 |.lst _=>true
 |_=>false
def xP(i:Nat)(m:Val->List Val->Option (Val×Val))(A:MA3):ME3:=λe=>match e[i]? with
 |some s=>if (s.mv.map jt)=some true then (A e).bind λts e1=>match dem e1 ts with
  |some (e2,vs)=>match e2[i]? with
   |some s2=>match s2.mv with
    |some u=>match m u vs with
     |some (u',v)=>.ok (.val v) (e2.set i (s2.re u'))
     |none=>.stuck
    |none=>.stuck
   |none=>.stuck
  |none=>.stuck else .stuck
 |none=>.stuck
section
variable{F G:ME}{F3 G3:ME3}{A:MA}{A3:MA3}
def zZ{X:Nat->Prop}{h0:Nat}{ns:Ns}{e:E3}{ae:AE}{h:AH}(S:Sat X h0 ns e ae h){i:Nat}{u:Val}(q:(e[i]?).bind Sl.mv=some u):∃n o,ae[i]?=some (some (.ref n))/\h[n]?=some o/\bp o/\Rc (Oc X ns) h o u:=by
 obtain⟨s,q1,q2⟩:=Ia.mp q
 obtain⟨n,o,k1,k2,k3,k4,_⟩:=S.write q1 q2
 exact⟨n,o,k1,k2,k3,k4⟩
def Bu(i:Nat)(hw:wk w2 w3)(hG:RE G G3)(hF:RE F F3):RS (f9 F (gS (cK i) G w2)) (wSet i G3 F3 w3):=λX h0 ns e ae h S=>PoS.toS (hF X h0 0 ns e ae h S (HW _)) λd t h1 ns1 e1 a1 S1 r1=>by
 try dsimp only
 cases qm:(e1[i]?).bind Sl.mv with
 |none=>trivial
 |
  some u0=>
  obtain⟨n0,o0,b1,b2,b3,b4⟩:=zZ S1 qm
  have L2e:∀h',(gS (cK i) G w2 d ae h').toS ae (λa_ h2=>SR.nx a_ h2)=(G ae h').toS ae λdi h2=>(w2 (.ref n0) di d h2).toS ae λ_ h3=>.nx ae h3:=λh'=>by
   unfold gS cK
   rw[b1]
   simp only[eU]
   cases G ae h' with
   |
    ok di h2=>
    simp only[eU]
    show _=(w2 (.ref n0) di d h2).toS ae λ_ h3=>.nx ae h3
    cases w2 (.ref n0) di d h2 <;> rfl
   |exc c h2=>rfl
   |stuck=>rfl
  rw[L2e]
  refine PoS.after S a1 (PoS.toS (hG X h0 0 ns1 e1 ae h1 S1 (HW _)) λdi t2 h2 bn e2 a2 S2 r2=>?_)
  try dsimp only
  cases qi:rs e2 t2 with
  |none=>trivial
  |
   some vi=>
   try dsimp only
   cases qd:bP e2 t.drop with
   |none=>trivial
   |
    some w=>
    obtain⟨e3,v⟩:=w
    try dsimp only
    obtain⟨r1',hn⟩:=r1.drop
    have r3:=r1'.stp S1 a2 hn
    have si:=r2.sh S2 qi
    obtain⟨ns3,S3,a3,r4⟩:=ek S2 r3 qd
    have si3:ShR (Oc X ns3) h2 di vi:=by
     rcases si with z |⟨n,o,z1,z2,z3⟩
     ·exact .inl (z.mono (a3.mov S2))
     ·exact .inr ⟨n,o,z1,z2,z3.mono (a3.mov S2)⟩
    cases q3:e3[i]? with
    |none=>trivial
    |
     some s=>
     try dsimp only
     cases q4:s.mv with
     |none=>trivial
     |
      some u=>
      try dsimp only
      cases q5:w3 u vi v with
      |none=>trivial
      |
       some u'=>
       obtain⟨n,o,k1,k2,k3,k4,k5⟩:=S3.write q3 q4
       rw[b1] at k1;cases k1
       have nP:¬ Oc X ns3 n0:=λp=>by
        have z1:=((k5 (.lst []) (.lst []) trivial (.lst .nil)).1 _ _ p k2).2
        have z2:=((k5 (.lst [.non]) (.lst [.non]) trivial (.lst (.cons .non .nil))).1 _ _ p k2).2
        rw[aZ (bJ k2)] at z1 z2
        rw[<- z2] at z1
        cases z1
       obtain⟨o',p1,p2,p3⟩:=hw _ _ _ _ _ _ _ _ _ _ nP k2 k3 k4 si3 r4 q5
       obtain⟨mv,S4,a4⟩:=k5 o' u' p2 p3
       rw[p1]
       exact .nx ((a2.trans S1 a3).trans S1 a4) S4
def DB(i:Nat)(hm:RM m2 m3)(hA:RA A A3):RE (eM m2 (cK i) A) (xP i m3 A3):=λX h0 L ns e ae h S hl=>by
 unfold xP
 cases q0:e[i]? with
 |none=>trivial
 |
  some s0=>
  dsimp only
  split
  ·rename_i hz
   obtain⟨u0,z1,z2⟩:=E_.mp hz
   obtain⟨n0,o0,b1,b2,b3,b4,_⟩:=S.write q0 z1
   have hL:jZ h (.ref n0)=true:=by
    cases u0 with
    |lst xs=>obtain⟨ds,_,e1,_⟩:=Rc.seq b2 b4;show (aP h n0).isSome=true;rw[e1];rfl
    |_=>cases z2
   have L2e:eM m2 (cK i) A ae h=(A ae h).bind λds h2=>m2 (.ref n0) ds h2:=by
    unfold eM cK
    rw[b1]
    simp only[eU,hL,Jx]
   rw[L2e]
   refine Po.bind S (hA X h0 ns e ae h S) λds ts h1 ns1 e1 a1 S1 r1=>?_
   try dsimp only
   cases q1:dem e1 ts with
   |none=>trivial
   |
    some w=>
    obtain⟨e2,vs⟩:=w
    try dsimp only
    obtain⟨bn,S2,a2,r2⟩:=gk S1 r1 q1
    cases q2:e2[i]? with
    |none=>trivial
    |
     some s2=>
     try dsimp only
     cases q3:s2.mv with
     |none=>trivial
     |
      some u=>
      try dsimp only
      cases q4:m3 u vs with
      |none=>trivial
      |
       some w=>
       obtain⟨u',v⟩:=w
       obtain⟨n,o,k1,k2,k3,k4,k5⟩:=S2.write q2 q3
       rw[b1] at k1;cases k1
       obtain⟨_,o',d,p1,p2,p3,p4⟩:=hm _ _ _ _ _ _ _ _ _ k2 k3 k4 r2 q4
       obtain⟨mv,S4,a4⟩:=k5 o' u' p2 p3
       exact⟨d,_,bn,p1,a2.trans S1 a4,S4,p4.mono mv⟩
  ·trivial
end
noncomputable def gK:Sl->Sl
 |.ow v=>.lo v
 |.mu v=>.lm v
 |s=>s
noncomputable def jb:Sl->Sl
 |.lo v=>.ow v
 |.lm v=>.mu v
 |s=>s
def lock(e:E3)(k:Nat):E3:=match e[k]? with
 |some s=>e.set k (gK s)
 |none=>e
def unlock(e:E3)(k:Nat):E3:=match e[k]? with
 |some s=>e.set k (jb s)
 |none=>e
def lockO(e:E3):Option Nat->E3
 |some k=>lock e k
 |none=>e
def dC(e:E3):Option Nat->E3
 |some k=>unlock e k
 |none=>e
section
variable{X:Nat->Prop}{h0 L:Nat}{ns ns1 ns':Ns}{e e1 e':E3}{ae a_:AE}{h h1 h':AH}
def SlR.lock(r:SlR P h0 n d h s):SlR P h0 n d h (gK s):=by cases s <;> exact r
def SlR.unlock(r:SlR P h0 n d h s):SlR P h0 n d h (jb s):=by cases s <;> exact r
def Sat.lock(S:Sat X h0 ns e ae h)(k:Nat):Sat X h0 ns (lock e k) ae h:=by
 unfold L3.lock
 split
 ·rename_i s q
  have hi:=(h_.mp q).1
  refine⟨by rw[y_];exact S.l1,by rw[y_];exact S.l2,S.lh,S.xl,S.inj,S.nx,λj s' qj=>?_⟩
  rcases aW hi qj with ⟨rfl,rfl⟩ |⟨z,qj'⟩
  ·exact (S.sl j s q).lock
  ·exact S.sl j s' qj'
 ·exact S
def Sat.unlock(S:Sat X h0 ns e ae h)(k:Nat):Sat X h0 ns (unlock e k) ae h:=by
 unfold L3.unlock
 split
 ·rename_i s q
  have hi:=(h_.mp q).1
  refine⟨by rw[y_];exact S.l1,by rw[y_];exact S.l2,S.lh,S.xl,S.inj,S.nx,λj s' qj=>?_⟩
  rcases aW hi qj with ⟨rfl,rfl⟩ |⟨z,qj'⟩
  ·exact (S.sl j s q).unlock
  ·exact S.sl j s' qj'
 ·exact S
def gr(z:j≠k):(lock e k)[j]?=e[j]?:=by
 unfold lock;split
 ·rw[aU z]
 ·rfl
def eF(z:j≠k):(unlock e k)[j]?=e[j]?:=by
 unfold unlock;split
 ·rw[aU z]
 ·rfl
def la(q:e[k]?=some s):(lock e k)[k]?=some (gK s):=by
 unfold lock;rw[q];exact aZ (h_.mp q).1
def fR(q:e[k]?=some s):(unlock e k)[k]?=some (jb s):=by
 unfold unlock;rw[q];exact aZ (h_.mp q).1
def Stp.unlock(q:e[k]?=some s)(hs:s.mt=true)(a:Stp ns (L3.lock e k) h ns' e' h'):Stp ns e h ns' (L3.unlock e' k) h':=by
 have hl:(gK s).lk=true:=by cases s <;> first |rfl |cases hs
 have hu:jb (gK s)=s:=by cases s <;> first |rfl |cases hs
 obtain⟨qk,nk⟩:=a.lk k _ (la q) hl
 refine⟨a.len,λm o qm hM=>a.keep m o qm λ⟨j,s',z1,z2,z3⟩=>hM ?_,a.nw,λj s' qj hj=>?_,λj s' qj hj=>?_,λj v qj=>?_,λj v qj=>?_⟩
 ·by_cases z:j=k
  ·subst z;exact⟨j,s,z1,q,hs⟩
  ·rw[gr z] at z2;exact⟨j,s',z1,z2,z3⟩
 ·have z:j≠k:=λz=>by subst z;rw[q] at qj;cases qj;cases s <;> first |cases hs;done |cases hj;done
  rw[eF z]
  exact a.lk j s' (by rw[gr z];exact qj) hj
 ·have z:j≠k:=λz=>by
   subst z
   rw[fR qk,hu] at qj;cases qj;cases s <;> first |cases hs;done |cases hj;done
  rw[eF z] at qj
  obtain⟨y1,y2⟩:=a.lk' j s' qj hj
  rw[gr z] at y1
  exact⟨y1,y2⟩
 ·by_cases z:j=k
  ·subst z;rw[fR qk,hu] at qj;cases qj;exact⟨v,q,nk⟩
  ·rw[eF z] at qj
   obtain⟨u,y1,y2⟩:=a.mu j v qj
   rw[gr z] at y1
   exact⟨u,y1,y2⟩
 ·by_cases z:j=k
  ·subst z;rw[q] at qj;cases qj;exact⟨v,by rw[fR qk,hu],nk⟩
  ·obtain⟨u,y1,y2⟩:=a.mu' j v (by rw[gr z];exact qj)
   exact⟨u,by rw[eF z];exact y1,y2⟩
end
abbrev MI3:=E3->R3 (List Val×Option Nat)
def Stay(X:Nat->Prop)(ns:Ns)(k:Option Nat)(h h':AH):Prop:=∀(m:Nat) (o:Ob),h[m]?=some o->(Oc X ns m\/∃j:Nat,k=some j/\ns[j]?=some (some m))->h'[m]?=some o
def oH(X:Nat->Prop)(ns:Ns)(e:E3)(h:AH)(it:AIt)(p:List Val×Option Nat):Prop:=
 Rds (Oc X ns) h it.items p.1/\(∀h',Stay X ns p.2 h h'->it.guard h')/\∀k:Nat,p.2=some k->∃s,e[k]?=some s/\s.mt=true
def RI(I:MI)(J:MI3):Prop:=∀X h0 ns e ae h,Sat X h0 ns e ae h->Po X h0 ns e ae h (oH X) (I ae h) (J e)
def fO:Val->Option (List Val)
 |.tup xs=>some xs
 |.lst xs=>some xs
 |_=>none
def jE(t:Tm)(e:E3):Option (List Val×Option Nat):=match t with
 |.val v=>(fO v).map λxs=>(xs,none)
 |.new v=>(fO v).map λxs=>(xs,none)
 |.bor k=>match e[k]? with
  |some (.sh v)=>(fO v).map λxs=>(xs,none)
  |some (.ow (.lst xs))=>some (xs,some k)
  |some (.mu (.lst xs))=>some (xs,some k)
  |_=>none
def yj(F:ME3):MI3:=λe=>(F e).bind λt e1=>match jE t e1 with
 |some p=>.ok p e1
 |none=>.stuck
def sO(lo:Int)(k:Nat):List Val:=(List.range k).map λi=>Val.int (lo+(i:Nat))
structure RgB(j:Int):Prop where
 lo:-(2^62)<=j
 hi:j<2^62
def gP:List Val->Option (List Val)
 | [.int j]=>@ite _ (RgB j) (Classical.propDecidable _) (some (sO 0 j.toNat)) none
 |_=>none
def wj(f:List Val->Option (List Val))(A:MA3):MI3:=λe=>(A e).bind λts e1=>match (rss e1 ts).bind f with
 |some xs=>.ok (xs,none) e1
 |none=>.stuck
section
variable{F:ME}{F3:ME3}{A:MA}{A3:MA3}
def sq(S:Sat X h0 ns e ae h)(r:Rd (Oc X ns) h d v)(q:fO v=some xs):∃it,iX d h=some it/\oH X ns e h it (xs,none):=by
 cases v with
 |
  tup ys=>
  cases q
  obtain⟨ds,rfl,r2⟩:=ShR.tup (.inl r)
  exact⟨_,rfl,r2,λ_ _=>trivial,λ_ z=>nomatch z⟩
 |
  lst ys=>
  cases q
  cases r with
  |
   cell p eo rc=>
   rename_i n o
   obtain⟨ds,_,e1,r1⟩:=Rc.seq eo rc
   refine⟨.lst n ds,by unfold iX;dsimp only;rw[e1];rfl,r1,λh' st=>?_,λ_ z=>nomatch z⟩
   show aP h' n=some ds
   have:=st n o eo (.inl p)
   unfold aP at e1 ⊢
   rw[eo] at e1
   rw[this];exact e1
 |_=>cases q
def Df(S:Sat X h0 ns e ae h)(r:relE X h0 L ae ns e h d t)(q:jE t e=some p):∃it,iX d h=some it/\oH X ns e h it p:=by
 cases t with
 |val v=>obtain⟨xs,q1,rfl⟩:=E_.mp q;exact sq S r q1
 |new v=>obtain⟨xs,q1,rfl⟩:=E_.mp q;exact sq S r.new q1
 |
  bor k=>
  have r':ae[k]?=some (some d):=r
  have own:∀{s xs},e[k]?=some s->s.mv=some (.lst xs)->∃it,iX d h=some it/\oH X ns e h it (xs,some k):=λ{s xs} q qm=>by
   have hns:∃n,ns[k]?=some (some n)/\ae[k]?=some (some (.ref n)):=by
    have y:=S.sl k s q
    cases s with
    |ow v=>obtain⟨n,o,y1,y2,_⟩:=y;exact⟨n,y1,y2⟩
    |mu v=>obtain⟨n,o,y1,y2,_⟩:=y;exact⟨n,y1,y2⟩
    |_=>cases qm
   obtain⟨n,y1,y2⟩:=hns
   obtain⟨n',o,k1,k2,k3,k4,_⟩:=S.write q qm
   rw[y2] at k1;cases k1
   rw[r'] at y2;cases y2
   obtain⟨ds,_,e2,r2⟩:=Rc.seq k2 k4
   refine⟨.lst n ds,by unfold iX;dsimp only;rw[e2];rfl,r2,λh' st=>?_,λj z=>?_⟩
   ·show aP h' n=some ds
    have:=st n o k2 (.inr ⟨k,rfl,y1⟩)
    unfold aP at e2 ⊢
    rw[k2] at e2
    rw[this];exact e2
   ·cases z;exact⟨s,q,by cases s <;> first |rfl |cases qm⟩
  unfold jE at q
  dsimp only at q
  split at q
  ·rename_i v qs
   obtain⟨_,x,e2,r2⟩:=S.sl k _ qs
   rw[r'] at e2;cases e2
   obtain⟨xs,q1,rfl⟩:=E_.mp q
   exact sq S r2 q1
  ·rename_i xs qs;cases q;exact own qs rfl
  ·rename_i xs qs;cases q;exact own qs rfl
  ·cases q
def vQ(d:D)(h:AH):R AIt:=match d with
 |.tup xs=>.ok (.tup xs) h
 |.ref n=>match aP h n with
  |some xs=>.ok (.lst n xs) h
  |none=>.stuck
 |_=>.stuck
def zp(q:iX d h=some it):vQ d h=.ok it h:=by
 cases d with
 |tup xs=>cases q;rfl
 |
  ref n=>
  obtain⟨xs,y1,rfl⟩:=E_.mp (show (aP h n).map (AIt.lst n)=some it from q)
  unfold vQ;dsimp only;rw[y1]
 |_=>cases q
def BE(hF:RE F F3):RI (vV F) (yj F3):=λX h0 ns e ae h S=>
 Po.bind S (hF X h0 0 ns e ae h S (HW _)) λd t h1 ns1 e1 a1 S1 r1=>by
  show Po X h0 ns1 e1 ae h1 (oH X) (vQ d h1) _
  cases q:jE t e1 with
  |none=>trivial
  |
   some p=>
   dsimp only
   obtain⟨it,q1,q2⟩:=Df S1 r1 q
   exact⟨it,h1,ns1,zp q1,.refl,S1,q2⟩
def Ap(lo:Int)(k:Nat):Rds P h (AIt.rng lo k).items (sO lo k):=by
 show Rds P h ((List.range k).map λi=>D.int (lo+(i:Nat))) ((List.range k).map λi=>Val.int (lo+(i:Nat)))
 generalize List.range k=l
 induction l with
 |nil=>exact .nil
 |cons i l ih=>exact .cons (.int _) ih
def eE(r:ShRs P h ds [v]):∃d,ds=[d]/\ShR P h d v:=by
 cases r with |cons r rr=>cases rr;exact⟨_,rfl,r⟩
def sd(r:ShRs P h ds [v,u]):∃d d',ds=[d,d']/\ShR P h d v/\ShR P h d' u:=by
 cases r with |cons r rr=>cases rr with |cons r' rr=>cases rr;exact⟨_,_,rfl,r,r'⟩
def FP(hf:∀P h ds vs xs,ShRs P h ds vs->f3 vs=some xs->∃lo k,f2 ds h=.ok (.rng lo k) h/\xs=sO lo k)(hA:RA A A3):RI (λae h=>(A ae h).bind f2) (wj f3 A3):=λX h0 ns e ae h S=>
 Po.bind S (hA X h0 ns e ae h S) λds ts h1 ns1 e1 a1 S1 r1=>by
  try dsimp only
  split
  ·rename_i xs q
   obtain⟨vs,q1,q2⟩:=Ia.mp q
   obtain⟨lo,k,p1,rfl⟩:=hf _ _ _ _ _ (TsR.sh S1 r1 q1) q2
   rw[p1]
   exact Po.ret S1 ⟨Ap _ _,λ_ _=>trivial,λ_ z=>nomatch z⟩
  ·trivial
def B5(hA:RA A A3):RI (wc A) (wj gP A3):=FP (f2:=λds h1=>match ds with
 | [.int j]=>if -(2^62)<=j/\j<2^62 then .ok (.rng 0 j.toNat) h1 else .stuck
 |
  _=>.stuck) (λP h ds vs xs r q=>by
  unfold gP at q
  split at q
  ·split at q
   ·rename_i hb
    cases q
    obtain⟨d,rfl,r2⟩:=eE r
    obtain rfl:=r2.int
    exact⟨_,_,by dsimp only;rw[if_pos ⟨hb.lo,hb.hi⟩],rfl⟩
   ·cases q
  ·cases q) hA
end
def SR3.loop(r:SR3)(f:E3->SR3):SR3:=match r with
 |.nx e=>f e
 |.ct e=>f e
 |.bk e=>.nx e
 |.rt d e=>.rt d e
 |.exc c e=>.exc c e
 |.stuck=>.stuck
def dm(g:MG3)(B:MS3):List Val->MS3
 | [],e=>.nx e
 |v::vs,e=>match g v e with
  |some e1=>(B e1).loop (dm g B vs)
  |none=>.stuck
def SR3.unl(k:Option Nat)(r:SR3):SR3:=match r with
 |.nx e=>.nx (dC e k)
 |.ct e=>.ct (dC e k)
 |.bk e=>.bk (dC e k)
 |.rt d e=>.rt d (dC e k)
 |.exc c e=>.exc c (dC e k)
 |.stuck=>.stuck
def wFor(I:MI3)(g:MG3)(B:MS3):MS3:=λe=>(I e).toS λp e1=>(dm g B p.1 (lockO e1 p.2)).unl p.2
section
variable{I:MI}{I3:MI3}{g:MG}{g3:MG3}{B:MS}{B3:MS3}{c:MT}{c3:MT3}{F:ME}{F3:ME3}
def PoS.loop{X:Nat->Prop}{h0:Nat}{ns:Ns}{e:E3}{ae:AE}{h:AH}{r2:SR}{r3:SR3}{f2:AE->AH->SR}{f3:E3->SR3}(p:PoS X h0 ns e h r2 r3)
 (k:∀a_ h' ns' e',Stp ns e h ns' e' h'->Sat X h0 ns' e' a_ h'->PoS X h0 ns e h (f2 a_ h') (f3 e')):PoS X h0 ns e h (r2.loop f2) (r3.loop f3):=by
 cases r3 with
 |stuck=>trivial
 |nx e'=>obtain⟨a_,h',ns',q,q1,q2⟩:=p;rw[q];exact k a_ h' ns' e' q1 q2
 |ct e'=>obtain⟨a_,h',ns',q,q1,q2⟩:=p;rw[q];exact k a_ h' ns' e' q1 q2
 |bk e'=>obtain⟨a_,h',ns',q,q1,q2⟩:=p;rw[q];exact⟨a_,h',ns',rfl,q1,q2⟩
 |exc c e'=>obtain⟨a_,h',ns',q,q1,q2⟩:=p;rw[q];exact⟨a_,h',ns',rfl,q1,q2⟩
 |rt r e'=>obtain⟨d,a_,h',ns',q,q1,q2⟩:=p;rw[q];exact⟨d,a_,h',ns',rfl,q1,q2⟩
def AA(S:Sat X h0 ns e ae h)(hk:∀j:Nat,k=some j->∃s,e[j]?=some s/\s.mt=true)(a:Stp ns (lockO e k) h ns' e' h'):Stay X ns k h h':=λm o q hm=>by
 refine a.keep m o q λ⟨i,s,z1,z2,z3⟩=>?_
 rcases hm with hm |⟨j,rfl,hj⟩
 ·exact hm.2 (aO.mpr ⟨i,z1⟩)
 ·have:i=j:=S.inj i j m z1 hj
  subst this
  obtain⟨s',y1,y2⟩:=hk i rfl
  have:(lockO e (some i))[i]?=some (gK s'):=la y1
  rw[this] at z2;cases z2
  cases s' <;> first |cases y2;done |cases z3;done
def PoS.unl(hk:∀j:Nat,k=some j->∃s,e[j]?=some s/\s.mt=true)(p:PoS X h0 ns (lockO e k) h r2 r3):PoS X h0 ns e h r2 (r3.unl k):=by
 cases k with
 |none=>cases r3 <;> exact p
 |
  some j=>
  obtain⟨s,y1,y2⟩:=hk j rfl
  cases r3 with
  |stuck=>trivial
  |nx e'=>obtain⟨a_,h',ns',q,q1,q2⟩:=p;exact⟨a_,h',ns',q,q1.unlock y1 y2,q2.unlock j⟩
  |ct e'=>obtain⟨a_,h',ns',q,q1,q2⟩:=p;exact⟨a_,h',ns',q,q1.unlock y1 y2,q2.unlock j⟩
  |bk e'=>obtain⟨a_,h',ns',q,q1,q2⟩:=p;exact⟨a_,h',ns',q,q1.unlock y1 y2,q2.unlock j⟩
  |exc c e'=>obtain⟨a_,h',ns',q,q1,q2⟩:=p;exact⟨a_,h',ns',q,q1.unlock y1 y2,q2.unlock j⟩
  |
   rt r e'=>
   obtain⟨d,a_,h',ns',q,q1,q2⟩:=p
   refine⟨d,a_,h',ns',q,q1.unlock y1 y2,?_⟩
   cases r with
   |val v=>exact⟨q2.1.unlock j,q2.2⟩
   |new v=>obtain⟨n,o,z1,z2,z3,z4,z5,z6,z7⟩:=q2;exact⟨n,o,z1,z2,z3,z4,z5,z6.unlock j,z7⟩
   |
    par i=>
    obtain⟨z1,z2,v,z3⟩:=q2
    refine⟨z1.unlock j,z2,v,?_⟩
    by_cases z:i=j
    ·subst z;exact fR z3
    ·exact (eF z).trans z3
def Sat.lockO(S:Sat X h0 ns e ae h)(k:Option Nat):Sat X h0 ns (lockO e k) ae h:=by
 cases k with
 |none=>exact S
 |some k=>exact S.lock k
def AN{X:Nat->Prop}{h0:Nat}{ns:Ns}{e:E3}{ae:AE}{h:AH}{G:AH->Prop}(S:Sat X h0 ns e ae h)(hg:RG g g3)(hB:RS B B3)(hG:∀ns' e' h',Stp ns e h ns' e' h'->G h'):
 ∀{ds:List D}{vs:List Val},Rds (Oc X ns) h ds vs->∀{ns1:Ns}{e1:E3}{c_:AE}{h1:AH},Stp ns e h ns1 e1 h1->Sat X h0 ns1 e1 c_ h1->PoS X h0 ns e h (gR G g B ds c_ h1) (dm g3 B3 vs e1):=by
 intro ds
 induction ds with
 |
  nil=>
  intro vs r ns1 e1 c_ h1 a1 S1
  cases r
  unfold gR
  rw[if_pos (hG _ _ _ a1)]
  exact .nx a1 S1
 |
  cons d0 ds ih=>
  intro vs r ns1 e1 c_ h1 a1 S1
  cases r with
  |
   cons r rr=>
   unfold gR dm
   rw[if_pos (hG _ _ _ a1)]
   split
   ·rename_i e2 q
    obtain⟨ae2,bn,p2,S2,a2⟩:=hg _ _ _ _ _ _ _ _ _ S1 (r.mono (a1.mov S)) q
    rw[p2]
    have a12:=a1.trans S a2
    show PoS X h0 ns e h ((B ae2 h1).loop _) _
    refine PoS.loop (ae:=ae) (PoS.after S a12 (hB X h0 bn e2 ae2 h1 S2)) λae3 h3 ns3 e3 a3 S3=>ih rr a3 S3
   ·trivial
def E6(hI:RI I I3)(hg:RG g g3)(hB:RS B B3):RS (vB I g B) (wFor I3 g3 B3):=λX h0 ns e ae h S=>PoS.toS (hI X h0 ns e ae h S) λit p h1 ns1 e1 a1 S1 r1=>by
 obtain⟨r2,gd,hk⟩:=r1
 refine PoS.after S a1 (PoS.unl hk ?_)
 have S2:=S1.lockO p.2
 exact AN S2 hg hB (λns' e' h' a=>gd h' (AA S1 hk a)) r2 .refl S2
def whV(c:MT3)(B:MS3):Nat->MS3
 |0,_=>.stuck
 |k+1,e=>(c e).toS λb e1=>if b=true then (B e1).loop (whV c B k) else .nx e1
open Classical in
def wWh(c:MT3)(B:MS3):MS3:=λe=>if q:∃k,whV c B k e ≠ .stuck then whV c B q.choose e else .stuck
theorem jy{c:MT3}{B:MS3}:∀{k:Nat}{e:E3},whV c B k e ≠ .stuck->whV c B (k+1) e=whV c B k e
 |0,_,q=>absurd rfl q
 |
  k+1,e,q=>by
  have e1:whV c B (k+2) e=(c e).toS λb e1=>if b=true then (B e1).loop (whV c B (k+1)) else .nx e1:=rfl
  have e2:whV c B (k+1) e=(c e).toS λb e1=>if b=true then (B e1).loop (whV c B k) else .nx e1:=rfl
  rw[e2] at q
  rw[e1,e2]
  cases r:c e with
  |exc _ _=>rfl
  |stuck=>rfl
  |
   ok b h1=>
   rw[r] at q
   cases b with
   |false=>rfl
   |
    true=>
    have q':(B h1).loop (whV c B k) ≠ .stuck:=q
    show (B h1).loop (whV c B (k+1))=(B h1).loop (whV c B k)
    cases s:B h1 with
    |nx a2=>rw[s] at q';exact jy q'
    |ct a2=>rw[s] at q';exact jy q'
    |_=>rfl
def tR{c:MT3}{B:MS3}{k j:Nat}{e:E3}(q:whV c B k e ≠ .stuck)(hj:k<=j):whV c B j e=whV c B k e:=by
 induction hj with
 |refl=>rfl
 |step _ ih=>rw[jy (by rw[ih];exact q),ih]
def kB{c:MT3}{B:MS3}{k:Nat}{e:E3}(q:whV c B k e ≠ .stuck):wWh c B e=whV c B k e:=by
 have hq:∃k,whV c B k e ≠ .stuck:=⟨k,q⟩
 unfold wWh
 rw[dif_pos hq]
 rcases Nat.le_total hq.choose k with z |z
 ·exact (tR hq.choose_spec z).symm
 ·exact tR q z
def xi(c:MT3)(B:MS3)(e:E3):wWh c B e=(c e).toS λb e1=>if b=true then (B e1).loop (wWh c B) else .nx e1:=by
 by_cases q:∃k,whV c B k e ≠ .stuck
 ·obtain⟨k,q⟩:=q
  rw[kB q]
  cases k with
  |zero=>exact absurd rfl q
  |
   succ k=>
   have e2:whV c B (k+1) e=(c e).toS λb e1=>if b=true then (B e1).loop (whV c B k) else .nx e1:=rfl
   rw[e2] at q ⊢
   cases r:c e with
   |exc _ _=>rfl
   |stuck=>rfl
   |
    ok b h1=>
    rw[r] at q
    cases b with
    |false=>rfl
    |
     true=>
     have q':(B h1).loop (whV c B k) ≠ .stuck:=q
     show (B h1).loop (whV c B k)=(B h1).loop (wWh c B)
     cases s:B h1 with
     |nx a2=>rw[s] at q';exact (kB q').symm
     |ct a2=>rw[s] at q';exact (kB q').symm
     |_=>rfl
 ·have e0:wWh c B e=.stuck:=by unfold wWh;rw[dif_neg q]
  rw[e0]
  have hs:∀k,whV c B (k+1) e=.stuck:=λk=>Jo λz=>q ⟨_,z⟩
  cases r:c e with
  |stuck=>rfl
  |
   exc c' h'=>
   have:=hs 0
   unfold whV at this
   rw[r] at this
   cases this
  |
   ok b h1=>
   cases b with
   |
    false=>
    have:=hs 0
    unfold whV at this
    rw[r] at this
    cases this
   |
    true=>
    have h2:∀k,(B h1).loop (whV c B k)=.stuck:=λk=>by
     have:=hs k
     unfold whV at this
     rw[r] at this
     exact this
    show SR3.stuck=(B h1).loop (wWh c B)
    have lim:∀a2,(∀k,whV c B k a2=.stuck)->wWh c B a2=.stuck:=λa2 z=>by
     unfold wWh
     rw[dif_neg (λ⟨k,y⟩=>y (z k))]
    cases s:B h1 with
    |nx a2=>rw[s] at h2;exact (lim a2 h2).symm
    |ct a2=>rw[s] at h2;exact (lim a2 h2).symm
    |stuck=>rfl
    |_=>have:=h2 0;rw[s] at this;cases this
def BI(p:PoS X h0 ns e h r2 r3)(q:r3 ≠ .stuck):r2 ≠ .stuck:=by
 cases r3 with
 |stuck=>exact absurd rfl q
 |nx e'=>obtain⟨a_,h',ns',z,_⟩:=p;rw[z];intro y;cases y
 |ct e'=>obtain⟨a_,h',ns',z,_⟩:=p;rw[z];intro y;cases y
 |bk e'=>obtain⟨a_,h',ns',z,_⟩:=p;rw[z];intro y;cases y
 |exc c e'=>obtain⟨a_,h',ns',z,_⟩:=p;rw[z];intro y;cases y
 |rt r e'=>obtain⟨d,a_,h',ns',z,_⟩:=p;rw[z];intro y;cases y
theorem vh(hc:RT c c3)(hB:RS B B3):∀(k:Nat) (X:Nat->Prop) (h0:Nat) (ns:Ns) (e:E3) (ae:AE) (h:AH),Sat X h0 ns e ae h->PoS X h0 ns e h (whN c B k ae h) (whV c3 B3 k e)
 |0,_,_,_,_,_,_,_=>trivial
 |
  k+1,X,h0,ns,e,ae,h,S=>by
  refine PoS.toS (hc X h0 ns e ae h S) λb b' h1 ns1 e1 a1 S1 r1=>?_
  cases r1
  try dsimp only
  split
  ·exact PoS.after S a1 (PoS.loop (ae:=ae) (hB X h0 ns1 e1 ae h1 S1) λae2 h2 bn e2 a2 S2=>PoS.after S1 a2 (vh hc hB k X h0 bn e2 ae2 h2 S2))
  ·exact .nx a1 S1
def GD(hc:RT c c3)(hB:RS B B3):RS (sWh c B) (wWh c3 B3):=λX h0 ns e ae h S=>by
 by_cases q:∃k,whV c3 B3 k e ≠ .stuck
 ·obtain⟨k,q⟩:=q
  rw[kB q]
  have p:=vh hc hB k X h0 ns e ae h S
  rw[tE (BI p q)]
  exact p
 ·unfold wWh;rw[dif_neg q];trivial
end
def ee(o:Option Nat)(s:Sl)(e:E3):E3:=match o,s with
 |some i,.mu v=>(match e[i]? with
  |some t=>e.set i (t.re v)
  |none=>e)
 |_,_=>e
def aS:List (Option Nat)->E3->E3->E3
 |o::sub,s::inner,e=>aS sub inner (ee o s e)
 |_,_,e=>e
def p9(hn:∀v,o=some i->s=.mu v->False):(ee o s e)[i]?=e[i]?:=by
 unfold ee
 split
 ·rename_i i' v
  split
  ·rename_i t q
   by_cases z:i=i'
   ·subst z;exact (hn v rfl rfl).elim
   ·rw[aU z]
  ·rfl
 ·rfl
theorem kR:∀{sub:Kd}{e2 e:E3}{i:Nat},(∀(j:Nat) v,sub[j]?=some (some i)->e2[j]?=some (.mu v)->False)->(aS sub e2 e)[i]?=e[i]?
 | [],_,_,_,_=>rfl
 |_::_,[],_,_,_=>rfl
 |
  o::sub,s::e2,e,i,hn=>by
  show (aS sub e2 (ee o s e))[i]?=_
  rw[kR (λj v q1 q2=>hn (j+1) v (by simpa using q1) (by simpa using q2))]
  exact p9 λv z1 z2=>hn 0 v (by rw[z1];rfl) (by rw[z2];rfl)
theorem qT:∀{sub:Kd}{e2 e:E3}{i j:Nat}{v:Val},(∀(j k:Nat) i,sub[j]?=some (some i)->sub[k]?=some (some i)->j=k)->sub[j]?=some (some i)->e2[j]?=some (.mu v)->(aS sub e2 e)[i]?=(e[i]?).map (Sl.re · v)
 | [],_,_,_,j,_,_,q,_=>by simp at q
 |_::_,[],_,_,j,_,_,_,q=>by simp at q
 |
  o::sub,s::e2,e,i,0,v,hj,q1,q2=>by
  have z1:o=some i:=by simpa using q1
  have z2:s=.mu v:=by simpa using q2
  subst z1 z2
  show (aS sub e2 (ee (some i) (.mu v) e))[i]?=_
  rw[kR (λk u y1 _=>by have:=hj 0 (k+1) i rfl (by simpa using y1);omega)]
  unfold ee
  dsimp only
  split
  ·rename_i t q;rw[aZ (h_.mp q).1,q];rfl
  ·rename_i q;rw[q];rfl
 |
  o::sub,s::e2,e,i,j+1,v,hj,q1,q2=>by
  show (aS sub e2 (ee o s e))[i]?=_
  have q1':sub[j]?=some (some i):=by simpa using q1
  rw[qT (λa b c y1 y2=>by have:=hj (a+1) (b+1) c (by simpa using y1) (by simpa using y2);omega) q1' (by simpa using q2)]
  rw[p9 λv z1 _=>by have:=hj 0 (j+1) i (by rw[z1];rfl) q1;omega]
def br(sub:Kd)(ns:Ns):Ns:=sub.map λo=>o.bind λi=>(ns[i]?).bind id
def bG{sub:Kd}{ns:Ns}{j n:Nat}(q:(br sub ns)[j]?=some (some n)):∃i,sub[j]?=some (some i)/\ns[i]?=some (some n):=by
 unfold br at q
 rw[Em] at q
 cases z:sub[j]? with
 |none=>rw[z] at q;cases q
 |
  some o=>
  rw[z] at q
  cases o with
  |none=>cases q
  |
   some i=>
   refine⟨i,rfl,?_⟩
   have q':(ns[i]?).bind id=some n:=C_ q
   cases y:ns[i]? with
   |none=>rw[y] at q';cases q'
   |some w=>rw[y] at q';have:w=some n:=q';rw[this]
def yM{sub:Kd}{ns:Ns}{j i:Nat}{w:Option Nat}(q:sub[j]?=some (some i))(q2:ns[i]?=some w):(br sub ns)[j]?=some w:=by
 unfold br
 rw[Em,q]
 show some ((ns[i]?).bind id)=some w
 rw[q2];rfl
structure Lnk(sub:Kd)(e ei:E3):Prop where
 inj:∀(j k:Nat) (i:Nat),sub[j]?=some (some i)->sub[k]?=some (some i)->j=k
 mu:∀(j:Nat) (v:Val),ei[j]?=some (.mu v)->∃(i:Nat) (s:Sl),sub[j]?=some (some i)/\e[i]?=some s/\s.mt=true
 mt:∀(j:Nat) (s:Sl),ei[j]?=some s->s.mt=true->∃v,s=.mu v
def Sat.back(S:Sat X h0 ns e ae h)(K:Lnk sub e ei)(a:Stp (br sub ns) ei h bn e2 h2)
 (hY:∀n,Y n->n<h2.length/\(X n\/h.length<=n)) (hXY:∀n,X n->Y n)
 (hc:∀(j:Nat) v n,e2[j]?=some (.mu v)->bn[j]?=some (some n)->∃o,h2[n]?=some o/\bp o/\Rc (Oc Y ns) h2 o v):Sat Y h0 ns (aS sub e2 e) ae h2/\Stp ns e h ns (aS sub e2 e) h2:=by
 have hM:∀n,Mt (br sub ns) ei n->Mt ns e n:=λn ⟨j,s,z1,z2,z3⟩=>by
  obtain⟨v,rfl⟩:=K.mt j s z2 z3
  obtain⟨i,s',y1,y2,y3⟩:=K.mu j v z2
  obtain⟨i',y4,y5⟩:=bG z1
  rw[y1] at y4;cases y4
  exact⟨i,s',y5,y2,y3⟩
 have mv:Mov (Oc X ns) (Oc Y ns) h h2:=λn o p q=>⟨⟨λz=>by
  rcases (hY n z).2 with z |z
  ·exact p.1 z
  ·have:=bJ q;omega,p.2⟩,a.keep n o q λz=>by
   obtain⟨j,s,z1,_⟩:=z
   obtain⟨i,_,y⟩:=bG z1
   exact p.2 (aO.mpr ⟨i,y⟩)⟩
 have key:∀i:Nat,(∃(j:Nat) (v:Val) (s:Sl),sub[j]?=some (some i)/\e2[j]?=some (.mu v)/\e[i]?=some s/\s.mt=true/\(aS sub e2 e)[i]?=some (s.re v)/\bn[j]?=ns[i]?)\/((∀n,ns[i]?=some (some n)->¬ Mt (br sub ns) ei n)/\(aS sub e2 e)[i]?=e[i]?):=λi=>by
  by_cases hx:∃(j:Nat) (v:Val),sub[j]?=some (some i)/\e2[j]?=some (.mu v)
  ·obtain⟨j,v,q1,q2⟩:=hx
   obtain⟨u,q3,q4⟩:=a.mu j v q2
   obtain⟨i',s,y1,y2,y3⟩:=K.mu j u q3
   rw[q1] at y1;cases y1
   refine .inl ⟨j,v,s,q1,q2,y2,y3,by rw[qT K.inj q1 q2,y2];rfl,?_⟩
   rw[q4]
   have hl:i<ns.length:=by rw[S.l2];exact (h_.mp y2).1
   rw[x_ hl]
   exact yM q1 (x_ hl)
  ·refine .inr ⟨λn q ⟨j,s,z1,z2,z3⟩=>hx ?_,kR λj v y1 y2=>hx ⟨j,v,y1,y2⟩⟩
   obtain⟨v,rfl⟩:=K.mt j s z2 z3
   obtain⟨i',y4,y5⟩:=bG z1
   have:i'=i:=S.inj i' i n y5 q
   subst this
   obtain⟨v',y6,_⟩:=a.mu' j v z2
   exact⟨j,v',y4,y6⟩
 have lenB:(aS sub e2 e).length=e.length:=by
  clear key hc a K S hY hXY hM mv
  induction sub generalizing e2 e with
  |nil=>rfl
  |
   cons o sub ih=>
   cases e2 with
   |nil=>rfl
   |
    cons s e2=>
    show (aS sub e2 (ee o s e)).length=_
    rw[ih]
    unfold ee
    split
    ·split
     ·rw[y_]
     ·rfl
    ·rfl
 refine⟨⟨by rw[lenB];exact S.l1,by rw[lenB];exact S.l2,w_ S.lh a.len,λn z=>(hY n z).1,S.inj,λi n q z=>?_,λi s q=>?_⟩,⟨a.len,λm o q hm=>a.keep m o q λz=>hm (hM m z),λ_ _ q=>.inl q,λi s q hl=>?_,λi s q hl=>?_,λi v q=>?_,λi v q=>?_⟩⟩
 ·rcases (hY n z).2 with z |z
  ·exact S.nx i n q z
  ·obtain⟨_,_,_,_,_,_,_,q',_⟩:=S.own q
   have:=bJ q';omega
 ·rcases key i with ⟨j,v,s0,k1,k2,k3,k4,k5,k6⟩ |⟨k1,k2⟩
  ·rw[k5] at q;cases q
   have y:=S.sl i s0 k3
   cases s0 with
   |
    ow u=>
    obtain⟨n,o,y1,y2,y3,_⟩:=y
    obtain⟨o',z1,z2,z3⟩:=hc j v n k2 (by rw[k6];exact y1)
    exact⟨n,o',y1,y2,y3,z1,z2,z3⟩
   |
    mu u=>
    obtain⟨n,o,y1,y2,_⟩:=y
    obtain⟨o',z1,z2,z3⟩:=hc j v n k2 (by rw[k6];exact y1)
    exact⟨n,o',y1,y2,z1,z2,z3⟩
   |_=>cases k4
  ·rw[k2] at q
   exact (S.sl i s q).mono mv λn o q1 q2=>a.keep n o q2 (k1 n q1)
 ·rcases key i with ⟨j,v,s0,k1,k2,k3,k4,k5,k6⟩ |⟨k1,k2⟩
  ·rw[k3] at q;cases q;cases s <;> first |cases hl;done |cases k4;done
  ·rw[k2];exact⟨q,rfl⟩
 ·rcases key i with ⟨j,v,s0,k1,k2,k3,k4,k5,k6⟩ |⟨k1,k2⟩
  ·rw[k5] at q;cases q;cases s0 <;> first |cases hl;done |cases k4;done
  ·rw[k2] at q;exact⟨q,rfl⟩
 ·rcases key i with ⟨j,u,s0,k1,k2,k3,k4,k5,k6⟩ |⟨k1,k2⟩
  ·rw[k5] at q
   cases s0 with
   |mu w=>exact⟨w,k3,rfl⟩
   |ow w=>cases q
   |_=>cases k4
  ·rw[k2] at q;exact⟨v,q,rfl⟩
 ·rcases key i with ⟨j,u,s0,k1,k2,k3,k4,k5,k6⟩ |⟨k1,k2⟩
  ·rw[k3] at q;cases q;exact⟨u,k5,rfl⟩
  ·exact⟨v,by rw[k2];exact q,rfl⟩
noncomputable def inS:Sl->Sl
 |.ow v=>.mu v
 |.lo v=>.lm v
 |s=>s
def bR(sub:Kd)(e:E3):E3:=sub.map λo=>match o with
 |none=>.no
 |some i=>match e[i]? with
  |some s=>inS s
  |none=>.no
def lcV(g:MG3)(c:MT3)(F:ME3):List Val->List Val->E3->R3 (List Val)
 | [],acc,e=>.ok acc e
 |v::vs,acc,e=>if acc.length<16777216 then (match g v e with
  |none=>.stuck
  |some e1=>(c e1).bind λb e2=>if b=true then (F e2).bind λt e3=>(match bP e3 t with
   |some (e4,y)=>lcV g c F vs (acc++[y]) e4
   |none=>.stuck) else lcV g c F vs acc e2) else .stuck
def vLC(I:MI3)(sub:Kd)(g:MG3)(c:MT3)(F:ME3):ME3:=λe=>(I e).bind λp e1=>match lcV g c F p.1 [] (bR sub (lockO e1 p.2)) with
 |.ok ys e2=>if ys.length<=16777216 then .ok (.new (.lst ys)) (dC (aS sub e2 (lockO e1 p.2)) p.2) else .stuck
 |_=>.stuck
def ku(sub:Kd):Prop:=∀(j k:Nat) (i:Nat),sub[j]?=some (some i)->sub[k]?=some (some i)->j=k
def vd(h:(sub.filterMap id).Nodup):ku sub:=by
 induction sub with
 |nil=>intro j k i q;simp at q
 |
  cons o sub ih=>
  have ci:(sub.filterMap id).Nodup:=by
   cases o with
   |none=>simpa using h
   |some i=>rw[IE] at h;simp at h;exact h.2
  have hno:∀(i k:Nat),o=some i->sub[k]?=some (some i)->False:=λi k z q=>by
   subst z
   rw[IE] at h
   simp at h
   exact h.1 (Jh q)
  intro j k i q1 q2
  cases j with
  |
   zero=>
   cases k with
   |zero=>rfl
   |succ k=>exact (hno i k (by simpa using q1) (by simpa using q2)).elim
  |
   succ j=>
   cases k with
   |zero=>exact (hno i j (by simpa using q2) (by simpa using q1)).elim
   |succ k=>exact Iw (· + 1) (ih ci j k i (by simpa using q1) (by simpa using q2))
def Xin(X:Nat->Prop)(ns:Ns)(sub:Kd)(n:Nat):Prop:=X n\/(some n∈ns/\some n∉br sub ns)
def jJ(q:some n∈br sub ns):some n∈ns:=by
 obtain⟨j,q⟩:=aO.mp q
 obtain⟨i,_,q2⟩:=bG q
 exact aO.mpr ⟨i,q2⟩
def g8{sub:Kd}{e:E3}{j:Nat}{s:Sl}(q:(bR sub e)[j]?=some s):(sub[j]?=some none/\s=.no)\/(∃i,sub[j]?=some (some i)/\((e[i]?=none/\s=.no)\/∃t,e[i]?=some t/\s=inS t)):=by
 unfold bR at q
 rw[Em] at q
 cases z:sub[j]? with
 |none=>rw[z] at q;cases q
 |
  some o=>
  rw[z] at q
  cases o with
  |none=>cases q;exact .inl ⟨rfl,rfl⟩
  |
   some i=>
   refine .inr ⟨i,rfl,?_⟩
   have q':=C_ q
   dsimp only at q'
   cases y:e[i]? with
   |none=>rw[y] at q';exact .inl ⟨rfl,q'.symm⟩
   |some t=>rw[y] at q';exact .inr ⟨t,rfl,q'.symm⟩
def Sat.inner(S:Sat X h0 ns e ae h)(hs:ku sub):Sat (Xin X ns sub) h0 (br sub ns) (bR sub e) (gL sub ae) h:=by
 refine⟨by unfold gL bR;rw[g_,g_],by unfold br bR;rw[g_,g_],S.lh,λn z=>?_,λj k n q1 q2=>?_,λj n q z=>?_,λj s q=>?_⟩
 ·rcases z with z |⟨z,_⟩
  ·exact S.xl n z
  ·obtain⟨i,z⟩:=aO.mp z
   obtain⟨_,_,_,_,_,_,_,q',_⟩:=S.own z
   exact bJ q'
 ·obtain⟨i,y1,y2⟩:=bG q1
  obtain⟨i',y3,y4⟩:=bG q2
  have:=S.inj i i' n y2 y4
  subst this
  exact hs j k i y1 y3
 ·rcases z with z |⟨_,z⟩
  ·obtain⟨i,y1,y2⟩:=bG q
   exact S.nx i n y2 z
  ·exact z (aO.mpr ⟨j,q⟩)
 ·have mv:Mov (Oc X ns) (Oc (Xin X ns sub) (br sub ns)) h h:=λn o p q=>⟨⟨λz=>by
   rcases z with z |⟨z,_⟩
   ·exact p.1 z
   ·exact p.2 z,λz=>p.2 (jJ z)⟩,q⟩
  have hj:∀{o},sub[j]?=some o->(br sub ns)[j]?=some (o.bind λi=>(ns[i]?).bind id)/\(gL sub ae)[j]?=some (o.bind λi=>(ae[i]?).bind id):=λ{o} z=>by
   unfold br gL
   rw[Em,Em,z]
   exact⟨rfl,rfl⟩
  rcases g8 q with ⟨z,rfl⟩ |⟨i,z,⟨y,rfl⟩ |⟨t,y,rfl⟩⟩
  ·rw[(hj z).1];rfl
  ·rw[(hj z).1]
   show some ((ns[i]?).bind id)=some none
   have:ns[i]?=none:=by
    rw[Jp] at y ⊢
    rw[S.l2];exact y
   rw[this];rfl
  ·have k:=(S.sl i t y).mono mv λ_ _ _ q=>q
   rw[(hj z).1,(hj z).2]
   show SlR _ h0 (some ((ns[i]?).bind id)) (some ((ae[i]?).bind id)) h (inS t)
   have w1:∀x,ns[i]?=some x->some ((ns[i]?).bind id)=some x:=λx q=>by rw[q];rfl
   have w2:∀x,ae[i]?=some x->some ((ae[i]?).bind id)=some x:=λx q=>by rw[q];rfl
   cases t with
   |no=>rw[w1 _ k];rfl
   |sh v=>obtain⟨k1,x,k2,k3⟩:=k;rw[w1 _ k1,w2 _ k2];exact⟨rfl,x,rfl,k3⟩
   |ow v=>obtain⟨m,o,k1,k2,_,k3⟩:=k;rw[w1 _ k1,w2 _ k2];exact⟨m,o,rfl,rfl,k3⟩
   |lo v=>obtain⟨m,o,k1,k2,_,k3⟩:=k;rw[w1 _ k1,w2 _ k2];exact⟨m,o,rfl,rfl,k3⟩
   |mu v=>obtain⟨m,o,k1,k2,k3⟩:=k;rw[w1 _ k1,w2 _ k2];exact⟨m,o,rfl,rfl,k3⟩
   |lm v=>obtain⟨m,o,k1,k2,k3⟩:=k;rw[w1 _ k1,w2 _ k2];exact⟨m,o,rfl,rfl,k3⟩
def rf(hs:ku sub):Lnk sub e (bR sub e):=by
 refine⟨hs,λj v q=>?_,λj s q hm=>?_⟩
 ·rcases g8 q with ⟨_,z⟩ |⟨i,z,⟨_,y⟩ |⟨t,y,y2⟩⟩
  ·cases z
  ·cases y
  ·refine⟨i,t,z,y,?_⟩
   cases t <;> first |rfl |cases y2
 ·rcases g8 q with ⟨_,z⟩ |⟨i,z,⟨_,y⟩ |⟨t,y,y2⟩⟩
  ·subst z;cases hm
  ·subst y;cases hm
  ·subst y2
   cases t with
   |ow v=>exact⟨v,rfl⟩
   |mu v=>exact⟨v,rfl⟩
   |_=>cases hm
section
variable{I:MI}{I3:MI3}{g:MG}{g3:MG3}{c:MT}{c3:MT3}{F:ME}{F3:ME3}
def AZ(S:Sat X h0 ns e ae h)(hg:RG g g3)(hc:RT c c3)(hF:RE F F3)(hG:∀ns' e' h',Stp ns e h ns' e' h'->G h'):
 ∀
  {ds:List D}{vs:List Val},Rds (Oc X ns) h ds vs->∀{acc:List D}{accv:List Val}{ns1:Ns}{e1:E3}{c_:AE}{h1:AH},Stp ns e h ns1 e1 h1->Sat X h0 ns1 e1 c_ h1->Rds (Oc X ns1) h1 acc accv->lcV g3 c3 F3 vs accv e1=.ok ys e2->
  ∃dy h2 bn ae2,lcL G g c F ds acc c_ h1=.ok dy h2/\Stp ns e h bn e2 h2/\Sat X h0 bn e2 ae2 h2/\Rds (Oc X bn) h2 dy ys:=by
 intro ds
 induction ds with
 |
  nil=>
  intro vs r acc accv ns1 e1 c_ h1 a1 S1 ra q
  cases r
  unfold lcL
  rw[if_pos (hG _ _ _ a1)]
  cases q
  exact⟨acc,h1,ns1,c_,rfl,a1,S1,ra⟩
 |
  cons d0 ds ih=>
  intro vs r acc accv ns1 e1 c_ h1 a1 S1 ra q
  cases r with
  |
   cons r rr=>
   rename_i v vs
   unfold lcV at q
   unfold lcL
   by_cases hl:accv.length<16777216
   ·rw[if_pos hl] at q
    rw[if_pos ⟨hG _ _ _ a1,by rw[ra.len];exact hl⟩]
    cases q1:g3 v e1 with
    |none=>rw[q1] at q;cases q
    |
     some e3=>
     rw[q1] at q
     dsimp only at q
     obtain⟨ae3,ns3,p3,S3,a3⟩:=hg _ _ _ _ _ _ _ _ _ S1 (r.mono (a1.mov S)) q1
     rw[p3,eU]
     have a13:=a1.trans S a3
     have pc:=hc X h0 ns3 e3 ae3 h1 S3
     cases q4:c3 e3 with
     |stuck=>rw[q4] at q;cases q
     |exc _ _=>rw[q4] at q;cases q
     |
      ok b e4=>
      rw[q4] at q pc
      obtain⟨b',h4,ns4,p4,a4,S4,rfl⟩:=pc
      rw[p4,eU]
      have a14:=a13.trans S a4
      have ra4:=(ra.mono (a3.mov S1)).mono (a4.mov S3)
      have q':(if b'=true then (F3 e4).bind λt e3=>(match bP e3 t with
       |some (e4,y)=>lcV g3 c3 F3 _ (accv++[y]) e4
       |none=>.stuck) else lcV g3 c3 F3 _ accv e4)=.ok ys e2:=q
      by_cases hb:b'=true
      ·rw[if_pos hb] at q' ⊢
       have pF:=hF X h0 0 ns4 e4 ae3 h4 S4 (HW _)
       cases q5:F3 e4 with
       |stuck=>rw[q5] at q';cases q'
       |exc _ _=>rw[q5] at q';cases q'
       |
        ok t e5=>
        rw[q5] at q' pF
        obtain⟨d5,h5,ns5,p5,a5,S5,r5⟩:=pF
        rw[p5,eU]
        have q'':(match bP e5 t with
         |some (e4,y)=>lcV g3 c3 F3 _ (accv++[y]) e4
         |none=>.stuck)=.ok ys e2:=q'
        cases q6:bP e5 t with
        |none=>rw[q6] at q'';cases q''
        |
         some w=>
         obtain⟨e6,y⟩:=w
         rw[q6] at q''
         obtain⟨ns6,S6,a6,r6⟩:=ek S5 r5 q6
         exact ih rr ((a14.trans S a5).trans S a6) S6 (((ra4.mono (a5.mov S4)).mono (a6.mov S5)).append (.cons r6 .nil)) q''
      ·rw[if_neg hb] at q' ⊢
       exact ih rr a14 S4 ra4 q'
   ·rw[if_neg hl] at q;cases q
def HE(hs:(sub.filterMap id).Nodup)(hI:RI I I3)(hg:RG g g3)(hc:RT c c3)(hF:RE F F3):RE (eLC I sub g c F) (vLC I3 sub g3 c3 F3):=λX h0 L ns e ae h S hl=>
 Po.bind
  S (hI X h0 ns e ae h S) λit p h1 ns1 e1 a1 S1 r1=>by
  try dsimp only
  obtain⟨r2,gd,hk⟩:=r1
  have hs':=vd hs
  have S2:=S1.lockO p.2
  have S3:=S2.inner hs'
  cases q:lcV g3 c3 F3 p.1 [] (bR sub (lockO e1 p.2)) with
  |stuck=>trivial
  |exc _ _=>trivial
  |
   ok ys e2=>
   dsimp only
   split
   ·rename_i hy
    have gd':∀ns' e' h',Stp (br sub ns1) (bR sub (lockO e1 p.2)) h1 ns' e' h'->it.guard h':=λns' e' h' a=>gd h' λm o qm hm=>a.keep m o qm λ⟨j,s,z1,z2,z3⟩=>by
     obtain⟨i,y1,y2⟩:=bG z1
     rcases hm with hm |⟨k,hk1,hk2⟩
     ·exact hm.2 (aO.mpr ⟨i,y2⟩)
     ·have:i=k:=S1.inj i k m y2 hk2
      subst this
      obtain⟨s',w1,w2⟩:=hk i hk1
      rcases g8 z2 with ⟨z,_⟩ |⟨i',z,y⟩
      ·rw[y1] at z;cases z
      ·rw[y1] at z;cases z
       have hl:(lockO e1 p.2)[i]?=some (gK s'):=by rw[hk1];exact la w1
       rcases y with ⟨y,_⟩ |⟨t,y,rfl⟩
       ·rw[hl] at y;cases y
       ·rw[hl] at y;cases y
        cases s' <;> first |cases w2;done |cases z3;done
    have mvi:Mov (Oc X ns1) (Oc (Xin X ns1 sub) (br sub ns1)) h1 h1:=λn o p q=>⟨⟨λz=>by
     rcases z with z |⟨z,_⟩
     ·exact p.1 z
     ·exact p.2 z,λz=>p.2 (jJ z)⟩,q⟩
    obtain⟨dy,h2,bn,ae2,p2,a2,S4,r4⟩:=AZ (G:=it.guard) S3 hg hc hF gd' (r2.mono mvi) .refl S3 .nil q
    have k3:∀n,Oc (Xin X ns1 sub) bn n->Oc X ns1 n:=λn z=>⟨λy=>z.1 (.inl y),λy=>by
     by_cases w:some n∈br sub ns1
     ·obtain⟨j,w⟩:=aO.mp w
      obtain⟨s,v,o,b1,b2,_⟩:=S3.own w
      rcases b2 with b2 |b2
      ·obtain⟨v',rfl⟩:=(rf (e:=lockO e1 p.2) hs').mt j s b1 b2
       obtain⟨u,c1,c2⟩:=a2.mu' j v' b1
       exact z.2 (aO.mpr ⟨j,by rw[c2];exact w⟩)
      ·obtain⟨c1,c2⟩:=a2.lk j s b1 b2
       exact z.2 (aO.mpr ⟨j,by rw[c2];exact w⟩)
     ·exact z.1 (.inr ⟨y,w⟩)⟩
    have bk:=S2.back (Y:=X) (rf hs') a2 (λn z=>⟨t_ (S2.xl n z) a2.len,.inl z⟩) (λ_ z=>z) λj v n q1 q2=>by
     obtain⟨s,u,o,b1,b2,b3,b4,b5,b6,b7⟩:=S4.own q2
     rw[q1] at b1;cases b1
     cases b3
     exact⟨o,b5,b6,b7.mono λm o' z y=>⟨k3 m z,y⟩⟩
    obtain⟨S5,a5⟩:=bk
    have r5:Rds (Oc X ns1) h2 dy ys:=r4.mono λm o' z y=>⟨k3 m z,y⟩
    have d_:∀(e':E3),Sat X h0 ns1 e' ae h2->Stp ns1 e1 h1 ns1 e' h2->Po X h0 ns1 e1 ae h1 (relE X h0 L ae) ((noX (lcL it.guard g c F it.items [] (gL sub ae) h1)).bind cG) (.ok (.new (.lst ys)) e'):=λe' S6 a6=>by
     rw[p2]
     have pp:=BvR.po (L:=L) (r:=cG dy h2) (b:=.new (.lst ys)) S6 (w_ hl (w_ a1.len a6.len)) ⟨.lst dy,by unfold cG;rw[if_pos (by rw[r5.len];exact hy)],trivial,.lst r5⟩
     obtain⟨d,h',ns',y,y1,y2,y3⟩:=pp
     exact⟨d,h',ns',y,a6.trans S1 y1,y2,y3⟩
    cases hp:p.2 with
    |
     none=>
     rw[hp] at S5 a5
     exact d_ _ S5 a5
    |
     some k=>
     rw[hp] at S5 a5
     obtain⟨s,w1,w2⟩:=hk k hp
     exact d_ _ (S5.unlock k) (a5.unlock w1 w2)
   ·trivial
end
inductive R3F where
 |ok (r:Rt) (mv:List Val) |exc (c:Str) (mv:List Val) |stuck
abbrev Fn3:=List Val->R3F
def sl1(b:Bool)(v:Val):Sl:=if b=true then .mu v else .sh v
def sls(ms:List Bool)(vs:List Val):E3:=List.zipWith sl1 ms vs
def aA:List Bool->List Val->E3
 |true::ms,v::vs=>.mu v::aA ms vs
 |true::ms,[]=>.no::aA ms []
 |false::ms,vs=>.no::aA ms vs
 | [],_=>[]
def muV:List Bool->E3->Option (List Val)
 |true::ms,.mu v::e=>(muV ms e).map (v :: ·)
 |true::_,_=>none
 |false::ms,_::e=>muV ms e
 |false::_,[]=>none
 | [],_=>some []
def RFp(X:Nat->Prop)(ps:Ns)(ms:List Bool)(vs:List Val)(ds:List D)(h:AH)(r2:R D):R3F->Prop
 |.stuck=>True
 |.ok r mv=>∃d h',r2=.ok d h'/\Stp ps (sls ms vs) h ps (aA ms mv) h'/\RtR X h.length ps (aA ms mv) (ds.map some) h' d r
 |.exc c mv=>∃h',r2=.exc c h'/\Stp ps (sls ms vs) h ps (aA ms mv) h'/\Sat X h.length ps (aA ms mv) (ds.map some) h'
def RF(ms:List Bool)(G2:Fn)(G3:Fn3):Prop:=∀X ps ds vs h,vs.length=ms.length->Sat X h.length ps (sls ms vs) (ds.map some) h->RFp X ps ms vs ds h (G2 ds h) (G3 vs)
def fnV(ms:List Bool)(N:Nat)(F:MS3):Fn3:=λvs=>if vs.length=ms.length then (match F (sls ms vs++List.replicate (N-vs.length) .no) with
 |.nx e=>(match muV ms e with |some mv=>.ok (.val .non) mv |none=>.stuck)
 |.rt r e=>(match muV ms e with |some mv=>.ok r mv |none=>.stuck)
 |.exc c e=>(match muV ms e with |some mv=>.exc c mv |none=>.stuck)
 |_=>.stuck) else .stuck
def dD{ms:List Bool}{vs:List Val}{i:Nat}{s:Sl}(q:(sls ms vs)[i]?=some s):∃b v,ms[i]?=some b/\vs[i]?=some v/\s=sl1 b v:=by
 unfold sls at q
 rw[IJ] at q
 cases h1:ms[i]? with
 |none=>rw[h1] at q;cases q
 |
  some b=>
  cases h2:vs[i]? with
  |none=>rw[h1,h2] at q;cases q
  |some v=>rw[h1,h2] at q;cases q;exact⟨b,v,rfl,rfl,rfl⟩
theorem fq:∀{ms:List Bool}{e:E3}{mv:List Val}{i:Nat}{s:Sl},muV ms e=some mv->(aA ms mv)[i]?=some s->(ms[i]?=some false/\s=.no)\/(ms[i]?=some true/\∃v,e[i]?=some (.mu v)/\s=.mu v)
 | [],_,_,_,_,_,q=>by unfold aA at q;simp at q
 |
  true::ms,.mu v::e,mv,i,s,q,q2=>by
  obtain⟨mv',z1,z2⟩:=E_.mp (show (muV ms e).map (v :: ·)=some mv from q)
  subst z2
  cases i with
  |zero=>
   right;have:Sl.mu v=s:=by simpa [aA] using q2
   subst this;exact⟨rfl,v,rfl,rfl⟩
  |
   succ i=>
   have:=fq (i:=i) (s:=s) z1 (by simpa [aA] using q2)
   simpa using this
 |true::ms,[],mv,i,s,q,q2=>by cases q
 |true::ms,.no::e,mv,i,s,q,q2=>by cases q
 |true::ms,.sh v::e,mv,i,s,q,q2=>by cases q
 |true::ms,.ow v::e,mv,i,s,q,q2=>by cases q
 |true::ms,.lo v::e,mv,i,s,q,q2=>by cases q
 |true::ms,.lm v::e,mv,i,s,q,q2=>by cases q
 |false::ms,[],mv,i,s,q,q2=>by cases q
 |
  false::ms,t::e,mv,i,s,q,q2=>by
  cases i with
  |zero=>
   left;have:Sl.no=s:=by simpa [aA] using q2
   exact⟨rfl,this.symm⟩
  |
   succ i=>
   have:=fq (i:=i) (s:=s) (show muV ms e=some mv from q) (by simpa [aA] using q2)
   simpa using this
theorem kW:∀{ms:List Bool}{e:E3}{mv:List Val}{i:Nat},muV ms e=some mv->ms[i]?=some true->∃v,e[i]?=some (.mu v)/\(aA ms mv)[i]?=some (.mu v)
 | [],_,_,i,_,q=>by simp at q
 |
  true::ms,.mu v::e,mv,i,q,q2=>by
  obtain⟨mv',z1,z2⟩:=E_.mp (show (muV ms e).map (v :: ·)=some mv from q)
  subst z2
  cases i with
  |zero=>exact⟨v,rfl,rfl⟩
  |
   succ i=>
   obtain⟨u,y1,y2⟩:=kW (i:=i) z1 (by simpa using q2)
   exact⟨u,by simpa using y1,by simpa [aA] using y2⟩
 |true::ms,[],mv,i,q,q2=>by cases q
 |true::ms,.no::e,mv,i,q,q2=>by cases q
 |true::ms,.sh v::e,mv,i,q,q2=>by cases q
 |true::ms,.ow v::e,mv,i,q,q2=>by cases q
 |true::ms,.lo v::e,mv,i,q,q2=>by cases q
 |true::ms,.lm v::e,mv,i,q,q2=>by cases q
 |false::ms,[],mv,i,q,q2=>by cases q
 |
  false::ms,t::e,mv,i,q,q2=>by
  cases i with
  |zero=>simp at q2
  |
   succ i=>
   obtain⟨u,y1,y2⟩:=kW (i:=i) (show muV ms e=some mv from q) (by simpa using q2)
   exact⟨u,by simpa using y1,by simpa [aA] using y2⟩
theorem fg:∀{ms:List Bool}{mv:List Val},(aA ms mv).length=ms.length
 | [],_=>rfl
 |true::ms,v::mv=>by show (aA ms mv).length+1=ms.length+1;rw[fg]
 |true::ms,[]=>by show (aA ms []).length+1=ms.length+1;rw[fg]
 |false::ms,mv=>by show (aA ms mv).length+1=ms.length+1;rw[fg]
def yt(hF:RS F F3):RF ms (fnD N F) (fnV ms N F3):=λX ps ds vs h hl S=>by
 unfold fnV
 rw[if_pos hl]
 have lS:(sls ms vs).length=vs.length:=by unfold sls;rw[IT];omega
 have lD:ds.length=vs.length:=by have:=S.l1;rw[g_,lS] at this;exact this
 have lP:ps.length=vs.length:=S.l2.trans lS
 have ltS:∀{i:Nat},i<ms.length->i<(sls ms vs).length:=λh=>by omega
 have ltP:∀{i:Nat},i<(sls ms vs).length->i<ps.length:=λh=>S.l2.symm ▸ h
 have S1
  : Sat X h.length (ps++List.replicate (N-vs.length) none) (sls ms vs++List.replicate (N-vs.length) .no) (ds.map some++List.replicate (N-vs.length) none) h:=by
  have mns:∀n,some n∈ps++List.replicate (N-vs.length) (none:Option Nat) ↔ some n∈ps:=λn=>by
   rw[JL]
   constructor
   ·rintro (z |z)
    ·exact z
    ·have:=List.eq_of_mem_replicate z;cases this
   ·exact .inl
  have gns:∀{i n:Nat},(ps++List.replicate (N-vs.length) (none:Option Nat))[i]?=some (some n)->ps[i]?=some (some n):=λ{i n} q=>by
   rw[JJ] at q
   split at q
   ·exact q
   ·rw[Ig] at q;split at q <;> cases q
  refine⟨?_,?_,S.lh,S.xl,λi j n q1 q2=>S.inj i j n (gns q1) (gns q2),λi n q=>S.nx i n (gns q),λi s q=>?_⟩
  ·rw[z_,z_,Im,Im,S.l1]
  ·rw[z_,z_,Im,Im,S.l2]
  ·rw[JJ] at q
   split at q
   ·rename_i hi
    have k:=S.sl i s q
    rw[B_ (ltP hi),B_ (by rw[S.l1];exact hi)]
    exact k.mono (λn o p q=>⟨⟨p.1,λz=>p.2 ((mns n).mp z)⟩,q⟩) λ_ _ _ q=>q
   ·rename_i hi
    rw[Ig] at q
    split at q
    ·cases q
     rw[HX (by rw[S.l2];exact Nat.le_of_not_lt hi),Ig,if_pos (by rw[S.l2];assumption)]
     rfl
    ·cases q
 have p:=hF _ _ _ _ _ _ S1
 have e2:fnD N F ds h=match F (ds.map some++List.replicate (N-vs.length) none) h with
  |.nx _ h'=>.ok .non h'
  |.rt d h'=>.ok d h'
  |.exc c _ h'=>.exc c h'
  |_=>.stuck:=by rw[<- lD];rfl
 rw[e2]
 have d_:∀(Y:Nat->Prop) (ns':Ns) (e':E3) (a_:AE) (h':AH) (mv:List Val),(∀n,X n->Y n)->Stp (ps++List.replicate (N-vs.length) none) (sls ms vs++List.replicate (N-vs.length) .no) h ns' e' h'->Sat Y h.length ns' e' a_ h'->muV ms e'=some mv->
  Stp ps (sls ms vs) h ps (aA ms mv) h'/\Sat Y h.length ps (aA ms mv) (ds.map some) h'/\∀n,Oc Y ns' n->Oc Y ps n:=by
  intro Y ns' e' a_ h' mv hXY a S2 qm
  have kmu:∀{i:Nat},ms[i]?=some true->∃v u n o,e'[i]?=some (.mu v)/\(aA ms mv)[i]?=some (.mu v)/\(sls ms vs)[i]?=some (.mu u)/\ns'[i]?=ps[i]?/\ps[i]?=some (some n)/\(ds.map some)[i]?=some (some (.ref n))/\h'[n]?=some o/\bp o/\Rc (Oc Y ns') h' o v:=by
   intro i hi
   obtain⟨v,y1,y2⟩:=kW qm hi
   have hil:i<ms.length:=(h_.mp hi).1
   obtain⟨u,y3,y4⟩:=a.mu i v y1
   rw[B_ (ltS hil)] at y3
   rw[B_ (ltP (ltS hil))] at y4
   obtain⟨n,o,z1,z2,_⟩:=S.sl i _ y3
   obtain⟨n',o',w1,w2,w3,w4,w5⟩:=S2.sl i _ y1
   rw[y4,z1] at w1;cases w1
   exact⟨v,u,n,o',y1,y2,y3,y4,z1,z2,w3,w4,w5⟩
  have kown:∀{i n:Nat},ps[i]?=some (some n)->ms[i]?=some true:=λ{i n} q=>by
   obtain⟨s,v,o,z1,z2,_⟩:=S.own q
   obtain⟨b,u,y1,_,y2⟩:=dD z1
   cases b with
   |true=>exact y1
   |false=>subst y2;rcases z2 with z2 |z2 <;> cases z2
  have koc:∀n,Oc Y ns' n->Oc Y ps n:=λn z=>⟨z.1,λy=>by
   obtain⟨i,y⟩:=aO.mp y
   obtain⟨v,u,n',o,_,_,_,k1,k2,_⟩:=kmu (kown y)
   exact z.2 (aO.mpr ⟨i,by rw[k1];exact y⟩)⟩
  refine⟨⟨a.len,λm o q hm=>a.keep m o q λ⟨i,s,z1,z2,z3⟩=>hm ?_,λ_ _ q=>.inl q,λi s q hl'=>?_,λi s q hl'=>?_,λi v q=>?_,λi v q=>?_⟩,⟨?_,?_,w_ (j_ _) a.len,S2.xl,S.inj,λi n q z=>?_,λi s q=>?_⟩,koc⟩
  ·rw[JJ] at z1
   split at z1
   ·rename_i hi
    rw[B_ (by rw[<- S.l2];exact hi)] at z2
    exact⟨i,s,z1,z2,z3⟩
   ·rw[Ig] at z1;split at z1 <;> cases z1
  ·obtain⟨b,u,_,_,y⟩:=dD q
   subst y
   cases b <;> cases hl'
  ·rcases fq qm q with ⟨_,z⟩ |⟨_,v,_,z⟩ <;> subst z <;> cases hl'
  ·rcases fq qm q with ⟨_,z⟩ |⟨z,_⟩
   ·cases z
   ·obtain⟨v',u,n,o,_,_,k1,_⟩:=kmu z
    exact⟨u,k1,rfl⟩
  ·obtain⟨b,u,y1,_,y2⟩:=dD q
   cases b with
   |false=>cases y2
   |
    true=>
    obtain⟨v',u,n,o,_,k0,k1,_⟩:=kmu y1
    exact⟨v',k0,rfl⟩
  ·rw[g_,fg];omega
  ·rw[fg];omega
  ·obtain⟨v,u,n',o,_,_,_,k1,k2,_⟩:=kmu (kown q)
   exact S2.nx i n (by rw[k1];exact q) z
  ·rcases fq qm q with ⟨z,rfl⟩ |⟨z,v,z2,rfl⟩
   ·have hil:i<ms.length:=(h_.mp z).1
    have hi:i<(sls ms vs).length:=ltS hil
    obtain⟨b,u,y1,_,y2⟩:=dD (x_ hi)
    rw[z] at y1;cases y1
    have k:=S.sl i _ (x_ hi)
    rw[y2] at k
    exact k.1
   ·obtain⟨v',u,n,o,k0,_,_,k1,k2,k3,k4,k5,k6⟩:=kmu z
    rw[z2] at k0;cases k0
    exact⟨n,o,k2,k3,k4,k5,k6.mono λm o' y q=>⟨koc m y,q⟩⟩
 generalize F3 (sls ms vs++List.replicate (N-vs.length) .no)=r3 at *
 cases r3 with
 |stuck=>trivial
 |bk _=>trivial
 |ct _=>trivial
 |
  nx e'=>
  obtain⟨a_,h',ns',q,a,S2⟩:=p
  rw[q]
  dsimp only
  cases qm:muV ms e' with
  |none=>trivial
  |
   some mv=>
   obtain⟨a3,S3,koc⟩:=d_ X ns' e' a_ h' mv (λ_ z=>z) a S2 qm
   exact⟨.non,h',rfl,a3,S3,.non⟩
 |
  exc c e'=>
  obtain⟨a_,h',ns',q,a,S2⟩:=p
  rw[q]
  dsimp only
  cases qm:muV ms e' with
  |none=>trivial
  |
   some mv=>
   obtain⟨a3,S3,koc⟩:=d_ X ns' e' a_ h' mv (λ_ z=>z) a S2 qm
   exact⟨h',rfl,a3,S3⟩
 |
  rt r e'=>
  obtain⟨d,a_,h',ns',q,a,rr⟩:=p
  rw[q]
  dsimp only
  cases qm:muV ms e' with
  |none=>trivial
  |
   some mv=>
   cases r with
   |
    val v=>
    obtain⟨a3,S3,koc⟩:=d_ X ns' e' a_ h' mv (λ_ z=>z) a rr.1 qm
    exact⟨d,h',rfl,a3,S3,rr.2.mono λm o y q=>⟨koc m y,q⟩⟩
   |
    new v=>
    obtain⟨n,o,z1,z2,z3,z4,z5,z6,z7⟩:=rr
    obtain⟨a3,S3,koc⟩:=d_ (Xn X n) ns' e' a_ h' mv (λ_ z=>.inl z) a z6 qm
    exact⟨d,h',rfl,a3,n,o,z1,z2,z3,z4,z5,S3,z7.mono λm o y q=>⟨koc m y,q⟩⟩
   |
    par i=>
    obtain⟨R1,R2,v,R3⟩:=rr
    obtain⟨a3,S3,koc⟩:=d_ X ns' e' a_ h' mv (λ_ z=>z) a R1 qm
    obtain⟨u,k1,k2⟩:=a.mu i v R3
    have hi:i<(sls ms vs).length:=by
     apply Decidable.byContradiction
     intro hi
     rw[HX (Nat.le_of_not_lt hi),Ig] at k1
     split at k1 <;> cases k1
    rw[B_ hi] at k1
    rw[B_ (by rw[S.l2];exact hi)] at k2
    obtain⟨m,o,w1,w2,_⟩:=S.sl i _ k1
    obtain⟨m',o',x1,x2,_⟩:=R1.sl i _ R3
    rw[k2,w1] at x1;cases x1
    rw[R2] at x2;cases x2
    obtain⟨v',y,_⟩:=a3.mu' i u k1
    exact⟨_,h',rfl,a3,S3,w2,v',y⟩
def f6(i:Nat):List Tm->Bool
 |.bor j::ts=>(i==j) || f6 i ts
 |_::ts=>f6 i ts
 | []=>false
def lq(i:Nat):List Bool->List Tm->Bool
 |true::ms,.bor j::ts=>(i==j) || lq i ms ts
 |_::ms,_::ts=>lq i ms ts
 |_,_=>false
def okA(e:E3):List Bool->List Tm->Bool
 |true::ms,.bor i::ts=>((e[i]?).bind Sl.mv).isSome && !(f6 i ts)&&okA e ms ts
 |true::_,_::_=>false
 |false::ms,.bor i::ts=>!(lq i ms ts)&&okA e ms ts
 |false::ms,_::ts=>okA e ms ts
 | [],[]=>true
 |_,_=>false
def lG(b:Bool)(t:Tm):Option Nat:=match b,t with
 |true,.bor i=>some i
 |_,_=>none
def bu(ms:List Bool)(ts:List Tm):List (Option Nat):=List.zipWith lG ms ts
def aM(e:E3):List Bool->List Tm->List Nat
 |false::ms,.bor i::ts=>(match e[i]? with
  |some (.sh _)=>aM e ms ts
  |_=>i::aM e ms ts)
 |_::ms,_::ts=>aM e ms ts
 |_,_=>[]
mutual
def aQ:Val->Bool
 |.tup xs=>bY xs
 |.lst _=>false
 |.kl _=>false
 |.dct _=>false
 |.set _=>false
 |_=>true
def bY:List Val->Bool
 | []=>true
 |v::vs=>aQ v&&bY vs
end
def kh:List (Key×Val)->Bool
 | []=>true
 |(_,v)::vs=>aQ v&&kh vs
def cn:Val->Bool
 |.lst xs=>bY xs
 |.dct xs=>kh xs
 |.set _=>true
 |_=>false
def iN:Rt->Bool
 |.val v=>aQ v
 |.new v=>cn v
 |.par _=>true
def kQ(e:E3):List Nat->Option E3
 | []=>some e
 |i::is=>match bP e (.bor i) with
  |some (e1,_)=>kQ e1 is
  |none=>none
def Rt.tm(ts:List Tm):Rt->Tm
 |.val v=>.val v
 |.new v=>.new v
 |.par i=>(ts[i]?).getD (.val .non)
def yf(ms:List Bool)(G:Fn3)(A:MA3):ME3:=λe=>(A e).bind λts e1=>match rss e1 ts with
 |none=>.stuck
 |some vs=>if okA e1 ms ts=true then (match G vs with
  |.stuck=>.stuck
  |.ok r mv=>if (aM e1 ms ts).isEmpty || (iN r&&mv.all cn) then .ok (r.tm ts) (aS (bu ms ts) (aA ms mv) e1) else (match kQ e1 (aM e1 ms ts) with
   |some e2=>.ok (r.tm ts) (aS (bu ms ts) (aA ms mv) e2)
   |none=>.stuck)
  |.exc c mv=>if (aM e1 ms ts).isEmpty || mv.all cn then .exc c (aS (bu ms ts) (aA ms mv) e1) else .stuck) else .stuck
section
variable{P P':Nat->Prop}{h h':AH}
def Rd.flat(f:aQ v=true)(r:Rd P h d v):Rd P' h' d v:=
 @Rd.rec P h (λd v _=>aQ v=true->Rd P' h' d v) (λo v _=>aQ v=true->Rd P' h' .non v) (λds vs _=>bY vs=true->Rds P' h' ds vs) (λws us _=>True) (λ_=>.non) (λb _=>.bl b) (λi _=>.int i) (λx _=>.str x) (λn _=>.ty n) (λx _=>.glb x) (λx _=>.exc x) (λ_ ih f=>.tup (ih f)) (λ_ _ f=>absurd f n_) (λ_ _ r _ f=>by cases r <;> exact absurd f n_) (λ_ _ f=>absurd f n_) (λ_ _ f=>absurd f n_) (λ_ _ f=>absurd f n_) (λ_ f=>absurd f n_) (λ_=>.nil) (λ_ _ a b f=>.cons (a (m_ .. ▸ f).1) (b (m_ .. ▸ f).2)) trivial (λ_ _ _ _=>trivial) d v r f
def Rds.flat(f:bY v=true)(r:Rds P h d v):Rds P' h' d v:=
 r.ind (M:=λds vs=>bY vs=true->Rds P' h' ds vs) (λ_=>.nil) (λr _ ih f=>by
  rw[bY,m_] at f
  exact .cons (Rd.flat f.1 r) (ih f.2)) f
def Rk.flat(f:kh v=true)(r:Rk P h d v):Rk P' h' d v:=
 r.ind (M:=λds vs=>kh vs=true->Rk P' h' ds vs) (λ_=>.nil) (λr _ ih f=>by
  rw[kh,m_] at f
  exact .cons (Rd.flat f.1 r) (ih f.2)) f
def Rc.flat(f:cn v=true)(r:Rc P h o v):Rc P' h' o v:=by
 cases r with
 |lst r=>exact .lst (Rds.flat (by simpa [cn] using f) r)
 |fz r=>simp [cn] at f
 |dct r=>exact .dct (Rk.flat (by simpa [cn] using f) r)
 |set xs=>exact .set xs
end
theorem lF:∀{ts:List Tm}{k:Nat},ts[k]?=some (.bor i)->f6 i ts=true
 | [],_,q=>by simp at q
 |
  t::ts,0,q=>by
  have:t=.bor i:=by simpa using q
  subst this;simp [f6]
 |
  t::ts,k+1,q=>by
  have:=lF (ts:=ts) (k:=k) (by simpa using q)
  cases t <;> simp [f6,this]
theorem qZ:∀{ms:List Bool}{ts:List Tm}{k:Nat},ms[k]?=some true->ts[k]?=some (.bor i)->lq i ms ts=true
 | [],_,_,q,_=>by simp at q
 |_::_,[],_,_,q=>by simp at q
 |
  b::ms,t::ts,0,q1,q=>by
  have:t=.bor i:=by simpa using q
  have:b=true:=by simpa using q1
  subst_vars;simp [lq]
 |
  b::ms,t::ts,k+1,q1,q=>by
  have:=qZ (ms:=ms) (ts:=ts) (k:=k) (by simpa using q1) (by simpa using q)
  cases b <;> cases t <;> simp [lq,this]
theorem iS:∀{ms:List Bool}{ts:List Tm}{k:Nat},okA e ms ts=true->ms[k]?=some true->∃i,ts[k]?=some (.bor i)/\∃u,(e[i]?).bind Sl.mv=some u
 | [],_,_,_,q=>by simp at q
 |b::ms,[],_,o,_=>by cases b <;> simp [okA] at o
 |
  b::ms,t::ts,0,o,q=>by
  have:b=true:=by simpa using q
  subst this
  cases t with
  |
   bor i=>
   simp only[okA,m_] at o
   exact⟨i,rfl,ID.mp o.1.1⟩
  |_=>simp [okA] at o
 |
  b::ms,t::ts,k+1,o,q=>by
  have o':okA e ms ts=true:=by
   cases b <;> cases t <;> simp only[okA,m_] at o <;> first |exact o.2 |exact o |(simp at o;done)
  obtain⟨i,y⟩:=iS (k:=k) o' (by simpa using q)
  exact⟨i,by simpa using y⟩
theorem gw:∀{ms:List Bool}{ts:List Tm}{k j i:Nat},okA e ms ts=true->ms[k]?=some true->ts[k]?=some (.bor i)->ts[j]?=some (.bor i)->j=k
 | [],_,_,_,_,_,q,_,_=>by simp at q
 |b::ms,[],_,_,_,o,_,_,_=>by cases b <;> simp [okA] at o
 |b::ms,t::ts,0,0,i,o,q1,q2,q3=>rfl
 |
  b::ms,t::ts,0,j+1,i,o,q1,q2,q3=>by
  have h1:b=true:=by simpa using q1
  have h2:t=.bor i:=by simpa using q2
  subst h1 h2
  simp only[okA,m_] at o
  have:=lF (i:=i) (ts:=ts) (k:=j) (by simpa using q3)
  rw[this] at o
  simp at o
 |
  b::ms,t::ts,k+1,0,i,o,q1,q2,q3=>by
  have h2:t=.bor i:=by simpa using q3
  subst h2
  have hm:=qZ (i:=i) (ms:=ms) (ts:=ts) (k:=k) (by simpa using q1) (by simpa using q2)
  have hb:=lF (i:=i) (ts:=ts) (k:=k) (by simpa using q2)
  cases b <;> simp [okA,hm,hb] at o
 |
  b::ms,t::ts,k+1,j+1,i,o,q1,q2,q3=>by
  have o':okA e ms ts=true:=by
   cases b <;> cases t <;> simp only[okA,m_] at o <;> first |exact o.2 |exact o |(simp at o;done)
  exact Iw (· + 1) (gw (k:=k) (j:=j) (i:=i) o' (by simpa using q1) (by simpa using q2) (by simpa using q3))
theorem gq:∀{ms:List Bool}{ts:List Tm},okA e ms ts=true->ms.length=ts.length
 | [],[],_=>rfl
 | [],_::_,o=>by simp [okA] at o
 |b::ms,[],o=>by cases b <;> simp [okA] at o
 |
  b::ms,t::ts,o=>by
  have o':okA e ms ts=true:=by
   cases b <;> cases t <;> simp only[okA,m_] at o <;> first |exact o.2 |exact o |(simp at o;done)
  exact Iw (· + 1) (gq o')
theorem jH:∀{ms:List Bool}{ts:List Tm}{k i:Nat},ms[k]?=some false->ts[k]?=some (.bor i)->(∀v,e[i]?≠some (.sh v))->i∈aM e ms ts
 | [],_,_,_,q,_,_=>by simp at q
 |_::_,[],_,_,_,q,_=>by simp at q
 |
  b::ms,t::ts,0,i,q1,q2,hn=>by
  have h1:b=false:=by simpa using q1
  have h2:t=.bor i:=by simpa using q2
  subst h1 h2
  unfold aM
  split
  ·rename_i v q;exact absurd q (hn v)
  ·exact k_ ..
 |
  b::ms,t::ts,k+1,i,q1,q2,hn=>by
  have ih:=jH (ms:=ms) (ts:=ts) (k:=k) (by simpa using q1) (by simpa using q2) hn
  cases b <;> cases t <;> simp only[aM] <;> first |exact ih |(split;exact ih;exact i_ _ ih)
def dn{ms:List Bool}{ts:List Tm}{k i:Nat}(q:(bu ms ts)[k]?=some (some i)):ms[k]?=some true/\ts[k]?=some (.bor i):=by
 unfold bu at q
 rw[IJ] at q
 cases h1:ms[k]? with
 |none=>rw[h1] at q;cases q
 |
  some b=>
  cases h2:ts[k]? with
  |none=>rw[h1,h2] at q;cases q
  |
   some t=>
   rw[h1,h2] at q
   have q':lG b t=some i:=C_ q
   cases b <;> cases t <;> first |(cases q';done) |(cases q';exact⟨rfl,rfl⟩)
def AQ{ms:List Bool}{ts:List Tm}{k i:Nat}(q1:ms[k]?=some true)(q2:ts[k]?=some (.bor i)):(bu ms ts)[k]?=some (some i):=by
 unfold bu
 rw[IJ,q1,q2];rfl
theorem qM:∀{ts:List Tm}{vs:List Val}{k:Nat}{v:Val},rss e ts=some vs->vs[k]?=some v->∃t,ts[k]?=some t/\rs e t=some v
 | [],_,_,_,q,q2=>by cases q;simp at q2
 |
  t::ts,vs,k,v,q,q2=>by
  unfold rss at q
  split at q
  ·rename_i u us e1 e2
   cases q
   cases k with
   |zero=>
    have:u=v:=by simpa using q2
    subst this;exact⟨t,rfl,e1⟩
   |
    succ k=>
    obtain⟨t',y1,y2⟩:=qM (k:=k) e2 (by simpa using q2)
    exact⟨t',by simpa using y1,y2⟩
  ·cases q
theorem iZ:∀{ts:List Tm}{vs:List Val},rss e ts=some vs->vs.length=ts.length
 | [],_,q=>by cases q;rfl
 |
  t::ts,vs,q=>by
  unfold rss at q
  split at q
  ·rename_i u us e1 e2;cases q;exact Iw (· + 1) (iZ e2)
  ·cases q
theorem TsR.get:∀{ds:List D}{ts:List Tm}{k:Nat}{t:Tm},TsR X ns ae h ds ts->ts[k]?=some t->∃d,ds[k]?=some d/\((∃v,t=.val v/\Rd (Oc X ns) h d v)\/∃i,t=.bor i/\ae[i]?=some (some d))
 |_,_,_,_,.nil,q=>by simp at q
 |_,_,0,_,.val r rr,q=>by have:=(by simpa using q:Tm.val _=_);subst this;exact⟨_,rfl,.inl ⟨_,rfl,r⟩⟩
 |_,_,0,_,.bor r rr,q=>by have:=(by simpa using q:Tm.bor _=_);subst this;exact⟨_,rfl,.inr ⟨_,rfl,r⟩⟩
 |_,_,k+1,t,.val r rr,q=>by obtain⟨d,y⟩:=rr.get (k:=k) (by simpa using q);exact⟨d,by simpa using y⟩
 |_,_,k+1,t,.bor r rr,q=>by obtain⟨d,y⟩:=rr.get (k:=k) (by simpa using q);exact⟨d,by simpa using y⟩
def Xc(X:Nat->Prop)(ns:Ns)(e:E3)(ms:List Bool)(ts:List Tm)(n:Nat):Prop:=(X n\/some n∈ns)/\some n∉br (bu ms ts) ns/\∀i∈aM e ms ts,ns[i]?≠some (some n)
def oj(S:Sat X h0 ns e ae h)(rt:TsR X ns ae h ds ts)(qv:rss e ts=some vs)(ok:okA e ms ts=true):
 Sat (Xc X ns e ms ts) h.length (br (bu ms ts) ns) (sls ms vs) (ds.map some) h:=by
 have l1:=gq ok
 have l2:=iZ qv
 have l3:=TsR.len rt
 have hs:ku (bu ms ts):=λj k i q1 q2=>gw ok (dn q2).1 (dn q2).2 (dn q1).2
 have mv:Mov (Oc X ns) (Oc (Xc X ns e ms ts) (br (bu ms ts) ns)) h h:=λn o p q=>⟨⟨λz=>by
  rcases z.1 with z |z
  ·exact p.1 z
  ·exact p.2 z,λz=>p.2 (jJ z)⟩,q⟩
 refine⟨?_,?_,j_ _,λn z=>?_,λj k n q1 q2=>?_,λj n q z=>z.2.1 (aO.mpr ⟨j,q⟩),λk s q=>?_⟩
 ·unfold sls;rw[g_,IT];omega
 ·unfold br bu sls;rw[g_,IT,IT];omega
 ·rcases z.1 with z |z
  ·exact S.xl n z
  ·obtain⟨i,z⟩:=aO.mp z
   obtain⟨_,_,_,_,_,_,_,q',_⟩:=S.own z
   exact bJ q'
 ·obtain⟨i,y1,y2⟩:=bG q1
  obtain⟨i',y3,y4⟩:=bG q2
  have:=S.inj i i' n y2 y4
  subst this
  exact hs j k i y1 y3
 ·obtain⟨b,v,
   q1,q2,rfl⟩:=dD q
  obtain⟨t,q3,q4⟩:=qM qv q2
  obtain⟨d,q5,q6⟩:=rt.get q3
  have qd:(ds.map some)[k]?=some (some d):=by rw[Em,q5];rfl
  rw[qd]
  have qn:(br (bu ms ts) ns)[k]?=some ((lG b t).bind λi=>(ns[i]?).bind id):=by
   unfold br bu
   rw[Em,IJ,q1,q3];rfl
  rw[qn]
  cases b with
  |
   true=>
   obtain⟨i,y1,u,y2⟩:=iS ok q1
   rw[q3] at y1;cases y1
   have q4':(e[i]?).bind Sl.val=some v:=q4
   obtain⟨s,z1,z2⟩:=Ia.mp y2
   rw[z1] at q4'
   have hv:s.val=some v:=q4'
   have huv:u=v:=by cases s <;> first |cases z2;done |(cases z2;cases hv;rfl)
   subst huv
   have hns:∃n,ns[i]?=some (some n):=by
    have y:=S.sl i s z1
    cases s with
    |ow v=>obtain⟨n,o,y1,_⟩:=y;exact⟨n,y1⟩
    |mu v=>obtain⟨n,o,y1,_⟩:=y;exact⟨n,y1⟩
    |_=>cases z2
   obtain⟨n,hn⟩:=hns
   obtain⟨n',o,k1,k2,k3,k4,_⟩:=S.write z1 z2
   rcases q6 with ⟨_,z,_⟩ |⟨i',z,q6⟩
   ·cases z
   ·cases z
    rw[q6] at k1;cases k1
    obtain⟨_,_,_,_,_,_,w,_⟩:=S.own hn
    rw[q6] at w;cases w
    exact⟨n,o,by show some ((ns[i]?).bind id)=_;rw[hn];rfl,rfl,k2,k3,k4.mono mv⟩
  |
   false=>
   refine⟨by cases t <;> rfl,d,rfl,?_⟩
   rcases q6 with ⟨u,rfl,q6⟩ |⟨i,rfl,q6⟩
   ·cases q4;exact q6.mono mv
   ·have q4':(
     e[i]?).bind Sl.val=some v:=q4
    rcases S.bor q6 q4' with z |⟨n,o,rfl,z1,z2⟩
    ·exact z.mono mv
    ·refine .cell ⟨λy=>?_,λy=>?_⟩ z1 (z2.mono mv)
     ·
      by_cases hsh:∃w,e[i]?=some (.sh w)
      ·obtain⟨w,hsh⟩:=hsh
       obtain⟨_,x,w1,w2⟩:=S.sl i _ hsh
       rw[q6] at w1;cases w1
       cases w2 with
       |cell p _ _=>rcases y.1 with y |y;exact p.1 y;exact p.2 y
      ·have hl:=jH q1 q3 λw z=>hsh ⟨w,z⟩
       cases w:ns[i]? with
       |
        none=>
        have hi:i<e.length:=by
         cases z:e[i]? with
         |none=>rw[z] at q4';cases q4'
         |some _=>exact (h_.mp z).1
        rw[Jp,S.l2] at w
        omega
       |
        some w'=>
        cases w' with
        |
         none=>
         cases z:e[i]? with
         |none=>rw[z] at q4';cases q4'
         |
          some s=>
          have k:=S.sl i s z
          rw[w] at k
          cases s with
          |no=>rw[z] at q4';cases q4'
          |sh w=>exact hsh ⟨w,z⟩
          |ow w=>obtain⟨_,_,k,_⟩:=k;cases k
          |lo w=>obtain⟨_,_,k,_⟩:=k;cases k
          |mu w=>obtain⟨_,_,k,_⟩:=k;cases k
          |lm w=>obtain⟨_,_,k,_⟩:=k;cases k
        |
         some n'=>
         obtain⟨_,_,_,_,_,_,w2,_⟩:=S.own w
         rw[q6] at w2;cases w2
         exact y.2.2 i hl w
     ·obtain⟨j,y⟩:=aO.mp y
      obtain⟨i',y1,y2⟩:=bG y
      obtain⟨y3,y4⟩:=dn y1
      obtain⟨_,_,_,_,_,_,w2,_⟩:=S.own y2
      have:i'
       = i:=by
       cases w:ns[i]? with
       |
        none=>
        have hi:i<e.length:=by
         cases z:e[i]? with
         |none=>rw[z] at q4';cases q4'
         |some _=>exact (h_.mp z).1
        rw[Jp,S.l2] at w
        omega
       |
        some w'=>
        cases w' with
        |
         some n'=>
         obtain⟨_,_,_,_,_,_,w3,_⟩:=S.own w
         rw[q6] at w3;cases w3
         exact S.inj i' i n y2 w
        |
         none=>
         cases z:e[i]? with
         |none=>rw[z] at q4';cases q4'
         |
          some s=>
          have k:=S.sl i s z
          rw[w,q6] at k
          cases s with
          |no=>rw[z] at q4';cases q4'
          |
           sh w=>
           obtain⟨_,x,k1,k2⟩:=k
           cases k1
           cases k2 with
           |cell p _ _=>exact (p.2 (aO.mpr ⟨i',y2⟩)).elim
          |ow w=>obtain⟨_,_,k,_⟩:=k;cases k
          |lo w=>obtain⟨_,_,k,_⟩:=k;cases k
          |mu w=>obtain⟨_,_,k,_⟩:=k;cases k
          |lm w=>obtain⟨_,_,k,_⟩:=k;cases k
      subst this
      have:=gw ok y3 y4 q3
      subst this
      rw[q1] at y3;cases y3
theorem dk:∀{ms:List Bool}{mv:List Val}{j:Nat}{v:Val},(aA ms mv)[j]?=some (.mu v)->v∈mv
 | [],_,_,_,q=>by simp [aA] at q
 |true::ms,u::mv,0,v,q=>by
  have:Sl.mu u=.mu v:=by simpa [aA] using q
  cases this;exact k_ ..
 |true::ms,u::mv,j+1,v,q=>i_ _ (dk (ms:=ms) (mv:=mv) (j:=j) (by simpa [aA] using q))
 |true::ms,[],0,v,q=>by simp [aA] at q
 |true::ms,[],j+1,v,q=>dk (ms:=ms) (mv:=[]) (j:=j) (by simpa [aA] using q)
 |false::ms,mv,0,v,q=>by simp [aA] at q
 |false::ms,mv,j+1,v,q=>dk (ms:=ms) (mv:=mv) (j:=j) (by simpa [aA] using q)
theorem jD:∀{ms:List Bool}{ts:List Tm}{i:Nat},i∈aM e ms ts->∃k:Nat,ms[k]?=some false/\ts[k]?=some (.bor i)
 | [],_,_,q=>by simp [aM] at q
 |_::_,[],_,q=>by simp [aM] at q
 |
  b::ms,t::ts,i,q=>by
  have up:i∈aM e ms ts->∃k:Nat,(b::ms)[k]?=some false/\(t::ts)[k]?=some (.bor i):=λz=>by
   obtain⟨k,y1,y2⟩:=jD z
   exact⟨k+1,by simpa using y1,by simpa using y2⟩
  cases b <;> cases t <;> simp only[aM] at q <;> first |exact up q |skip
  split at q
  ·exact up q
  ·rcases G_.mp q with rfl |q
   ·exact⟨0,rfl,rfl⟩
   ·exact up q
def Ao(q:bP e (.bor i)=some (e1,v)):(∀j,j≠i->e1[j]?=e[j]?)/\e1[i]?=some (.sh v)/\(e[i]?).bind Sl.val=some v:=by
 unfold bP at q
 dsimp only at q
 split at q
 ·rename_i u q1;cases q;exact⟨λ_ _=>rfl,q1,by rw[q1];rfl⟩
 ·rename_i u q1;cases q;exact⟨λj z=>aU z,aZ (h_.mp q1).1,by rw[q1];rfl⟩
 ·cases q
theorem nA:∀{is:List Nat}{ns:Ns}{e e2:E3},Sat X h0 ns e ae h->(∀i∈is,∃d,ae[i]?=some (some d))->kQ e is=some e2->∃bn,Sat X h0 bn e2 ae h/\Stp ns e h bn e2 h/\(∀i,i∉is->e2[i]?=e[i]?)/\(∀i∈is,∃v,e2[i]?=some (.sh v))/\∀i:Nat,(e2[i]?).bind Sl.val=(e[i]?).bind Sl.val
 | [],ns,e,e2,S,_,q=>by cases q;exact⟨ns,S,.refl,λ_ _=>rfl,(λ_ z=>by cases z),λ_=>rfl⟩
 |
  i::is,ns,e,e2,S,hd,q=>by
  unfold kQ at q
  split at q
  ·rename_i e1 v q1
   obtain⟨d,hd0⟩:=hd i (k_ ..)
   obtain⟨ns1,S1,a1,r1⟩:=ek (L:=0) (t:=.bor i) S hd0 q1
   obtain⟨bn,S2,a2,k1,k2,k3⟩:=nA S1 (λj z=>hd j (i_ _ z)) q
   obtain⟨y1,y2,y3⟩:=Ao q1
   refine⟨bn,S2,a1.trans S a2,λj hj=>?_,λj hj=>?_,λj=>?_⟩
   ·rw[G_,not_or] at hj
    rw[k1 j hj.2,y1 j hj.1]
   ·by_cases z:j∈is
    ·exact k2 j z
    ·rcases G_.mp hj with rfl |hj
     ·exact⟨v,by rw[k1 j z];exact y2⟩
     ·exact absurd hj z
   ·rw[k3 j]
    by_cases z:j=i
    ·subst z;rw[y2,y3];rfl
    ·rw[y1 j z]
  ·cases q
theorem lW:∀{ms:List Bool}{ts:List Tm},(∀(k i:Nat),ms[k]?=some true->ts[k]?=some (.bor i)->e2[i]?=e[i]?)->okA e ms ts=true->okA e2 ms ts=true
 | [],[],_,o=>rfl
 | [],_::_,_,o=>by simp [okA] at o
 |b::ms,[],_,o=>by cases b <;> simp [okA] at o
 |
  b::ms,t::ts,hk,o=>by
  have o':okA e ms ts=true:=by
   cases b <;> cases t <;> simp only[okA,m_] at o <;> first |exact o.2 |exact o |(simp at o;done)
  have ih:=lW (λk i q1 q2=>hk (k+1) i (by simpa using q1) (by simpa using q2)) o'
  cases b with
  |false=>cases t <;> simp only[okA,m_] at o ⊢ <;> first |exact⟨o.1,ih⟩ |exact ih
  |
   true=>
   cases t with
   |
    bor i=>
    simp only[okA,m_] at o ⊢
    rw[hk 0 i rfl rfl]
    exact⟨o.1,ih⟩
   |_=>simp [okA] at o
theorem o7:∀{ms:List Bool}{ts:List Tm},(∀(k i:Nat),ms[k]?=some false->ts[k]?=some (.bor i)->∃v,e[i]?=some (.sh v))->aM e ms ts=[]
 | [],_,_=>by simp [aM]
 |_::_,[],_=>by simp [aM]
 |
  b::ms,t::ts,hk=>by
  have ih:=o7 (λk i q1 q2=>hk (k+1) i (by simpa using q1) (by simpa using q2))
  cases b <;> cases t <;> simp only[aM] <;> first |exact ih |skip
  rename_i i
  obtain⟨v,q⟩:=hk 0 i rfl rfl
  rw[q];exact ih
theorem md(hv:∀i:Nat,(e2[i]?).bind Sl.val=(e[i]?).bind Sl.val):∀(ts:List Tm),rss e2 ts=rss e ts
 | []=>rfl
 |
  t::ts=>by
  unfold rss
  rw[md hv ts]
  have:rs e2 t=rs e t:=by
   cases t with
   |bor i=>exact hv i
   |_=>rfl
  rw[this]
def oD(ok:okA e ms ts=true):Lnk (bu ms ts) e (sls ms vs):=by
 refine⟨λj k i q1 q2=>gw ok (dn q2).1 (dn q2).2 (dn q1).2,λj v q=>?_,λj s q hm=>?_⟩
 ·obtain⟨b,u,q1,_,q2⟩:=dD q
  cases b with
  |false=>cases q2
  |
   true=>
   obtain⟨i,y1,w,y2⟩:=iS ok q1
   obtain⟨s,z1,z2⟩:=Ia.mp y2
   exact⟨i,s,AQ q1 y1,z1,by cases s <;> first |rfl |cases z2⟩
 ·obtain⟨b,u,q1,_,q2⟩:=dD q
  cases b with
  |false=>subst q2;cases hm
  |true=>exact⟨u,q2⟩
section
variable{X:Nat->Prop}{h0 L:Nat}{ns:Ns}{e:E3}{ae:AE}{h:AH}{ms:List Bool}{ts:List Tm}{ds:List D}{vs:List Val}{S2:Fn}{G3:Fn3}
def gj(Y:Nat->Prop)(hY:∀n,Y n->X n\/Y n)(hl:aM e ms ts=[])(z:¬ Xc X ns e ms ts n)(z2:some n∉br (bu ms ts) ns):Oc X ns n:=by
 refine⟨λy=>z ⟨.inl y,z2,λi hi=>by rw[hl] at hi;cases hi⟩,λy=>z ⟨.inr y,z2,λi hi=>by rw[hl] at hi;cases hi⟩⟩
def qR(S:Sat X h0 ns e ae h)(hL:L<=h.length)(rt:TsR X ns ae h ds ts)(qv:rss e ts=some vs)(ok:okA e ms ts=true)(hG:RF ms S2 G3)(q:G3 vs=.ok r mv)(hf:aM e ms ts=[]\/(iN r=true/\mv.all cn=true)):
 Po X h0 ns e ae h (relE X h0 L ae) (S2 ds h) (.ok (r.tm ts) (aS (bu ms ts) (aA ms mv) e)):=by
 have p:=hG _ _ ds vs h (by rw[iZ qv,gq ok]) (oj S rt qv ok)
 rw[q] at p
 obtain⟨d,h',p1,a,rr⟩:=p
 have K:=oD (vs:=vs) ok
 have xcl:∀n,X n->n<h.length:=S.xl
 cases r with
 |
  val v=>
  obtain⟨S3,rv⟩:=rr
  obtain⟨S4,a4⟩:=S.back (Y:=X) K a (λn z=>⟨t_ (xcl n z) a.len,.inl z⟩) (λ_ z=>z) λj w n q1 q2=>by
   obtain⟨s,u,o,b1,b2,b3,b4,b5,b6,b7⟩:=S3.own q2
   rw[q1] at b1;cases b1;cases b3
   rcases hf with hf |hf
   ·exact⟨o,b5,b6,b7.mono λm o' z y=>⟨gj X (λ_ z=>.inl z) hf z.1 z.2,y⟩⟩
   ·exact⟨o,b5,b6,b7.flat (HU.mp hf.2 w (dk q1))⟩
  refine⟨d,h',ns,p1,a4,S4,?_⟩
  rcases hf with hf |hf
  ·exact rv.mono λm o' z y=>⟨gj X (λ_ z=>.inl z) hf z.1 z.2,y⟩
  ·exact rv.flat hf.1
 |
  new v=>
  obtain⟨n,o,z1,z2,z3,z4,z5,S3,z7⟩:=rr
  have hnx:¬ X n:=λy=>by have:=xcl n y;omega
  have kk:∀m,Oc (Xn (Xc X ns e ms ts) n) (br (bu ms ts) ns) m->aM e ms ts=[]->Oc (Xn X n) ns m:=λm z hf=>by
   have:=gj X (λ_ z=>.inl z) hf (λy=>z.1 (.inl y)) z.2
   exact⟨λy=>by
    rcases y with y |y
    ·exact this.1 y
    ·exact z.1 (.inr y),this.2⟩
  obtain⟨S4,a4⟩:=S.back (Y:=Xn X n) K a (λm z=>by
   rcases z with z |rfl
   ·exact⟨t_ (xcl m z) a.len,.inl z⟩
   ·exact⟨bJ z4,.inr z2⟩) (λ_ z=>.inl z) λj w n' q1 q2=>by
   obtain⟨s,u,o,b1,b2,b3,b4,b5,b6,b7⟩:=S3.own q2
   rw[q1] at b1;cases b1;cases b3
   rcases hf with hf |hf
   ·exact⟨o,b5,b6,b7.mono λm o' z y=>⟨kk m z hf,y⟩⟩
   ·exact⟨o,b5,b6,b7.flat (HU.mp hf.2 w (dk q1))⟩
  refine⟨d,h',ns,p1,a4,S4.weak λ_ z=>.inl z,n,o,z1,w_ hL z2,hnx,z4,z5,S4,?_⟩
  rcases hf with hf |hf
  ·exact z7.mono λm o' z y=>⟨kk m z hf,y⟩
  ·exact z7.flat hf.1
 |
  par i=>
  obtain⟨S3,w1,w,w2⟩:=rr
  obtain⟨S4,a4⟩:=S.back (Y:=X) K a (λn z=>⟨t_ (xcl n z) a.len,.inl z⟩) (λ_ z=>z) λj w n q1 q2=>by
   obtain⟨s,u,o,b1,b2,b3,b4,b5,b6,b7⟩:=S3.own q2
   rw[q1] at b1;cases b1;cases b3
   rcases hf with hf |hf
   ·exact⟨o,b5,b6,b7.mono λm o' z y=>⟨gj X (λ_ z=>.inl z) hf z.1 z.2,y⟩⟩
   ·exact⟨o,b5,b6,b7.flat (HU.mp hf.2 w (dk q1))⟩
  refine⟨d,h',ns,p1,a4,S4,?_⟩
  obtain⟨u,x1,_⟩:=a.mu i w w2
  obtain⟨b,u',x2,_,x3⟩:=dD x1
  cases b with
  |false=>cases x3
  |
   true=>
   obtain⟨k,y1,_⟩:=iS ok x2
   obtain⟨d',y2,z⟩:=rt.get y1
   have e1:(Rt.par i).tm ts=.bor k:=by show (ts[i]?).getD _=_;rw[y1];rfl
   rw[e1]
   rcases z with ⟨_,z,_⟩ |⟨j,z,z2⟩
   ·cases z
   ·cases z
    rw[Em,y2] at w1
    cases w1
    exact z2
def vw(S:Sat X h0 ns e ae h)(rt:TsR X ns ae h ds ts)(qv:rss e ts=some vs)(ok:okA e ms ts=true)(hG:RF ms S2 G3)(q:G3 vs=.exc c mv)(hf:aM e ms ts=[]\/mv.all cn=true):
 Po X h0 ns e ae h (relE X h0 L ae) (S2 ds h) (.exc c (aS (bu ms ts) (aA ms mv) e)):=by
 have p:=hG _ _ ds vs h (by rw[iZ qv,gq ok]) (oj S rt qv ok)
 rw[q] at p
 obtain⟨h',p1,a,S3⟩:=p
 have K:=oD (vs:=vs) ok
 obtain⟨S4,a4⟩:=S.back (Y:=X) K a (λn z=>⟨t_ (S.xl n z) a.len,.inl z⟩) (λ_ z=>z) λj w n q1 q2=>by
  obtain⟨s,u,o,b1,b2,b3,b4,b5,b6,b7⟩:=S3.own q2
  rw[q1] at b1;cases b1;cases b3
  rcases hf with hf |hf
  ·exact⟨o,b5,b6,b7.mono λm o' z y=>⟨gj X (λ_ z=>.inl z) hf z.1 z.2,y⟩⟩
  ·exact⟨o,b5,b6,b7.flat (HU.mp hf w (dk q1))⟩
 exact⟨h',ns,p1,a4,S4⟩
def An(hn:n=ms.length)(hG:RF ms S2 G3)(hA:RA A A3):RE (sH n S2 A) (yf ms G3 A3):=λX h0 L ns e ae h S hl=>
 Po.bind
  S (hA X h0 ns e ae h S) λds ts h1 ns1 e1 a1 S1 r1=>by
  try dsimp only
  cases qv:rss e1 ts with
  |none=>trivial
  |
   some vs=>
   dsimp only
   by_cases ok:okA e1 ms ts=true
   ·rw[if_pos ok]
    have be:ds.length=n:=by rw[hn,gq ok];exact TsR.len r1
    rw[if_pos be]
    have hL:L<=h1.length:=w_ hl a1.len
    cases q:G3 vs with
    |stuck=>trivial
    |
     exc c mv=>
     dsimp only
     by_cases hf:((aM e1 ms ts).isEmpty || mv.all cn)=true
     ·rw[if_pos hf]
      refine vw S1 r1 qv ok hG q ?_
      rw[Bool.or_eq_true] at hf
      rcases hf with hf |hf
      ·exact .inl (List.isEmpty_iff.mp hf)
      ·exact .inr hf
     ·rw[if_neg hf];trivial
    |
     ok r mv=>
     dsimp only
     by_cases hf:((aM e1 ms ts).isEmpty || (iN r&&mv.all cn))=true
     ·rw[if_pos hf]
      refine qR S1 hL r1 qv ok hG q ?_
      rw[Bool.or_eq_true,m_] at hf
      rcases hf with hf |hf
      ·exact .inl (List.isEmpty_iff.mp hf)
      ·exact .inr hf
     ·rw[if_neg hf]
      cases qd:kQ e1 (aM e1 ms ts) with
      |none=>trivial
      |
       some e2=>
       dsimp only
       obtain⟨bn,S2',a2,k1,k2,k3⟩:=nA S1 (λi hi=>by
        obtain⟨k,_,y⟩:=jD hi
        obtain⟨d,_,z⟩:=r1.get y
        rcases z with ⟨_,z,_⟩ |⟨j,z,z2⟩
        ·cases z
        ·cases z;exact⟨d,z2⟩) qd
       have ok2:okA e2 ms ts=true:=lW (λk i q1 q2=>k1 i λz=>by
        obtain⟨k',y1,y2⟩:=jD z
        have:=gw ok q1 q2 y2
        subst this
        rw[q1] at y1;cases y1) ok
       have ln:aM e2 ms ts=[]:=o7 λk i q1 q2=>by
        by_cases z:i∈aM e1 ms ts
        ·exact k2 i z
        ·rw[k1 i z]
         exact Jo λw=>z (jH q1 q2 λv y=>w ⟨v,y⟩)
       have pp:=qR (L:=L) S2' hL (r1.stp S1 a2) (by rw[md k3];exact qv) ok2 hG q (.inl ln)
       obtain⟨d,h',ns',y,y1,y2,y3⟩:=pp
       exact⟨d,h',ns',y,a2.trans S1 y1,y2,y3⟩
   ·rw[if_neg ok];trivial
end
def aI(f:Int->Int->Val):Val->Val->Bv:=λx y=>match x,y with
 |.int i,.int j=>.val (f i j)
 |_,_=>.stuck
open Classical in
def aIc(C:Int->Int->Prop)(f:Int->Int->Val):Val->Val->Bv:=λx y=>match x,y with
 |.int i,.int j=>if C i j then .val (f i j) else .stuck
 |_,_=>.stuck
def sR:Val->Val->Bv:=λx y=>match x,y with
 |.lst xs,.lst ys=>if xs.length+ys.length<=16777216 then .new (.lst (xs++ys)) else .stuck
 |.tup xs,.tup ys=>if xs.length+ys.length<=16777216 then .val (.tup (xs++ys)) else .stuck
 |_,_=>.stuck
def wB:Val->Val->Bv:=λx y=>match x,y with
 |.int i,.int j=>.val (.int (i+j))
 |x,y=>sR x y
def aMin:=aI λi j=>.int (i-j)
def rp:=aIc CMulA λi j=>.int (i*j)
def rX:=aIc CDivB λi j=>.int (i.fdiv j)
def rT:=aIc (λ_ j=>j≠0) λi j=>.int (i.fmod j)
def sX:=aIc eK λi j=>.int (i^j.toNat)
def sN:=aIc eK λi j=>.int (i*2^j.toNat)
def aLt:=aI λi j=>.bl (decide (i<j))
def aGt:=aI λi j=>.bl (decide (j<i))
def aGe:=aI λi j=>.bl (decide (j<=i))
def v9:Val->Bv:=λx=>match x with
 |.int i=>.val (.int (-i))
 |_=>.stuck
def aIx:Val->Val->Bv:=λx y=>match x.items,y with
 |some xs,.int i=>(match atI xs i with
  |some v=>.val v
  |none=>.stuck)
 |_,_=>.stuck
section
def pb(hr:∀i j P h,Rd P h (f2 i j) (f3 i j)):RO (gI f2) (aI f3):=λP h d1 d2 v1 v2 r1 r2=>by
 unfold aI
 split
 ·obtain rfl:=r1.int;obtain rfl:=r2.int;exact⟨_,rfl,hr _ _ P h⟩
 ·trivial
def kq(hr:∀i j P h,Rd P h (f2 i j) (f3 i j)):RO (gIc C f2) (aIc C f3):=λP h d1 d2 v1 v2 r1 r2=>by
 unfold aIc
 split
 ·obtain rfl:=r1.int;obtain rfl:=r2.int
  split
  ·rename_i hc;exact⟨_,by unfold gIc;dsimp only;rw[if_pos hc],hr _ _ P h⟩
  ·trivial
 ·trivial
def Ck:RO jv sR:=λP h d1 d2 v1 v2 r1 r2=>by
 unfold sR
 split
 ·obtain⟨n,ds,rfl,e1,_,q1⟩:=r1.lst
  obtain⟨m,es,rfl,e2,_,q2⟩:=r2.lst
  split
  ·rename_i hl
   exact⟨.lst (ds++es),by unfold jv;dsimp only;rw[e1,e2];dsimp only;rw[if_pos (by rw[q1.len,q2.len];exact hl)],trivial,.lst (q1.append q2)⟩
  ·trivial
 ·obtain⟨ds,rfl,q1⟩:=r1.tup
  obtain⟨es,rfl,q2⟩:=r2.tup
  split
  ·rename_i hl
   exact⟨_,by unfold jv;dsimp only;rw[if_pos (by rw[q1.len,q2.len];exact hl)],.tup (q1.append q2)⟩
  ·trivial
 ·trivial
def Co:RO rR wB:=λP h d1 d2 v1 v2 r1 r2=>by
 unfold wB
 split
 ·obtain rfl:=r1.int;obtain rfl:=r2.int;exact⟨_,rfl,.int _⟩
 ·rename_i hn
  have k:=Ck P h d1 d2 v1 v2 r1 r2
  have e:rR d1 d2 h=jv d1 d2 h\/sR v1 v2=.stuck:=by
   cases v1 <;> first |(right;rfl) |(left;skip)
   ·obtain⟨ds,rfl,_⟩:=r1.tup;rfl
   ·obtain⟨n,ds,rfl,_⟩:=r1.lst;rfl
  rcases e with e |e
  ·rw[e];exact k
  ·rw[e];trivial
def DM:RO xa aMin:=pb λ_ _ _ _=>.int _
def C0:RO xq rp:=kq λ_ _ _ _=>.int _
def ER:RO xF rX:=kq λ_ _ _ _=>.int _
def E2:RO vy rT:=kq λ_ _ _ _=>.int _
def Dk:RO wG sX:=kq λ_ _ _ _=>.int _
def D3:RO v7 sN:=kq λ_ _ _ _=>.int _
def FO:RO gLt aLt:=pb λ_ _ _ _=>.bl _
def Hk:RO gGt aGt:=pb λ_ _ _ _=>.bl _
def Fp:RO gGe aGe:=pb λ_ _ _ _=>.bl _
def A1:RU sS v9:=λP h d v r=>by
 unfold v9
 split
 ·obtain rfl:=r.int;exact⟨_,rfl,.int _⟩
 ·trivial
def Gq(r:Rds P h ds vs)(e:atI vs i=some v):∃d,atI ds i=some d/\Rd P h d v:=by
 unfold atI at e ⊢
 rw[r.len]
 cases q:ixN vs.length i with
 |none=>rw[q] at e;cases e
 |some j=>rw[q] at e;exact r.get e
def FD:RO gIx aIx:=λP h d1 d2 v1 v2 r1 r2=>by
 unfold aIx
 split
 ·rename_i xs i e1
  obtain⟨ds,e2,q⟩:=r1.items e1
  obtain rfl:=r2.int
  split
  ·rename_i v e3
   obtain⟨d,e4,q2⟩:=Gq q e3
   exact⟨d,by unfold gIx;rw[e2];dsimp only;rw[e4],q2⟩
  ·trivial
 ·trivial
end
mutual
def bU:Nat->Val->Option PyData
 |0,_=>none
 |_+1,.non=>some .none
 |_+1,.bl b=>some (.bool b)
 |_+1,.int i=>some (.int i)
 |_+1,.str x=>some (.str x)
 |k+1,.tup xs=>(de k xs).map .tuple
 |k+1,.lst xs=>(de k xs).map .list
 |_+1,_=>none
def de:Nat->List Val->Option (List PyData)
 |_,[]=>some []
 |k,x::xs=>match bU k x,de k xs with
  |some a,some b=>some (a::b)
  |_,_=>none
end
def xg(hk:∀d v pd,Rd P h d v->bU k v=some pd->cX k h d=some pd):∀{ds:List D}{vs:List Val}{ps:List PyData},Rds P h ds vs->de k vs=some ps->ds.mapM (cX k h)=some ps:=by
 intro ds
 induction ds with
 |
  nil=>
  intro vs ps r q
  cases r
  unfold de at q
  cases q
  rfl
 |
  cons d0 ds ih=>
  intro vs ps r q
  cases r with
  |
   cons r rr=>
   unfold de at q
   split at q
   ·rename_i a b e1 e2
    cases q
    rw[Je,hk _ _ _ r e1,ih rr e2];rfl
   ·cases q
theorem lu:∀(k:Nat) (d:D) (v:Val) (pd:PyData),ShR P h d v->bU k v=some pd->cX k h d=some pd
 |0,_,_,_,_,q=>by unfold bU at q;cases q
 |
  k+1,d,v,pd,r,q=>by
  have ih:∀{ds:List D}{vs:List Val}{ps:List PyData},Rds P h ds vs->de k vs=some ps->ds.mapM (cX k h)=some ps:=xg λd v pd r q=>lu k d v pd (.inl r) q
  cases v with
  |non=>obtain rfl:=r.non;simp only[bU] at q;cases q;rfl
  |bl b=>obtain rfl:=r.bl;simp only[bU] at q;cases q;rfl
  |int b=>obtain rfl:=r.int;simp only[bU] at q;cases q;rfl
  |str b=>obtain rfl:=r.str;simp only[bU] at q;cases q;rfl
  |
   tup xs=>
   obtain⟨ds,rfl,r2⟩:=r.tup
   simp only[bU] at q
   obtain⟨ps,q1,rfl⟩:=E_.mp q
   show (ds.mapM (cX k h)).map PyData.tuple=_
   rw[ih r2 q1];rfl
  |
   lst xs=>
   obtain⟨n,ds,rfl,_,e1,r2⟩:=r.lst
   simp only[bU] at q
   obtain⟨ps,q1,rfl⟩:=E_.mp q
   unfold cX
   rw[e1]
   show (ds.mapM (cX k h)).map PyData.list=_
   rw[ih r2 q1];rfl
  |_=>simp only[bU] at q;cases q
def b0(x y:Val):Option Bool:=match bU 164 x,bU 164 y with
 |some a,some b=>if shp a=true/\shp b=true then some (PyData.eqv a b) else none
 |_,_=>none
def aEq(neg:Bool):Val->Val->Bv:=λx y=>match b0 x y with
 |some b=>.val (.bl (if neg then !b else b))
 |none=>.stuck
def E4(r1:ShR P h d1 v1)(r2:ShR P h d2 v2)(q:b0 v1 v2=some b):oK h d1 d2=some b:=by
 unfold b0 at q
 split at q
 ·rename_i a c e1 e2
  unfold oK
  rw[lu 164 _ _ _ r1 e1,lu 164 _ _ _ r2 e2]
  exact q
 ·cases q
def yx(neg:Bool):RO (gEq neg) (aEq neg):=λP h d1 d2 v1 v2 r1 r2=>by
 unfold aEq
 split
 ·rename_i b q
  exact⟨_,by unfold gEq;rw[E4 r1 r2 q],.bl _⟩
 ·trivial
noncomputable def mX:Val->Bool
 |.non=>true
 |.bl _=>true
 |.int _=>true
 |.str _=>true
 |_=>false
noncomputable def sk:Val->V
 |.bl b=>.bl b
 |.int i=>.int i
 |.str x=>.str x
 |_=>.non
def eq1(x y:Val):Bool:=eqV (sk x) (sk y)
def aIn(neg:Bool):Val->Val->Bv:=λx y=>match y.items with
 |some xs=>if mX x=true/\xs.all mX=true then .val (.bl (if neg then !(xs.any λd=>eq1 d x) else xs.any λd=>eq1 d x)) else .stuck
 |none=>.stuck
def qa(r:ShR P h d v)(f:mX v=true):i6 d=true/\toV d=sk v:=by
 cases v with
 |non=>obtain rfl:=r.non;exact⟨rfl,rfl⟩
 |bl b=>obtain rfl:=r.bl;exact⟨rfl,rfl⟩
 |int b=>obtain rfl:=r.int;exact⟨rfl,rfl⟩
 |str b=>obtain rfl:=r.str;exact⟨rfl,rfl⟩
 |_=>cases f
def vt(x:D)(y:Val)(hx:toV x=sk y):∀{ds:List D}{vs:List Val},Rds P h ds vs->vs.all mX=true->ds.all i6=true/\(ds.any λd=>eqF d x)=vs.any λd=>eq1 d y:=by
 intro ds
 induction ds with
 |
  nil=>
  intro vs r f
  cases r
  exact⟨rfl,rfl⟩
 |
  cons d0 ds ih=>
  intro vs r f
  cases r with
  |
   cons r rr=>
   rw[Jk,m_] at f
   obtain⟨h1,h2⟩:=qa (.inl r) f.1
   obtain⟨h3,h4⟩:=ih rr f.2
   refine⟨by rw[Jk,h1,h3];rfl,?_⟩
   rw[IV,IV,h4]
   unfold eqF eq1
   rw[h2,hx]
def ya(neg:Bool):RO (gIn neg) (aIn neg):=λP h d1 d2 v1 v2 r1 r2=>by
 unfold aIn
 split
 ·rename_i xs e
  obtain⟨ds,e2,q⟩:=r2.items e
  split
  ·rename_i hf
   obtain⟨f1,f2⟩:=qa r1 hf.1
   obtain⟨f3,f4⟩:=vt d1 v1 f2 q hf.2
   exact⟨_,by unfold gIn;rw[e2];dsimp only;rw[if_pos ⟨f1,f3⟩,f4],.bl _⟩
  ·trivial
 ·trivial
def vL(neg:Bool):Val->Val->Bv:=λx y=>match x,y with
 |.non,.non=>.val (.bl (!neg))
 |_,.non=>.val (.bl neg)
 |_,_=>.stuck
def A5(neg:Bool):RO (xy neg) (vL neg):=λP h d1 d2 v1 v2 r1 r2=>by
 unfold vL
 split
 ·obtain rfl:=r1.non;obtain rfl:=r2.non;exact⟨_,rfl,.bl _⟩
 ·rename_i hn
  obtain rfl:=r2.non
  have:d1 ≠ .non:=by
   rintro rfl
   rcases r1 with r |⟨n,o,z,_⟩
   ·cases r;exact hn rfl
   ·cases z
  refine⟨_,?_,.bl neg⟩
  unfold xy
  split
  ·exact absurd rfl this
  ·rfl
  ·rename_i h1 h2;exact (h1 rfl).elim
 ·trivial
def xM:List Val->Bv:=λvs=>match vs with
 | [v]=>(match v.items with
  |some xs=>.val (.int xs.length)
  |none=>(match v with
   |.str z=>if z.length<=16777216 then .val (.int z.length) else .stuck
   |_=>.stuck))
 |_=>.stuck
def xu:List Val->Bv:=λvs=>match vs with
 | [.int i]=>.val (.int (if i<0 then -i else i))
 |_=>.stuck
def sC:List Val->Bv:=λvs=>match vs with
 | [.int i,.int j]=>.val (.int (if j>i then j else i))
 |_=>.stuck
def rZ:List Val->Bv:=λvs=>match vs with
 | [.int i,.int j]=>.val (.int (if j<i then j else i))
 |_=>.stuck
noncomputable def iF:List Val->Option (List Bool)
 | []=>some []
 |.bl b::r=>(iF r).map (b :: ·)
 |_=>none
noncomputable def gM:List Val->Option (List Int)
 | []=>some []
 |.int b::r=>(gM r).map (b :: ·)
 |_=>none
def v5:List Val->Bv:=λvs=>match vs with
 | [.lst xs]=>(match iF xs with
  |some bs=>.val (.bl (bs.all id))
  |none=>.stuck)
 |_=>.stuck
def vA:List Val->Bv:=λvs=>match vs with
 | [.lst xs]=>(match gM xs with
  |some bs=>.val (.int bs.sum)
  |none=>.stuck)
 |_=>.stuck
def rM:List Val->Bv:=λvs=>match vs with
 | [v]=>(match v.items with
  |some xs=>.new (.lst xs)
  |none=>.stuck)
 |_=>.stuck
def oF:List Val->Bv:=λvs=>match vs with
 | [v]=>(match v.items with
  |some xs=>.val (.tup xs)
  |none=>.stuck)
 |_=>.stuck
def vF:List Val->Bv:=λvs=>match vs with
 | [.int i]=>.val (.int i)
 | [.bl b]=>.val (.int (if b then 1 else 0))
 |_=>.stuck
def Cn:RFn nL xM:=λP h ds vs r=>by
 unfold xM
 split
 ·obtain⟨d,hd,rr1⟩:=eE r;subst hd;clear r;have r:=rr1
  split
  ·rename_i xs e
   obtain⟨es,e2,q⟩:=r.items e
   exact⟨_,by unfold nL;dsimp only;rw[e2],by rw[<- q.len];exact .int _⟩
  ·split
   ·rename_i z _
    obtain rfl:=r.str
    split
    ·rename_i hl;exact⟨_,by show (if z.length<=16777216 then _ else _)=_;rw[if_pos hl],.int _⟩
    ·trivial
   ·trivial
 ·trivial
def C1:RFn rq xu:=λP h ds vs r=>by
 unfold xu
 split
 ·obtain⟨d,hd,rr1⟩:=eE r;subst hd;clear r;have r:=rr1;obtain rfl:=r.int;exact⟨_,rfl,.int _⟩
 ·trivial
def AB:RFn m7 sC:=λP h ds vs r=>by
 unfold sC
 split
 ·obtain⟨d,d',hd,rr1,r'⟩:=sd r;subst hd;clear r;have r:=rr1;obtain rfl:=r.int;obtain rfl:=r'.int;exact⟨_,rfl,.int _⟩
 ·trivial
def za:RFn ng rZ:=λP h ds vs r=>by
 unfold rZ
 split
 ·obtain⟨d,d',hd,rr1,r'⟩:=sd r;subst hd;clear r;have r:=rr1;obtain rfl:=r.int;obtain rfl:=r'.int;exact⟨_,rfl,.int _⟩
 ·trivial
def G4:∀{ds:List D}{vs:List Val}{bs:List Bool},Rds P h ds vs->iF vs=some bs->fM ds=some bs:=by
 intro ds
 induction ds with
 |
  nil=>
  intro vs bs r q
  cases r
  cases q
  rfl
 |
  cons d0 ds ih=>
  intro vs bs r q
  cases r with
  |
   cons r rr=>
   rename_i v vs
   cases v with
   |
    bl b=>
    obtain rfl:=ShR.bl (.inl r)
    obtain⟨b',q1,rfl⟩:=E_.mp (show (iF vs).map (b :: ·)=some bs from q)
    show (fM _).map (b :: ·)=_
    rw[ih rr q1];rfl
   |_=>cases q
def EW:∀{ds:List D}{vs:List Val}{bs:List Int},Rds P h ds vs->gM vs=some bs->eG ds=some bs:=by
 intro ds
 induction ds with
 |
  nil=>
  intro vs bs r q
  cases r
  cases q
  rfl
 |
  cons d0 ds ih=>
  intro vs bs r q
  cases r with
  |
   cons r rr=>
   rename_i v vs
   cases v with
   |
    int b=>
    obtain rfl:=ShR.int (.inl r)
    obtain⟨b',q1,rfl⟩:=E_.mp (show (gM vs).map (b :: ·)=some bs from q)
    show (eG _).map (b :: ·)=_
    rw[ih rr q1];rfl
   |_=>cases q
def Cz:RFn oZ v5:=λP h ds vs r=>by
 unfold v5
 split
 ·obtain⟨d,hd,rr1⟩:=eE r;subst hd;clear r;have r:=rr1
  obtain⟨n,es,rfl,_,e1,q⟩:=r.lst
  split
  ·rename_i bs e2
   exact⟨_,by unfold oZ;dsimp only;rw[e1];show (match fM es with |some bs=>_ |none=>_)=_;rw[G4 q e2],.bl _⟩
  ·trivial
 ·trivial
def EI:RFn nX vA:=λP h ds vs r=>by
 unfold vA
 split
 ·obtain⟨d,hd,rr1⟩:=eE r;subst hd;clear r;have r:=rr1
  obtain⟨n,es,rfl,_,e1,q⟩:=r.lst
  split
  ·rename_i bs e2
   exact⟨_,by unfold nX;dsimp only;rw[e1];show (match eG es with |some bs=>_ |none=>_)=_;rw[EW q e2],.int _⟩
  ·trivial
 ·trivial
def yQ:RFn kd rM:=λP h ds vs r=>by
 unfold rM
 split
 ·obtain⟨d,hd,rr1⟩:=eE r;subst hd;clear r;have r:=rr1
  split
  ·rename_i xs e
   obtain⟨es,e2,q⟩:=r.items e
   exact⟨.lst es,by unfold kd;dsimp only;rw[e2],trivial,.lst q⟩
  ·trivial
 ·trivial
def xf:RFn iC oF:=λP h ds vs r=>by
 unfold oF
 split
 ·obtain⟨d,hd,rr1⟩:=eE r;subst hd;clear r;have r:=rr1
  split
  ·rename_i xs e
   obtain⟨es,e2,q⟩:=r.items e
   exact⟨_,by unfold iC;dsimp only;rw[e2],.tup q⟩
  ·trivial
 ·trivial
def BH:RFn rL vF:=λP h ds vs r=>by
 unfold vF
 split
 ·obtain⟨d,hd,rr1⟩:=eE r;subst hd;clear r;have r:=rr1;obtain rfl:=r.int;exact⟨_,rfl,.int _⟩
 ·obtain⟨d,hd,rr1⟩:=eE r;subst hd;clear r;have r:=rr1;obtain rfl:=r.bl;exact⟨_,rfl,.int _⟩
 ·trivial
def tyC:Val->Option Cl
 |.non=>some (.b "NoneType")
 |.bl _=>some (.b "bool")
 |.int _=>some (.b "int")
 |.str _=>some (.b "str")
 |.tup _=>some (.b "tuple")
 |.exc x=>some (.o x)
 |.lst _=>some (.b "list")
 |.dct _=>some (.b "dict")
 |_=>none
noncomputable def clV:Val->Option Cl
 |.ty n=>some (.b n)
 |.glb x=>some (.o x)
 |_=>none
def sj:List Val->Option (List Cl)
 | []=>some []
 |v::vs=>match clV v,sj vs with
  |some c,some cs=>some (c::cs)
  |_,_=>none
def HJ:Val->Option (List Cl)
 |.tup cs=>sj cs
 |v=>(clV v).map ([·])
def wJ(kt:gQ):List Val->Bv:=λvs=>match vs with
 | [v,c]=>(match tyC v,HJ c with
  |some t,some (c0::cr)=>(match ec kt t (c0::cr),kit kt t c0 with
   |some b,some _=>.val (.bl b)
   |_,_=>.stuck)
  |_,_=>.stuck)
 |_=>.stuck
def FG(r:ShR P h d v)(q:tyC v=some t):tyD h d=some t:=by
 cases v with
 |non=>obtain rfl:=r.non;exact q
 |bl b=>obtain rfl:=r.bl;exact q
 |int b=>obtain rfl:=r.int;exact q
 |str b=>obtain rfl:=r.str;exact q
 |exc b=>obtain rfl:=r.exc;exact q
 |tup b=>obtain⟨ds,rfl,_⟩:=r.tup;exact q
 |lst b=>obtain⟨n,ds,rfl,e,_⟩:=r.lst;unfold tyD;dsimp only;rw[e];exact q
 |dct b=>obtain⟨n,ds,rfl,e,_⟩:=r.dct;unfold tyD;dsimp only;rw[e];exact q
 |_=>cases q
def yE(r:ShR P h d v)(q:clV v=some c):clD d=some c:=by
 cases v with
 |ty b=>obtain rfl:=r.ty;exact q
 |glb b=>obtain rfl:=r.glb;exact q
 |_=>cases q
def Ea:∀{ds:List D}{vs:List Val}{cs:List Cl},Rds P h ds vs->sj vs=some cs->ds.mapM clD=some cs:=by
 intro ds
 induction ds with
 |
  nil=>
  intro vs cs r q
  cases r
  cases q
  rfl
 |
  cons d0 ds ih=>
  intro vs cs r q
  cases r with
  |
   cons r rr=>
   unfold sj at q
   split at q
   ·rename_i c cs' e1 e2
    cases q
    rw[Je,yE (.inl r) e1,ih rr e2];rfl
   ·cases q
def A2(kt:gQ):RFn (nY kt) (wJ kt):=λP h ds vs r=>by
 unfold wJ
 split
 ·rename_i v c
  obtain⟨d,d',rfl,r1,r2⟩:=sd r
  split
  ·rename_i t c0 cr e1 e2
   have e3:=FG r1 e1
   split
   ·rename_i b b' e4 e5
    refine⟨.bl b,?_,.bl b⟩
    unfold nY
    dsimp only
    rw[e3]
    dsimp only
    by_cases ht:∃cs,c=.tup cs
    ·obtain⟨cs,rfl⟩:=ht
     obtain⟨es,rfl,q⟩:=r2.tup
     dsimp only
     rw[Ea q e2]
     dsimp only
     rw[e4,e5]
    ·have e2':(clV c).map ([·])=some (c0::cr):=by
      cases c with
      |tup cs=>exact absurd ⟨cs,rfl⟩ ht
      |_=>exact e2
     obtain⟨cl,y1,y2⟩:=E_.mp e2'
     cases y2
     have y3:=yE r2 y1
     have hd:∀cs,d' ≠ .tup cs:=λcs z=>by subst z;cases y3
     split
     ·rename_i cs;exact absurd rfl (hd cs)
     ·rw[y3]
      dsimp only
      have:kit kt t c0=some b:=by
       unfold ec at e4
       rw[e5] at e4 ⊢
       cases b' with
       |true=>exact e4
       |false=>unfold ec at e4;exact e4
      rw[this]
   ·trivial
  ·trivial
 ·trivial
def fG(xs:List Val)(lo hi:Option Int):List Val:=(xs.drop (HT.sIx xs.length 0 lo)).take (HT.sIx xs.length xs.length hi-HT.sIx xs.length 0 lo)
abbrev MO3:=E3->R3 (Option Int)
def wm(_:Ns)(_:E3)(_:AH)(b c:Option Int):Prop:=b=c
def ROp(F:MO)(G:MO3):Prop:=∀X h0 ns e ae h,Sat X h0 ns e ae h->Po X h0 ns e ae h wm (F ae h) (G e)
def uv:MO3:=λe=>.ok none e
def u9(F:ME3):MO3:=λe=>(F e).bind λt e1=>match rs e1 t with
 |some (.int i)=>.ok (some i) e1
 |_=>.stuck
def aSl(x:Val)(lo hi:Option Int):Bv:=match x with
 |.tup xs=>if HT.sIx xs.length 0 lo=0/\HT.sIx xs.length xs.length hi=xs.length then .stuck else .val (.tup (fG xs lo hi))
 |.lst xs=>.new (.lst (fG xs lo hi))
 |.kl xs=>.new (.lst (fG xs lo hi))
 |_=>.stuck
def vSl(F:ME3)(L U:MO3):ME3:=λe=>(F e).bind λt e1=>(L e1).bind λlo e2=>(U e2).bind λhi e3=>match rs e3 t.drop with
 |some v=>(aSl v lo hi).at e3
 |none=>.stuck
def zM:ROp sZ uv:=λX h0 ns e ae h S=>Po.ret S rfl
def Ar(hF:RE F F3):ROp (sV F) (u9 F3):=λX h0 ns e ae h S=>
 Po.bind S (hF X h0 0 ns e ae h S (HW _)) λd t h1 ns1 e1 a1 S1 r1=>by
  by_cases hq:∃i,rs e1 t=some (.int i)
  ·obtain⟨i,hq⟩:=hq
   have hd:=(r1.sh S1 hq).int
   subst hd
   show Po X h0 ns1 e1 ae h1 wm (R.ok (some i) h1) (match rs e1 t with |some (.int i)=>R3.ok (some i) e1 |_=>.stuck)
   rw[hq]
   exact Po.ret S1 rfl
  ·have:(match rs e1 t with |some (.int i)=>R3.ok (some i) e1 |_=>.stuck)=(.stuck:R3 (Option Int)):=by
    split
    ·rename_i i q;exact absurd ⟨i,q⟩ hq
    ·rfl
   show Po X h0 ns1 e1 ae h1 wm _ (match rs e1 t with |some (.int i)=>R3.ok (some i) e1 |_=>.stuck)
   rw[this];trivial
def Ho(hF:RE F F3)(hL:ROp L L3')(hU:ROp U U3):RE (eSl F L U) (vSl F3 L3' U3):=λX h0 LL ns e ae h S hl=>
 Po.bind
  S (hF X h0 LL ns e ae h S hl) λd t h1 ns1 e1 a1 S1 r1=>Po.bind S1 (hL X h0 ns1 e1 ae h1 S1) λlo lo' h2 bn e2 a2 S2 r2=>Po.bind S2 (hU X h0 bn e2 ae h2 S2) λhi hi' h3 ns3 e3 a3 S3 r3=>by
  cases r2;cases r3
  obtain⟨r1',hn⟩:=r1.drop
  have r4:=(r1'.stp S1 a2 hn).stp S2 a3 hn
  try dsimp only
  split
  ·rename_i v q
   have rr:=r4.sh S3 q
   refine BvR.po S3 (w_ hl (w_ a1.len (w_ a2.len a3.len))) ?_
   unfold aSl
   split
   ·rename_i xs
    obtain⟨ds,rfl,q1⟩:=rr.tup
    split
    ·trivial
    ·rename_i hne
     refine⟨_,by unfold gSl;dsimp only;rw[if_neg (by rw[q1.len];exact hne)],.tup ?_⟩
     unfold L2.cutD fG
     rw[q1.len]
     exact (q1.drop _).take _
   ·rename_i xs
    obtain⟨n,ds,rfl,_,e1,q1⟩:=rr.lst
    refine⟨.lst (L2.cutD ds lo hi),by unfold gSl;dsimp only;rw[e1],trivial,.lst ?_⟩
    unfold L2.cutD fG
    rw[q1.len]
    exact (q1.drop _).take _
   ·rename_i xs
    have key:∃ds,gSl d lo hi h3=.ok (.ref h3.length) (h3++[.lst (L2.cutD ds lo hi)])/\Rds (Oc X ns3) h3 ds xs:=by
     rcases rr with rr |⟨n,o,rfl,e,rr⟩
     ·cases rr with
      |kl q1=>exact⟨_,rfl,q1⟩
      |cell p e rc=>cases rc with |fz q1=>exact⟨_,by unfold gSl aP;dsimp only;rw[e],q1⟩
     ·cases rr with |fz q1=>exact⟨_,by unfold gSl aP;dsimp only;rw[e],q1⟩
    obtain⟨ds,e1,q1⟩:=key
    refine⟨.lst (L2.cutD ds lo hi),e1,trivial,.lst ?_⟩
    unfold L2.cutD fG
    rw[q1.len]
    exact (q1.drop _).take _
   ·trivial
  ·trivial
def kT:Val->List Val->Option (Val×Val):=λu vs=>match u,vs with
 |.lst xs,[v]=>if xs.length<16777216 then some (.lst (xs++[v]),.non) else none
 |_,_=>none
section
variable{P:Nat->Prop}{h:AH}
def yF(e:h[n]?=some o)(r:Rc P h o (.lst xs)):jZ h (.ref n)=true/\∃ds,h[n]?=some (.lst ds)/\Rds P h ds xs/\∀f,j8 h (.ref n) f=f n ds:=by
 obtain⟨ds,e1,e2,q⟩:=Rc.seq e r
 refine⟨by show (aP h n).isSome=true;rw[e2];rfl,ds,e1,q,λf=>?_⟩
 unfold j8;dsimp only;rw[e1]
def rds1(r:Rds P h ds [v]):∃d,ds=[d]/\Rd P h d v:=by
 cases r with |cons r rr=>cases rr;exact⟨_,rfl,r⟩
end
def uy:RM iP kT:=λP h n o u ds vs u' v e hf r rs q=>by
 unfold kT at q
 split at q
 ·split at q
  ·rename_i hl
   cases q
   obtain⟨q1,es,q2,q3,q4⟩:=yF e r
   obtain⟨d,rfl,rd⟩:=rds1 rs
   refine⟨q1,.lst (es++[d]),.non,?_,trivial,.lst (q3.append (.cons rd .nil)),.non⟩
   unfold iP;rw[q4];dsimp only;rw[if_pos (by rw[q3.len];exact hl)]
  ·cases q
 ·cases q
def sL:Val->Val->Val->Option Val:=λu i v=>match u,i with
 |.lst xs,.int k=>(match ixN xs.length k with
  |some j=>some (.lst (xs.set j v))
  |none=>none)
 |_,_=>none
def CI:wk wL sL:=λP h n o u di vi d v u' _ e hf r ri rd q=>by
 unfold sL at q
 split at q
 ·split at q
  ·rename_i j hj
   cases q
   obtain⟨q1,es,q2,q3,q4⟩:=yF e r
   obtain rfl:=ri.int
   refine⟨.lst (es.set j d),?_,trivial,.lst (q3.set rd j)⟩
   unfold wL;dsimp only;rw[q2];dsimp only;rw[q3.len,hj]
  ·cases q
 ·cases q
structure PEx where
 F:ME
 G:ME3
 ok:RE F G
structure PTs where
 F:MT
 G:MT3
 ok:RT F G
structure PAs where
 F:MA
 G:MA3
 ok:RA F G
structure PSt where
 F:MS
 G:MS3
 ok:RS F G
structure PGt where
 F:MG
 G:MG3
 ok:RG F G
structure PGs where
 F:MGs
 G:iK
 ok:RGs F G
structure PIt where
 F:MI
 G:MI3
 ok:RI F G
structure POp where
 F:MO
 G:MO3
 ok:ROp F G
structure PO2 where
 F:D->D->AH->R D
 G:Val->Val->Bv
 ok:RO F G
structure PU1 where
 F:D->AH->R D
 G:Val->Bv
 ok:RU F G
structure PBf where
 F:Fn
 G:List Val->Bv
 ok:RFn F G
structure PMm where
 F:D->List D->AH->R D
 G:Val->List Val->Option (Val×Val)
 ok:RM F G
structure PSe where
 F:D->D->D->AH->R Unit
 G:Val->Val->Val->Option Val
 ok:wk F G
structure PFn where
 ms:List Bool
 F:Fn
 G:Fn3
 ok:RF ms F G
structure PFx(ms:List Bool) where
 F:Fn
 G:Fn3
 ok:RF ms F G
noncomputable section
def PFx.fn{ms:List Bool}(p:PFx ms):PFn:=⟨ms,p.F,p.G,p.ok⟩
def af(i:Nat):PEx:=⟨cK i,wM i,Bp i⟩
def ah(i:Int):PEx:=⟨eC (.int i),vC (.int i),pv λ_ _=>.int i⟩
def pBl(i:Bool):PEx:=⟨eC (.bl i),vC (.bl i),pv λ_ _=>.bl i⟩
def aY(i:Str):PEx:=⟨eC (.str i),vC (.str i),pv λ_ _=>.str i⟩
def pTy(i:String):PEx:=⟨eC (.ty i),vC (.ty i),pv λ_ _=>.ty i⟩
def ka(d:D)(v:Val)(r:∀P h,Rd P h d v):PEx:=⟨eC d,vC v,pv r⟩
def pUn(o:PU1)(a:PEx):PEx:=⟨eUn o.F a.F,vUn o.G a.G,HS o.ok a.ok⟩
def pOp(o:PO2)(a b:PEx):PEx:=⟨eOp o.F a.F b.F,vOp o.G a.G b.G,Fq o.ok a.ok b.ok⟩
def ag:PAs:=⟨rP,vNil,C2⟩
def aa(a:PEx)(r:PAs):PAs:=⟨m8 a.F r.F,yC a.G r.G,zX a.ok r.ok⟩
def pFn(o:PBf)(a:PAs):PEx:=⟨eFn o.F a.F,vFn o.G a.G,GO o.ok a.ok⟩
def a8(a:PAs):PEx:=⟨eFn kC a.F,vTup a.G,EL a.ok⟩
def dg(a:PAs):PEx:=⟨eFn cG a.F,vLst a.G,Cp a.ok⟩
def jz(a b:PEx):PEx:=⟨vv a.F b.F,vAnd a.G b.G,CN a.ok b.ok⟩
def pNot(a:PEx):PEx:=⟨xI a.F,vNot a.G,AY a.ok⟩
def qOf(a:PEx):PTs:=⟨tOf a.F,cOf a.G,GQ a.ok⟩
def qAn(a b:PTs):PTs:=⟨tAn a.F b.F,cAn a.G b.G,Hj a.ok b.ok⟩
def qO(a b:PTs):PTs:=⟨tO a.F b.F,cO a.G b.G,rt_o a.ok b.ok⟩
def qNo(a:PTs):PTs:=⟨tNo a.F,cNo a.G,FW a.ok⟩
def qY:PTs:=⟨tY,cY,rt_y⟩
def xNx:PSt:=⟨sNx,wNx,Ha⟩
def xBk:PSt:=⟨sBk,wBk,F5⟩
def au(a:PEx):PSt:=⟨xn a.F,wRet a.G,Br a.ok⟩
def cT(a:PEx):PSt:=⟨sm a.F,ym a.G,AF a.ok⟩
def aj(a b:PSt):PSt:=⟨vW a.F b.F,wSeq a.G b.G,Bz a.ok b.ok⟩
def xIf(c:PTs)(a b:PSt):PSt:=⟨sIf c.F a.F b.F,wIf c.G a.G b.G,FL c.ok a.ok b.ok⟩
def aq(o:Bool)(i:Nat)(a:PEx):PSt:=⟨f9 a.F (gN i),wAsg o i a.G,Bs o i a.ok⟩
def gtN(i:Nat):PGt:=⟨gN i,pN i,rW i⟩
def gB:PGs:=⟨gsN,psN,Fh⟩
def bZ(a:PGt)(b:PGs):PGs:=⟨gsC a.F b.F,psC a.G b.G,Hi a.ok b.ok⟩
def gtT(n:Nat)(a:PGs):PGt:=⟨gT λds ae h=>if ds.length=n then a.F ds ae h else .stuck,pT n a.G,rg_t n a.ok⟩
def gtX(a:PGt):PGt:=⟨λd ae h=>noX (a.F d ae h),a.G,CC a.ok⟩
def kD(a:PEx)(g:PGt):PSt:=⟨f9 a.F g.F,x5 a.G g.G,AD a.ok g.ok⟩
def d7(i j:Nat)(a:PAs):PSt:=⟨wg i j a.F,wPar i j a.G,BF i j a.ok⟩
def rN(i:Nat)(o:PO2)(a:PEx):PSt:=⟨oI i o.F a.F,vZ i o.G a.G,CJ i o.ok a.ok⟩
def dW(c:Str)(a:PAs):PSt:=⟨o9 c a.F,tW c a.G,xk c a.ok⟩
def sy(i:Nat)(w:PSe)(k a:PEx):PSt:=⟨f9 a.F (gS (cK i) k.F w.F),wSet i k.G a.G w.G,Bu i w.ok k.ok a.ok⟩
def lM(i:Nat)(m:PMm)(a:PAs):PEx:=⟨eM m.F (cK i) a.F,xP i m.G a.G,DB i m.ok a.ok⟩
def cR(a:PEx):PIt:=⟨vV a.F,yj a.G,BE a.ok⟩
def kL(a:PAs):PIt:=⟨wc a.F,wj gP a.G,B5 a.ok⟩
def gF(i:PIt)(g:PGt)(b:PSt):PSt:=⟨vB i.F g.F b.F,wFor i.G g.G b.G,E6 i.ok g.ok b.ok⟩
def xWh(c:PTs)(b:PSt):PSt:=⟨sWh c.F b.F,wWh c.G b.G,GD c.ok b.ok⟩
def pLC(i:PIt)(sub:Kd)(hs:(sub.filterMap id).Nodup)(g:PGt)(c:PTs)(a:PEx):PEx:=⟨eLC i.F sub g.F c.F a.F,vLC i.G sub g.G c.G a.G,HE hs i.ok g.ok c.ok a.ok⟩
def ai(f:PFn)(a:PAs):PEx:=⟨sH f.ms.length f.F a.F,yf f.ms f.G a.G,An rfl f.ok a.ok⟩
def oN:POp:=⟨sZ,uv,zM⟩
def oS(a:PEx):POp:=⟨sV a.F,u9 a.G,Ar a.ok⟩
def pSl(a:PEx)(l u:POp):PEx:=⟨eSl a.F l.F u.F,vSl a.G l.G u.G,Ho a.ok l.ok u.ok⟩
noncomputable def PFx.none(ms:List Bool)(N:Nat:=0):PFx ms:=⟨λ_ _=>.stuck,λ_=>.stuck,λ_ _ _ _ _ _ _=>trivial⟩
def PFx.of(ms:List Bool)(N:Nat)(c:PSt):PFx ms:=⟨fnD N c.F,fnV ms N c.G,yt c.ok⟩
def fnP(ms:List Bool)(N:Nat)(c:PSt):PFn:=⟨ms,fnD N c.F,fnV ms N c.G,yt c.ok⟩
def aK:PO2:=⟨rR,wB,Co⟩
def eI:PO2:=⟨xa,aMin,DM⟩
def ax:PO2:=⟨xq,rp,C0⟩
def g6:PO2:=⟨xF,rX,ER⟩
def bE:PO2:=⟨vy,rT,E2⟩
def eL:PO2:=⟨wG,sX,Dk⟩
def nR:PO2:=⟨v7,sN,D3⟩
def bLt:PO2:=⟨gLt,aLt,FO⟩
def bGt:PO2:=⟨gGt,aGt,Hk⟩
def bGe:PO2:=⟨gGe,aGe,Fp⟩
def bIx:PO2:=⟨gIx,aIx,FD⟩
def bEq:PO2:=⟨gEq false,aEq false,yx false⟩
def bNe:PO2:=⟨gEq true,aEq true,yx true⟩
def bIn:PO2:=⟨gIn false,aIn false,ya false⟩
def xN:PO2:=⟨gIn true,aIn true,ya true⟩
def bIs:PO2:=⟨xy false,vL false,A5 false⟩
def sG:PO2:=⟨gI λi j=>.int (i+j),aI λi j=>.int (i+j),pb λ_ _ _ _=>.int _⟩
def vU:PU1:=⟨sS,v9,A1⟩
def bA:PBf:=⟨nL,xM,Cn⟩
def eu:PBf:=⟨rq,xu,C1⟩
def pw:PBf:=⟨m7,sC,AB⟩
def oV:PBf:=⟨ng,rZ,za⟩
def nc:PBf:=⟨oZ,v5,Cz⟩
def eD:PBf:=⟨nX,vA,EI⟩
def nF:PBf:=⟨kd,rM,yQ⟩
def iY:PBf:=⟨iC,oF,xf⟩
def mZ:PBf:=⟨rL,vF,BH⟩
def en(kt:gQ):PBf:=⟨nY kt,wJ kt,A2 kt⟩
def dY:PMm:=⟨iP,kT,uy⟩
def seL:PSe:=⟨wL,sL,CI⟩
end
theorem kP:∀(ns:List Int),Rds P h (ns.map D.int) (ns.map Val.int)
 | []=>.nil
 |_::r=>.cons (.int _) (kP r)
def law3(p:PFn)(hm:p.ms=[false])(hG:∀ns:List Int,ns.length<=63->p.G [.kl (ns.map .int)]=.ok (.val (.bl true)) [])(d:D)(h:AH)(ns:List Int)(hl:ns.length<=63)(sc:Script h d ns):∃h',p.F [d] h=.ok (.bl true) h':=by
 have hp:=p.ok
 rw[hm] at hp
 have rd:Rd (Oc (λ_=>False) [none]) h d (.kl (ns.map .int)):=by
  rcases sc.form with ⟨n,rfl,e⟩ |rfl
  ·exact .cell ⟨λz=>z,by simp⟩ e (.fz (kP ns))
  ·exact .kl (kP ns)
 have S:Sat (λ_=>False) h.length [none] (sls [false] [.kl (ns.map .int)]) ([d].map some) h:=by
  refine⟨rfl,rfl,j_ _,λ_ z=>z.elim,λi j n q=>?_,λi n q z=>z,λi s q=>?_⟩
  ·cases i with
   |zero=>simp at q
   |succ i=>simp at q
  ·cases i with
   |
    zero=>
    have:sl1 false (.kl (ns.map .int))=s:=by simpa [sls] using q
    subst this
    exact⟨rfl,d,rfl,rd⟩
   |succ i=>simp [sls] at q
 have:=hp _ _ [d] [.kl (ns.map .int)] h rfl S
 rw[hG ns hl] at this
 obtain⟨d',h',e,_,_,r⟩:=this
 cases r with
 |bl=>exact⟨h',e⟩
 |cell p e r=>cases r
section
variable(e:E3)
@[simp] theorem iW(a:α)(f:α->E3->R3 β):(R3.ok a e).bind f=f a e:=rfl
@[simp] theorem F8(a:α)(f:α->E3->SR3):(R3.ok a e).toS f=f a e:=rfl
@[simp] theorem FC(f:E3->SR3):(SR3.nx e).then f=f e:=rfl
@[simp] theorem HI(r:Rt)(f:E3->SR3):(SR3.rt r e).then f=.rt r e:=rfl
@[simp] theorem Hw(f:E3->SR3):(SR3.bk e).then f=.bk e:=rfl
@[simp] theorem BK(c:Str)(f:E3->SR3):(SR3.exc c e).then f=.exc c e:=rfl
@[simp] theorem g9(f:E3->SR3):(SR3.nx e).loop f=f e:=rfl
@[simp] theorem Ga(f:E3->SR3):(SR3.ct e).loop f=f e:=rfl
@[simp] theorem HL(f:E3->SR3):(SR3.bk e).loop f=.nx e:=rfl
@[simp] theorem Fy(r:SR3):r.unl none=r:=by cases r <;> rfl
@[simp] theorem xR:lockO e none=e:=rfl
@[simp] theorem tf:dC e none=e:=rfl
@[simp] theorem Bo(v:Val):(Bv.val v).at e=.ok (.val v) e:=rfl
@[simp] theorem En(v:Val):(Bv.new v).at e=.ok (.new v) e:=rfl
@[simp] theorem DP(v:Val):rs e (.val v)=some v:=rfl
@[simp] theorem EM(i:Nat):rs e (.bor i)=(e[i]?).bind Sl.val:=rfl
@[simp] theorem BP(v:Val):(Tm.val v).drop=.val v:=rfl
@[simp] theorem Ca(v:Val):(Tm.new v).drop=.val v:=rfl
@[simp] theorem Ei(i:Nat):(Tm.bor i).drop=.bor i:=rfl
@[simp] theorem zK:rss e []=some []:=rfl
@[simp] theorem wz(t:Tm)(ts:List Tm):rss e (t::ts)=match rs e t,rss e ts with
 |some v,some vs=>some (v::vs)
 |_,_=>none:=rfl
@[simp] theorem Dv(v:Val):bP e (.val v)=some (e,v):=rfl
@[simp] theorem BL:dem e []=some (e,[]):=rfl
@[simp] theorem Aq(t:Tm)(ts:List Tm):dem e (t::ts)=match bP e t with
 |some (e1,v)=>match dem e1 ts with
  |some (e2,vs)=>some (e2,v::vs)
  |none=>none
 |none=>none:=rfl
@[simp] theorem CH(b:Bool):bOf (some (.bl b))=some b:=rfl
@[simp] theorem Gp(i:Nat):(af i).G e=match e[i]? with
 |some (.sh v)=>.ok (.val v) e
 |some .no=>.stuck
 |some _=>.ok (.bor i) e
 |none=>.stuck:=rfl
@[simp] theorem F6(i:Int):(ah i).G e=.ok (.val (.int i)) e:=rfl
@[simp] theorem v_bl(i:Bool):(pBl i).G e=.ok (.val (.bl i)) e:=rfl
@[simp] theorem Hg(i:Str):(aY i).G e=.ok (.val (.str i)) e:=rfl
@[simp] theorem v_ty(i:String):(pTy i).G e=.ok (.val (.ty i)) e:=rfl
@[simp] theorem v_un(o:PU1)(a:PEx):(pUn o a).G e=(a.G e).bind λt e1=>match rs e1 t with
 |some v=>(o.G v).at e1
 |none=>.stuck:=rfl
@[simp] theorem v_op(o:PO2)(a b:PEx):(pOp o a b).G e=(a.G e).bind λt1 e1=>(b.G e1).bind λt2 e2=>match rs e2 t1.drop,rs e2 t2 with
 |some v1,some v2=>(o.G v1 v2).at e2
 |_,_=>.stuck:=rfl
@[simp] theorem GL:ag.G e=.ok [] e:=rfl
@[simp] theorem CW(a:PEx)(r:PAs):(aa a r).G e=(a.G e).bind λt e1=>(r.G e1).bind λts e2=>.ok (t.drop::ts) e2:=rfl
@[simp] theorem v_fn(o:PBf)(a:PAs):(pFn o a).G e=(a.G e).bind λts e1=>match rss e1 ts with
 |some vs=>(o.G vs).at e1
 |none=>.stuck:=rfl
@[simp] theorem GW(a:PAs):(a8 a).G e=(a.G e).bind λts e1=>match dem e1 ts with
 |some (e2,vs)=>if vs.length<=16777216 then .ok (.val (.tup vs)) e2 else .stuck
 |none=>.stuck:=rfl
@[simp] theorem Gy(a:PAs):(dg a).G e=(a.G e).bind λts e1=>match dem e1 ts with
 |some (e2,vs)=>if vs.length<=16777216 then .ok (.new (.lst vs)) e2 else .stuck
 |none=>.stuck:=rfl
@[simp] theorem Fs(a b:PEx):(jz a b).G e=(a.G e).bind λt e1=>match bOf (rs e1 t) with
 |some true=>b.G e1
 |some false=>.ok (.val (.bl false)) e1
 |none=>.stuck:=rfl
@[simp] theorem c_of(a:PEx):(qOf a).G e=(a.G e).bind λt e1=>match bOf (rs e1 t) with
 |some b=>.ok b e1
 |none=>.stuck:=rfl
@[simp] theorem c_an(a b:PTs):(qAn a b).G e=(a.G e).bind λk e1=>if k=true then b.G e1 else .ok false e1:=rfl
@[simp] theorem c_o(a b:PTs):(qO a b).G e=(a.G e).bind λk e1=>if k=true then .ok true e1 else b.G e1:=rfl
@[simp] theorem c_no(a:PTs):(qNo a).G e=(a.G e).bind λk e1=>.ok (!k) e1:=rfl
@[simp] theorem x_nx:xNx.G e=.nx e:=rfl
@[simp] theorem x_bk:xBk.G e=.bk e:=rfl
@[simp] theorem HQ(a:PEx):(au a).G e=(a.G e).toS lH:=rfl
@[simp] theorem yZ(v:Val):lH (.val v) e=.rt (.val v) e:=rfl
@[simp] theorem zu(v:Val):lH (.new v) e=.rt (.new v) e:=rfl
@[simp] theorem yT(i:Nat):lH (.bor i) e=match e[i]? with
 |some (.sh v)=>.rt (.val v) e
 |some (.ow v)=>.rt (.new v) (e.set i .no)
 |some (.mu _)=>.rt (.par i) e
 |_=>.stuck:=rfl
@[simp] theorem E8(a:PEx):(cT a).G e=(a.G e).toS λ_ e1=>.nx e1:=rfl
@[simp] theorem xY(a b:PSt):(aj a b).G e=(a.G e).then b.G:=rfl
@[simp] theorem x_if(c:PTs)(a b:PSt):(xIf c a b).G e=(c.G e).toS λk e1=>if k=true then a.G e1 else b.G e1:=rfl
@[simp] theorem F9(o:Bool)(i:Nat)(a:PEx):(aq o i a).G e=(a.G e).toS (fY o i):=rfl
@[simp] theorem Gd:Sl.no.pl=true:=rfl
@[simp] theorem Fc(v:Val):(Sl.sh v).pl=true:=rfl
@[simp] theorem yO(o:Bool)(i:Nat)(v:Val):fY o i (.val v) e=match e[i]? with
 |some s0=>if s0.pl=true then .nx (e.set i (.sh v)) else .stuck
 |none=>.stuck:=by unfold fY;rfl
@[simp] theorem xC(i:Nat)(v:Val):fY true i (.new v) e=match e[i]? with
 |some s0=>if s0.pl=true then .nx (e.set i (.ow v)) else .stuck
 |none=>.stuck:=by unfold fY;rfl
@[simp] theorem xE(i:Nat)(v:Val):fY false i (.new v) e=match e[i]? with
 |some s0=>if s0.pl=true then .nx (e.set i (.sh v)) else .stuck
 |none=>.stuck:=by unfold fY;rfl
@[simp] theorem g_n(i:Nat)(v:Val):(gtN i).G v e=match e[i]? with
 |some s=>if s.pl=true then some (e.set i (.sh v)) else none
 |none=>none:=rfl
@[simp] theorem g_sn:gB.G [] e=some e:=rfl
@[simp] theorem g_sc(a:PGt)(b:PGs)(v:Val)(vs:List Val):(bZ a b).G (v::vs) e=(a.G v e).bind λe1=>b.G vs e1:=rfl
@[simp] theorem g_t(n:Nat)(a:PGs)(vs:List Val):(gtT n a).G (.tup vs) e=if vs.length=n then a.G vs e else none:=rfl
@[simp] theorem g_x(a:PGt)(v:Val):(gtX a).G v e=a.G v e:=rfl
@[simp] theorem EX(a:PEx)(g:PGt):(kD a g).G e=(a.G e).toS λt e1=>match bP e1 t with
 |some (e2,v)=>match g.G v e2 with
  |some e3=>.nx e3
  |none=>.stuck
 |none=>.stuck:=rfl
@[simp] theorem Fg(i j:Nat)(a:PAs):(d7 i j a).G e=(a.G e).toS λts e1=>match dem e1 ts with
 |some (e2,[v,u])=>match (pN i v e2).bind (pN j u) with
  |some e3=>.nx e3
  |none=>.stuck
 |_=>.stuck:=rfl
@[simp] theorem GX(i:Nat)(v:Val):pN i v e=match e[i]? with
 |some s=>if s.pl=true then some (e.set i (.sh v)) else none
 |none=>none:=rfl
@[simp] theorem Gu(i:Nat)(o:PO2)(a:PEx):(rN i o a).G e=match e[i]? with
 |some (.sh x)=>(a.G e).toS λt e1=>match rs e1 t with
  |some y=>match o.G x y with
   |.val z=>match pN i z e1 with
    |some e2=>.nx e2
    |none=>.stuck
   |_=>.stuck
  |none=>.stuck
 |_=>.stuck:=rfl
@[simp] theorem zj(c:Str)(a:PAs):(dW c a).G e=(a.G e).toS λts e1=>if ts.length<=16777216 then .exc c e1 else .stuck:=rfl
@[simp] theorem F7(i:Nat)(w:PSe)(k a:PEx):(sy i w k a).G e=(a.G e).toS λt e1=>match (e1[i]?).bind Sl.mv with
 |none=>.stuck
 |some _=>(k.G e1).toS λt2 e2=>match rs e2 t2 with
  |none=>.stuck
  |some vi=>match bP e2 t.drop with
   |none=>.stuck
   |some (e3,v)=>match e3[i]? with
    |none=>.stuck
    |some s=>match s.mv with
     |none=>.stuck
     |some u=>match w.G u vi v with
      |some u'=>.nx (e3.set i (s.re u'))
      |none=>.stuck:=rfl
@[simp] theorem G8(v:Val):(Sl.ow v).mv=some v:=rfl
@[simp] theorem GG(v:Val):(Sl.mu v).mv=some v:=rfl
@[simp] theorem GN(v u:Val):(Sl.ow v).re u=.ow u:=rfl
@[simp] theorem GI(v u:Val):(Sl.mu v).re u=.mu u:=rfl
@[simp] theorem Eb(v:Val):(Sl.ow v).val=some v:=rfl
@[simp] theorem Cb(v:Val):(Sl.mu v).val=some v:=rfl
@[simp] theorem G1(i:Nat)(m:PMm)(a:PAs):(lM i m a).G e=match e[i]? with
 |some s=>if (s.mv.map jt)=some true then (a.G e).bind λts e1=>match dem e1 ts with
  |some (e2,vs)=>match e2[i]? with
   |some s2=>match s2.mv with
    |some u=>match m.G u vs with
     |some (u',v)=>.ok (.val v) (e2.set i (s2.re u'))
     |none=>.stuck
    |none=>.stuck
   |none=>.stuck
  |none=>.stuck else .stuck
 |none=>.stuck:=rfl
@[simp] theorem xH(xs:List Val):jt (.lst xs)=true:=rfl
@[simp] theorem GJ(a:PEx):(cR a).G e=(a.G e).bind λt e1=>match jE t e1 with
 |some p=>.ok p e1
 |none=>.stuck:=rfl
@[simp] theorem Ct(v:Val):jE (.val v) e=(fO v).map λxs=>(xs,none):=rfl
@[simp] theorem CM(v:Val):jE (.new v) e=(fO v).map λxs=>(xs,none):=rfl
@[simp] theorem BU(xs:List Val):fO (.tup xs)=some xs:=rfl
@[simp] theorem Dt(xs:List Val):fO (.lst xs)=some xs:=rfl
@[simp] theorem G9(a:PAs):(kL a).G e=(a.G e).bind λts e1=>match (rss e1 ts).bind gP with
 |some xs=>.ok (xs,none) e1
 |none=>.stuck:=rfl
@[simp] theorem Fi(i:PIt)(g:PGt)(b:PSt):(gF i g b).G e=(i.G e).toS λp e1=>(dm g.G b.G p.1 (lockO e1 p.2)).unl p.2:=rfl
@[simp] theorem eW(g:MG3)(B:MS3):dm g B [] e=.nx e:=rfl
theorem cJ(g:MG3)(B:MS3)(v:Val)(vs:List Val):dm g B (v::vs) e=match g v e with
 |some e1=>(B e1).loop (dm g B vs)
 |none=>.stuck:=rfl
def gf(c:PTs)(b:PSt):(xWh c b).G e=(c.G e).toS λk e1=>if k=true then (b.G e1).loop (xWh c b).G else .nx e1:=xi c.G b.G e
@[simp] theorem v_lc(i:PIt)(sub:Kd)(hs:(sub.filterMap id).Nodup)(g:PGt)(c:PTs)(a:PEx):(pLC i sub hs g c a).G e=(i.G e).bind λp e1=>match lcV g.G c.G a.G p.1 [] (bR sub (lockO e1 p.2)) with
 |.ok ys e2=>if ys.length<=16777216 then .ok (.new (.lst ys)) (dC (aS sub e2 (lockO e1 p.2)) p.2) else .stuck
 |_=>.stuck:=rfl
@[simp] theorem Di(f:PFn)(a:PAs):(ai f a).G e=(a.G e).bind λts e1=>match rss e1 ts with
 |none=>.stuck
 |some vs=>if okA e1 f.ms ts=true then (match f.G vs with
  |.stuck=>.stuck
  |.ok r mv=>if (aM e1 f.ms ts).isEmpty || (iN r&&mv.all cn) then .ok (r.tm ts) (aS (bu f.ms ts) (aA f.ms mv) e1) else (match kQ e1 (aM e1 f.ms ts) with
   |some e2=>.ok (r.tm ts) (aS (bu f.ms ts) (aA f.ms mv) e2)
   |none=>.stuck)
  |.exc c mv=>if (aM e1 f.ms ts).isEmpty || mv.all cn then .exc c (aS (bu f.ms ts) (aA f.ms mv) e1) else .stuck) else .stuck:=rfl
@[simp] theorem Cd(ts:List Tm)(v:Val):(Rt.val v).tm ts=.val v:=rfl
@[simp] theorem EK(ts:List Tm)(v:Val):(Rt.new v).tm ts=.new v:=rfl
@[simp] theorem o_n:oN.G e=.ok none e:=rfl
@[simp] theorem o_s(a:PEx):(oS a).G e=(a.G e).bind λt e1=>match rs e1 t with
 |some (.int i)=>.ok (some i) e1
 |_=>.stuck:=rfl
@[simp] theorem v_sl(a:PEx)(l u:POp):(pSl a l u).G e=(a.G e).bind λt e1=>(l.G e1).bind λlo e2=>(u.G e2).bind λhi e3=>match rs e3 t.drop with
 |some v=>(aSl v lo hi).at e3
 |none=>.stuck:=rfl
theorem aH(ms:List Bool)(N:Nat)(c:PSt)(vs:List Val):(fnP ms N c).G vs=if vs.length=ms.length then (match c.G (sls ms vs++List.replicate (N-vs.length) .no) with
 |.nx e=>(match muV ms e with |some mv=>.ok (.val .non) mv |none=>.stuck)
 |.rt r e=>(match muV ms e with |some mv=>.ok r mv |none=>.stuck)
 |.exc c e=>(match muV ms e with |some mv=>.exc c mv |none=>.stuck)
 |_=>.stuck) else .stuck:=rfl
theorem mQ(ms:List Bool)(N:Nat)(c:PSt)(vs:List Val):(PFx.of ms N c).G vs=if vs.length=ms.length then (match c.G (sls ms vs++List.replicate (N-vs.length) .no) with
 |.nx e=>(match muV ms e with |some mv=>.ok (.val .non) mv |none=>.stuck)
 |.rt r e=>(match muV ms e with |some mv=>.ok r mv |none=>.stuck)
 |.exc c e=>(match muV ms e with |some mv=>.exc c mv |none=>.stuck)
 |_=>.stuck) else .stuck:=rfl
@[simp] theorem HB(p:PFx ms):p.fn.ms=ms:=rfl
@[simp] theorem fx_G(p:PFx ms)(vs:List Val):p.fn.G vs=p.G vs:=rfl
end
@[simp] theorem HR(i j:Int):aK.G (.int i) (.int j)=.val (.int (i+j)):=rfl
@[simp] theorem Hc(i j:Int):eI.G (.int i) (.int j)=.val (.int (i-j)):=rfl
@[simp] theorem k_lt(i j:Int):bLt.G (.int i) (.int j)=.val (.bl (decide (i<j))):=rfl
@[simp] theorem k_gt(i j:Int):bGt.G (.int i) (.int j)=.val (.bl (decide (j<i))):=rfl
@[simp] theorem k_ge(i j:Int):bGe.G (.int i) (.int j)=.val (.bl (decide (j<=i))):=rfl
@[simp] theorem F2(i j:Int):sG.G (.int i) (.int j)=.val (.int (i+j)):=rfl
@[simp] theorem G6(i:Int):vU.G (.int i)=.val (.int (-i)):=rfl
def aB(c:CMulA i j):ax.G (.int i) (.int j)=.val (.int (i*j)):=by show rp (.int i) (.int j)=_;unfold rp aIc;dsimp only;rw[if_pos c]
def i8(c:CDivB i j):g6.G (.int i) (.int j)=.val (.int (i.fdiv j)):=by show rX (.int i) (.int j)=_;unfold rX aIc;dsimp only;rw[if_pos c]
def dJ(c:j≠0):bE.G (.int i) (.int j)=.val (.int (i.fmod j)):=by show rT (.int i) (.int j)=_;unfold rT aIc;dsimp only;rw[if_pos c]
def mY(c:eK i j):eL.G (.int i) (.int j)=.val (.int (i^j.toNat)):=by show sX (.int i) (.int j)=_;unfold sX aIc;dsimp only;rw[if_pos c]
def F1(c:eK i j):nR.G (.int i) (.int j)=.val (.int (i*2^j.toNat)):=by show sN (.int i) (.int j)=_;unfold sN aIc;dsimp only;rw[if_pos c]
@[simp] theorem k_ix(x:Val)(i:Int):bIx.G x (.int i)=match x.items with
 |some xs=>(match atI xs i with
  |some v=>.val v
  |none=>.stuck)
 |none=>.stuck:=by show aIx x (.int i)=_;unfold aIx;cases x.items <;> rfl
@[simp] theorem D2(xs:List Val):(Val.tup xs).items=some xs:=rfl
@[simp] theorem B7(xs:List Val):(Val.lst xs).items=some xs:=rfl
@[simp] theorem GS(xs:List Val):(Val.kl xs).items=some xs:=rfl
@[simp] theorem k_eq(x y:Val):bEq.G x y=match b0 x y with
 |some b=>.val (.bl b)
 |none=>.stuck:=by show aEq false x y=_;unfold aEq;cases b0 x y <;> rfl
@[simp] theorem k_ne(x y:Val):bNe.G x y=match b0 x y with
 |some b=>.val (.bl (!b))
 |none=>.stuck:=by show aEq true x y=_;unfold aEq;cases b0 x y <;> rfl
@[simp] theorem HA(x y:Int):b0 (.int x) (.int y)=some (x==y):=rfl
def eq_str(hx:PyData.strOk x=true)(hy:PyData.strOk y=true):b0 (.str x) (.str y)=some (x==y):=by
 unfold b0
 show (if shp (.str x)=true/\shp (.str y)=true then _ else _)=_
 rw[if_pos ⟨fH hx (HW _),fH hy (HW _)⟩]
 rfl
@[simp] theorem k_is(x:Val):bIs.G x .non=match x with
 |.non=>.val (.bl true)
 |_=>.val (.bl false):=by cases x <;> rfl
@[simp] theorem FA(v:Val):bA.G [v]=match v.items with
 |some xs=>.val (.int xs.length)
 |none=>(match v with
  |.str z=>if z.length<=16777216 then .val (.int z.length) else .stuck
  |_=>.stuck):=rfl
@[simp] theorem FE(i:Int):eu.G [.int i]=.val (.int (if i<0 then -i else i)):=rfl
@[simp] theorem Hv(i j:Int):pw.G [.int i,.int j]=.val (.int (if j>i then j else i)):=rfl
@[simp] theorem Hs(i j:Int):oV.G [.int i,.int j]=.val (.int (if j<i then j else i)):=rfl
@[simp] theorem GR(xs:List Val):nc.G [.lst xs]=match iF xs with
 |some bs=>.val (.bl (bs.all id))
 |none=>.stuck:=rfl
@[simp] theorem HP(xs:List Val):eD.G [.lst xs]=match gM xs with
 |some bs=>.val (.int bs.sum)
 |none=>.stuck:=rfl
@[simp] theorem AV(v:Val):nF.G [v]=match v.items with
 |some xs=>.new (.lst xs)
 |none=>.stuck:=rfl
@[simp] theorem zb(v:Val):iY.G [v]=match v.items with
 |some xs=>.val (.tup xs)
 |none=>.stuck:=rfl
@[simp] theorem BY(b:Bool):mZ.G [.bl b]=.val (.int (if b then 1 else 0)):=rfl
@[simp] theorem xW(xs:List Val)(v:Val):dY.G (.lst xs) [v]=if xs.length<16777216 then some (.lst (xs++[v]),.non) else none:=rfl
@[simp] theorem cj:∀(bs:List Int),gM (bs.map Val.int)=some bs
 | []=>rfl
 |b::r=>by show (gM (r.map Val.int)).map (b :: ·)=_;rw[cj r];rfl
def tQ{K:W.Frag}{mg:Ka}{X:Cx}{ES:L2.St->XK}{sts:List Stmt}:DSs K mg X ES sts (λ_ _=>.stuck):=λpins s σ H D I ⟨_,_,_,_,_,p⟩=>p.elim
section
variable(K:W.Frag)(mg:Ka)(X:Cx)(ES:L2.St->XK)
@[irreducible] def DE(e:Expr)(F:ME):Prop:=L2.DE K mg X ES e F
@[irreducible] def DT(e:Expr)(F:MT):Prop:=L2.DT K mg X ES e F
@[irreducible] def DA(es:List Expr)(F:MA):Prop:=L2.DA K mg X ES es F
@[irreducible] def DS(st:Stmt)(F:MS):Prop:=L2.DS K mg X ES st F
@[irreducible] def DSs(st:List Stmt)(F:MS):Prop:=L2.DSs K mg X ES st F
@[irreducible] def DI(tg al:Expr)(F:MI):Prop:=L2.DI K mg X ES tg al F
end
section
variable{K:W.Frag}{mg:Ka}{X:Cx}{ES:L2.St->XK}{e a b c o i tg al db:Expr}{es:List Expr}{st:Stmt}{sts sts':List Stmt}{p q r:PEx}{A:PAs}{t u:PTs}{x y:PSt}{g:PGt}{gs:PGs}{I:PIt}{pos:Pos}
def u6(i:Nat){x:Str}(hN:X.N[i]?=some x:=by rfl)(hv:Vis X.env.scope x:=by first |exact Or.inl rfl |exact Or.inr (Or.inl rfl) |exact Or.inr (Or.inr rfl))(hd:(x==("__debug__" : Str))=false:=by decide)(hcd:(x==("__classdict__" : Str))=false:=by decide):DE K mg X ES (.Name x pos) (af i).F:=by with_unfolding_all exact Ef i hN hv hd hcd
def D5{i:Int}{j:Nat}:DE K mg X ES (.Constant (.int i) j pos) (ah i).F:=by with_unfolding_all exact Ee
def HK{i:Bool}{j:Nat}:DE K mg X ES (.Constant (.bool i) j pos) (pBl i).F:=by with_unfolding_all exact FX
def iw{i:Str}{j:Nat}:DE K mg X ES (.Constant (.str i) j pos) (aY i).F:=by with_unfolding_all exact Ek
def Hz{x:Str}{d:D}{v:Val}{r:∀P h,Rd P h d v}(hg:Gl X x)(ha:GC K mg x d)(hm:X.mg=mg:=by rfl)(hd:(x==("__debug__" : Str))=false:=by decide):DE K mg X ES (.Name x pos) (ka d v r).F:=by with_unfolding_all exact Fe hg ha hm hd
def FF{x:Str}{n:String}(hg:Gl X x)(hm:mg x=none)(hv:bootBuiltins x=some (.type n))(he:X.mg=mg:=by rfl)(hn:x ≠ "__name__":=by decide)(hd:(x==("__debug__" : Str))=false:=by decide):DE K mg X ES (.Name x pos) (pTy n).F:=by with_unfolding_all exact Fw hg hm hv he hn hd
def Gx(ho:OpR X (binaryOp op) r')(hd:OpD K mg r' k.F)(ha:DE K mg X ES a p.F)(hb:DE K mg X ES b q.F):DE K mg X ES (.BinOp a op b pos) (pOp k p q).F:=by with_unfolding_all exact GZ ho hd ha hb
def GP(hr:IxR X r')(hd:OpD K mg r' k.F)(ha:DE K mg X ES a p.F)(hb:DE K mg X ES b q.F)(hs:lj b:=by exact λ_ _=>rfl):DE K mg X ES (.Subscript a b pos) (pOp k p q).F:=by with_unfolding_all exact Hx hr hd ha hb hs
def CY(ho:OpR X (compareOp op) r')(hd:OpD K mg r' k.F)(ha:DE K mg X ES a p.F)(hb:DE K mg X ES b q.F)(hm:behindInMarks op b=false:=by first |exact tV _ |with_unfolding_all rfl):DE K mg X ES (.Compare a [op] [b] pos) (pOp k p q).F:=by with_unfolding_all exact Et ho hd ha hb hm
def Cf(ho:OpR X (compareOp op) r')(hd:OpD K mg r' k.F)(ha:DE K mg X ES a p.F)(hb:DE K mg X ES b q.F)(hm:behindInMarks op b=false:=by first |exact tV _ |with_unfolding_all rfl):DT K mg X ES (.Compare a [op] [b] pos) (qOf (pOp k p q)).F:=by with_unfolding_all exact C5 ho hd ha hb hm
def nS(ha:DE K mg X ES a p.F)(he:∀gl,isTrue a X.env gl=(do let v <- gl;standAt a.pos;holding [v] (truthy v)):=by intro _;rfl):DT K mg X ES a (qOf p).F:=by with_unfolding_all exact BB ha he
def nG(ha:DT K mg X ES a t.F):DT K mg X ES (.UnaryOp .Not a pos) (qNo t).F:=by with_unfolding_all exact Cy ha
def AJ(ha:DT K mg X ES a t.F):DW K mg X ES (.BoolOp .And [a] pos) t.F:=by with_unfolding_all exact zr ha
def DQ(ha:DT K mg X ES a t.F):DW K mg X ES (.BoolOp .Or [a] pos) t.F:=by with_unfolding_all exact C9 ha
def B9(ha:DT K mg X ES a t.F)(hb:DW K mg X ES (.BoolOp .And (b::es) pos) u.F):DW K mg X ES (.BoolOp .And (a::b::es) pos) (qAn t u).F:=by with_unfolding_all exact CU ha hb
def FR(ha:DT K mg X ES a t.F)(hb:DW K mg X ES (.BoolOp .Or (b::es) pos) u.F):DW K mg X ES (.BoolOp .Or (a::b::es) pos) (qO t u).F:=by with_unfolding_all exact Ft ha hb
def ZW.dt(h:DW K mg X ES a t.F):DT K mg X ES a t.F:=by with_unfolding_all exact DW.dt h
def zt_w{op}(h:DW K mg X ES (.BoolOp op es pos) t.F):DT K mg X ES (.BoolOp op es pos) t.F:=ZW.dt h
def CP{op}(h:DE K mg X ES a p.F):DE K mg X ES (.BoolOp op [a] pos) p.F:=by with_unfolding_all exact EE h
def DJ(ha:DE K mg X ES a p.F)(hb:DE K mg X ES (.BoolOp .And (b::es) pos) q.F):DE K mg X ES (.BoolOp .And (a::b::es) pos) (jz p q).F:=by with_unfolding_all exact DF ha hb
def BJ(ha:DE K mg X ES a p.F):DE K mg X ES (.UnaryOp .Not a pos) (pNot p).F:=by with_unfolding_all exact DU ha
def HH(ho:UnR X (unaryOp op) r')(hd:UnD K mg r' k.F)(ha:DE K mg X ES a p.F):DE K mg X ES (.UnaryOp op a pos) (pUn k p).F:=by with_unfolding_all exact Fo ho hd ha
def Dz:DA K mg X ES [] ag.F:=by with_unfolding_all exact Ey
def eV(ha:DE K mg X ES e p.F)(hr:DA K mg X ES es A.F)(hs:starEach (e::es) X.env=(false,eval e X.env)::starEach es X.env:=by rfl):DA K mg X ES (e::es) (aa p A).F:=by with_unfolding_all exact AS ha hr hs
def tU{x1}(h:DA K mg X ES es A.F):DE K mg X ES (.Tuple es x1 pos) (a8 A).F:=by with_unfolding_all exact A7 h
def Bn(h:DA K mg X ES es A.F):DE K mg X ES (.List es pos) (dg A).F:=by with_unfolding_all exact Cv h
def ju{id:String}{r':List V->Hp->VK->Prop}{k:PBf}{x:Str}{p0:Pos}(hc:CallR X (.builtin id) r')(hd:aR K mg r' k.F)(hg:Gl X x)(hm:mg x=none)(hv:bootBuiltins x=some (.builtin id))(ha:DA K mg X ES (e::es) A.F)(hk:X.mg=mg:=by rfl)(hn:x ≠ "__name__":=by decide)(hdb:(x==("__debug__" : Str))=false:=by decide)(he:starEach (e::es) X.env=(false,eval e X.env)::starEach es X.env:=by rfl)(hpl:(backTo pos (starEach es X.env)).any (·.1)=false:=by rfl):DE K mg X ES (.Call (.Name x p0) (e::es) [] pos) (pFn k A).F:=by with_unfolding_all exact vN hc hd hg hm hv ha hk hn hdb he hpl
def ur{id:String}{r':List V->Hp->VK->Prop}{k:PBf}{x:Str}{p0:Pos}(hc:CallR X (.type id) r')(hd:aR K mg r' k.F)(hg:Gl X x)(hm:mg x=none)(hv:bootBuiltins x=some (.type id))(ha:DA K mg X ES (e::es) A.F)(hk:X.mg=mg:=by rfl)(hn:x ≠ "__name__":=by decide)(hdb:(x==("__debug__" : Str))=false:=by decide)(he:starEach (e::es) X.env=(false,eval e X.env)::starEach es X.env:=by rfl)(hpl:(backTo pos (starEach es X.env)).any (·.1)=false:=by rfl):DE K mg X ES (.Call (.Name x p0) (e::es) [] pos) (pFn k A).F:=by with_unfolding_all exact uO hc hd hg hm hv ha hk hn hdb he hpl
def vS{f:PFn}{x:Str}{p0:Pos}{k n:Nat}{ps:List Str}(C:Callee X.prog X.w X.K X.mg X.base x k ps (spD K mg n f.F))(hr:Room k X.A)(hg:Gl X x)(hx:ja X ES)(ha:DA K mg X ES (e::es) A.F)(hn:f.ms.length=n)(hdb:(x==("__debug__" : Str))=false)(he:starEach (e::es) X.env=(false,eval e X.env)::starEach es X.env)(hpl:(backTo pos (starEach es X.env)).any (·.1)=false):DE K mg X ES (.Call (.Name x p0) (e::es) [] pos) (ai f A).F:=by
 subst hn
 with_unfolding_all exact xb C hr hg hx ha hdb he hpl
def zB:DSs K mg X ES [] xNx.F:=by with_unfolding_all exact AU
def fb(h1:DS K mg X ES st x.F):DSs K mg X ES [st] x.F:=by with_unfolding_all exact AM h1
def az(h1:DS K mg X ES st x.F)(h2:DSs K mg X ES sts y.F):DSs K mg X ES (st::sts) (aj x y).F:=by with_unfolding_all exact wZ h1 h2
def wq:DS K mg X ES (.Break pos) xBk.F:=by with_unfolding_all exact xB
def ik(he:DE K mg X ES e p.F):DS K mg X ES (.Return (some e) pos) (au p).F:=by with_unfolding_all exact Dx he
def Ae(he:DE K mg X ES e p.F)(hs:swapsWith e none pos.line X.env=pure false:=by rfl):DS K mg X ES (.Expr e pos) (cT p).F:=by with_unfolding_all exact Aw he hs
def j9(hc:DT K mg X ES c t.F)(ha:DSs K mg X ES sts x.F)(hb:DSs K mg X ES sts' y.F):DS K mg X ES (.If c sts sts' pos) (xIf t x y).F:=by with_unfolding_all exact G7 hc ha hb
def zD{i:Nat}{x:Str}(hN:X.N.Nodup)(hi:X.N[i]?=some x)(hx:Loc X.env.scope x)(hf:X.fn x=true\/X.env.scope.names.lookup x=some .local):DG K mg X ES (.Name x pos) (gtN i).F:=zH hN hi hx hf
def zi:DGs K mg X ES [] gB.F:=yK
def xD(h1:DG K mg X (λ_=>E0) e g.F)(h2:DGs K mg X (λ_=>E0) es gs.F)(hs:(assignEach (e::es) X.env).map (·.2)=assign e X.env::(assignEach es X.env).map (·.2):=by rfl):DGs K mg X (λ_=>E0) (e::es) (bZ g gs).F:=wC h1 h2 hs
def BS(hK:X.K=K)(hc:X.calm=true)(h:DGs K mg X (λ_=>E0) es gs.F)(hn:(assignEach es X.env).length=n:=by rfl)(hst:(assignEach es X.env).findIdx? (·.1)=none:=by rfl):DG K mg X (λ_=>E0) (.Tuple es k pos) (gtT n gs).F:=DN hK hc h hn hst
def ZG.weak(hg:DG K mg X (λ_=>E0) e g.F):DG K mg X ES e (gtX g).F:=DG.weak hg
def zQ(he:DE K mg X ES e p.F)(hg:DG K mg X ES a g.F)(hs:swapsWithSole [a] e pos.line X.env=pure false:=by rfl)(hw:swappedStores [a] e X.env=pure none:=by rfl)(h1:(assignEach [a] X.env).map (·.2)=[assign a X.env]:=by rfl):DS K mg X ES (.Assign [a] e pos) (kD p g).F:=by with_unfolding_all exact u5 he hg hs hw h1
def y8(he:DE K mg X ES e p.F)(ho:DE K mg X ES o (af j).F)(hi:DE K mg X ES i q.F)(hs':rC X r')(hd:tj K mg r' w.F)(hs:swapsWithSole [.Subscript o i p1] e pos.line X.env=pure false:=by rfl)(hw:swappedStores [.Subscript o i p1] e X.env=pure none:=by rfl)(h1:(assignEach [.Subscript o i p1] X.env).map (·.2)=[assign (.Subscript o i p1) X.env]:=by rfl)
 (ha:∀v,assign (.Subscript o i p1) X.env v=(do
  let ov <- holding [v] (eval o X.env)
  let iv <- holding [v,ov] (eval i X.env)
  standAt p1
  holding [v,ov,iv] (setItem ov iv v)
  release [v,ov,iv] []):=by intro _;rfl):DS K mg X ES (.Assign [.Subscript o i p1] e pos) (sy j w q p).F:=by with_unfolding_all exact u5 he (Dy ho hi hs' hd ha) hs hw h1
def BN{ow:Bool}{i:Nat}{x:Str}{f_:Pos}(hN:X.N.Nodup)(hi:X.N[i]?=some x)(hx:Loc X.env.scope x)(he:DE K mg X ES e p.F)(hs:swapsWith e (some (.Name x f_)) pos.line X.env=pure false)(hf:X.fn x=true\/X.env.scope.names.lookup x=some .local):DS K mg X ES (.Assign [.Name x f_] e pos) (aq ow i p).F:=by with_unfolding_all exact Cc hN hi hx he hs hf
def Ej{i j:Nat}{x y:Str}{px py pt:Pos}{kt k2 pt2}(hN:X.N.Nodup)(ha:DA K mg X ES [a,b] A.F)(hc:X.calm=true:=by rfl)(hi:X.N[i]?=some x:=by rfl)(hj:X.N[j]?=some y:=by rfl)(hij:i≠j:=by decide)(hx:X.env.scope.names.lookup x=some .local:=by rfl)(hy:X.env.scope.names.lookup y=some .local:=by rfl)(hw:swappedStores [.Tuple [.Name x px,.Name y py] kt pt] (.Tuple [a,b] k2 pt2) X.env=pure (some [x,y]):=by rfl)(hs:swapsWithSole [.Tuple [.Name x px,.Name y py] kt pt] (.Tuple [a,b] k2 pt2) pos.line X.env=pure false:=by rfl):DS K mg X ES (.Assign [.Tuple [.Name x px,.Name y py] kt pt] (.Tuple [a,b] k2 pt2) pos) (d7 i j A).F:=by with_unfolding_all exact Cq hc hN hi hj hij hx hy ha hw hs
def EH{i:Nat}{x:Str}{op:Operator}{ti:TIp}{f_:Pos}{k:PO2}(hN:X.N.Nodup)(he:DE K mg X ES e p.F)(ho:PIp X op ti)(hd:IpD K mg ti k.F)(hi:X.N[i]?=some x:=by rfl)(hx:Loc X.env.scope x:=by first |exact Or.inl rfl |exact Or.inr rfl)(hf:X.fn x=true\/X.env.scope.names.lookup x=some .local:=by first |exact .inl rfl |exact .inr rfl |assumption):DS K mg X ES (.AugAssign (.Name x f_) op e pos) (rN i k p).F:=by with_unfolding_all exact E7 hN hi hx he ho hd hf
def vz{x:Str}{C:Addr}{E:XK}{np cpos:Pos}(hc:X.calm=true)(hR:Rz X E)(hg:Gl X x)(hm:mg x=some (.ref C))(hq:W.excIn X.K C jN "ValueError.__new__"=true)(ha:DA K mg X (λ_=>E) (e::es) A.F)(hk:X.mg=mg:=by rfl)(he:starEach (e::es) X.env=(false,eval e X.env)::starEach es X.env:=by rfl)(ce:(backTo cpos (starEach es X.env)).any (·.1)=false:=by rfl)(hd:(x==("__debug__" : Str))=false:=by decide):DS K mg X (λ_=>E) (.Raise (some (.Call (.Name x np) (e::es) [] cpos)) none pos) (dW x A).F:=by with_unfolding_all exact xj hc hR hg hm hq ha hk he ce hd
def A4(hK:X.K=K)(he:DE K mg X ES e p.F):DI K mg X ES tg e (cR p).F:=by with_unfolding_all exact AX hK he
def uh(hg:Gl X "range")(hm:mg "range"=none)(ha:DA K mg X ES [a] A.F)(hk:X.mg=mg:=by rfl)(hs:starEach [a] X.env=[(false,eval a X.env)]:=by rfl):DI K mg X ES tg (.Call (.Name "range" p0) [a] [] pos) (kL A).F:=by with_unfolding_all exact uB hg hm ha hk hs
def Bb(hp:PassesOwn (model X.prog X.w) X.A X.env X.xe)(hc:X.calm=true)(hi:DI K mg X ES tg al I.F)(hg:DG K mg X ES tg g.F)(hb:DSs K mg X ES sts x.F)(hs:∀x,foldedSetIterable al X.env x=pure x:=by intro _;rfl):DS K mg X ES (.For tg al sts [] pos) (gF I g x).F:=by with_unfolding_all exact CK hp hc hi hg hb hs
def xp(hp:PassesOwn (model X.prog X.w) X.A X.env X.xe)(hc:DT K mg X ES c t.F)(hb:DSs K mg X ES sts x.F):DS K mg X ES (.While c sts [] pos) (xWh t x).F:=by with_unfolding_all exact wb hp hc hb
def Fu{scope:Scope}(M:List Str)(kn:List (Str×NameKind))(N:List Str)(sub:Kd){hsb:(sub.filterMap id).Nodup}(hc:X.calm=true)(hi:DI K mg X ES tg al I.F)(hg:∀cl C s₂ H fp,DG K mg (aC X N scope cl C s₂ H fp) (λ_=>E0) tg g.F)(he:∀cl C s₂ H fp,DE K mg (aC X N scope cl C s₂ H fp) (λ_=>E0) db p.F)(hM:X.N=M)(hkn:X.env.scope.names=kn)(ci:eA M scope.names sub N=true)(hk:scope.kind=.function)(hnc:∀x∈scope.names,x.2 ≠ .cell)(bi:∀x∈scope.names,x.2=.local->scope.names.lookup x.1=some .local)(hfr:fS kn scope.names=true)(hsl:sub.length=N.length)(hs:∀x,foldedSetIterable al X.env x=pure x):DE K mg X ES (.ListComp db [⟨tg,al,[],0⟩] scope pos) (pLC I sub hsb g qY p).F:=by with_unfolding_all exact GK M kn N sub hc hi hg he hM hkn ci hk hnc bi hfr hsl hs
def Hm{ow:Bool}{px spos:Pos}{iT:Nat}{xT:Str}{scope:Scope}(M:List Str)(kn:List (Str×NameKind))(N:List Str)(sub:Kd){hsb:(sub.filterMap id).Nodup}(hc:X.calm=true)(hN:X.N.Nodup)(hix:X.N[iT]?=some xT)(hxl:Loc X.env.scope xT)(hi:DI K mg X ES tg al I.F)(hg:∀cl C s₂ H fp,DG K mg (aC X N scope cl C s₂ H fp) (λ_=>E0) tg g.F)(he:∀cl C s₂ H fp,DE K mg (aC X N scope cl C s₂ H fp) (λ_=>E0) db p.F)(hsw:swapsWith (.ListComp db [⟨tg,al,[],0⟩] scope pos) (some (.Name xT px)) spos.line X.env=pure true)(hM:X.N=M)(hkn:X.env.scope.names=kn)(ci:eA M scope.names sub N=true)(hk:scope.kind=.function)(hnc:∀x∈scope.names,x.2 ≠ .cell)(bi:∀x∈scope.names,x.2=.local->scope.names.lookup x.1=some .local)(hfr:fS kn scope.names=true)(hsl:sub.length=N.length)(hs:∀x,foldedSetIterable al X.env x=pure x)(hf:X.fn xT=true\/X.env.scope.names.lookup xT=some .local):DS K mg X ES (.Assign [.Name xT px] (.ListComp db [⟨tg,al,[],0⟩] scope pos) spos) (aq ow iT (pLC I sub hsb g qY p)).F:=by with_unfolding_all exact Gn M kn N sub hc hN hix hxl hi hg he hsw hM hkn ci hk hnc bi hfr hsl hs hf
def D4{j:Nat}{name:Str}{id:String}{apos cpos:Pos}{r':V->List V->Hp->VK->Prop}{k:PMm}(hK:X.K=K)(slot:Slot "list" name id)(hty:typeOf (.builtin id)=pure (.type "method_descriptor"))(hm:MtM X id r')(hd:MtD K mg r' k.F)(ho:DE K mg X ES o (af j).F)(ha:DA K mg X ES (e::es) A.F)(hbase:attributeBase o name X.env (eval o X.env)=eval o X.env:=by rfl)(hfew:((backTo cpos (starEach (e::es) X.env)).all (λx=>!x.1)&&(backToKw cpos (keywordEach [] X.env)).all (λx=>x.1.isSome)&&decide ((e::es).length+([]:List Keyword).length+(if ([]:List Keyword).isEmpty then 0 else 1)<30))=true:=by rfl)(hline:(apos.endLine==cpos.line)=true:=by rfl)(hs:starEach (e::es) X.env=(false,eval e X.env)::starEach es X.env:=by rfl)(ce:(backTo cpos (starEach es X.env)).any (·.1)=false:=by rfl):DE K mg X ES (.Call (.Attribute o name apos) (e::es) [] cpos) (lM j k A).F:=by with_unfolding_all exact de_m hK slot hty hm hd ho ha hbase hfew hline hs ce
def yX:DO K mg X ES none oN.F:=zC
def zY(he:DE K mg X ES e p.F):DO K mg X ES (some e) (oS p).F:=by with_unfolding_all exact yV he
def xV{l u:POp}{lo hi:Option Expr}{p2:Pos}(hK:X.K=K)(he:DE K mg X ES e p.F)(hl:DO K mg X ES lo l.F)(hu:DO K mg X ES hi u.F):DE K mg X ES (.Subscript e (.Slice lo hi none p2) pos) (pSl p l u).F:=by with_unfolding_all exact wV hK he hl hu
def EY:OpD K mg (λx y H Q=>rI0 (λi j=>.int (i+j)) x y H Q\/(lU x y H Q\/(i0 K x y H Q\/i7 K x y H Q))) aK.F:=Eu
def Bq:OpD K mg (rI0 λi j=>.int (i-j)) eI.F:=B0
def ET:OpD K mg (rI CMulA λi j=>.int (i*j)) ax.F:=Dj
def Ds:OpD K mg (rI CDivB λi j=>.int (i.fdiv j)) g6.F:=EB
def A0:OpD K mg (rI (λ_ j=>j≠0) λi j=>.int (i.fmod j)) bE.F:=Bf
def CT:OpD K mg (rI eK λi j=>.int (i^j.toNat)) eL.F:=Er
def Ex:OpD K mg (rI eK λi j=>.int (i*2^j.toNat)) nR.F:=Bm
def yD:OpD K mg (rI0 λi j=>.bl (decide (i<j))) bLt.F:=Gg
def yz:OpD K mg (rI0 λi j=>.bl (decide (j<i))) bGt.F:=GB
def yb:OpD K mg (rI0 λi j=>.bl (decide (j<=i))) bGe.F:=HG
def GA:OpD K mg (λx y H Q=>sW K x y H Q\/rG K x y H Q) bIx.F:=E5
def yq:OpD K mg (sF K) bEq.F:=CS
def FT:OpD K mg (so K) bNe.F:=AW
def Hn:OpD K mg (rIn K false) bIn.F:=(tI false)
def BO:OpD K mg (rIn K true) xN.F:=(tI true)
def Dg:aR K mg (λxs H Q=>(∃p ys,xs=[.ref p]/\(SqL K H p ys\/SqT K H p ys)/\Q (.int ys.length) H)\/(∃z,xs=[.str z]/\z.length<=sizeLine/\Q (.int z.length) H)) bA.F:=Cu
def BM:aR K mg (λxs H Q=>∃i,xs=[.int i]/\Q (.int (if i<0 then -i else i)) H) eu.F:=DL
def As:aR K mg (λxs H Q=>∃i j,xs=[.int i,.int j]/\Q (.int (if j>i then j else i)) H) pw.F:=zN
def zy:aR K mg (λxs H Q=>∃i j,xs=[.int i,.int j]/\Q (.int (if j<i then j else i)) H) oV.F:=zx
def tL:aR K mg (λxs H Q=>∃(a:Addr) (bs:List Bool),xs=[.ref a]/\SqL K H a (bs.map V.bl)/\Q (.bl (bs.all id)) H) nc.F:=Bc
def Dn:aR K mg (λxs H Q=>∃(a:Addr) (ns:List Int),xs=[.ref a]/\SqL K H a (ns.map V.int)/\Q (.int ns.sum) H) eD.F:=BW
def yY:aR K mg (λxs H Q=>∃p ys,xs=[.ref p]/\(SqL K H p ys\/SqT K H p ys)/\∀l,H l=none->Q (.ref l) (upd H l (.lst ys))) nF.F:=yJ
def w9:aR K mg (λxs H Q=>∃p ys,xs=[.ref p]/\((SqL K H p ys/\∀l,H l=none->Q (.ref l) (upd H l (.tup ys)))\/(SqT K H p ys/\Q (.ref p) H))) iY.F:=wU
def Ec:aR K mg (λxs H Q=>(∃i,xs=[.int i]/\Q (.int i) H)\/∃k,xs=[.bl k]/\Q (.int (if k then 1 else 0)) H) mZ.F:=E9
def Dc(ok:KitsOk K mg kt):aR K mg (λxs H Q=>(∃x c t v b,xs=[x,c]/\TyX K H x t/\dO c=some v/\W.kitOne K t v=some b/\Q (.bl b) H)\/
 (∃x tp cs t vs b,xs=[x,.ref tp]/\SqT K H tp cs/\TyX K H x t/\cs.mapM dO=some vs/\W.kitAny K t vs=some b/\Q (.bl b) H)) (en kt).F:=CB ok
def uS:MtD K mg lO dY.F:=tu
def zL:tj K mg rO seL.F:=Af
def Cg:IpD K mg (ipI λi j=>i+j) sG.F:=AK
def DX:UnD K mg (rU λi=>.int (-i)) vU.F:=DZ
variable{P:Program}{w:World}{base:Heap}{fx:Str}{em:Stmt}{k n m:Nat}{ps N:List Str}{ms:List Bool}
def okP(D:Def K mg fx em)(S:FnScope N ps (ak em))
 (hb:∀(kV doc pm:Value) (an:Option Addr) (cdv ct:Value) (us:List Value),us.length=ps.length->bindArgs (W.fnOf fx fx (bB em) (aN em) (ak em) .none kV doc pm an cdv ct) ⟨us,[]⟩=pure (ps.zip us))
 (b_:∀(f:Addr) (cdv:Value) (A:Around) (outer:List Env) (s:Shared) (H:Hp) (E:XK),Room k (A.deeper (envOfC fx (ak em) s.heap.objs.size f cdv))->
  DSs K mg (cF (CX1 P w) P w K mg base N fx (ak em) f cdv A outer s H E) (λ_=>E) (aN em) x.F) (hn:ps.length=n) (hm:N.length=m):Callee P w K mg base fx (k+1) ps (spD K mg n (fnP ms m x).F):=by
 subst hn hm
 with_unfolding_all exact D.okD S hb b_
def okX(D:Def K mg fx em)(S:FnScope N ps (ak em))
 (hb:∀(kV doc pm:Value) (an:Option Addr) (cdv ct:Value) (us:List Value),us.length=ps.length->bindArgs (W.fnOf fx fx (bB em) (aN em) (ak em) .none kV doc pm an cdv ct) ⟨us,[]⟩=pure (ps.zip us))
 (b_:∀(f:Addr) (cdv:Value) (A:Around) (outer:List Env) (s:Shared) (H:Hp) (E:XK),Room k (A.deeper (envOfC fx (ak em) s.heap.objs.size f cdv))->
  DSs K mg (cF (CX1 P w) P w K mg base N fx (ak em) f cdv A outer s H E) (λ_=>E) (aN em) x.F) (hn:ps.length=n) (hm:N.length=m):Callee P w K mg base fx (k+1) ps (spD K mg n (PFx.of ms m x).F):=by
 subst hn hm
 with_unfolding_all exact D.okD S hb b_
def ok0(D:Def K mg fx em)(S:FnScope N ps (ak em))
 (hb:∀(kV doc pm:Value) (an:Option Addr) (cdv ct:Value) (us:List Value),us.length=ps.length->bindArgs (W.fnOf fx fx (bB em) (aN em) (ak em) .none kV doc pm an cdv ct) ⟨us,[]⟩=pure (ps.zip us)) (hn:ps.length=n:=by rfl):Callee P w K mg base fx (k+1) ps (spD K mg n (PFx.none ms).F):=by
 subst hn
 exact D.okD (F:=λ_ _=>.stuck) S hb λ_ _ _ _ _ _ _ _=>tQ
end
def Cj(b:Bool)(ms:List Bool)(v:Val)(vs:List Val):sls (b::ms) (v::vs)=sl1 b v::sls ms vs:=rfl
def Az:sls [] []=[]:=rfl
def HC(v:Val):sl1 true v=.mu v:=rfl
def Gj(v:Val):sl1 false v=.sh v:=rfl
section
variable(e:E3)
def zE:okA e [] []=true:=rfl
def DY(i:Nat)(ms:List Bool)(ts:List Tm):okA e (true::ms) (.bor i::ts)=(((e[i]?).bind Sl.mv).isSome && !(f6 i ts)&&okA e ms ts):=rfl
def DH(v:Val)(ms:List Bool)(ts:List Tm):okA e (false::ms) (.val v::ts)=okA e ms ts:=rfl
def wO(i:Nat):f6 i []=false:=rfl
def Bi(i:Nat)(v:Val)(ts:List Tm):f6 i (.val v::ts)=f6 i ts:=rfl
def uC:aM e [] []=[]:=rfl
def Aa(v:Val)(ms:List Bool)(ts:List Tm):aM e (false::ms) (.val v::ts)=aM e ms ts:=rfl
def Cr(t:Tm)(ms:List Bool)(ts:List Tm):aM e (true::ms) (t::ts)=aM e ms ts:=by cases t <;> rfl
end
def ue:bu [] []=[]:=rfl
def zc(b:Bool)(t:Tm)(ms:List Bool)(ts:List Tm):bu (b::ms) (t::ts)=lG b t::bu ms ts:=rfl
def Al(i:Nat):lG true (.bor i)=some i:=rfl
def Ez(t:Tm):lG false t=none:=by cases t <;> rfl
def vG(e:E3):aS [] [] e=e:=rfl
def DR(o:Option Nat)(sub:Kd)(s:Sl)(i e:E3):aS (o::sub) (s::i) e=aS sub i (ee o s e):=rfl
theorem zg(i:Nat)(v:Val)(e:E3):ee (some i) (.mu v) e=match e[i]? with
 |some t=>e.set i (t.re v)
 |none=>e:=rfl
def Bj(s:Sl)(e:E3):ee none s e=e:=rfl
def vI(vs:List Val):aA [] vs=[]:=rfl
def DC(ms:List Bool)(v:Val)(vs:List Val):aA (true::ms) (v::vs)=.mu v::aA ms vs:=rfl
def EU(ms:List Bool)(vs:List Val):aA (false::ms) vs=.no::aA ms vs:=by cases vs <;> rfl
def AO(e:E3):muV [] e=some []:=by cases e <;> rfl
def Gs(ms:List Bool)(v:Val)(e:E3):muV (true::ms) (.mu v::e)=(muV ms e).map (v :: ·):=rfl
def FI(ms:List Bool)(s:Sl)(e:E3):muV (false::ms) (s::e)=muV ms e:=by cases s <;> rfl
def uE(v:Val):iN (.val v)=aQ v:=rfl
def uU(v:Val):iN (.new v)=cn v:=rfl
def vj(xs:List Val):cn (.lst xs)=bY xs:=rfl
def sE:bY []=true:=by simp [bY]
def pI(v:Val)(vs:List Val):bY (v::vs)=(aQ v&&bY vs):=by simp [bY]
def uf(i:Int):aQ (.int i)=true:=by simp [aQ]
def wH(i:Bool):aQ (.bl i)=true:=by simp [aQ]
def uY(i:Str):aQ (.str i)=true:=by simp [aQ]
def ud:aQ .non=true:=by simp [aQ]
def cH(h0:0<=i)(h:l[i.toNat]?=some x):atI l i=some x:=by
 have hl:=(h_.mp h).1
 unfold atI ixN
 rw[if_pos h0,if_pos (by omega)]
 exact h
def vk(h0:0<=i)(h:i.toNat<n):ixN n i=some i.toNat:=by
 unfold ixN
 rw[if_pos h0,if_pos (by omega)]
section
variable(a b c d e f g h:α)(l:List α)
def ati0:atI (a::l) 0=some a:=cH (by decide) rfl
def ati1:atI (a::b::l) 1=some b:=cH (by decide) rfl
def ati2:atI (a::b::c::l) 2=some c:=cH (by decide) rfl
def ati3:atI (a::b::c::d::l) 3=some d:=cH (by decide) rfl
end
def ixn0(n:Nat):ixN (n+1) 0=some 0:=vk (i:=0) (by decide) (by show 0<n+_;omega)
def ixn1(n:Nat):ixN (n+2) 1=some 1:=vk (i:=1) (by decide) (by show 1<n+_;omega)
theorem FQ(xs:List Val)(k:Int)(v:Val):seL.G (.lst xs) (.int k) v=match ixN xs.length k with
 |some j=>some (.lst (xs.set j v))
 |none=>none:=rfl
mutual
def vq:Val->Val->Bool
 |.non,.non=>true
 |.bl a,.bl b=>a==b
 |.bl a,.int j=>(if a then 1 else 0)==j
 |.int i,.bl b=>i==(if b then 1 else 0)
 |.int i,.int j=>i==j
 |.str x,.str y=>x==y
 |.tup xs,.tup ys=>vqs xs ys
 |.lst xs,.lst ys=>vqs xs ys
 |_,_=>false
def vqs:List Val->List Val->Bool
 | [],[]=>true
 |x::xs,y::ys=>vq x y&&vqs xs ys
 |_,_=>false
end
mutual
def wfV:Nat->Val->Bool
 |_,.non=>true
 |_,.bl _=>true
 |_,.int _=>true
 |_,.str x=>PyData.strOk x
 |k+1,.tup xs=>bK k xs
 |k+1,.lst xs=>bK k xs
 |_,_=>false
def bK:Nat->List Val->Bool
 |_,[]=>true
 |k,x::xs=>wfV k x&&bK k xs
end
mutual
def eJ:Val->PyData
 |.bl b=>.bool b
 |.int i=>.int i
 |.str x=>.str x
 |.tup xs=>.tuple (cS xs)
 |.lst xs=>.list (cS xs)
 |_=>.none
def cS:List Val->List PyData
 | []=>[]
 |x::xs=>eJ x::cS xs
end
mutual
theorem kO:∀(k:Nat) (v:Val),wfV k v=true->(∀j,k<j->bU j v=some (eJ v))/\(eJ v).canLay0=true/\(eJ v).depth<=k
 |k,.non,_=>⟨λj hj=>by cases j with |zero=>exact absurd hj (IK _) |succ j=>rfl,rfl,HW _⟩
 |k,.bl b,_=>⟨λj hj=>by cases j with |zero=>exact absurd hj (IK _) |succ j=>rfl,rfl,HW _⟩
 |k,.int b,_=>⟨λj hj=>by cases j with |zero=>exact absurd hj (IK _) |succ j=>rfl,rfl,HW _⟩
 |k,.str b,w=>⟨λj hj=>by cases j with |zero=>exact absurd hj (IK _) |succ j=>rfl,by cases k <;> exact w,HW _⟩
 |0,.tup xs,w=>absurd w n_
 |0,.lst xs,w=>absurd w n_
 |
  k+1,.tup xs,w=>by
  obtain⟨h1,h2,h3⟩:=jI k xs w
  exact⟨λj hj=>by cases j with |zero=>exact absurd hj (IK _) |succ j=>simp only[bU,eJ,h1 j (Nat.lt_of_succ_lt_succ hj),Option.map_some],h2,by simpa [eJ,PyData.depth] using h3⟩
 |
  k+1,.lst xs,w=>by
  obtain⟨h1,h2,h3⟩:=jI k xs w
  exact⟨λj hj=>by cases j with |zero=>exact absurd hj (IK _) |succ j=>simp only[bU,eJ,h1 j (Nat.lt_of_succ_lt_succ hj),Option.map_some],h2,by simpa [eJ,PyData.depth] using h3⟩
 |k,.ty _,w=>by cases k <;> exact absurd w n_
 |k,.glb _,w=>by cases k <;> exact absurd w n_
 |k,.exc _,w=>by cases k <;> exact absurd w n_
 |k,.kl _,w=>by cases k <;> exact absurd w n_
 |k,.dct _,w=>by cases k <;> exact absurd w n_
 |k,.set _,w=>by cases k <;> exact absurd w n_
theorem jI:∀(k:Nat) (vs:List Val),bK k vs=true->(∀j,k<j->de j vs=some (cS vs))/\PyData.canLayAll0 (cS vs)=true/\PyData.depthAll (cS vs)<=k
 |k,[],_=>⟨λj hj=>by simp [de,cS],rfl,HW _⟩
 |
  k,v::vs,w=>by
  have w':(wfV k v&&bK k vs)=true:=w
  rw[m_] at w'
  obtain⟨h1,h2,h3⟩:=kO k v w'.1
  obtain⟨i1,i2,i3⟩:=jI k vs w'.2
  exact⟨λj hj=>by simp [de,cS,h1 j hj,i1 j hj],by simp [cS,PyData.canLayAll0,h2,i2],Nat.max_le.mpr ⟨h3,i3⟩⟩
end
mutual
theorem uM:∀(k:Nat) (v u:Val),wfV k v=true->wfV k u=true->PyData.eqv (eJ v) (eJ u)=vq v u
 |
  k,v,u,hv,hu=>by
  cases v <;> first |(cases k <;> exact absurd hv n_) |skip
  all_goals (cases u <;> first |(cases k <;> exact absurd hu n_) |rfl |(cases k with |zero=>exact absurd hv n_ |succ k=>exact pZ k _ _ hv hu))
theorem pZ:∀(k:Nat) (v u:List Val),bK k v=true->bK k u=true->PyData.eqvAll (cS v) (cS u)=vqs v u
 |_,[],[],_,_=>rfl
 |_,[],_::_,_,_=>rfl
 |_,_::_,[],_,_=>rfl
 |
  k,x::xs,y::ys,hv,hu=>by
  have h1:(wfV k x&&bK k xs)=true:=hv
  have h2:(wfV k y&&bK k ys)=true:=hu
  rw[m_] at h1 h2
  show (PyData.eqv (eJ x) (eJ y)&&PyData.eqvAll (cS xs) (cS ys))=(vq x y&&vqs xs ys)
  rw[uM k x y h1.1 h2.1,pZ k xs ys h1.2 h2.2]
end
def tG(hk:k<=160)(hx:wfV k x=true)(hy:wfV k y=true):b0 x y=some (vq x y):=by
 obtain⟨h1,h2,h3⟩:=kO k x hx
 obtain⟨i1,i2,i3⟩:=kO k y hy
 unfold b0
 rw[h1 164 (by omega),i1 164 (by omega)]
 dsimp only
 rw[if_pos ⟨fH h2 (by omega),fH i2 (by omega)⟩,uM k x y hx hy]
def G5(hx:wfV 60 x=true)(hy:wfV 60 y=true):b0 x y=some (vq x y):=tG (by decide) hx hy
mutual
theorem lR:∀(k:Nat) (v:Val),wfV k v=true->vq v v=true
 |
  k,v,hv=>by
  cases v <;> first |(cases k <;> exact absurd hv n_) |rfl |exact beq_self_eq_true _ |(cases k with |zero=>exact absurd hv n_ |succ k=>exact oo k _ hv)
theorem oo:∀(k:Nat) (v:List Val),bK k v=true->vqs v v=true
 |_,[],_=>rfl
 |
  k,x::xs,hv=>by
  have h1:(wfV k x&&bK k xs)=true:=hv
  rw[m_] at h1
  show (vq x x&&vqs xs xs)=true
  rw[lR k x h1.1,oo k xs h1.2]
  rfl
end
noncomputable def fV(q:Rat):Val:=.tup [.int q.num,.int q.den]
structure Bx where
 l:Rat
 t:Rat
 w:Rat
 h:Rat
structure Bx.Ok(b:Bx):Prop where
 w:0<b.w
 h:0<b.h
structure Bx.Sz(n:Nat)(b:Bx):Prop where
 l:L2.Sz n b.l
 t:L2.Sz n b.t
 w:L2.Sz n b.w
 h:L2.Sz n b.h
def bV(b:Bx):Val:=.tup [fV b.l,fV b.t,fV b.w,fV b.h]
def knV:Val->Bool
 |.exc _=>false
 |v=>(tyC v).isSome
def fZ:Nat->Val->Bool
 |k+1,.tup xs=>xs.all (fZ k)
 |_,v=>knV v
noncomputable def gY:Val->Bool
 |.int _=>true
 |_=>false
noncomputable def aD:Val->Bool
 |.tup [.int a,.int b]=>decide (1<=b)&&decide (Int.gcd a b=1)
 |_=>false
noncomputable def gO:Val->Bool
 |.tup (.int a::_)=>decide (0<a)
 |_=>false
def ez:Val->Bool
 |.tup [a,b,c,d]=>aD a&&(aD b&&(aD c&&(aD d&&(gO c&&gO d))))
 |_=>false
noncomputable def fI:Val->Bool
 |.int i=>decide (1<=i)
 |_=>false
noncomputable def dS:Val->Bool
 |.tup _=>true
 |_=>false
def He(h1:1<=b)(h2:Int.gcd a b=1):Val.tup [.int a,.int b]=fV ((a:Rat)/(b:Rat)):=by
 have hb:b≠0:=by omega
 have h:=j3 (a:=a) hb
 have s:=Fr.self (by omega) h2
 unfold fV
 rw[<- h.1,<- h.2,s.1,s.2]
def gG(q:Rat):aD (fV q)=true:=by
 show (decide (1<=(q.den:Int))&&decide (Int.gcd q.num q.den=1))=true
 have:=q.den_pos
 rw[r_ (by omega),r_ (qI q)];rfl
def uN(h:aD d=true):∃q,d=fV q:=by
 unfold aD at h
 split at h
 ·simp only[m_,Jb] at h
  exact⟨_,He h.1 h.2⟩
 ·cases h
def pX(q:Rat):gO (fV q)=decide (0<q):=by
 show decide (0<q.num)=decide (0<q)
 rw[decide_eq_decide]
 exact gp
def xO(h:b.Ok):ez (bV b)=true:=by
 show (aD (fV b.l)&&(aD (fV b.t)&&(aD (fV b.w)&&(aD (fV b.h)&&(gO (fV b.w)&&gO (fV b.h))))))=true
 rw[gG,gG,gG,gG,pX,pX,r_ h.w,r_ h.h];rfl
def Ew(b:Bx):fZ 2 (bV b)=true:=by simp [bV,fV,fZ,knV,tyC]
theorem lI(P:E3->Prop):∀(vs acc:List Val) (e:E3),P e->(∀v∈vs,∀e,P e->∃e1 t e2,g v e=some e1/\F e1=.ok t e2/\bP e2 t=some (e2,f v)/\P e2)->acc.length+vs.length<=16777216->∃e',P e'/\lcV g cY F vs acc e=.ok (acc++vs.map f) e'
 | [],acc,e,hp,_,_=>⟨e,hp,by simp [lcV]⟩
 |
  v::vs,acc,e,hp,hf,hl=>by
  obtain⟨e1,t,e2,q1,q2,q3,q4⟩:=hf v (k_ ..) e hp
  obtain⟨e',p',q5⟩:=lI P vs (acc++[f v]) e2 q4 (λu hu=>hf u (i_ _ hu)) (by simp at hl ⊢;omega)
  refine⟨e',p',?_⟩
  unfold lcV
  rw[if_pos (by simp at hl;omega),q1]
  simp only[cY,iW,Jx,q2,q3,q5]
  simp
theorem oq(P:E3->Prop):∀(vs:List Val) (e:E3),P e->(∀v∈vs,∀e,P e->∃e1 e2,g v e=some e1/\(B e1=.nx e2\/B e1=.ct e2)/\P e2)->∃e',P e'/\dm g B vs e=.nx e'
 | [],e,hp,_=>⟨e,hp,rfl⟩
 |
  v::vs,e,hp,hf=>by
  obtain⟨e1,e2,q1,q2,q3⟩:=hf v (k_ ..) e hp
  obtain⟨e',p',q4⟩:=oq P vs e2 q3 λu hu=>hf u (i_ _ hu)
  refine⟨e',p',?_⟩
  rw[cJ,q1]
  rcases q2 with q2 |q2 <;> simp only[q2,g9,Ga,q4]
def rgV(k:Nat):List Val:=(List.range k).map λj=>Val.int (j:Nat)
def qG(h:k<1000000):gP [.int (k:Nat)]=some (rgV k):=by
 simp only[gP]
 rw[if_pos (⟨by omega,by omega⟩:RgB _),Iq]
 unfold sO rgV
 simp only[Int.zero_add]
def qt(h0:0<=i)(h:i<1000000):gP [.int i]=some (rgV i.toNat):=by
 have:=qG (k:=i.toNat) (by omega)
 rwa [show ((i.toNat:Nat):Int)=i from by omega] at this
theorem fA(fv fw:α->Val)(P:E3->Prop):∀(l:List α) (acc:List Val) (e:E3),P e->(∀a∈l,∀e,P e->∃e1 t e2,g (fv a) e=some e1/\F e1=.ok t e2/\bP e2 t=some (e2,fw a)/\P e2)->acc.length+l.length<=16777216->∃e',P e'/\lcV g qY.G F (l.map fv) acc e=.ok (acc++l.map fw) e'
 | [],acc,e,hp,_,_=>⟨e,hp,by simp [lcV]⟩
 |
  v::vs,acc,e,hp,hf,hl=>by
  obtain⟨e1,t,e2,q1,q2,q3,q4⟩:=hf v (k_ ..) e hp
  obtain⟨e',p',q5⟩:=fA fv fw P vs (acc++[fw v]) e2 q4 (λu hu=>hf u (i_ _ hu)) (by simp at hl ⊢;omega)
  refine⟨e',p',?_⟩
  rw[D_]
  unfold lcV
  have cy:qY.G=cY:=rfl
  rw[cy] at q5 ⊢
  rw[if_pos (by simp at hl;omega),q1]
  simp only[cY,iW,Jx,q2,q3,q5]
  simp
def Dh(v:Val):inS (.sh v)=.sh v:=rfl
mutual
theorem oB:∀(k:Nat) (v:Val),wfV k v=true->wfV (k+1) v=true
 |k,.non,_=>by simp [wfV]
 |k,.bl _,_=>by simp [wfV]
 |k,.int _,_=>by simp [wfV]
 |k,.str x,h=>by cases k <;> simpa [wfV] using h
 |0,.tup _,h=>by simp [wfV] at h
 |0,.lst _,h=>by simp [wfV] at h
 |
  k+1,.tup xs,h=>by
  have:=ir k xs (by simpa [wfV] using h)
  simpa [wfV] using this
 |
  k+1,.lst xs,h=>by
  have:=ir k xs (by simpa [wfV] using h)
  simpa [wfV] using this
 |k,.ty _,h=>by cases k <;> simp [wfV] at h
 |k,.glb _,h=>by cases k <;> simp [wfV] at h
 |k,.exc _,h=>by cases k <;> simp [wfV] at h
 |k,.kl _,h=>by cases k <;> simp [wfV] at h
 |k,.dct _,h=>by cases k <;> simp [wfV] at h
 |k,.set _,h=>by cases k <;> simp [wfV] at h
theorem ir:∀(k:Nat) (vs:List Val),bK k vs=true->bK (k+1) vs=true
 |k,[],_=>by simp [bK]
 |
  k,v::vs,h=>by
  have h':wfV k v=true/\bK k vs=true:=by simpa [bK] using h
  simp only[bK,oB k v h'.1,ir k vs h'.2,Bool.and_self]
end
def CA(h:wfV k v=true)(l:k<=m):wfV m v=true:=by
 induction l with
 |refl=>exact h
 |step _ ih=>exact oB _ _ ih
def zV(i:Nat)(v:Val)(e:E3):ee (some i) (.sh v) e=e:=rfl
def ph(ms:List Bool)(r:SR3):R3F:=match r with
 |.nx e=>(match muV ms e with |some mv=>.ok (.val .non) mv |none=>.stuck)
 |.rt r e=>(match muV ms e with |some mv=>.ok r mv |none=>.stuck)
 |.exc c e=>(match muV ms e with |some mv=>.exc c mv |none=>.stuck)
 |_=>.stuck
def rD(h:vs.length=ms.length):(fnP ms N c).G vs=ph ms (c.G (sls ms vs++List.replicate (N-vs.length) .no)):=by
 rw[aH,if_pos h];rfl
def yA(ms:List Bool)(r:Rt)(e:E3):ph ms (.rt r e)=match muV ms e with |some mv=>.ok r mv |none=>.stuck:=rfl
def aJ{Q:SR3->Prop}(I:E3->Prop){a b:PSt}{e:E3}(h1:∃e1,a.G e=.nx e1/\I e1)(h2:∀e1,I e1->Q (b.G e1)):Q ((aj a b).G e):=by
 obtain⟨e1,q,i⟩:=h1
 rw[xY,q]
 exact h2 e1 i
def iV(i:Int):Val.tup [.int i,.int 1]=fV (i:Rat):=rfl
noncomputable def sm8(h:m.natAbs<1099511627776):Sm 8000 m:=t_ (show m.natAbs<2^40 from h) (IQ (by decide) (by decide))
def jY(h:m.natAbs<=2000000000000000000000000000000):Sm 101 m:=by unfold Sm;exact I0 h (by decide)
noncomputable def eH{m:Int}(h:m.natAbs<=2000000000000000000000000000000):Sz 101 (m:Rat):=⟨jY h,jY (by show (1:Int).natAbs<=_;decide)⟩
def eZ{a b:Int}(hb:b≠0)(h1:a.natAbs<=2000000000000000000000000000000)(h2:b.natAbs<=2000000000000000000000000000000):Sz 101 ((a:Rat)/(b:Rat)):=Sz.div hb (jY h1) (jY h2) 101 (j_ _) (j_ _)
noncomputable def d4{m:Int}(h:0<m):(0:Rat)<(m:Rat):=Rat.intCast_pos.mpr h
def fo{a b:Int}(h1:0<a)(h2:0<b):(0:Rat)<(a:Rat)/(b:Rat):=by
 rw[JE]
 exact Rat.mul_pos (d4 h1) (Rat.inv_pos.mpr (d4 h2))
structure Good(b:Bx):Prop where
 ok:b.Ok
 sz:b.Sz 101
def iO(h:m.natAbs<=2000000000000000000000000000000):Sm 8000 m:=(jY h).mono (by decide)
section
variable{K:W.Frag}{mg:Ka}{X:Cx}{ES:L2.St->XK}{e:Expr}{es:List Expr}{A:PAs}{pos:Pos}
end
section
variable{K:W.Frag}{mg:Ka}{X:Cx}{ES:L2.St->XK}{e a b c o lo hi:Expr}{p q r:PEx}{pos p1 p2:Pos}
end
theorem ar1{α:Type}{P:List α->Prop}(h:∀a,P [a]):∀us:List α,us.length=1->P us
 | [a],_=>h a
theorem ar2{α:Type}{P:List α->Prop}(h:∀a b,P [a,b]):∀us:List α,us.length=2->P us
 | [a,b],_=>h a b
theorem ar3{α:Type}{P:List α->Prop}(h:∀a b c,P [a,b,c]):∀us:List α,us.length=3->P us
 | [a,b,c],_=>h a b c
section
variable{P:Nat->Prop}{h:AH}
def Fv(r:Rk P h ws us):lkD us k=some v->∃d,lkD ws k=some d/\Rd P h d v:=
 r.ind (M:=λws us=>lkD us k=some v->∃d,lkD ws k=some d/\Rd P h d v) (λq=>by cases q) (λ{k2 d v2 ds vs} r _ ih q=>by
  unfold lkD at q ih ⊢
  rw[IA] at q ⊢
  dsimp only at q ⊢
  by_cases hk:k2=k
  ·rw[r_ hk] at q ⊢
   cases q
   exact⟨d,rfl,r⟩
  ·rw[o_ hk] at q ⊢
   exact ih q)
def CD:∀{ks:List Key}{ds:List D}{vs:List Val},Rds P h ds vs->Rk P h (ks.zip ds) (ks.zip vs):=by
 intro ks
 induction ks with
 |nil=>intro ds vs _;exact .nil
 |
  cons k ks ih=>
  intro ds vs r
  cases r with
  |nil=>exact .nil
  |cons r rr=>exact .cons r (ih rr)
end
def wR:Val->Val->Bv:=λx y=>match x with
 |.dct kvs=>(match y with
  |.str k=>(match lkD kvs (.inr k) with
   |some v=>.val v
   |none=>.stuck)
  |_=>.stuck)
 |_=>.stuck
def EO:RO oz wR:=λP h d1 d2 v1 v2 r1 r2=>by
 unfold wR
 split
 ·rename_i kvs
  split
  ·rename_i k
   split
   ·rename_i v q
    obtain⟨n,ws,rfl,e,rk⟩:=r1.dct
    obtain rfl:=r2.str
    obtain⟨d,q1,rd⟩:=Fv rk q
    refine⟨d,?_,rd⟩
    unfold oz
    dsimp only
    rw[e]
    dsimp only
    rw[q1]
   ·trivial
  ·trivial
 ·trivial
def sJ:PO2:=⟨oz,wR,EO⟩
theorem Fm(kvs:List (Key×Val))(k:Str):sJ.G (.dct kvs) (.str k)=match lkD kvs (.inr k) with
 |some v=>.val v
 |none=>.stuck:=rfl
def sD:Val->Val->Val->Option Val:=λo i v=>match o with
 |.dct kvs=>(match i with
  |.str k=>if kvs.length<16777216 then some (.dct (putD kvs (.inr k) v)) else none
  |_=>none)
 |_=>none
def sU(ks:List Str)(A:MA3):ME3:=λe=>(A e).bind λts e1=>match dem e1 ts with
 |some (e2,vs)=>if ks.length=vs.length then .ok (.new (.dct ((ks.map Sum.inr).zip vs))) e2 else .stuck
 |none=>.stuck
def zd(ks:List Str)(hA:RA A A3):RE (jW ks A) (sU ks A3):=λX h0 L ns e ae h S hl=>by
 have SG:=S.grow (.dct [])
 have p:=hA (Xn X h.length) h0 ns e ae (h++[.dct []]) SG
 unfold sU jW
 cases q:A3 e with
 |stuck=>trivial
 |
  exc c e'=>
  rw[q] at p
  obtain⟨h',ns',y,a,S'⟩:=p
  exact⟨h',ns',by rw[y];rfl,(Stp.grow _).trans S a,S'.weak λn z=>.inl z⟩
 |
  ok ts e1=>
  rw[q] at p
  obtain⟨ds,h1,ns1,y,a1,S1,r1⟩:=p
  rw[y]
  show Po X h0 ns e ae h (relE X h0 L ae) _ (match dem e1 ts with
   |some (e2,vs)=>if ks.length=vs.length then .ok (.new (.dct ((ks.map Sum.inr).zip vs))) e2 else .stuck
   |none=>.stuck)
  cases qd:dem e1 ts with
  |none=>trivial
  |
   some w=>
   obtain⟨e2,vs⟩:=w
   dsimp only
   by_cases be:ks.length=vs.length
   ·rw[if_pos be]
    obtain⟨bn,S2,a2,r2⟩:=gk S1 r1 qd
    have hk:h1[h.length]?=some (.dct []):=a1.keep _ _ qX λ⟨i,s,z,_⟩=>SG.nx i _ z (.inr rfl)
    have A:=((Stp.grow (.dct [])).trans S a1).trans S a2
    have hlt:=bJ hk
    have mv:Mov (Oc (Xn X h.length) bn) (Oc (Xn X h.length) bn) h1 (h1.set h.length (.dct ((ks.map Sum.inr).zip ds))):=λm o p q=>⟨p,by
     have:m≠h.length:=λz=>p.1 (.inr z)
     rw[aU this];exact q⟩
    have S3:Sat (Xn X h.length) h0 bn e2 ae (h1.set h.length (.dct ((ks.map Sum.inr).zip ds))):=⟨S2.l1,S2.l2,by rw[y_];exact S2.lh,λm z=>by rw[y_];exact S2.xl m z,S2.inj,S2.nx,λj s qj=>(S2.sl j s qj).mono mv λm o qm qo=>by
     have:m≠h.length:=λz=>S2.nx j m qm (.inr z)
     rw[aU this];exact qo⟩
    have A3':Stp ns e h bn e2 (h1.set h.length (.dct ((ks.map Sum.inr).zip ds))):=⟨by rw[y_];exact A.len,λm o qm hm=>by
     have:m≠h.length:=HY (bJ qm)
     rw[aU this];exact A.keep m o qm hm,A.nw,A.lk,A.lk',A.mu,A.mu'⟩
    refine⟨.ref h.length,_,bn,?_,A3',S3.weak λn z=>.inl z,h.length,_,rfl,hl,λz=>Ih _ (S.xl _ z),aZ hlt,trivial,S3,.dct ((CD r2).mono mv)⟩
    show (match h1[h.length]? with
     |some (.dct [])=>if ks.length=ds.length then R.ok (D.ref h.length) (h1.set h.length (.dct ((ks.map Sum.inr).zip ds))) else .stuck
     |_=>.stuck)=_
    rw[hk]
    dsimp only
    rw[if_pos (by rw[r2.len];exact be)]
   ·rw[if_neg be]
    trivial
def mV(ks:List Str)(a:PAs):PEx:=⟨jW ks a.F,sU ks a.G,zd ks a.ok⟩
theorem ED(e:E3)(ks:List Str)(a:PAs):(mV ks a).G e=(a.G e).bind λts e1=>match dem e1 ts with
 |some (e2,vs)=>if ks.length=vs.length then .ok (.new (.dct ((ks.map Sum.inr).zip vs))) e2 else .stuck
 |none=>.stuck:=rfl
section
variable{K:W.Frag}{mg:Ka}{X:Cx}{ES:L2.St->XK}{a b:Expr}{p q:PEx}{pos:Pos}
def qK(hu:X.A.units+1<cLine)(ha:DE K mg X ES a p.F)(hb:DE K mg X ES b q.F)(hs:rF b):DE K mg X ES (.Subscript a b pos) (pOp sJ p q).F:=by with_unfolding_all exact zA hu ha hb hs
def g0(hv:DE K mg X ES v F)(hr:PPs X pos ks vs (tps K mg ES prs)):PPs X pos (some (.Constant (.str k) j kp)::ks) (v::vs) (tps K mg ES ((k,F)::prs)):=by with_unfolding_all exact xX hv hr
def qP(hp:PPs X pos keys values (tps K mg ES prs))(h1:ks=prs.map (·.1):=by rfl)(h2:A.F=aL prs:=by rfl)(hn:ks.Nodup:=by decide)(hall:keys.all (·.isSome)=true:=by rfl)(hl:keys.length=values.length:=by rfl)(h0:keys≠[]:=by intro h;cases h)(h15:keys.length<=15:=by decide)(hp15:prs.length<=15:=by decide):DE K mg X ES (.Dict keys values pos) (mV ks A).F:=by
 subst h1
 show DE K mg X ES (.Dict keys values pos) (jW (prs.map (·.1)) A.F)
 rw[h2]
 with_unfolding_all exact Ac hp hall hl h0 h15 hn hp15
end
end L3
namespace L3
open PySem L2
def iL(xs:List Val)(n:Nat):fG xs none (some (n:Int))=xs.take n:=by
 unfold fG
 rw[HT.sIx_none,HT.sIx_nat,List.drop_zero,Nat.sub_zero]
 by_cases h:n<=xs.length
 ·rw[Nat.min_eq_left h]
 ·rw[Nat.min_eq_right (by omega),IG (j_ _),IG (by omega)]
def fC(xs:List Val)(n:Nat):fG xs (some (n:Int)) none=xs.drop n:=by
 unfold fG
 rw[HT.sIx_none,HT.sIx_nat]
 by_cases h:n<=xs.length
 ·rw[Nat.min_eq_left h,IG (by rw[Jg];exact j_ _)]
 ·rw[Nat.min_eq_right (by omega),List.drop_of_length_le (j_ _),List.drop_of_length_le (by omega),IW]
def cA(xs:List Val)(lo hi:Option Int):aSl (.lst xs) lo hi=.new (.lst (fG xs lo hi)):=rfl
end L3
namespace L3
open PySem PySem.Spec PyProof.Rows L2
section
variable{gs:MGs}{gs3:iK}
end
section
variable{e:E3}
end
section
variable{K:W.Frag}{mg:Ka}{X:Cx}{es:List Expr}{gs:PGs}{pos:Pos}
end
def vM:List Val->Bv:=λvs=>match vs with
 | [.int j]=>if -(2^62)<=j/\j<=16777216 then .new (.lst (rgV j.toNat)) else .stuck
 |_=>.stuck
def D8:RFn kS vM:=λP h ds vs r=>by
 unfold vM
 split
 ·obtain⟨d,hd,rr1⟩:=eE r;subst hd
  split
  ·rename_i j hb
   have e:=rr1.int
   subst e
   refine⟨.lst (wX j),by unfold kS;dsimp only;rw[if_pos hb],trivial,.lst ?_⟩
   unfold wX rgV
   generalize List.range j.toNat=l
   induction l with
   |nil=>exact .nil
   |cons i l ih=>exact .cons (.int _) ih
  ·trivial
 ·trivial
def i9:PBf:=⟨kS,vM,D8⟩
def ye{j:Int}(h:-(2^62)<=j/\j<=16777216):i9.G [.int j]=.new (.lst (rgV j.toNat)):=if_pos h
section
variable{K:W.Frag}{mg:Ka}{X:Cx}{ES:L2.St->XK}{a:Expr}{A:PAs}{pos q2 p1 p2:Pos}
def Dm(hc:X.calm=true)(hl:Gl X "list")(hml:mg "list"=none)(hg:Gl X "range")(hm:mg "range"=none)(ha:DA K mg X ES [a] A.F)(hk:X.mg=mg:=by rfl)(hs:starEach [a] X.env=[(false,eval a X.env)]:=by rfl)
 (hs1:starEach [.Call (.Name "range" p2) [a] [] q2] X.env=[(false,eval (.Call (.Name "range" p2) [a] [] q2) X.env)]:=by rfl):
 DE K mg X ES (.Call (.Name "list" p1) [.Call (.Name "range" p2) [a] [] q2] [] pos) (pFn i9 A).F:=by with_unfolding_all exact Bt hc hl hml hg hm ha hk hs hs1
end
section
variable{K:W.Frag}{mg:Ka}{n:Str}{kvs:List (Str×Int)}
end
end L3
namespace L3
open PySem L2
end L3
namespace L3
open PySem PySem.Spec PyProof.Rows L2
section
variable{K:W.Frag}{mg:Ka}
end
section
variable{X:Cx}{K:W.Frag}{mg:Ka}{ES:L2.St->XK}{e:Expr}{es:List Expr}{A:PAs}{pos:Pos}{x:PSt}
variable{P:Program}{w:World}{base:Heap}{fx:Str}{em:Stmt}{k n m:Nat}{ps N:List Str}{ms:List Bool}
end
end L3
namespace L3
open PySem L2
end L3
namespace L3
open PySem PySem.Spec PyProof.Rows L2
section
variable{X:Nat->Prop}{h0:Nat}{ns ns1:Ns}{e e1:E3}{ae:AE}{h h1:AH}
end
section
variable{K:W.Frag}{mg:Ka}{X:Cx}{ES:L2.St->XK}{re qe al:Expr}{st1:Stmt}{sts:List Stmt}{q:PEx}{y:PSt}{g:PGt}{I1 I2:PIt}{pos p2 p3 p4 p5:Pos}{x:Str}{j t:Nat}{hjt:j≠t}{ow:Bool}{tg oe:Expr}{hsb:(([none]:Kd).filterMap id).Nodup}
end
section
variable{K:W.Frag}{mg:Ka}
end
section
variable{K:W.Frag}{mg:Ka}{X:Cx}{ES:L2.St->XK}{e o a b:Expr}{es:List Expr}{p q:PEx}{A:PAs}{pos:Pos}
end
section
variable{K:W.Frag}{mg:Ka}
end
end L3
namespace L3
open PySem L2
end L3
namespace L3
open PySem PySem.Spec PyProof.Rows L2
section
variable{K:W.Frag}{mg:Ka}
end
section
variable{K:W.Frag}{mg:Ka}{X:Cx}{ES:L2.St->XK}{e:Expr}{es:List Expr}{p:PEx}{A:PAs}{pos:Pos}
def zcF{f:PFn}{x:Str}{p0:Pos}{k j n:Nat}{ps:List Str}(C:Callee X.prog X.w X.K X.mg X.base x j ps (spD K mg n f.F))(hr:Room k X.A)(ha:DA K mg X ES (e::es) A.F)(hk:j<=k:=by omega)(hg:Gl X x:=by exact rfl)(hx:ja X ES:=by first |exact pR FH |exact wD |assumption)(hn:f.ms.length=n:=by rfl)(hdb:(x==("__debug__" : Str))=false:=by decide)(he:starEach (e::es) X.env=(false,eval e X.env)::starEach es X.env:=by rfl)(hpl:(backTo pos (starEach es X.env)).any (·.1)=false:=by rfl):DE K mg X ES (.Call (.Name x p0) (e::es) [] pos) (ai f A).F:=vS C (hr.mono hk) hg hx ha hn hdb he hpl
def zsS{ow:Bool}(i:Nat){x:Str}{f_:Pos}(hN:X.N.Nodup)(he:DE K mg X ES e p.F)(hi:X.N[i]?=some x:=by exact rfl)(hx:Loc X.env.scope x:=by first |exact Or.inl rfl |exact Or.inr rfl)(hs:swapsWith e (some (.Name x f_)) pos.line X.env=pure false:=by rfl)(hf:X.fn x=true\/X.env.scope.names.lookup x=some .local:=by first |exact .inl rfl |exact .inr rfl |assumption):DS K mg X ES (.Assign [.Name x f_] e pos) (aq ow i p).F:=BN hN hi hx he hs hf
def zgN(i:Nat){x:Str}(hN:X.N.Nodup)(hi:X.N[i]?=some x:=by exact rfl)(hx:Loc X.env.scope x:=by first |exact Or.inl rfl |exact Or.inr rfl)(hf:X.fn x=true\/X.env.scope.names.lookup x=some .local:=by first |exact .inl rfl |exact .inr rfl |assumption):DG K mg X ES (.Name x pos) (gtN i).F:=zD hN hi hx hf
end
end L3
namespace L3
open PySem PySem.Spec PyProof.Rows L2 PySem.W
noncomputable def adr(K:Frag)(x:Str):Addr:=match nsIn K mainGlobals x with
 |some (some (.ref a))=>a
 |_=>0
noncomputable def iy(K:Frag)(x:Str):Bool:=match nsIn K mainGlobals x with
 |some (some (.ref _))=>true
 |_=>false
def wI(K:Frag)(x:Str):Bool:=match nsIn K mainGlobals x with
 |some none=>true
 |_=>false
def xcB(K:Frag)(C:Addr):Bool:=(clsIn K C).isSome&&(findIn K (.ref C) "__getattribute__" == some (some (.builtin "BaseException.__getattribute__"))&&(findIn K (.ref C) "__getattr__" == some none&&(findIn K (.ref C) "__class__" == some (some (.builtin "object.__class__"))&&(specialIn K (.builtin "object.__class__") "__get__" == some (some (.builtin "getset_descriptor.__get__"))&&(takesIn K (.builtin "object.__class__")==some true&&(mroIn K C (.type "object")==some true&&mroIn K C (.type "BaseException")==some true))))))
noncomputable def hdB(K:Frag)(C:Addr):Bool:=typeIn K (.ref C)==some (.type "type")&&((clsIn K C).isSome&&mroIn K C (.type "BaseException")==some true)
def clA(K:Frag):Cl->Value
 |.b n=>.type n
 |.o x=>.ref (adr K x)
def vY(K:Frag):Cl->Bool
 |.b _=>true
 |.o x=>iy K x
def vP(K:Frag)(p:Cl×Cl×Bool):Bool:=kitOne K (clA K p.1) (clA K p.2.1)==some p.2.2&&(vY K p.1&&vY K p.2.1)
def xkB(K:Frag):Cl->Bool
 |.b _=>true
 |.o x=>xcB K (adr K x)
def sr:D->Value->Bool
 |.int i,.int j _=>i==j
 |.str x,.str y _=>x==y
 |.non,.none=>true
 |.bl b,.bool c=>b==c
 |_,_=>false
noncomputable def dV:D->V
 |.int i=>.int i
 |.str x=>.str x
 |.bl b=>.bl b
 |_=>.non
def mR:List D->List Value->Bool
 | [],[]=>true
 |d::ds,v::vs=>sr d v&&mR ds vs
 |_,_=>false
def gcB(K:Frag)(x:Str):D->Bool
 |.tup ds=>(match nsIn K mainGlobals x with
  |some (some (.ref a))=>(match K.lookup a with
   |some ⟨.type "tuple",_,.seq its _,_⟩=>decide (its.size<=1000)&&mR ds its.toList
   |_=>false)
  |_=>false)
 |d=>match nsIn K mainGlobals x with
  |some (some v)=>sr d v
  |_=>false
def bFn:List String:=["abs", "all", "any", "isinstance", "len", "max", "min", "sorted", "sum"]
def bTy:List String:=["bool", "dict", "int", "list", "set", "str", "tuple"]
noncomputable def bIt:List String:=["range", "zip", "enumerate"]
def D1:(bFn.all λn=>bootBuiltins (Str.ofString n)==some (.builtin n))=true:=by decide
def By:(bTy.all λn=>bootBuiltins (Str.ofString n)==some (.type n))=true:=by decide
def boF{n:String}(h:bFn.contains n=true):bootBuiltins (Str.ofString n)=some (.builtin n):=H_.mp (HU.mp D1 n (Il.mp h))
def boT{n:String}(h:bTy.contains n=true):bootBuiltins (Str.ofString n)=some (.type n):=H_.mp (HU.mp By n (Il.mp h))
structure Tb where
 us:List Str
 rs:List Str
 hs:List (Str×List Str)
 kt:gQ
 gs:List (Str×D)
def Tb.ok(b:Tb)(K:Frag):Bool:=(bFn++(bTy++bIt)).all (λn=>wI K (Str.ofString n))&&(b.us.all (iy K)&&(b.rs.all (λx=>excIn K (adr K x) jN "ValueError.__new__" && iy K x)&&(b.hs.all (λp=>hdB K (adr K p.1)&&p.2.all λc=>mroIn K (adr K c) (.ref (adr K p.1))==some true&&iy K c)&&(b.kt.all (λp=>vP K p&&xkB K p.1)&&b.gs.all λp=>gcB K p.1 p.2))))
structure Tx(b:Tb)(K:Frag)(mg:Ka):Prop where
 n:∀{n:String},(bFn++(bTy++bIt)).contains n=true->mg (Str.ofString n)=none
 m:∀{x:Str},b.us.contains x=true->mg x=some (.ref (adr K x))
 x:∀{x:Str},b.rs.contains x=true->excIn K (adr K x) jN "ValueError.__new__"=true
 h:∀{x:Str}{l:List Str},(x,l)∈b.hs->XHand K (adr K x)/\∀c∈l,∀Ce,mg c=some (.ref Ce)->mroIn K Ce (.ref (adr K x))=some true
 k:KitsOk K mg b.kt
 g:∀{x:Str}{d:D},b.gs.lookup x=some d->GC K mg x d
section
variable{K:Frag}{h:Heap}{mg:Ka}{x:Str}(X:K.In h)(G:h.Ns mainGlobals mg)
include X G
def mS(e:iy K x=true):mg x=some (.ref (adr K x)):=by
 unfold iy at e
 split at e
 ·rename_i a q
  unfold adr
  rw[q]
  exact mg_of X G q
 ·cases e
def Hq(e:wI K x=true):mg x=none:=by
 unfold wI at e
 split at e
 ·rename_i q
  exact mg_none_of X G q
 ·cases e
omit X G in
def Gh{C:Addr}(e:xcB K C=true):XCls K C:=by
 simp only[xcB,m_,H_] at e
 obtain⟨e1,e2,e3,e4,e5,e6,e7,e8⟩:=e
 exact⟨e1,e2,e3,e4,e5,e6,e7,e8⟩
def x8{c:Cl}{v:Value}(e:vY K c=true)(q:ClV mg c v):v=clA K c:=by
 cases c with
 |b n=>exact q
 |
  o y=>
  obtain⟨a,rfl,m⟩:=q
  rw[mS X G (show iy K y=true from e)] at m
  cases m
  rfl
omit X G in
def uQ{d:D}{v:Value}(e:sr d v=true):RelV (dV d) v/\∀ρ H,RelD K mg ρ H d (dV d):=by
 unfold sr at e
 split at e
 ·cases H_.mp e;exact⟨⟨_,rfl⟩,λ_ _=>.int _⟩
 ·cases H_.mp e;exact⟨⟨_,rfl⟩,λ_ _=>.str _⟩
 ·exact⟨rfl,λ_ _=>.non⟩
 ·cases H_.mp e;exact⟨rfl,λ_ _=>.bl _⟩
 ·cases e
omit X G in
theorem qE:∀{ds:List D}{vs:List Value},mR ds vs=true->Vals (ds.map dV) vs/\∀ρ H,RelDs K mg ρ H ds (ds.map dV)
 | [],[],_=>⟨.nil,λ_ _=>.nil⟩
 |
  d::ds,v::vs,e=>by
  rw[mR,m_] at e
  obtain⟨a1,a2⟩:=uQ (K:=K) (mg:=mg) e.1
  obtain⟨b1,b2⟩:=qE e.2
  exact⟨.cons a1 b1,λρ H=>.cons (a2 ρ H) (b2 ρ H)⟩
 | [],_::_,e=>nomatch e
 |_::_,[],e=>nomatch e
def Ge{d:D}(e:gcB K x d=true):GC K mg x d:=by
 unfold gcB at e
 split at e
 ·rename_i ds
  split at e
  ·rename_i a q
   split at e
   ·rename_i dd its n sl l
    rw[m_] at e
    obtain⟨v1,v2⟩:=qE (K:=K) (mg:=mg) e.2
    exact A6 X G q l (w_ (of_decide_eq_true e.1) (by decide)) v1 v2
   ·cases e
  ·cases e
 ·split at e
  ·rename_i v q
   obtain⟨v1,v2⟩:=uQ (K:=K) (mg:=mg) e
   exact⟨_,_,mg_of X G q,v1,v2⟩
  ·cases e
omit X G in
theorem uk{d:D}:∀{l:List (Str×D)},l.lookup x=some d->(x,d)∈l
 | [],h=>nomatch h
 |
  (y,e)::l,h=>by
  rw[IF] at h
  split at h
  ·rename_i q
   cases h
   rw[H_.mp q]
   exact k_
  ·exact i_ _ (uk h)
def Gr{b:Tb}(e:b.ok K=true):Tx b K mg:=by
 unfold Tb.ok at e
 simp only[m_] at e
 obtain⟨e1,e2,e3,e4,e5,e6⟩:=e
 simp only[HU,m_] at e1 e2 e3 e4 e5 e6
 refine⟨λh=>Hq X G (e1 _ (Il.mp h)),λh=>mS X G (e2 _ (Il.mp h)),λh=>(e3 _ (Il.mp h)).1,λh=>?_,⟨λp hp t v h1 h2=>?_,λp hp x C e' m=>?_⟩,λh=>Ge X G (e6 _ (uk h))⟩
 ·obtain⟨a1,a2⟩:=e4 _ h
  refine⟨?_,λc hc Ce m=>?_⟩
  ·simp only[hdB,m_,H_] at a1
   exact⟨a1.1,a1.2.1,a1.2.2⟩
  ·obtain⟨b1,b2⟩:=a2 c hc
   rw[mS X G b2] at m
   cases m
   exact H_.mp b1
 ·obtain⟨a1,_⟩:=e5 p hp
  simp only[vP,m_,H_] at a1
  rw[x8 X G a1.2.1 h1,x8 X G a1.2.2 h2]
  exact a1.1
 ·obtain⟨a1,a2⟩:=e5 p hp
  simp only[vP,m_,H_] at a1
  have a3:=a1.2.1
  rw[e'] at a2 a3
  rw[mS X G (show iy K x=true from a3)] at m
  cases m
  exact Gh a2
end
def dNm(s:Stmt):Str:=match s with
 |.FunctionDef n ..=>n
 |_=>""
def AllD(K:Frag)(mg:Ka)(top:Nat->Stmt):List Nat->Prop
 | []=>True
 |i::l=>Def K mg (dNm (top i)) (top i)/\AllD K mg top l
theorem AllD.get{K:Frag}{mg:Ka}{top:Nat->Stmt}:∀{l:List Nat},AllD K mg top l->∀i,l.contains i=true->Def K mg (dNm (top i)) (top i)
 | [],_,i,h=>nomatch h
 |
  j::l,⟨a,b⟩,i,h=>by
  rcases G_.mp (Il.mp h) with rfl |h
  ·exact a
  ·exact b.get i (Il.mpr h)
structure Ty(b:Tb)(top:Nat->Stmt)(ds:List Nat)(K:Frag)(mg:Ka):Prop extends Tx b K mg where
 d:AllD K mg top ds
def scB(N P:List Str)(sc:Scope):Bool:=decide (sc.kind=.function)&&(!sc.isCoroutine&&(!sc.isGenerator&&(decide N.Nodup&&(decide (N.take P.length=P)&&(P.all (λx=>decide (sc.names.lookup x=some .local\/sc.names.lookup x=some .cell))&&sc.names.all λy=>decide (y.2 ≠ .free))))))
def ar{N P:List Str}{sc:Scope}(e:scB N P sc=true):FnScope N P sc:=by
 simp only[scB,m_,Jb,HU,Bool.not_eq_true'] at e
 obtain⟨e1,e2,e3,e4,e5,e6,e7⟩:=e
 exact⟨e1,e2,e3,e4,e5,e6,e7⟩
section
variable{K:W.Frag}{mg:Ka}{X:Cx}{ES:L2.St->XK}{e a b c o i tg al db:Expr}{p q r:PEx}{t u:PTs}{x y:PSt}{g:PGt}{I:PIt}{pos:Pos}
def kZ{scope:Scope}(M:List Str)(kn:List (Str×NameKind))(N:List Str)(sub:Kd){hsb:(sub.filterMap id).Nodup}(hi:DI K mg X ES tg al I.F)(hg:N.Nodup->∀cl C s₂ H fp,DG K mg (aC X N scope cl C s₂ H fp) (λ_=>E0) tg g.F)(he:N.Nodup->∀cl C s₂ H fp,DE K mg (aC X N scope cl C s₂ H fp) (λ_=>E0) db p.F)(hnd:N.Nodup:=by decide)(hc:X.calm=true:=by rfl)(hM:X.N=M:=by rfl)(hkn:X.env.scope.names=kn:=by rfl)(ci:eA M scope.names sub N=true:=by decide)(hk:scope.kind=.function:=by rfl)(hnc:∀x∈scope.names,x.2 ≠ .cell:=by decide)(bi:∀x∈scope.names,x.2=.local->scope.names.lookup x.1=some .local:=by decide)(hfr:fS kn scope.names=true:=by decide)(hsl:sub.length=N.length:=by rfl)(hs:∀x,foldedSetIterable al X.env x=pure x:=by intro _;rfl):DE K mg X ES (.ListComp db [⟨tg,al,[],0⟩] scope pos) (pLC I sub hsb g qY p).F:=Fu M kn N sub hc hi (hg hnd) (he hnd) hM hkn ci hk hnc bi hfr hsl hs
def zSlc{ow:Bool}{px spos:Pos}{iT:Nat}{xT:Str}{scope:Scope}(hN:X.N.Nodup)(M:List Str)(kn:List (Str×NameKind))(N:List Str)(sub:Kd){hsb:(sub.filterMap id).Nodup}(hi:DI K mg X ES tg al I.F)(hg:N.Nodup->∀cl C s₂ H fp,DG K mg (aC X N scope cl C s₂ H fp) (λ_=>E0) tg g.F)(he:N.Nodup->∀cl C s₂ H fp,DE K mg (aC X N scope cl C s₂ H fp) (λ_=>E0) db p.F)(hsw:swapsWith (.ListComp db [⟨tg,al,[],0⟩] scope pos) (some (.Name xT px)) spos.line X.env=pure true:=by rfl)(hnd:N.Nodup:=by decide)(hc:X.calm=true:=by rfl)(hix:X.N[iT]?=some xT:=by rfl)(hxl:Loc X.env.scope xT:=by first |exact Or.inl rfl |exact Or.inr rfl)(hM:X.N=M:=by rfl)(hkn:X.env.scope.names=kn:=by rfl)(ci:eA M scope.names sub N=true:=by decide)(hk:scope.kind=.function:=by rfl)(hnc:∀x∈scope.names,x.2 ≠ .cell:=by decide)(bi:∀x∈scope.names,x.2=.local->scope.names.lookup x.1=some .local:=by decide)(hfr:fS kn scope.names=true:=by decide)(hsl:sub.length=N.length:=by rfl)(hs:∀x,foldedSetIterable al X.env x=pure x:=by intro _;rfl)(hf:X.fn xT=true\/X.env.scope.names.lookup xT=some .local:=by first |exact .inl rfl |exact .inr rfl |assumption):DS K mg X ES (.Assign [.Name xT px] (.ListComp db [⟨tg,al,[],0⟩] scope pos) spos) (aq ow iT (pLC I sub hsb g qY p)).F:=Hm M kn N sub hc hN hix hxl hi (hg hnd) (he hnd) hsw hM hkn ci hk hnc bi hfr hsl hs hf
end
section
variable{K:W.Frag}{mg:Ka}{P:Program}{w:World}{base:Heap}{fx:Str}{em:Stmt}{k n m:Nat}{ps N:List Str}{ms:List Bool}{x:PSt}
def aE(D:Def K mg fx em)(S:FnScope N ps (ak em))
 (hb:∀(kV doc pm:Value) (an:Option Addr) (cdv ct:Value) (us:List Value),us.length=ps.length->bindArgs (W.fnOf fx fx (bB em) (aN em) (ak em) .none kV doc pm an cdv ct) ⟨us,[]⟩=pure (ps.zip us))
 (b_:N.Nodup->∀(f:Addr) (cdv:Value) (A:Around) (outer:List Env) (s:Shared) (H:Hp) (E:XK),Room k (A.deeper (envOfC fx (ak em) s.heap.objs.size f cdv))->
  DSs K mg (cF (CX1 P w) P w K mg base N fx (ak em) f cdv A outer s H E) (λ_=>E) (aN em) x.F) (hn:ps.length=n:=by rfl) (hm:N.length=m:=by rfl):Callee P w K mg base fx (k+1) ps (spD K mg n (fnP ms m x).F):=okP D S hb (b_ S.nd) hn hm
def okX'(D:Def K mg fx em)(S:FnScope N ps (ak em))
 (hb:∀(kV doc pm:Value) (an:Option Addr) (cdv ct:Value) (us:List Value),us.length=ps.length->bindArgs (W.fnOf fx fx (bB em) (aN em) (ak em) .none kV doc pm an cdv ct) ⟨us,[]⟩=pure (ps.zip us))
 (b_:N.Nodup->∀(f:Addr) (cdv:Value) (A:Around) (outer:List Env) (s:Shared) (H:Hp) (E:XK),Room k (A.deeper (envOfC fx (ak em) s.heap.objs.size f cdv))->
  DSs K mg (cF (CX1 P w) P w K mg base N fx (ak em) f cdv A outer s H E) (λ_=>E) (aN em) x.F) (hn:ps.length=n:=by rfl) (hm:N.length=m:=by rfl):Callee P w K mg base fx (k+1) ps (spD K mg n (PFx.of ms m x).F):=okX D S hb (b_ S.nd) hn hm
end
end L3
namespace L3
open PySem PySem.Spec PyProof.Rows L2
section
variable{K:W.Frag}{mg:Ka}{X:Cx}{ES:L2.St->XK}{a b c:Expr}{F G M:ME}{pos p2:Pos}{ρ:List Addr}{H:Hp}{h:AH}{ae:AE}{σ:L2.St}
end
section
variable{K:W.Frag}{mg:Ka}{X:Cx}{ES:L2.St->XK}{e o i t1 t2:Expr}{pos p2:Pos}{j a b:Nat}
end
section
variable{P P':Nat->Prop}{h h':AH}{k:List Val->Bool}
end
section
variable{X:Nat->Prop}{h0 L:Nat}{ns:Ns}{e:E3}{ae:AE}{h:AH}{ms:List Bool}{ts:List Tm}{ds:List D}{vs:List Val}{S2:Fn}{G3:Fn3}{r:Rt}{mv:List Val}
end
section
variable{K:W.Frag}{mg:Ka}{X:Cx}{ES:L2.St->XK}{e:Expr}{es:List Expr}{pos:Pos}{A:PAs}
end
section
variable{K:W.Frag}{mg:Ka}{X:Cx}{ES:L2.St->XK}{tg a b c:Expr}{p pos:Pos}{A:PAs}
end
end L3
namespace Wb
open L2
noncomputable def lc(qs:List Rat)(c:Nat):Nat:=qs.foldl (λc q=>Nat.lcm c q.den) c
noncomputable def gc(ws:List Int)(g:Nat):Nat:=ws.foldl (λg w=>Int.gcd (g:Int) w) g
noncomputable def wh(L:Nat)(qs:List Rat):List Int:=qs.map λq=>q.num*((L/q.den:Nat):Int)
def ws(qs:List Rat):List Int:=wh (lc qs 1) qs
def dv(qs:List Rat):Nat:=gc (ws qs) 0
end Wb
namespace L3
open PySem L2
def bL(b:Bx):Rat:=if b.w<b.h then b.h/b.w else b.w/b.h
def shL(s l:Rat)(W:Int):Int->List Int->List (Rat×Rat)
 |_,[]=>[]
 |a,w::ws=>(s+l*((a:Rat)/(W:Rat)),l*((w:Rat)/(W:Rat)))::shL s l W (a+w) ws
theorem lB(s l:Rat)(W:Int):∀(ws:List Int) (a:Int),(shL s l W a ws).length=ws.length
 | [],_=>rfl
 |w::ws,a=>by unfold shL;rw[F_,F_,lB s l W ws (a+w)]
def bg(b:Bx)(way:Str)(ws:List Int):List Bx:=if way="across" then (shL b.l b.w ws.sum 0 ws).map λp=>⟨p.1,b.t,p.2,b.h⟩ else (shL b.t b.h ws.sum 0 ws).map λp=>⟨b.l,p.1,b.w,p.2⟩
theorem dN:∀{l:List Int},(∀w∈l,1<=w)->(l.length:Int)<=l.sum
 | [],_=>by simp
 |
  x::l,h=>by
  rw[Ie,F_]
  have:=h x (k_ ..)
  have:=dN (l:=l) λw hw=>h w (i_ _ hw)
  omega
theorem qu:∀(ws:List Int) (a:Int),0<=a->(∀w∈ws,1<=w)->a+ws.sum<=W->p∈shL s l W a ws->∃a' w:Int,0<=a'/\a'<=W/\1<=w/\w<=W/\p=(s+l*((a':Rat)/(W:Rat)),l*((w:Rat)/(W:Rat)))
 | [],_,_,_,_,h=>nomatch h
 |
  w::ws,a,ha,hw,hs,h=>by
  have h1:=hw w (k_ ..)
  have h2:=dN (l:=ws) λx hx=>hw x (i_ _ hx)
  rw[Ie] at hs
  unfold shL at h
  rcases G_.mp h with rfl |h
  ·exact⟨a,w,ha,by omega,h1,by omega,rfl⟩
  ·exact qu ws (a+w) (by omega) (λx hx=>hw x (i_ _ hx)) (by omega) h
def cut1(b:Bx)(way:Str)(u v:Int):Bx:=(bg b way [u,v]).headD b
def cut2(b:Bx)(way:Str)(u v:Int):Bx:=((bg b way [u,v]).drop 1).headD b
def iD(b:Bx)(way:Str)(u v:Int):bg b way [u,v]=[cut1 b way u v,cut2 b way u v]:=by
 unfold cut1 cut2 bg
 split <;> rfl
def liV(l:List Int):Val:=.lst (l.map .int)
def wsAt(ws:List Int)(i:Int):Int:=ws.getD i.toNat 0
def wt(ws l:List Int):Int:=(l.map (wsAt ws)).sum
def mx(x y:Rat):Rat:=if x<y then y else x
end L3
namespace L3
open PySem PySem.Spec PyProof.Rows L2
inductive AT where
 |lf (k:Nat)
 |nd (w:Bool) (ts:List AT)
def wy(w:Bool):Str:=if w=true then "across" else "down"
def AT.ind{P:AT->Prop}(h1:∀k,P (.lf k))(h2:∀w ts,(∀t∈ts,P t)->P (.nd w ts))(t:AT):P t:=
 @AT.rec P (λts=>∀t∈ts,P t) h1 (λw ts ih=>h2 w ts ih) (λt h=>nomatch h) (λt ts i1 i2 u hu=>by
  rcases G_.mp hu with rfl |hu
  ·exact i1
  ·exact i2 u hu) t
mutual
def AT.val(f:Nat->Val):AT->Val
 |.lf k=>f k
 |.nd w ts=>.tup [.str (wy w),.tup (AT.vals f ts)]
def AT.vals(f:Nat->Val):List AT->List Val
 | []=>[]
 |t::ts=>AT.val f t::AT.vals f ts
end
mutual
def AT.lvs:AT->List Nat
 |.lf k=>[k]
 |.nd _ ts=>AT.lvsL ts
def AT.lvsL:List AT->List Nat
 | []=>[]
 |t::ts=>AT.lvs t++AT.lvsL ts
end
mutual
def AT.dep:AT->Nat
 |.lf _=>1
 |.nd _ ts=>AT.depL ts+1
def AT.depL:List AT->Nat
 | []=>0
 |t::ts=>max (AT.dep t) (AT.depL ts)
end
mutual
def AT.ok:AT->Bool
 |.lf _=>true
 |.nd _ ts=>decide (2<=ts.length)&&AT.okL ts
def AT.okL:List AT->Bool
 | []=>true
 |t::ts=>AT.ok t&&AT.okL ts
end
theorem AT.vals_map(f:Nat->Val):∀ts,AT.vals f ts=ts.map (AT.val f)
 | []=>rfl
 |t::ts=>by rw[AT.vals,AT.vals_map f ts];rfl
theorem AT.lvsL_mem:∀{ts:List AT},x∈AT.lvsL ts ↔ ∃t∈ts,x∈t.lvs
 | []=>by simp [AT.lvsL]
 |t::ts=>by rw[AT.lvsL,JL,AT.lvsL_mem (ts:=ts)];simp
theorem AT.depL_le:∀{ts:List AT},AT.depL ts<=m ↔ ∀t∈ts,t.dep<=m
 | []=>by simp [AT.depL]
 |t::ts=>by rw[AT.depL,Nat.max_le,AT.depL_le (ts:=ts)];simp
theorem kN:∀{vs:List Val},(∀v∈vs,wfV k v=true)->bK k vs=true
 | [],_=>rfl
 |
  v::vs,h=>by
  show (wfV k v&&bK k vs)=true
  rw[h v (k_ ..),kN λu hu=>h u (i_ _ hu)]
  rfl
noncomputable def inB(x:Nat)(t:AT):Bool:=decide (x∈t.lvs)
def itV(l:List Nat):Val:=.lst (l.map λk:Nat=>.int k)
def atV(t:AT):Val:=t.val λk=>.int (k:Nat)
def wtA(ws:List Int)(l:List Nat):Int:=(l.map λk=>ws.getD k 0).sum
structure Rp(D A B:Nat)(b:Bx):Prop where
 pos:0<D
 l:∃z:Int,b.l=(z:Rat)/((D:Int):Rat)/\z.natAbs<=A*D
 t:∃z:Int,b.t=(z:Rat)/((D:Int):Rat)/\z.natAbs<=A*D
 w:∃z:Int,b.w=(z:Rat)/((D:Int):Rat)/\0<z/\z<=B*D
 h:∃z:Int,b.h=(z:Rat)/((D:Int):Rat)/\0<z/\z<=B*D
def FU(x y a D W:Rat)(h1:D≠0)(h2:W≠0):x/D+(y/D)*(a/W)=(x*W+y*a)/(D*W):=by grind
def FK(y a D W:Rat)(h1:D≠0)(h2:W≠0):(y/D)*(a/W)=(y*a)/(D*W):=by grind
def Fd(y D W:Rat)(h1:D≠0)(h2:W≠0):y/D=(y*W)/(D*W):=by grind
def iR{z:Int}(h:z≠0):(z:Rat)≠0:=λe=>h (Rat.intCast_inj.mp e)
def yo{x y a W:Int}{D A B:Nat}(hD:0<D)(hx:x.natAbs<=A*D)(hy:0<y/\y<=B*D)(ha:0<=a/\a<=W)(hW:0<W):∃z:Int,(x:Rat)/((D:Int):Rat)+((y:Rat)/((D:Int):Rat))*((a:Rat)/(W:Rat))=(z:Rat)/(((D*W.toNat:Nat):Int):Rat)/\z.natAbs<=(A+B)*(D*W.toNat):=by
 obtain⟨V,rfl⟩:∃V:Nat,W=V:=⟨W.toNat,by omega⟩
 refine⟨x*V+y*a,?_,?_⟩
 ·rw[FU _ _ _ _ _ (iR (by omega)) (iR (by omega))]
  congr 1
  ·rw[Rat.intCast_add,H0,H0]
  ·rw[Iq,II,H0]
 ·rw[Iq]
  have h1:(x*(V:Int)).natAbs<=A*D*V:=by rw[Ii];exact Ip hx (j_ _)
  have h2:(y*a).natAbs<=B*D*V:=by
   rw[Ii]
   refine Ip ?_ (by omega)
   have:=hy.2
   omega
  have h3:=Int.natAbs_add_le (x*V) (y*a)
  rw[Nat.add_mul,<- JV,<- JV]
  omega
def x9{y a W:Int}{D B:Nat}(hD:0<D)(hy:0<y/\y<=B*D)(ha:1<=a/\a<=W):∃z:Int,((y:Rat)/((D:Int):Rat))*((a:Rat)/(W:Rat))=(z:Rat)/(((D*W.toNat:Nat):Int):Rat)/\0<z/\z<=((B:Nat):Int)*((D*W.toNat:Nat):Int):=by
 obtain⟨V,rfl⟩:∃V:Nat,W=V:=⟨W.toNat,by omega⟩
 refine⟨y*a,?_,JC hy.1 (by omega),?_⟩
 ·rw[FK _ _ _ _ (iR (by omega)) (iR (by omega))]
  congr 1
  ·rw[H0]
  ·rw[Iq,II,H0]
 ·rw[Iq,II,<- Io]
  exact Int.mul_le_mul hy.2 ha.2 (by omega) (Int.le_trans (Int.le_of_lt hy.1) hy.2)
def jV{y W:Int}{D:Nat}(hD:0<D)(hW:0<W):(y:Rat)/((D:Int):Rat)=((y*W:Int):Rat)/(((D*W.toNat:Nat):Int):Rat):=by
 obtain⟨V,rfl⟩:∃V:Nat,W=V:=⟨W.toNat,by omega⟩
 rw[Fd _ _ _ (iR (show ((D:Nat):Int)≠0 by omega)) (iR (show ((V:Nat):Int)≠0 by omega)),H0,Iq,II,H0]
def tw{z W:Int}{D A B:Nat}(hz:z.natAbs<=A*D)(hW:0<W):(z*W).natAbs<=(A+B)*(D*W.toNat):=by
 rw[Ii,<- JV]
 refine Ip ?_ (by omega)
 rw[Nat.add_mul]
 omega
def vb{z W:Int}{D B:Nat}(hz:0<z/\z<=B*D)(hW:0<W):0<z*W/\z*W<=((B:Nat):Int)*((D*W.toNat:Nat):Int):=by
 refine⟨JC hz.1 hW,?_⟩
 rw[II,<- Io,Int.toNat_of_nonneg (by omega)]
 exact Int.mul_le_mul_of_nonneg_right hz.2 (by omega)
def Rp.parts{D A B:Nat}{b b':Bx}{way:Str}{ws:List Int}(r:Rp D A B b)(hw:∀w∈ws,1<=w)(h:b'∈bg b way ws):Rp (D*ws.sum.toNat) (A+B) B b':=by
 obtain⟨pos,⟨zl,el,bl⟩,⟨zt,et,bt⟩,⟨zw,ew,bw⟩,⟨zh,eh,bh⟩⟩:=r
 have key:∀p:Rat×Rat,∀s l:Rat,p∈shL s l ws.sum 0 ws->0<ws.sum/\∃a' w:Int,0<=a'/\a'<=ws.sum/\1<=w/\w<=ws.sum/\p=(s+l*((a':Rat)/(ws.sum:Rat)),l*((w:Rat)/(ws.sum:Rat))):=λp s l hp=>by
  obtain⟨a',w,h1,h2,h3,h4,h5⟩:=qu ws 0 (by omega) hw (by omega) hp
  exact⟨by omega,a',w,h1,h2,h3,h4,h5⟩
 unfold bg at h
 split at h
 ·obtain⟨p,hp,rfl⟩:=IS.mp h
  obtain⟨hS,a',w,h1,h2,h3,h4,rfl⟩:=key p _ _ hp
  have hV:0<D*ws.sum.toNat:=Iy pos (by omega)
  refine⟨hV,?_,⟨zt*ws.sum,by show b.t=_;rw[et];exact jV pos hS,tw bt hS⟩,?_,⟨zh*ws.sum,by show b.h=_;rw[eh];exact jV pos hS,vb bh hS⟩⟩
  ·show ∃z:Int,b.l+b.w*_=_/\_
   rw[el,ew]
   exact yo pos bl bw ⟨h1,h2⟩ hS
  ·show ∃z:Int,b.w*_=_/\_
   rw[ew]
   exact x9 pos bw ⟨h3,h4⟩
 ·obtain⟨p,hp,rfl⟩:=IS.mp h
  obtain⟨hS,a',w,h1,h2,h3,h4,rfl⟩:=key p _ _ hp
  have hV:0<D*ws.sum.toNat:=Iy pos (by omega)
  refine⟨hV,⟨zl*ws.sum,by show b.l=_;rw[el];exact jV pos hS,tw bl hS⟩,?_,⟨zw*ws.sum,by show b.w=_;rw[ew];exact jV pos hS,vb bw hS⟩,?_⟩
  ·show ∃z:Int,b.t+b.h*_=_/\_
   rw[et,eh]
   exact yo pos bt bh ⟨h1,h2⟩ hS
  ·show ∃z:Int,b.h*_=_/\_
   rw[eh]
   exact x9 pos bh ⟨h3,h4⟩
def Rp.ok{D A B:Nat}{b:Bx}(r:Rp D A B b):b.Ok:=by
 obtain⟨pos,_,_,⟨zw,ew,bw⟩,⟨zh,eh,bh⟩⟩:=r
 exact⟨by rw[ew];exact fo bw.1 (by omega),by rw[eh];exact fo bh.1 (by omega)⟩
def Rp.sz{D A B n:Nat}{b:Bx}(r:Rp D A B b)(hA:A*D<2^n)(hB:B*D<2^n)(hD:D<2^n):b.Sz n:=by
 obtain⟨pos,⟨zl,el,bl⟩,⟨zt,et,bt⟩,⟨zw,ew,bw⟩,⟨zh,eh,bh⟩⟩:=r
 have sD:Sm n ((D:Nat):Int):=by show ((D:Nat):Int).natAbs<2^n;omega
 have k:∀z:Int,z.natAbs<2^n->Sz n ((z:Rat)/((D:Int):Rat)):=λz hz=>Sz.div (by omega) hz sD n (j_ _) (j_ _)
 have hb:∀z:Int,0<z/\z<=B*D->z.natAbs<2^n:=λz hz=>by
  have h1:z<=((B*D:Nat):Int):=by rw[II];exact hz.2
  omega
 exact⟨by rw[el];exact k zl (by omega),by rw[et];exact k zt (by omega),by rw[ew];exact k zw (hb zw bw),by rw[eh];exact k zh (hb zh bh)⟩
def bT(b:Bx)(w:Bool)(W a x:Int):Bx:=if w=true then ⟨b.l+b.w*((a:Rat)/(W:Rat)),b.t,b.w*((x:Rat)/(W:Rat)),b.h⟩ else ⟨b.l,b.t+b.h*((a:Rat)/(W:Rat)),b.w,b.h*((x:Rat)/(W:Rat))⟩
def frm(b:Bx)(w:Bool)(W:Int):Int->List Int->List Bx
 |_,[]=>[]
 |a,x::xs=>bT b w W a x::frm b w W (a+x) xs
theorem qg(b:Bx)(w:Bool)(W:Int):∀(xs:List Int) (a:Int),(frm b w W a xs).length=xs.length
 | [],_=>rfl
 |x::xs,a=>by rw[frm,F_,F_,qg b w W xs]
def l7(b:Bx)(w:Bool)(xs:List Int):bg b (wy w) xs=frm b w xs.sum 0 xs:=by
 have key:∀(W:Int) (xs:List Int) (a:Int),(if wy w="across" then (shL b.l b.w W a xs).map λp=>(⟨p.1,b.t,p.2,b.h⟩:Bx) else (shL b.t b.h W a xs).map λp=>⟨b.l,p.1,b.w,p.2⟩)=frm b w W a xs:=by
  intro W xs
  induction xs with
  |nil=>intro a;unfold shL frm;split <;> rfl
  |
   cons x xs ih=>
   intro a
   rw[frm,<- ih,shL,shL]
   unfold bT
   cases w with
   |true=>rw[if_pos (show wy true="across" from rfl),if_pos (show wy true="across" from rfl),if_pos rfl];rfl
   |
    false=>
    have hn:¬ (wy false="across"):=by decide
    rw[if_neg hn,if_neg hn,if_neg (by decide)];rfl
 exact key xs.sum xs 0
def HN(w:Bool):PyData.strOk (wy w)=true:=by cases w <;> decide +kernel
def AI{f:Nat->Val}(t:AT):∀d,t.dep<=d->(∀k∈t.lvs,wfV 0 (f k)=true)->wfV (2*d) (t.val f)=true:=by
 induction t using AT.ind with
 |
  h1 k=>
  intro d _ h
  rw[AT.val]
  exact CA (h k (by rw[AT.lvs];exact k_ ..)) (HW _)
 |
  h2 w ts ih=>
  intro d hd h
  rw[AT.dep] at hd
  obtain⟨e,rfl⟩:∃e,d=e+1:=⟨d-1,by omega⟩
  have hc:bK (2*e) (AT.vals f ts)=true:=by
   rw[AT.vals_map]
   refine kN λv hv=>?_
   obtain⟨t,ht,rfl⟩:=IS.mp hv
   exact ih t ht e (AT.depL_le.mp (show AT.depL ts<=e by omega) t ht) λk hk=>h k (by rw[AT.lvs];exact AT.lvsL_mem.mpr ⟨t,ht,hk⟩)
  rw[AT.val,show 2*(e+1)=2*e+1+1 from by omega]
  show (wfV (2*e+1) (.str (wy w))&&(bK (2*e) (AT.vals f ts)&&true))=true
  rw[hc,show wfV (2*e+1) (.str (wy w))=true from HN w]
  rfl
def zO{f:Nat->Val}(t:AT)(hd:t.dep<=60)(h:∀k∈t.lvs,wfV 0 (f k)=true):b0 (t.val f) (t.val f)=some true:=by
 have:=AI (f:=f) t 60 hd h
 rw[tG (by decide) this this,lR _ _ this]
end L3
set_option maxHeartbeats 4000000
namespace KK
open PySem PySem.Spec PyProof.Rows L2 L3
def top(i:Nat):Stmt:=PySem.Challenge.pw_weightrooms_k18_rows.main.body.getD i (.Pass ⟨0,0,0,0⟩)
def fX:gQ:=[((.b "NoneType"),(.b "bool"),false),((.b "bool"),(.b "bool"),true),((.b "int"),(.b "bool"),false),((.b "str"),(.b "bool"),false),((.b "tuple"),(.b "bool"),false),((.b "list"),(.b "bool"),false),((.b "dict"),(.b "bool"),false),((.b "NoneType"),(.b "int"),false),((.b "bool"),(.b "int"),true),((.b "int"),(.b "int"),true),((.b "str"),(.b "int"),false),((.b "tuple"),(.b "int"),false),((.b "list"),(.b "int"),false),((.b "dict"),(.b "int"),false),((.b "NoneType"),(.b "list"),false),((.b "bool"),(.b "list"),false),((.b "int"),(.b "list"),false),((.b "str"),(.b "list"),false),((.b "tuple"),(.b "list"),false),((.b "list"),(.b "list"),true),((.b "dict"),(.b "list"),false),((.b "NoneType"),(.b "str"),false),((.b "bool"),(.b "str"),false),((.b "int"),(.b "str"),false),((.b "str"),(.b "str"),true),((.b "tuple"),(.b "str"),false),((.b "list"),(.b "str"),false),((.b "dict"),(.b "str"),false),((.b "NoneType"),(.b "tuple"),false),((.b "bool"),(.b "tuple"),false),((.b "int"),(.b "tuple"),false),((.b "str"),(.b "tuple"),false),((.b "tuple"),(.b "tuple"),true),((.b "list"),(.b "tuple"),false),((.b "dict"),(.b "tuple"),false)]
noncomputable def gm:D:=(.int 40)
noncomputable def pY:D:=(.tup [(.str "across"),(.str "down"),(.str "halves"),(.str "rows"),(.str "greatest"),(.str "thirds")])
noncomputable def uP:D:=(.tup [(.str "across"),(.str "down")])
abbrev tb:Tb:=⟨["NoFraction", "NoBox", "NoWay", "NoWeights", "TooMany", "NoRule"],["NoFraction", "NoBox", "NoWay", "NoWeights", "TooMany", "NoRule"],[],fX,[("MOST_WEIGHTS",gm),("RULES",pY),("WAYS",uP)]⟩
abbrev TT(K:W.Frag)(mg:Ka):Prop:=Ty tb top [9,10,11,12,13,14,15,16,17,21,22,23,24,25,26,27,28,29,30,31,32,34,35,37,38,39,40,43,44,45,46,47,52,53,54,55,56,57,58,59,60,61,62,63,64,65] K mg
section
variable{P:Program}{w:World}{K:W.Frag}{mg:Ka}{base:Heap}
def fQ:PEx:=ka gm (.int 40) (λ_ _=>.int _)
def kf(e:E3):fQ.G e=.ok (.val (.int 40)) e:=rfl
def nD:PEx:=ka pY (.tup [(.str "across"),(.str "down"),(.str "halves"),(.str "rows"),(.str "greatest"),(.str "thirds")]) (λ_ _=>.tup (.cons (.str _) (.cons (.str _) (.cons (.str _) (.cons (.str _) (.cons (.str _) (.cons (.str _) .nil)))))))
def xo(e:E3):nD.G e=.ok (.val (.tup [(.str "across"),(.str "down"),(.str "halves"),(.str "rows"),(.str "greatest"),(.str "thirds")])) e:=rfl
def qQ:PEx:=ka uP (.tup [(.str "across"),(.str "down")]) (λ_ _=>.tup (.cons (.str _) (.cons (.str _) .nil)))
def yG(e:E3):qQ.G e=.ok (.val (.tup [(.str "across"),(.str "down")])) e:=rfl
def dI(s:String):Lean.TSyntax `term:=⟨Lean.mkIdent (s.replace "%" "").toName⟩
def dA(f:String)(a:Lean.TSyntax `term):Lean.TSyntax `term:=Lean.Syntax.mkApp (dI f) #[a]
def dF:List (Lean.TSyntax `tactic)->Lean.MacroM (Lean.TSyntax `tactic)
 | []=>`(tactic|fail)
 |a::l=>do `(tactic|first | $a:tactic | $(<- dF l):tactic)
def dL(f:String->Lean.MacroM (Lean.TSyntax `tactic)):List String->Lean.MacroM (List (Lean.TSyntax `tactic))
 | []=>pure []
 |s::l=>do return (<- f s)::(<- dL f l)
set_option hygiene false in
def dQ(ap:String->Lean.TSyntax `term)(s:String):Lean.MacroM (Lean.TSyntax `tactic):=match (s.splitOn ";").map ap with
 | [d,c,a,b]=>`(tactic|((case d=>with_reducible exact $d);(case c=>exact $c);(case a=>exact $a);(case b=>exact $b)))
 |d::c::_=>`(tactic|((case d=>with_reducible exact $d);(case c=>exact $c)))
 |_=>`(tactic|fail)
set_option hygiene false in
def dR(ap:String->Lean.TSyntax `term)(g:String):Lean.MacroM (Lean.TSyntax `tactic):=match g.splitOn ":" with
 | [r]=>`(tactic|refine $(ap r))
 |r::l=>do `(tactic|(refine' $(ap r);$(<- dF (<- dL (dQ ap) l)):tactic))
 | []=>`(tactic|fail)
set_option hygiene false in
local macro_rules | `('d')=>do
 let h <- `(?_)
 let u <- `(_)
 let R:=dI "rfl"
 let qA <- `(?a)
 let qB <- `(?b)
 let qC <- `(?c)
 let qD <- `(?d)
 let qp <- `((λ_ _=>rfl))
 let ap:=λ(s:String)=>let w:=s.splitOn " ";Lean.Syntax.mkApp (dI (w.getD 0 "")) (((w.getD 1 "").toList.map λc=>([('8',dI "hr.u180"),('A',qA),('B',qB),('C',qC),('D',qD),('K',dI "T.k"),('_',u),('b',dA "%boT" R),('f',dA "%boF" R),('g',dA "T.g" R),('k',dA "T.n" R),('m',dA "T.m" R),('n',dI "nd"),('o',dI "%own1"),('p',qp),('r',R),('t',dI "T"),('u',dA "%yg" (dI "hr")),('v',dA "%u6" u),('x',dA "T.x" R),('z',dI "%rz1")].lookup c).getD h).toArray)
 let rd:=λ(s:String)=>dL (dR ap) (s.splitOn "|")
 let e0 <- `(tactic|refine zcF (by $(<- dF (<- rd "%ih|nv t|oY t|pK t|mI t|n8 t|jS t|pW t|mH t|nO t|iH t|mD t|jd t|iq t_|pj t|iJ t|kz t|sf t|mP t|mF t|jg t|rB t|mJ t|nu t|uK t|vg t|rK t|se t|pP t|nz t|kY t|mO t|fN t|vK t|ub t|jQ t|lT t|kK t|eO t_|mz t|k8 t|j5 t|je t|kE t|jL t|mw t")):tactic) hr ?_)
 `(by repeat' $(<- dF ((<- rd "%u6 _|D5|Dz|eV ??|az ??|fb ?|zsS _n?|j9 ???|ik ?|tU ?|nS ?|iw|HK|zB|Bn ?")++[e0]++(<- rd "%GP CD??:GA;ixK r|Cf CD??:yq;eqDK r8:yb;yc:yz;yn:yD;yi:FT;neDK r8:BO;Bk r|ju CDrkf?:Dg;G0 r:BM;vO:zy;vm r:As;uX r:Dn;uZ rr:Dc K;Gm r|Gx CD??:A0;y0:EY;Eg r:CT;C3:Ds;wo:ET;CO:Bq;BQ:Ex;BX|ur CDrkb?:Ec;tT:w9;AR r:yY;Dp r|CY CD??:yb;yc:yq;eqDK r8:yz;yn:Hn;inK r:yD;yi|D4 rABCDv?:uS;uT;PySem.F.slot_list_append;PySem.F.type_list_append|HH CD?:DX;BV|EH n?CD:Cg;EJ|y8 ?v?CD:zL;xG|ZG.weak ?|zt_w ?|DJ ??|qK u??p|Hz rg|Dm rrkrk?|BJ ?|CP ?|xV r???|FF rkb|zgN _n|BS rr?|xD ??|zi|uh rk?|A4 r?|yX|zY ?|zQ ??|wq|Ae ?|Bb or???|Ej n?|vz rzrmx?|xp o??|nG ?|B9 ??|AJ ?|FR ??|DQ ?"))):tactic)
def kF:PSt:=
 (aj (xIf (qOf (pOp bEq (pFn bA (aa (af 0) ag)) (ah 0))) (au (dg (aa (ah 0) (aa (ah 0) (aa (af 1) ag))))) xNx)
  (au (dg (aa (pOp bIx (af 0) (pOp bE (af 1) (pFn bA (aa (af 0) ag)))) (aa (ah 0) (aa (af 1) ag))))))
def cq:PFn:=fnP [false,false] 2 kF
def pU:cq.ms=[false,false]:=rfl
def nv(T:TT K mg):Callee P w K mg base "_law_feed" 1 ["_law_script", "_law_k"] (spD K mg 2 cq.F):=aE (T.d.get 52 rfl) (ar (N:=["_law_script", "_law_k"]) (by decide)) (λ_ _ _ _ _ _=>ar2 λ_ _=>rfl) λnd _ _ _ _ _ _ _ hr=>'d'
def j6:PSt:=
 (aj (sy 0 seL (ah 1) (pOp aK (pOp bIx (af 0) (ah 1)) (ah 1)))
  (aj (xIf (qOf (pOp bGe (pOp bIx (af 0) (ah 0)) (pOp eL (ah 10) (ah 18)))) (aj (aq false 2 (pOp bE (pOp bIx (af 0) (ah 0)) (af 1)))
  (aj (sy 0 seL (ah 0) (pOp g6 (pOp bIx (af 0) (ah 0)) (af 1)))
  (au (af 2)))) xNx)
  (aj (aq false 3 (pOp aK (pOp aK (pOp bE (pOp bIx (af 0) (ah 0)) (ah 1000003)) (pOp ax (ah 7919) (pOp bIx (af 0) (ah 2)))) (pOp ax (ah 104729) (pOp bIx (af 0) (ah 1)))))
  (aj (aq false 3 (pOp bE (pOp ax (af 3) (ah 48271)) (ah 2147483647)))
  (au (pOp bE (pOp bE (pOp ax (af 3) (pOp aK (pOp bE (af 3) (ah 65521)) (pOp bIx (af 0) (ah 1)))) (ah 2147483629)) (af 1)))))))
def ao:PFn:=fnP [true,false] 4 j6
def pA:ao.ms=[true,false]:=rfl
def oY(T:TT K mg):Callee P w K mg base "_law_next" 1 ["_law_feed_here", "_law_many"] (spD K mg 2 ao.F):=aE (T.d.get 53 rfl) (ar (N:=["_law_feed_here", "_law_many", "_law_digit", "_law_mixed"]) (by decide)) (λ_ _ _ _ _ _=>ar2 λ_ _=>rfl) λnd _ _ _ _ _ _ _ hr=>'d'
def eS:PSt:=
 (d7 2 3 (aa (af 3) (aa (pOp bE (af 2) (af 3)) ag)))
def me:PSt:=
 (aj (d7 2 3 (aa (pFn eu (aa (af 0) ag)) (aa (pFn eu (aa (af 1) ag)) ag)))
  (aj (xWh (qOf (pOp bGt (af 3) (ah 0))) (eS))
  (aj (xIf (qOf (pOp bLt (af 1) (ah 0))) (aq false 2 (pOp eI (ah 0) (af 2))) xNx)
  (au (a8 (aa (pOp g6 (af 0) (af 2)) (aa (pOp g6 (af 1) (af 2)) ag)))))))
def aF:PFn:=fnP [false,false] 4 me
def rQ:aF.ms=[false,false]:=rfl
def pK(T:TT K mg):Callee P w K mg base "_law_low" 1 ["_law_top", "_law_bottom"] (spD K mg 2 aF.F):=aE (T.d.get 55 rfl) (ar (N:=["_law_top", "_law_bottom", "_law_one", "_law_two"]) (by decide)) (λ_ _ _ _ _ _=>ar2 λ_ _=>rfl) λnd _ _ _ _ _ _ _ hr=>'d'
def iz:PSt:=
 (aq false 2 (pOp aK (pOp ax (af 2) (pOp eL (ah 10) (ah 6))) (ai ao (aa (af 0) (aa (pOp eL (ah 10) (ah 6)) ag)))))
def jj:PSt:=
 (aj (aq false 2 (ah 0))
  (aj (gF (kL (aa (ah 6) ag)) (gtN 3) (iz))
  (au (pOp eI (pOp bE (af 2) (pOp aK (pOp ax (ah 2) (af 1)) (ah 1))) (af 1)))))
def aV:PFn:=fnP [true,false] 4 jj
def nr:aV.ms=[true,false]:=rfl
def mI(T:TT K mg):Callee P w K mg base "_law_great" 2 ["_law_feed_here", "_law_far"] (spD K mg 2 aV.F):=aE (T.d.get 54 rfl) (ar (N:=["_law_feed_here", "_law_far", "_law_number", "_law_k"]) (by decide)) (λ_ _ _ _ _ _=>ar2 λ_ _=>rfl) λnd _ _ _ _ _ _ _ hr=>'d'
def gX:PSt:=
 (aj (aq false 1 (ai ao (aa (af 0) (aa (ah 6) ag))))
  (aj (d7 2 3 (aa (a8 (aa (pOp eI (ai ao (aa (af 0) (aa (ah 19) ag))) (ah 9)) (aa (ah 1) ag))) (aa (a8 (aa (pOp eI (ai ao (aa (af 0) (aa (ah 19) ag))) (ah 9)) (aa (ah 1) ag))) ag)))
  (aj (d7 4 5 (aa (a8 (aa (pOp aK (ah 1) (ai ao (aa (af 0) (aa (ah 12) ag)))) (aa (ah 1) ag))) (aa (a8 (aa (pOp aK (ah 1) (ai ao (aa (af 0) (aa (ah 12) ag)))) (aa (ah 1) ag))) ag)))
  (aj (xIf (qOf (pOp bEq (af 1) (ah 1))) (aq false 5 (af 4)) xNx)
  (aj (xIf (qOf (pOp bEq (af 1) (ah 2))) (aq false 4 (a8 (aa (pOp aK (ah 1) (ai ao (aa (af 0) (aa (ah 99) ag)))) (aa (ah 1) ag)))) xNx)
  (aj (xIf (qOf (pOp bEq (af 1) (ah 3))) (aq false 5 (a8 (aa (pOp aK (ah 1) (ai ao (aa (af 0) (aa (ah 99) ag)))) (aa (ah 1) ag)))) xNx)
  (aj (xIf (qOf (pOp bEq (af 1) (ah 4))) (aj (d7 2 3 (aa (ai aF (aa (pOp eI (ai ao (aa (af 0) (aa (ah 199) ag))) (ah 99)) (aa (pOp aK (ah 1) (ai ao (aa (af 0) (aa (ah 30) ag)))) ag))) (aa (ai aF (aa (ai ao (aa (af 0) (aa (ah 9) ag))) (aa (ah 7) ag))) ag)))
  (d7 4 5 (aa (ai aF (aa (pOp aK (ah 1) (ai ao (aa (af 0) (aa (ah 99) ag)))) (aa (pOp aK (ah 1) (ai ao (aa (af 0) (aa (ah 30) ag)))) ag))) (aa (ai aF (aa (pOp aK (ah 1) (ai ao (aa (af 0) (aa (ah 99) ag)))) (aa (ah 11) ag))) ag)))) xNx)
  (aj (xIf (qOf (pOp bEq (af 1) (ah 5))) (aj (aq false 6 (pOp eI (pOp eL (ah 10) (ah 30)) (ah 1)))
  (aj (d7 2 3 (aa (ai aF (aa (ai aV (aa (af 0) (aa (af 6) ag))) (aa (pOp aK (ah 1) (pFn eu (aa (ai aV (aa (af 0) (aa (pOp eI (af 6) (ah 1)) ag))) ag))) ag))) (aa (a8 (aa (ai aV (aa (af 0) (aa (af 6) ag))) (aa (ah 1) ag))) ag)))
  (d7 4 5 (aa (a8 (aa (pOp aK (ah 1) (pFn eu (aa (ai aV (aa (af 0) (aa (pOp eI (af 6) (ah 1)) ag))) ag))) (aa (ah 1) ag))) (aa (ai aF (aa (pOp aK (ah 1) (pFn eu (aa (ai aV (aa (af 0) (aa (pOp eI (af 6) (ah 1)) ag))) ag))) (aa (af 6) ag))) ag))))) xNx)
  (au (a8 (aa (af 2) (aa (af 3) (aa (af 4) (aa (af 5) ag))))))))))))))
def dP:PFn:=fnP [true] 7 gX
def pD:dP.ms=[true]:=rfl
def n8(T:TT K mg):Callee P w K mg base "_law_room" 3 ["_law_feed_here"] (spD K mg 1 dP.F):=aE (T.d.get 56 rfl) (ar (N:=["_law_feed_here", "_law_way", "_law_left", "_law_top", "_law_wide", "_law_high", "_law_far"]) (by decide)) (λ_ _ _ _ _ _=>ar1 λ_=>rfl) λnd _ _ _ _ _ _ _ hr=>'d'
def cU:PSt:=
 (aj (aq true 3 (ai cq (aa (af 0) (aa (pOp aK (pOp aK (af 1) (ah 1)) (af 8)) ag))))
  (aj (aq false 9 (pOp bIx (dg (aa (ah 1) (aa (pOp aK (ah 1) (ai ao (aa (af 3) (aa (ah 9) ag)))) (aa (pOp nR (ah 1) (pOp bE (af 8) (ah 24))) (aa (pOp aK (ah 1) (ai ao (aa (af 3) (aa (ah 9) ag)))) (aa (ah 1) (aa (pOp aK (ah 1) (ai ao (aa (af 3) (aa (ah 3) ag)))) ag))))))) (af 6)))
  (aj (xIf (qAn (qOf (pOp bEq (af 6) (ah 3))) (qOf (pOp bEq (ai ao (aa (af 3) (aa (ah 4) ag))) (ah 0)))) (aq false 9 (pOp aK (pOp eL (ah 10) (ah 29)) (ai ao (aa (af 3) (aa (ah 100) ag))))) xNx)
  (aj (xIf (qOf (pOp bEq (af 6) (ah 4))) (aq false 9 (pOp aK (ah 1) (pFn eu (aa (ai aV (aa (af 3) (aa (pOp eI (pOp eL (ah 10) (ah 30)) (ah 2)) ag))) ag)))) xNx)
  (cT (lM 7 dY (aa (af 9) ag)))))))
def eN:PSt:=
 (aj (aq true 3 (ai cq (aa (af 0) (aa (af 1) ag))))
  (aj (aq false 4 (pOp aK (ah 1) (ai ao (aa (af 3) (aa (pFn oV (aa (af 2) (aa (ah 7) ag))) ag)))))
  (aj (aq false 5 (ai ao (aa (af 3) (aa (ah 6) ag))))
  (aj (xIf (qOf (pOp bLt (af 5) (ah 2))) (aq false 4 (pOp bIx (dg (aa (af 2) (aa (pFn pw (aa (ah 1) (aa (pOp g6 (pOp ax (af 4) (af 2)) (ah 8)) ag))) ag))) (af 5))) xNx)
  (aj (aq false 6 (ai ao (aa (af 3) (aa (ah 6) ag))))
  (aj (xIf (qOf (pOp bGt (af 4) (ah 9))) (aq false 6 (pOp bE (af 6) (ah 3))) xNx)
  (aj (aq true 7 (dg ag))
  (aj (gF (kL (aa (af 4) ag)) (gtN 8) (cU))
  (au (af 7))))))))))
def cz:PFn:=fnP [false,false,false] 10 eN
def lg:cz.ms=[false,false,false]:=rfl
def jS(T:TT K mg):Callee P w K mg base "_law_weights" 3 ["_law_script", "_law_at", "_law_most_here"] (spD K mg 3 cz.F):=aE (T.d.get 57 rfl) (ar (N:=["_law_script", "_law_at", "_law_most_here", "_law_feed_here", "_law_many", "_law_more", "_law_style", "_law_some", "_law_k", "_law_weight"]) (by decide)) (λ_ _ _ _ _ _=>ar3 λ_ _ _=>rfl) λnd _ _ _ _ _ _ _ hr=>'d'
def l6:PSt:=
 (au (ai aF (aa (pOp aK (pOp ax (pOp bIx (af 0) (ah 0)) (pOp bIx (af 1) (ah 1))) (pOp ax (pOp bIx (af 1) (ah 0)) (pOp bIx (af 0) (ah 1)))) (aa (pOp ax (pOp bIx (af 0) (ah 1)) (pOp bIx (af 1) (ah 1))) ag))))
def dE:PFn:=fnP [false,false] 2 l6
def sM:dE.ms=[false,false]:=rfl
def pW(T:TT K mg):Callee P w K mg base "_law_add" 2 ["_law_one", "_law_two"] (spD K mg 2 dE.F):=aE (T.d.get 58 rfl) (ar (N:=["_law_one", "_law_two"]) (by decide)) (λ_ _ _ _ _ _=>ar2 λ_ _=>rfl) λnd _ _ _ _ _ _ _ hr=>'d'
def b8:PSt:=
 (aj (xIf (qOf (pOp bEq (af 1) (aY "across"))) (aj (aq false 11 (ai dE (aa (af 3) (aa (ai aF (aa (pOp ax (pOp bIx (af 5) (ah 0)) (af 9)) (aa (pOp ax (pOp bIx (af 5) (ah 1)) (af 7)) ag))) ag))))
  (cT (lM 8 dY (aa (a8 (aa (af 11) (aa (af 4) (aa (ai aF (aa (pOp ax (pOp bIx (af 5) (ah 0)) (af 10)) (aa (pOp ax (pOp bIx (af 5) (ah 1)) (af 7)) ag))) (aa (af 6) ag))))) ag)))) (aj (aq false 11 (ai dE (aa (af 4) (aa (ai aF (aa (pOp ax (pOp bIx (af 6) (ah 0)) (af 9)) (aa (pOp ax (pOp bIx (af 6) (ah 1)) (af 7)) ag))) ag))))
  (cT (lM 8 dY (aa (a8 (aa (af 3) (aa (af 11) (aa (af 5) (aa (ai aF (aa (pOp ax (pOp bIx (af 6) (ah 0)) (af 10)) (aa (pOp ax (pOp bIx (af 6) (ah 1)) (af 7)) ag))) ag))))) ag)))))
  (aq false 9 (pOp aK (af 9) (af 10))))
def jq:PSt:=
 (aj (kD (af 0) (gtX (gtT 4 (bZ (gtN 3) (bZ (gtN 4) (bZ (gtN 5) (bZ (gtN 6) gB)))))))
  (aj (aq false 7 (pFn eD (aa (af 2) ag)))
  (aj (aq true 8 (dg ag))
  (aj (aq false 9 (ah 0))
  (aj (gF (cR (af 2)) (gtN 10) (b8))
  (au (af 8)))))))
def bS:PFn:=fnP [false,false,false] 12 jq
def n9:bS.ms=[false,false,false]:=rfl
def mH(T:TT K mg):Callee P w K mg base "_law_parts" 3 ["_law_box", "_law_way", "_law_weights_here"] (spD K mg 3 bS.F):=aE (T.d.get 59 rfl) (ar (N:=["_law_box", "_law_way", "_law_weights_here", "_law_left", "_law_top", "_law_wide", "_law_high", "_law_whole", "_law_parts_here", "_law_ahead", "_law_weight", "_law_at"]) (by decide)) (λ_ _ _ _ _ _=>ar3 λ_ _ _=>rfl) λnd _ _ _ _ _ _ _ hr=>'d'
def kx:PSt:=
 (au (pOp bIx (dg (aa (aY "down") (aa (aY "across") ag))) (pFn mZ (aa (pOp bGe (pOp ax (pOp bIx (pOp bIx (af 0) (ah 2)) (ah 0)) (pOp bIx (pOp bIx (af 0) (ah 3)) (ah 1))) (pOp ax (pOp bIx (pOp bIx (af 0) (ah 3)) (ah 0)) (pOp bIx (pOp bIx (af 0) (ah 2)) (ah 1)))) ag))))
def cp:PFn:=fnP [false] 1 kx
def pQ:cp.ms=[false]:=rfl
def nO(T:TT K mg):Callee P w K mg base "_law_long" 1 ["_law_box"] (spD K mg 1 cp.F):=aE (T.d.get 60 rfl) (ar (N:=["_law_box"]) (by decide)) (λ_ _ _ _ _ _=>ar1 λ_=>rfl) λnd _ _ _ _ _ _ _ hr=>'d'
def er:PSt:=
 (xIf (qOf (pOp bGt (pOp ax (pOp bIx (af 2) (ah 0)) (pOp bIx (af 1) (ah 1))) (pOp ax (pOp bIx (af 1) (ah 0)) (pOp bIx (af 2) (ah 1))))) (aq false 1 (af 2)) xNx)
def ky:PSt:=
 (aj (aq false 1 (pOp bIx (af 0) (ah 0)))
  (aj (gF (cR (pSl (af 0) (oS (ah 1)) oN)) (gtN 2) (er))
  (au (af 1))))
def dU:PFn:=fnP [false] 3 ky
def pH:dU.ms=[false]:=rfl
def iH(T:TT K mg):Callee P w K mg base "_law_most" 1 ["_law_some"] (spD K mg 1 dU.F):=aE (T.d.get 62 rfl) (ar (N:=["_law_some", "_law_found", "_law_one"]) (by decide)) (λ_ _ _ _ _ _=>ar1 λ_=>rfl) λnd _ _ _ _ _ _ _ hr=>'d'
def ji:PSt:=
 (aj (aq false 1 (ai aF (aa (pOp ax (pOp bIx (pOp bIx (af 0) (ah 2)) (ah 0)) (pOp bIx (pOp bIx (af 0) (ah 3)) (ah 1))) (aa (pOp ax (pOp bIx (pOp bIx (af 0) (ah 2)) (ah 1)) (pOp bIx (pOp bIx (af 0) (ah 3)) (ah 0))) ag))))
  (aj (xIf (qOf (pOp bLt (pOp bIx (af 1) (ah 0)) (pOp bIx (af 1) (ah 1)))) (aq false 1 (a8 (aa (pOp bIx (af 1) (ah 1)) (aa (pOp bIx (af 1) (ah 0)) ag)))) xNx)
  (au (af 1))))
def c8:PFn:=fnP [false] 2 ji
def mD(T:TT K mg):Callee P w K mg base "_law_shape" 2 ["_law_box"] (spD K mg 1 c8.F):=aE (T.d.get 61 rfl) (ar (N:=["_law_box", "_law_found"]) (by decide)) (λ_ _ _ _ _ _=>ar1 λ_=>rfl) λnd _ _ _ _ _ _ _ hr=>'d'
def fJ:PSt:=
 (aj (aq false 3 (mV ["across", "down"] (aa (aY "down") (aa (aY "across") ag))))
  (aj (aq false 4 (af 0))
  (aj (xIf (qOf (pOp bLt (af 2) (pFn bA (aa (af 1) ag)))) (aq false 4 (pOp bIx (ai bS (aa (af 0) (aa (ai cp (aa (af 0) ag)) (aa (dg (aa (pFn eD (aa (pSl (af 1) oN (oS (af 2))) ag)) (aa (pFn eD (aa (pSl (af 1) (oS (af 2)) oN) ag)) ag))) ag)))) (ah 0))) xNx)
  (au (ai dU (aa (pLC (cR (ai bS (aa (af 4) (aa (pOp sJ (af 3) (ai cp (aa (af 0) ag))) (aa (pSl (af 1) oN (oS (af 2))) ag))))) [none] (by decide) (gtN 0) qY (ai c8 (aa (af 0) ag))) ag))))))
def bo:PFn:=fnP [false,false,false] 5 fJ
def jC:bo.ms=[false,false,false]:=rfl
def jd(T:TT K mg):Callee P w K mg base "_law_row_worst" 4 ["_law_room_here", "_law_some", "_law_many"] (spD K mg 3 bo.F):=aE (T.d.get 63 rfl) (ar (N:=["_law_room_here", "_law_some", "_law_many", "_law_back", "_law_part"]) (by decide)) (λ_ _ _ _ _ _=>ar3 λ_ _ _=>rfl) λnd _ _ _ _ _ _ _ hr=>(az (zsS 3 nd (qP (g0 iw (g0 iw qx)))) (az 'd' (az 'd' (fb (ik (zcF (iH T) hr (eV (kZ ["_law_room_here", "_law_some", "_law_many", "_law_back", "_law_part"] (ak (top 63)).names ["_law_box"] [none] 'd' (λnd _ _ _ _ _=>'d') (λnd _ _ _ _ _=>'d')) 'd')))))))
def dX(s:PFx [false,false,false]):PSt:=
 (aj (aq false 6 (ai bo (aa (af 0) (aa (af 3) (aa (pOp aK (af 4) (ah 1)) ag)))))
  (aj (xIf (qOf (pOp bGt (pOp ax (pOp bIx (af 6) (ah 0)) (pOp bIx (af 5) (ah 1))) (pOp ax (pOp bIx (af 5) (ah 0)) (pOp bIx (af 6) (ah 1))))) xBk xNx)
  (d7 4 5 (aa (pOp aK (af 4) (ah 1)) (aa (af 6) ag)))))
def dG(s:PFx [false,false,false]):PSt:=
 (aj (aq false 3 (pLC (cR (af 2)) [none,some 1] (by decide) (gtN 0) qY (pOp bIx (af 1) (af 0))))
  (aj (aq false 4 (ah 1))
  (aj (aq false 5 (ai bo (aa (af 0) (aa (af 3) (aa (ah 1) ag)))))
  (aj (xWh (qOf (pOp bLt (af 4) (pFn bA (aa (af 3) ag)))) (dX s))
  (aj (aq false 7 (ai cp (aa (af 0) ag)))
  (aj (aq false 8 (pOp bIx (af 2) (ah 0)))
  (aj (xIf (qOf (pOp bGt (af 4) (ah 1))) (aq false 8 (a8 (aa (pOp sJ (mV ["across", "down"] (aa (aY "down") (aa (aY "across") ag))) (af 7)) (aa (pFn iY (aa (pSl (af 2) oN (oS (af 4))) ag)) ag)))) xNx)
  (aj (xIf (qOf (pOp bEq (af 4) (pFn bA (aa (af 3) ag)))) (au (af 8)) xNx)
  (aj (aq false 9 (pOp bIx (ai bS (aa (af 0) (aa (af 7) (aa (dg (aa (pFn eD (aa (pSl (af 3) oN (oS (af 4))) ag)) (aa (pFn eD (aa (pSl (af 3) (oS (af 4)) oN) ag)) ag))) ag)))) (ah 1)))
  (au (a8 (aa (af 7) (aa (a8 (aa (af 8) (aa (ai s.fn (aa (af 9) (aa (af 1) (aa (pSl (af 2) (oS (af 4)) oN) ag)))) ag))) ag)))))))))))))
def cm:Nat->PFx [false,false,false]
 |0=>PFx.none [false,false,false]
 |n+1=>PFx.of [false,false,false] 10 (dG (cm n))
theorem iq(T:TT K mg):∀n,Callee P w K mg base "_law_due" (6+n) ["_law_room_here", "_law_weights_here", "_law_numbers"] (spD K mg 3 (cm n).F)
 |0=>ok0 (T.d.get 64 rfl) (ar (N:=["_law_room_here", "_law_weights_here", "_law_numbers", "_law_some", "_law_many", "_law_found", "_law_more", "_law_way", "_law_row", "_law_rest"]) (by decide)) (λ_ _ _ _ _ _=>ar3 λ_ _ _=>rfl)
 |
  n+1=>by
  have ih:=iq T n
  show Callee _ _ _ _ _ _ _ _ (spD _ _ _ (PFx.of [false,false,false] 10 (dG (cm n))).F)
  exact okX' (k:=6+n) (T.d.get 64 rfl) (ar (N:=["_law_room_here", "_law_weights_here", "_law_numbers", "_law_some", "_law_many", "_law_found", "_law_more", "_law_way", "_law_row", "_law_rest"]) (by decide)) (λ_ _ _ _ _ _=>ar3 λ_ _ _=>rfl) λnd _ _ _ _ _ _ _ hr=>(az (zSlc nd ["_law_room_here", "_law_weights_here", "_law_numbers", "_law_some", "_law_many", "_law_found", "_law_more", "_law_way", "_law_row", "_law_rest"] (ak (top 64)).names ["_law_k", "_law_weights_here"] [none,some 1] 'd' (λnd _ _ _ _ _=>'d') (λnd _ _ _ _ _=>'d')) (az 'd' (az 'd' (az 'd' (az 'd' (az 'd' (az (j9 'd' (fb (zsS 8 nd (tU (eV (qK (yg hr) (qP (g0 iw (g0 iw qx))) 'd' (λ_ _=>rfl)) 'd')))) 'd') 'd')))))))
def j7:PSt:=
 (au (jz (pFn (en fX) (aa (af 0) (aa (pTy "int") ag))) (pNot (pFn (en fX) (aa (af 0) (aa (pTy "bool") ag))))))
def cu:PFn:=fnP [false] 1 j7
def pV:cu.ms=[false]:=rfl
def pj(T:TT K mg):Callee P w K mg base "is_whole" 1 ["thing"] (spD K mg 1 cu.F):=aE (T.d.get 9 rfl) (ar (N:=["thing"]) (by decide)) (λ_ _ _ _ _ _=>ar1 λ_=>rfl) λnd _ _ _ _ _ _ _ hr=>'d'
def bW:PSt:=
 (d7 0 1 (aa (af 1) (aa (pOp bE (af 0) (af 1)) ag)))
def fi:PSt:=
 (aj (d7 0 1 (aa (pFn eu (aa (af 0) ag)) (aa (pFn eu (aa (af 1) ag)) ag)))
  (aj (xWh (qOf (pOp bNe (af 1) (ah 0))) (bW))
  (au (af 0))))
def a9:PFn:=fnP [false,false] 2 fi
def jf:a9.ms=[false,false]:=rfl
def iJ(T:TT K mg):Callee P w K mg base "common_divisor" 1 ["one", "other"] (spD K mg 2 a9.F):=aE (T.d.get 10 rfl) (ar (N:=["one", "other"]) (by decide)) (λ_ _ _ _ _ _=>ar2 λ_ _=>rfl) λnd _ _ _ _ _ _ _ hr=>'d'
def ia:PSt:=
 (aj (xIf (qO (qNo (qOf (pFn (en fX) (aa (af 0) (aa (pTy "tuple") ag))))) (qOf (pOp bNe (pFn bA (aa (af 0) ag)) (ah 2)))) (au (pBl false)) xNx)
  (aj (kD (af 0) (gtX (gtT 2 (bZ (gtN 1) (bZ (gtN 2) gB)))))
  (aj (xIf (qO (qNo (qOf (ai cu (aa (af 1) ag)))) (qNo (qOf (ai cu (aa (af 2) ag))))) (au (pBl false)) xNx)
  (au (jz (pOp bGe (af 2) (ah 1)) (pOp bEq (ai a9 (aa (af 1) (aa (af 2) ag))) (ah 1)))))))
def bM:PFn:=fnP [false] 3 ia
def lA:bM.ms=[false]:=rfl
def kz(T:TT K mg):Callee P w K mg base "is_fraction" 2 ["thing"] (spD K mg 1 bM.F):=aE (T.d.get 11 rfl) (ar (N:=["thing", "top", "bottom"]) (by decide)) (λ_ _ _ _ _ _=>ar1 λ_=>rfl) λnd _ _ _ _ _ _ _ hr=>'d'
def nK:PSt:=
 (aj (xIf (qO (qNo (qOf (pFn (en fX) (aa (af 0) (aa (pTy "tuple") ag))))) (qOf (pOp bNe (pFn bA (aa (af 0) ag)) (ah 4)))) (au (pBl false)) xNx)
  (aj (xIf (qNo (qOf (pFn nc (aa (pLC (cR (af 0)) [none] (by decide) (gtN 0) qY (ai bM (aa (af 0) ag))) ag)))) (au (pBl false)) xNx)
  (au (jz (pOp bGt (pOp bIx (pOp bIx (af 0) (ah 2)) (ah 0)) (ah 0)) (pOp bGt (pOp bIx (pOp bIx (af 0) (ah 3)) (ah 0)) (ah 0))))))
def fD:PFn:=fnP [false] 1 nK
def tZ:fD.ms=[false]:=rfl
def sf(T:TT K mg):Callee P w K mg base "is_box" 3 ["thing"] (spD K mg 1 fD.F):=aE (T.d.get 21 rfl) (ar (N:=["thing"]) (by decide)) (λ_ _ _ _ _ _=>ar1 λ_=>rfl) λnd _ _ _ _ _ _ _ hr=>(az 'd' (az (j9 (nG (nS (ju (allK (K:=K) rfl rfl) tL rfl (T.n rfl) (by first |exact boF rfl |exact boT rfl) (eV (kZ ["thing"] (ak (top 21)).names ["part"] [none] 'd' (λnd _ _ _ _ _=>'d') (λnd _ _ _ _ _=>'d')) 'd')))) 'd' 'd') 'd'))
def jn:PSt:=
 (xIf (qNo (qOf (ai fD (aa (af 0) ag)))) (dW "NoBox" (aa (aY "this is no box") ag)) xNx)
def ba:PFn:=fnP [false] 1 jn
def pf:ba.ms=[false]:=rfl
def mP(T:TT K mg):Callee P w K mg base "check_box" 4 ["thing"] (spD K mg 1 ba.F):=aE (T.d.get 22 rfl) (ar (N:=["thing"]) (by decide)) (λ_ _ _ _ _ _=>ar1 λ_=>rfl) λnd _ _ _ _ _ _ _ hr=>'d'
def jh:PSt:=
 (au (jz (ai cu (aa (af 0) ag)) (pOp bGe (af 0) (ah 1))))
def cE:PFn:=fnP [false] 1 jh
def nC:cE.ms=[false]:=rfl
def mF(T:TT K mg):Callee P w K mg base "is_weight" 2 ["thing"] (spD K mg 1 cE.F):=aE (T.d.get 26 rfl) (ar (N:=["thing"]) (by decide)) (λ_ _ _ _ _ _=>ar1 λ_=>rfl) λnd _ _ _ _ _ _ _ hr=>'d'
def fK:PSt:=
 (aj (xIf (qO (qNo (qOf (pFn (en fX) (aa (af 0) (aa (pTy "list") ag))))) (qOf (pOp bEq (pFn bA (aa (af 0) ag)) (ah 0)))) (dW "NoWeights" (aa (aY "this is no list of weights") ag)) xNx)
  (aj (xIf (qNo (qOf (pFn nc (aa (pLC (cR (af 0)) [none] (by decide) (gtN 0) qY (ai cE (aa (af 0) ag))) ag)))) (dW "NoWeights" (aa (aY "a weight is a whole number from 1 on") ag)) xNx)
  (xIf (qOf (pOp bGt (pFn bA (aa (af 0) ag)) fQ)) (dW "TooMany" (aa (aY "these are more weights than forty") ag)) xNx)))
def aX:PFn:=fnP [false] 1 fK
def jM:aX.ms=[false]:=rfl
def jg(T:TT K mg):Callee P w K mg base "check_weights" 3 ["thing"] (spD K mg 1 aX.F):=aE (T.d.get 27 rfl) (ar (N:=["thing"]) (by decide)) (λ_ _ _ _ _ _=>ar1 λ_=>rfl) λnd _ _ _ _ _ _ _ hr=>(az 'd' (az (j9 (nG (nS (ju (allK (K:=K) rfl rfl) tL rfl (T.n rfl) (by first |exact boF rfl |exact boT rfl) (eV (kZ ["thing"] (ak (top 27)).names ["weight"] [none] 'd' (λnd _ _ _ _ _=>'d') (λnd _ _ _ _ _=>'d')) 'd')))) 'd' 'd') 'd'))
def nM:PSt:=
 (au (jz (pFn (en fX) (aa (af 0) (aa (pTy "str") ag))) (pOp bIn (af 0) qQ)))
def fj:PFn:=fnP [false] 1 nM
def uc:fj.ms=[false]:=rfl
def rB(T:TT K mg):Callee P w K mg base "is_way" 1 ["thing"] (spD K mg 1 fj.F):=aE (T.d.get 23 rfl) (ar (N:=["thing"]) (by decide)) (λ_ _ _ _ _ _=>ar1 λ_=>rfl) λnd _ _ _ _ _ _ _ hr=>'d'
def jk:PSt:=
 (xIf (qNo (qOf (ai fj (aa (af 0) ag)))) (dW "NoWay" (aa (aY "this is no way") ag)) xNx)
def cZ:PFn:=fnP [false] 1 jk
def oT:cZ.ms=[false]:=rfl
def mJ(T:TT K mg):Callee P w K mg base "check_way" 2 ["way"] (spD K mg 1 cZ.F):=aE (T.d.get 24 rfl) (ar (N:=["way"]) (by decide)) (λ_ _ _ _ _ _=>ar1 λ_=>rfl) λnd _ _ _ _ _ _ _ hr=>'d'
def kA:PSt:=
 (aj (xIf (qOf (pOp bEq (af 1) (ah 0))) (dW "NoFraction" (aa (aY "a fraction has no bottom of 0") ag)) xNx)
  (aj (aq false 2 (ai a9 (aa (af 0) (aa (af 1) ag))))
  (aj (xIf (qOf (pOp bLt (af 1) (ah 0))) (aq false 2 (pUn vU (af 2))) xNx)
  (au (a8 (aa (pOp g6 (af 0) (af 2)) (aa (pOp g6 (af 1) (af 2)) ag)))))))
def bz:PFn:=fnP [false,false] 3 kA
def pE:bz.ms=[false,false]:=rfl
def nu(T:TT K mg):Callee P w K mg base "fraction" 2 ["top", "bottom"] (spD K mg 2 bz.F):=aE (T.d.get 12 rfl) (ar (N:=["top", "bottom", "divisor"]) (by decide)) (λ_ _ _ _ _ _=>ar2 λ_ _=>rfl) λnd _ _ _ _ _ _ _ hr=>'d'
def rj:PSt:=
 (au (ai bz (aa (pOp aK (pOp ax (pOp bIx (af 0) (ah 0)) (pOp bIx (af 1) (ah 1))) (pOp ax (pOp bIx (af 1) (ah 0)) (pOp bIx (af 0) (ah 1)))) (aa (pOp ax (pOp bIx (af 0) (ah 1)) (pOp bIx (af 1) (ah 1))) ag))))
def gz:PFn:=fnP [false,false] 2 rj
def xw:gz.ms=[false,false]:=rfl
def uK(T:TT K mg):Callee P w K mg base "added" 3 ["one", "other"] (spD K mg 2 gz.F):=aE (T.d.get 13 rfl) (ar (N:=["one", "other"]) (by decide)) (λ_ _ _ _ _ _=>ar2 λ_ _=>rfl) λnd _ _ _ _ _ _ _ hr=>'d'
def qr:PSt:=
 (au (ai bz (aa (pOp ax (pOp bIx (af 0) (ah 0)) (pOp bIx (af 1) (ah 0))) (aa (pOp ax (pOp bIx (af 0) (ah 1)) (pOp bIx (af 1) (ah 1))) ag))))
def eY:PFn:=fnP [false,false] 2 qr
def vJ:eY.ms=[false,false]:=rfl
def vg(T:TT K mg):Callee P w K mg base "times" 3 ["one", "other"] (spD K mg 2 eY.F):=aE (T.d.get 14 rfl) (ar (N:=["one", "other"]) (by decide)) (λ_ _ _ _ _ _=>ar2 λ_ _=>rfl) λnd _ _ _ _ _ _ _ hr=>'d'
def fL:PSt:=
 (aj (aq false 7 (ai gz (aa (af 0) (aa (ai eY (aa (af 1) (aa (ai bz (aa (af 4) (aa (af 3) ag))) ag))) ag))))
  (aj (cT (lM 5 dY (aa (a8 (aa (af 7) (aa (ai eY (aa (af 1) (aa (ai bz (aa (af 6) (aa (af 3) ag))) ag))) ag))) ag)))
  (rN 4 sG (af 6))))
def oW:PSt:=
 (aj (aq false 3 (pFn eD (aa (af 2) ag)))
  (aj (aq false 4 (ah 0))
  (aj (aq true 5 (dg ag))
  (aj (gF (cR (af 2)) (gtN 6) (fL))
  (au (af 5))))))
def dZ:PFn:=fnP [false,false,false] 8 oW
def ug:dZ.ms=[false,false,false]:=rfl
def rK(T:TT K mg):Callee P w K mg base "shares" 4 ["start", "length", "weights"] (spD K mg 3 dZ.F):=aE (T.d.get 30 rfl) (ar (N:=["start", "length", "weights", "whole", "ahead", "found", "weight", "begin"]) (by decide)) (λ_ _ _ _ _ _=>ar3 λ_ _ _=>rfl) λnd _ _ _ _ _ _ _ hr=>'d'
def n6:PSt:=
 (aj (cT (ai ba (aa (af 0) ag)))
  (aj (cT (ai cZ (aa (af 1) ag)))
  (aj (cT (ai aX (aa (af 2) ag)))
  (aj (kD (af 0) (gtX (gtT 4 (bZ (gtN 3) (bZ (gtN 4) (bZ (gtN 5) (bZ (gtN 6) gB)))))))
  (aj (xIf (qOf (pOp bEq (af 1) (aY "across"))) (au (pLC (cR (ai dZ (aa (af 3) (aa (af 5) (aa (af 2) ag))))) [none,none,some 4,some 6] (by decide) (gtT 2 (bZ (gtN 0) (bZ (gtN 1) gB))) qY (a8 (aa (af 0) (aa (af 2) (aa (af 1) (aa (af 3) ag))))))) xNx)
  (au (pLC (cR (ai dZ (aa (af 4) (aa (af 6) (aa (af 2) ag))))) [none,none,some 3,some 5] (by decide) (gtT 2 (bZ (gtN 0) (bZ (gtN 1) gB))) qY (a8 (aa (af 2) (aa (af 0) (aa (af 3) (aa (af 1) ag))))))))))))
def dB:PFn:=fnP [false,false,false] 7 n6
def um:dB.ms=[false,false,false]:=rfl
def se(T:TT K mg):Callee P w K mg base "parted" 5 ["box", "way", "weights"] (spD K mg 3 dB.F):=aE (T.d.get 31 rfl) (ar (N:=["box", "way", "weights", "left", "top", "wide", "high"]) (by decide)) (λ_ _ _ _ _ _=>ar3 λ_ _ _=>rfl) λnd _ _ _ _ _ _ _ hr=>(az 'd' (az 'd' (az 'd' (az 'd' (az (j9 'd' (fb (ik (kZ ["box", "way", "weights", "left", "top", "wide", "high"] (ak (top 31)).names ["begin", "length", "top", "high"] [none,none,some 4,some 6] 'd' (λnd _ _ _ _ _=>'d') (λnd _ _ _ _ _=>'d')))) 'd') (fb (ik (kZ ["box", "way", "weights", "left", "top", "wide", "high"] (ak (top 31)).names ["begin", "length", "left", "wide"] [none,none,some 3,some 5] 'd' (λnd _ _ _ _ _=>'d') (λnd _ _ _ _ _=>'d')))))))))
def ma:PSt:=
 (au (pOp bLt (pOp ax (pOp bIx (af 0) (ah 0)) (pOp bIx (af 1) (ah 1))) (pOp ax (pOp bIx (af 1) (ah 0)) (pOp bIx (af 0) (ah 1)))))
def cQ:PFn:=fnP [false,false] 2 ma
def sQ:cQ.ms=[false,false]:=rfl
def pP(T:TT K mg):Callee P w K mg base "is_less" 1 ["one", "other"] (spD K mg 2 cQ.F):=aE (T.d.get 16 rfl) (ar (N:=["one", "other"]) (by decide)) (λ_ _ _ _ _ _=>ar2 λ_ _=>rfl) λnd _ _ _ _ _ _ _ hr=>'d'
def kr:PSt:=
 (aj (cT (ai ba (aa (af 0) ag)))
  (aj (xIf (qOf (ai cQ (aa (pOp bIx (af 0) (ah 2)) (aa (pOp bIx (af 0) (ah 3)) ag)))) (au (aY "down")) xNx)
  (au (aY "across"))))
def bx:PFn:=fnP [false] 1 kr
def pC:bx.ms=[false]:=rfl
def nz(T:TT K mg):Callee P w K mg base "long_way" 5 ["box"] (spD K mg 1 bx.F):=aE (T.d.get 28 rfl) (ar (N:=["box"]) (by decide)) (λ_ _ _ _ _ _=>ar1 λ_=>rfl) λnd _ _ _ _ _ _ _ hr=>'d'
def iM:PSt:=
 (au (ai dB (aa (af 0) (aa (ai bx (aa (af 0) ag)) (aa (dg (aa (pFn eD (aa (pSl (af 1) oN (oS (af 2))) ag)) (aa (pFn eD (aa (pSl (af 1) (oS (af 2)) oN) ag)) ag))) ag)))))
def b9:PFn:=fnP [false,false,false] 3 iM
def mE:b9.ms=[false,false,false]:=rfl
def kY(T:TT K mg):Callee P w K mg base "cut_in_two" 6 ["room", "weights", "many"] (spD K mg 3 b9.F):=aE (T.d.get 32 rfl) (ar (N:=["room", "weights", "many"]) (by decide)) (λ_ _ _ _ _ _=>ar3 λ_ _ _=>rfl) λnd _ _ _ _ _ _ _ hr=>'d'
def jm:PSt:=
 (aj (xIf (qOf (pOp bEq (af 0) (aY "across"))) (au (aY "down")) xNx)
  (au (aY "across")))
def cD:PFn:=fnP [false] 1 jm
def oJ:cD.ms=[false]:=rfl
def mO(T:TT K mg):Callee P w K mg base "other_way" 1 ["way"] (spD K mg 1 cD.F):=aE (T.d.get 25 rfl) (ar (N:=["way"]) (by decide)) (λ_ _ _ _ _ _=>ar1 λ_=>rfl) λnd _ _ _ _ _ _ _ hr=>'d'
def cV:PSt:=
 (xIf (qOf (ai cQ (aa (af 1) (aa (af 2) ag)))) (aq false 1 (af 2)) xNx)
def ig:PSt:=
 (aj (aq false 1 (pOp bIx (af 0) (ah 0)))
  (aj (gF (cR (af 0)) (gtN 2) (cV))
  (au (af 1))))
def cB:PFn:=fnP [false] 3 ig
def kX:cB.ms=[false]:=rfl
def fN(T:TT K mg):Callee P w K mg base "greatest_of" 2 ["fractions"] (spD K mg 1 cB.F):=aE (T.d.get 17 rfl) (ar (N:=["fractions", "found", "one"]) (by decide)) (λ_ _ _ _ _ _=>ar1 λ_=>rfl) λnd _ _ _ _ _ _ _ hr=>'d'
def uH:PSt:=
 (au (ai bz (aa (pOp ax (pOp bIx (af 0) (ah 0)) (pOp bIx (af 1) (ah 1))) (aa (pOp ax (pOp bIx (af 0) (ah 1)) (pOp bIx (af 1) (ah 0))) ag))))
def gy:PFn:=fnP [false,false] 2 uH
def yH:gy.ms=[false,false]:=rfl
def vK(T:TT K mg):Callee P w K mg base "over" 3 ["one", "other"] (spD K mg 2 gy.F):=aE (T.d.get 15 rfl) (ar (N:=["one", "other"]) (by decide)) (λ_ _ _ _ _ _=>ar2 λ_ _=>rfl) λnd _ _ _ _ _ _ _ hr=>'d'
def qc:PSt:=
 (aj (xIf (qOf (pOp bEq (ai bx (aa (af 0) ag)) (aY "across"))) (au (ai gy (aa (pOp bIx (af 0) (ah 2)) (aa (pOp bIx (af 0) (ah 3)) ag)))) xNx)
  (au (ai gy (aa (pOp bIx (af 0) (ah 3)) (aa (pOp bIx (af 0) (ah 2)) ag)))))
def gi:PFn:=fnP [false] 1 qc
def ub(T:TT K mg):Callee P w K mg base "shape" 6 ["box"] (spD K mg 1 gi.F):=aE (T.d.get 29 rfl) (ar (N:=["box"]) (by decide)) (λ_ _ _ _ _ _=>ar1 λ_=>rfl) λnd _ _ _ _ _ _ _ hr=>'d'
def gn:PSt:=
 (aj (aq false 3 (af 0))
  (aj (xIf (qOf (pOp bLt (af 2) (pFn bA (aa (af 1) ag)))) (aq false 3 (pOp bIx (ai b9 (aa (af 0) (aa (af 1) (aa (af 2) ag)))) (ah 0))) xNx)
  (aj (aq false 4 (ai dB (aa (af 3) (aa (ai cD (aa (ai bx (aa (af 0) ag)) ag)) (aa (pSl (af 1) oN (oS (af 2))) ag)))))
  (au (ai cB (aa (pLC (cR (af 4)) [none] (by decide) (gtN 0) qY (ai gi (aa (af 0) ag))) ag))))))
def bD:PFn:=fnP [false,false,false] 5 gn
def kc:bD.ms=[false,false,false]:=rfl
def jQ(T:TT K mg):Callee P w K mg base "worst_of_row" 7 ["room", "weights", "many"] (spD K mg 3 bD.F):=aE (T.d.get 40 rfl) (ar (N:=["room", "weights", "many", "part", "boxes"]) (by decide)) (λ_ _ _ _ _ _=>ar3 λ_ _ _=>rfl) λnd _ _ _ _ _ _ _ hr=>(az 'd' (az 'd' (az 'd' (fb (ik (zcF (fN T) hr (eV (kZ ["room", "weights", "many", "part", "boxes"] (ak (top 40)).names ["box"] [none] 'd' (λnd _ _ _ _ _=>'d') (λnd _ _ _ _ _=>'d')) 'd')))))))
def cx:PSt:=
 (aj (aq false 4 (ai bD (aa (af 0) (aa (af 1) (aa (pOp aK (af 2) (ah 1)) ag)))))
  (aj (xIf (qOf (ai cQ (aa (af 3) (aa (af 4) ag)))) xBk xNx)
  (aj (aq false 3 (af 4))
  (rN 2 sG (ah 1)))))
def iA:PSt:=
 (aj (aq false 2 (ah 1))
  (aj (aq false 3 (ai bD (aa (af 0) (aa (af 1) (aa (af 2) ag)))))
  (aj (xWh (qOf (pOp bLt (af 2) (pFn bA (aa (af 1) ag)))) (cx))
  (au (af 2)))))
def cM:PFn:=fnP [false,false] 5 iA
def my:cM.ms=[false,false]:=rfl
def lT(T:TT K mg):Callee P w K mg base "row_length" 8 ["room", "weights"] (spD K mg 2 cM.F):=aE (T.d.get 39 rfl) (ar (N:=["room", "weights", "many", "before", "behind"]) (by decide)) (λ_ _ _ _ _ _=>ar2 λ_ _=>rfl) λnd _ _ _ _ _ _ _ hr=>'d'
def hX:PSt:=
 (aj (xIf (qOf (pOp bEq (pFn bA (aa (af 1) ag)) (ah 1))) (au (pOp bIx (af 1) (ah 0))) xNx)
  (au (a8 (aa (ai cD (aa (ai bx (aa (af 0) ag)) ag)) (aa (pFn iY (aa (af 1) ag)) ag)))))
def cC:PFn:=fnP [false,false] 2 hX
def lQ:cC.ms=[false,false]:=rfl
def kK(T:TT K mg):Callee P w K mg base "tree_of_row" 6 ["room", "numbers"] (spD K mg 2 cC.F):=aE (T.d.get 38 rfl) (ar (N:=["room", "numbers"]) (by decide)) (λ_ _ _ _ _ _=>ar2 λ_ _=>rfl) λnd _ _ _ _ _ _ _ hr=>'d'
def bC(s:PFx [false,false,false]):PSt:=
 (aj (aq false 3 (ai cM (aa (af 0) (aa (af 2) ag))))
  (aj (aq false 4 (ai cC (aa (af 0) (aa (pSl (af 1) oN (oS (af 3))) ag))))
  (aj (xIf (qOf (pOp bEq (af 3) (pFn bA (aa (af 1) ag)))) (au (af 4)) xNx)
  (aj (aq false 5 (pOp bIx (ai b9 (aa (af 0) (aa (af 2) (aa (af 3) ag)))) (ah 1)))
  (au (a8 (aa (ai bx (aa (af 0) ag)) (aa (a8 (aa (af 4) (aa (ai s.fn (aa (af 5) (aa (pSl (af 1) (oS (af 3)) oN) (aa (pSl (af 2) (oS (af 3)) oN) ag)))) ag))) ag))))))))
def aT:Nat->PFx [false,false,false]
 |0=>PFx.none [false,false,false]
 |n+1=>PFx.of [false,false,false] 6 (bC (aT n))
theorem eO(T:TT K mg):∀n,Callee P w K mg base "tree_of_rows" (10+n) ["room", "numbers", "weights"] (spD K mg 3 (aT n).F)
 |0=>ok0 (T.d.get 37 rfl) (ar (N:=["room", "numbers", "weights", "many", "tree", "rest"]) (by decide)) (λ_ _ _ _ _ _=>ar3 λ_ _ _=>rfl)
 |
  n+1=>by
  have ih:=eO T n
  show Callee _ _ _ _ _ _ _ _ (spD _ _ _ (PFx.of [false,false,false] 6 (bC (aT n))).F)
  exact okX' (k:=10+n) (T.d.get 37 rfl) (ar (N:=["room", "numbers", "weights", "many", "tree", "rest"]) (by decide)) (λ_ _ _ _ _ _=>ar3 λ_ _ _=>rfl) λnd _ _ _ _ _ _ _ hr=>'d'
def jo:PSt:=
 (aj (cT (ai ba (aa (af 0) ag)))
  (aj (cT (ai aX (aa (af 1) ag)))
  (au (ai (aT 42).fn (aa (af 0) (aa (pFn i9 (aa (pFn bA (aa (af 1) ag)) ag)) (aa (af 1) ag)))))))
def bQ:PFn:=fnP [false,false] 2 jo
def nj:bQ.ms=[false,false]:=rfl
def mz(T:TT K mg):Callee P w K mg base "rows_tree" 53 ["room", "weights"] (spD K mg 2 bQ.F):=aE (T.d.get 34 rfl) (ar (N:=["room", "weights"]) (by decide)) (λ_ _ _ _ _ _=>ar2 λ_ _=>rfl) λnd _ _ _ _ _ _ _ hr=>'d'
def iG:PSt:=
 (xIf (qOf (pOp xN (af 0) nD)) (dW "NoRule" (aa (aY "this is no rule") ag)) xNx)
def cL:PFn:=fnP [false] 1 iG
def mM:cL.ms=[false]:=rfl
def k8(T:TT K mg):Callee P w K mg base "check_rule" 1 ["rule"] (spD K mg 1 cL.F):=aE (T.d.get 43 rfl) (ar (N:=["rule"]) (by decide)) (λ_ _ _ _ _ _=>ar1 λ_=>rfl) λnd _ _ _ _ _ _ _ hr=>'d'
def ic:Nat->PFx [false,false]:=λ_=>PFx.none [false,false]
def j5(T:TT K mg):Callee P w K mg base "halves_tree" 2 ["room", "weights"] (spD K mg 2 (ic 0).F):=by
 show Callee _ _ _ _ _ _ _ _ (spD _ _ _ (PFx.none [false,false]).F)
 exact ok0 (T.d.get 46 rfl) (ar (N:=["room", "weights"]) (by decide)) (λ_ _ _ _ _ _=>ar2 λ_ _=>rfl)
def fP:Nat->PFx [false,false]:=λ_=>PFx.none [false,false]
def je(T:TT K mg):Callee P w K mg base "greatest_tree" 2 ["room", "weights"] (spD K mg 2 (fP 0).F):=by
 show Callee _ _ _ _ _ _ _ _ (spD _ _ _ (PFx.none [false,false]).F)
 exact ok0 (T.d.get 35 rfl) (ar (N:=["room", "weights", "numbers"]) (by decide)) (λ_ _ _ _ _ _=>ar2 λ_ _=>rfl)
def hZ:Nat->PFx [false,false]:=λ_=>PFx.none [false,false]
def kE(T:TT K mg):Callee P w K mg base "thirds_tree" 2 ["room", "weights"] (spD K mg 2 (hZ 0).F):=by
 show Callee _ _ _ _ _ _ _ _ (spD _ _ _ (PFx.none [false,false]).F)
 exact ok0 (T.d.get 47 rfl) (ar (N:=["room", "weights", "numbers"]) (by decide)) (λ_ _ _ _ _ _=>ar2 λ_ _=>rfl)
def gh:Nat->PFx [false,false,false]:=λ_=>PFx.none [false,false,false]
def jL(T:TT K mg):Callee P w K mg base "side_by_side" 2 ["way", "room", "weights"] (spD K mg 3 (gh 0).F):=by
 show Callee _ _ _ _ _ _ _ _ (spD _ _ _ (PFx.none [false,false,false]).F)
 exact ok0 (T.d.get 45 rfl) (ar (N:=["way", "room", "weights"]) (by decide)) (λ_ _ _ _ _ _=>ar3 λ_ _ _=>rfl)
def jl:PSt:=
 (aj (cT (ai cL (aa (af 0) ag)))
  (aj (xIf (qOf (pOp bEq (af 0) (aY "halves"))) (au (ai (ic 0).fn (aa (af 1) (aa (af 2) ag)))) xNx)
  (aj (xIf (qOf (pOp bEq (af 0) (aY "rows"))) (au (ai bQ (aa (af 1) (aa (af 2) ag)))) xNx)
  (aj (xIf (qOf (pOp bEq (af 0) (aY "greatest"))) (au (ai (fP 0).fn (aa (af 1) (aa (af 2) ag)))) xNx)
  (aj (xIf (qOf (pOp bEq (af 0) (aY "thirds"))) (au (ai (hZ 0).fn (aa (af 1) (aa (af 2) ag)))) xNx)
  (au (ai (gh 0).fn (aa (af 0) (aa (af 1) (aa (af 2) ag))))))))))
def da:PFn:=fnP [false,false,false] 3 jl
def oM:da.ms=[false,false,false]:=rfl
def mw(T:TT K mg):Callee P w K mg base "rule_tree" 54 ["rule", "room", "weights"] (spD K mg 3 da.F):=aE (T.d.get 44 rfl) (ar (N:=["rule", "room", "weights"]) (by decide)) (λ_ _ _ _ _ _=>ar3 λ_ _ _=>rfl) λnd _ _ _ _ _ _ _ hr=>'d'
def ox:PSt:=
 (xIf (qO (qOf (pOp bNe (ai bQ (aa (af 2) (aa (af 3) ag))) (af 5))) (qO (qOf (pOp bNe (ai da (aa (aY "rows") (aa (af 2) (aa (af 3) ag)))) (af 5))) (qOf (pOp bNe (af 3) (af 4))))) (au (pBl false)) xNx)
def rE:PSt:=
 (aj (aq true 1 (ai cq (aa (af 0) (aa (ah 55) ag))))
  (aj (aq false 2 (ai dP (aa (af 1) ag)))
  (aj (aq false 3 (ai cz (aa (af 0) (aa (ah 0) (aa (pOp bIx (dg (aa (ah 9) (aa (ah 40) ag))) (pFn mZ (aa (pOp bEq (ai ao (aa (af 1) (aa (ah 6) ag))) (ah 0)) ag))) ag)))))
  (aj (aq false 4 (pFn nF (aa (af 3) ag)))
  (aj (aq false 5 (ai (cm 42).fn (aa (af 2) (aa (af 3) (aa (pFn i9 (aa (pFn bA (aa (af 3) ag)) ag)) ag)))))
  (aj (gF (kL (aa (ah 2) ag)) (gtN 6) (ox))
  (au (pBl true))))))))
def mT:PFn:=fnP [false] 7 rE
def Ax(T:TT K mg):Callee P w K mg base "law" 55 ["_law_script"] (spD K mg 1 mT.F):=aE (T.d.get 65 rfl) (ar (N:=["_law_script", "_law_feed_here", "_law_room_here", "_law_weights_here", "_law_kept", "_law_due_here", "_law_again"]) (by decide)) (λ_ _ _ _ _ _=>ar1 λ_=>rfl) λnd _ _ _ _ _ _ _ hr=>'d'
end
def fdV(a b k:Int):Val:=.lst [.int a,.int b,.int k]
def yh:eL.G (.int 10) (.int 18)=.val (.int (10^18)):=mY ⟨by decide,by decide,by decide⟩
noncomputable def cN{a m:Int}(h:0<m):0<=a.fmod m/\a.fmod m<m:=⟨Int.fmod_nonneg_of_pos a h,Int.fmod_lt_of_pos a h⟩
set_option hygiene false in
local macro_rules | `(tactic|simp![$args,*])=>do
 let l <- ("% iW F8 FC HI Hw BK g9 HL Fy xR tf Bo En DP EM BP Ca Ei zK wz Dv BL Aq CH Gp F6 v_bl Hg v_ty v_un v_op GL CW v_fn GW Gy Fs c_of c_an c_o c_no x_nx x_bk HQ yZ zu yT E8 xY x_if F9 Gd Fc yO xC xE g_n g_sn g_sc g_t g_x EX Fg GX Gu zj F7 G8 GG GN GI Eb Cb G1 xH GJ Ct CM BU Dt G9 Fi eW v_lc Di Cd EK o_n o_s v_sl HB fx_G HR Hc k_lt k_gt k_ge F2 G6 k_ix D2 B7 GS k_eq k_ne HA FA FE Hv Hs GR HP AV zb BY xW cj List.getElem?_cons_zero List.getElem?_cons_succ List.set_cons_zero List.set_cons_succ List.length_cons List.length_nil Option.bind_some Option.map_some Option.isSome_some if_true if_false Bool.not_true Bool.not_false Bool.and_true Bool.true_and Bool.false_and Bool.or_true Bool.true_or Nat.reduceLeDiff Nat.reduceLT Nat.reduceAdd Nat.reduceSub Nat.zero_add Nat.add_zero Nat.sub_self List.cons_append List.nil_append List.append_nil List.replicate reduceCtorEq decide_true decide_false Bool.false_eq_true List.all_cons List.all_nil List.isEmpty_nil List.map_cons List.map_nil Int.reduceBEq Int.reduceLT Int.reduceAdd Int.reduceSub Int.reduceMul Int.cast_ofNat_Int Cj Az DY DH zE wO Bi uC Aa Cr zc ue Al Ez vG DR zg Bj vI DC EU AO Gs FI HC Gj uE uU vj sE pI uf wH uY ud ati0 ati1 ati2 ati3 ixn0 ixn1 FQ bR Dh zV ED Fm pU pA rQ nr pD lg sM n9 pQ pH jC pV jf lA tZ pf nC jM uc oT pE xw vJ ug um sQ pC mE oJ kX yH kc my lQ nj mM oM kf xo yG".splitOn " ").tail.mapM λs=>`(Lean.Parser.Tactic.simpLemma| $(Lean.mkIdent s.toName):term)
 `(tactic|simp only[$(l.toArray),*,$args,*])
def aw{a b k m:Int}(h0:0<m)(hm:Sm 8000 m):∃r a' b',ao.G [fdV a b k,.int m]=.ok (.val (.int r)) [fdV a' b' k]/\0<=r/\r<m:=by
 unfold ao
 rw[aH]
 unfold j6 fdV
 have m0:m≠0:=by omega
 have d1:=λi=>dJ (i:=i) m0
 have d2:=λi=>i8 (i:=i) (CDivB.of m0 hm)
 have ca:∀x:Int,CMulA 7919 x:=λx=>CMulA.left (by decide) (by decide)
 have cb:∀x:Int,CMulA 104729 x:=λx=>CMulA.left (by decide) (by decide)
 have cc:∀x:Int,CMulA x 48271:=λx=>CMulA.right (by decide) (by decide)
 have e1:bE.G (.int a) (.int 1000003)=.val (.int (a.fmod 1000003)):=dJ (by decide)
 have e2:ax.G (.int 7919) (.int k)=.val (.int (7919*k)):=aB (ca k)
 have e3:=λx=>aB (cb x)
 have e4:=λx=>aB (cc x)
 have e5:∀x:Int,bE.G (.int x) (.int 2147483647)=.val (.int (x.fmod 2147483647)):=λx=>dJ (by decide)
 have e6:∀x:Int,bE.G (.int x) (.int 65521)=.val (.int (x.fmod 65521)):=λx=>dJ (by decide)
 have e7:∀x y:Int,ax.G (.int (x.fmod 2147483647)) (.int y)=.val (.int (x.fmod 2147483647*y)):=λx y=>aB (CMulA.left (by have:=(cN (a:=x) (m:=2147483647) (by decide)).1;omega) (by have:=(cN (a:=x) (m:=2147483647) (by decide)).2;omega))
 have e8:∀x:Int,bE.G (.int x) (.int 2147483629)=.val (.int (x.fmod 2147483629)):=λx=>dJ (by decide)
 by_cases hc:(10^18:Int)<=a
 ·have hc':decide ((10^18:Int)<=a)=true:=r_ hc
  refine⟨a.fmod m,a.fdiv m,b+1,?_,cN h0⟩
  simp![yh,hc',d1,d2]
  done
 ·have hc':decide ((10^18:Int)<=a)=false:=o_ hc
  refine⟨Int.fmod (Int.fmod (Int.fmod ((Int.fmod a 1000003+7919*k+104729*(b+1))*48271) 2147483647*(Int.fmod (Int.fmod ((Int.fmod a 1000003+7919*k+104729*(b+1))*48271) 2147483647) 65521+(b+1))) 2147483629) m,a,b+1,?_,cN h0⟩
  simp![yh,hc',d1,e1,e2,e3,e4,e5,e6,e7,e8]
def eX(a:Int):(if a<0 then -a else a)=((a.natAbs:Nat):Int):=by split <;> omega
theorem nT:∀(n one am:Nat),am<=n->(xWh (qOf (pOp bNe (af 1) (ah 0))) bW).G [.sh (.int (one:Nat)),.sh (.int (am:Nat))]=.nx [.sh (.int (Nat.gcd one am:Nat)),.sh (.int 0)]
 |
  n,one,0,_=>by
  rw[gf]
  simp![iW]
  rw[Nat.gcd_zero_right]
  try rfl
 |0,one,am+1,hl=>absurd hl (by omega)
 |
  n+1,one,am+1,hl=>by
  rw[gf]
  have e:((((am+1:Nat):Int)==0))=false:=by rw[v_];omega
  have e1:bE.G (.int (one:Nat)) (.int ((am+1:Nat):Int))=.val (.int (((one:Nat):Int).fmod ((am+1:Nat):Int))):=dJ (by omega)
  have e2:((one:Nat):Int).fmod ((am+1:Nat):Int)=((one % (am+1):Nat):Int):=by
   rw[Int.fmod_eq_emod_of_nonneg _ (by omega)];rfl
  have ih:=nT n (am+1) (one % (am+1)) (by have:=Nat.mod_lt one (show am+1>0 by omega);omega)
  rw[Fr.euc] at ih
  rw[e2] at e1
  have bb:bW.G [.sh (.int (one:Nat)),.sh (.int ((am+1:Nat):Int))]=.nx [.sh (.int ((am+1:Nat):Int)),.sh (.int ((one % (am+1):Nat):Int))]:=by
   unfold bW
   simp![e1]
  simp![e,bb,ih]
def bX(a b:Int):a9.G [.int a,.int b]=.ok (.val (.int (Int.gcd a b:Nat))) []:=by
 unfold a9
 rw[aH]
 unfold fi
 have:=nT b.natAbs a.natAbs b.natAbs (j_ _)
 simp![eX,this]
 rfl
def c7{a b:Int}(hb:b≠0)(hs:Sm 8000 b):bz.G [.int a,.int b]=.ok (.val (fV ((a:Rat)/(b:Rat)))) []:=by
 unfold bz
 rw[aH]
 unfold kA
 have e:(b==0)=false:=by rw[v_];exact hb
 have c:∀x,CDivB x (Fr.dv a b):=λx=>CDivB.of (Fr.dv_ne hb) (hs.of_le (by
  rw[Fr.dv_abs]
  exact Nat.le_of_dvd (by omega) (Nat.gcd_dvd_right a.natAbs b.natAbs)))
 have k1:=i8 (c a)
 have k2:=i8 (c b)
 have hh:=j3 (a:=a) hb
 have d_:Val.tup [.int (a.fdiv (Fr.dv a b)),.int (b.fdiv (Fr.dv a b))]=fV ((a:Rat)/(b:Rat)):=by
  unfold fV
  rw[<- hh.1,<- hh.2]
  rfl
 by_cases hn:b<0
 ·have hd:Fr.dv a b=-((Int.gcd a b:Nat):Int):=by unfold Fr.dv;rw[if_pos hn]
  rw[hd] at k1 k2 d_
  simp![e,bX,r_ hn,k1,k2,d_]
 ·have hd:Fr.dv a b=((Int.gcd a b:Nat):Int):=by unfold Fr.dv;rw[if_neg hn]
  rw[hd] at k1 k2 d_
  simp![e,bX,o_ hn,k1,k2,d_]
def v8{p q:Rat}{n m:Nat}(hp:Sz n p)(hq:Sz m q)(h:n+m<=8000):gz.G [fV p,fV q]=.ok (.val (fV (p+q))) []:=by
 have c1:=aB (CMulA.of hp.top hq.bot (by omega) (by omega))
 have c2:=aB (CMulA.of hq.top hp.bot (by omega) (by omega))
 have c3:=aB (CMulA.of hp.bot hq.bot (by omega) (by omega))
 have fe:=c7 (a:=p.num*q.den+q.num*p.den) (b:=p.den*q.den) (IX (bN p) (bN q)) ((hp.bot.mul hq.bot).mono h)
 rw[<- qN] at fe
 unfold gz
 rw[aH]
 unfold rj
 rw[show fV p=.tup [.int p.num,.int p.den] from rfl,show fV q=.tup [.int q.num,.int q.den] from rfl]
 simp![c1,c2,c3,fe]
def nt{p q:Rat}{n m:Nat}(hp:Sz n p)(hq:Sz m q)(h:n+m<=8000):eY.G [fV p,fV q]=.ok (.val (fV (p*q))) []:=by
 have c1:=aB (CMulA.of hp.top hq.top (by omega) (by omega))
 have c2:=aB (CMulA.of hp.bot hq.bot (by omega) (by omega))
 have fe:=c7 (a:=p.num*q.num) (b:=p.den*q.den) (IX (bN p) (bN q)) ((hp.bot.mul hq.bot).mono h)
 rw[<- rh] at fe
 unfold eY
 rw[aH]
 unfold qr
 rw[show fV p=.tup [.int p.num,.int p.den] from rfl,show fV q=.tup [.int q.num,.int q.den] from rfl]
 simp![c1,c2,fe]
def gJ{p q:Rat}{n m:Nat}(hp:Sz n p)(hq:Sz m q)(h1:n<=100000)(h2:m<=100000):cQ.G [fV p,fV q]=.ok (.val (.bl (decide (p<q)))) []:=by
 have c1:=aB (CMulA.of hp.top hq.bot h1 h2)
 have c2:=aB (CMulA.of hq.top hp.bot h2 h1)
 unfold cQ
 rw[aH]
 unfold ma
 rw[show fV p=.tup [.int p.num,.int p.den] from rfl,show fV q=.tup [.int q.num,.int q.den] from rfl]
 simp![c1,c2]
 rw[show decide (p.num*(q.den:Int)<q.num*(p.den:Int))=decide (p<q) from decide_eq_decide.mpr (gx p q).symm]
def iQ{v:Val}(hk:knV v=true):(en fX).G [v,.ty "tuple"]=.val (.bl (dS v)):=by
 cases v <;> first |rfl |cases hk
def fW{v:Val}(hk:knV v=true):cu.G [v]=.ok (.val (.bl (gY v))) []:=by
 unfold cu
 rw[aH]
 unfold j7
 cases v <;> first |rfl |cases hk
def nQ(v:Val):dS v=false\/∃xs,v=.tup xs:=by
 cases v <;> first |exact .inr ⟨_,rfl⟩ |exact .inl rfl
def jw(v:Val):gY v=false\/∃i,v=.int i:=by
 cases v <;> first |exact .inr ⟨_,rfl⟩ |exact .inl rfl
def FJ{v:Val}(h:dS v=false):aD v=false:=by
 cases v <;> first |rfl |cases h
def Hb{v:Val}(h:dS v=false):ez v=false:=by
 cases v <;> first |rfl |cases h
def B8{a b:Val}(h:gY a=false):aD (.tup [a,b])=false:=by
 cases a <;> first |rfl |cases h
def EA{i:Int}{b:Val}(h:gY b=false):aD (.tup [.int i,b])=false:=by
 cases b <;> first |rfl |cases h
def GY{xs:List Val}(hl:xs.length≠2):aD (.tup xs)=false:=by
 unfold aD
 split
 ·rename_i e;injection e with e;subst e;exact absurd rfl hl
 ·rfl
def Gk{xs:List Val}(hl:xs.length≠4):ez (.tup xs)=false:=by
 unfold ez
 split
 ·rename_i e;injection e with e;subst e;exact absurd rfl hl
 ·rfl
def yu{k:Nat}{v:Val}(ha:fZ k v=true)(h:dS v=false):knV v=true:=by
 cases v with
 |tup xs=>cases h
 |_=>cases k <;> exact ha
def kM{v:Val}(ha:fZ 1 v=true):bM.G [v]=.ok (.val (.bl (aD v))) []:=by
 unfold bM
 rw[aH]
 unfold ia
 rcases nQ v with ht |⟨xs,rfl⟩
 ·have it:=iQ (yu ha ht)
  rw[ht] at it
  simp![it,FJ ht]
 have it:=iQ (v:=.tup xs) rfl
 by_cases hl:xs.length=2
 ·match xs,hl,ha with
  |
   [a,b],_,ha=>
   have ha':(knV a&&(knV b&&true))=true:=by simpa [fZ] using ha
   simp only[m_] at ha'
   have w1:=fW ha'.1
   have w2:=fW ha'.2.1
   rcases jw a with h1 |⟨i,rfl⟩
   ·rw[h1] at w1
    simp![it,dS,w1,B8 h1]
   rcases jw b with h2 |⟨j,rfl⟩
   ·rw[h2] at w2
    simp![it,dS,w1,gY,w2,EA h2]
   have f:aD (.tup [.int i,.int j])=(decide (1<=j)&&decide (Int.gcd i j=1)):=rfl
   have g:((((Int.gcd i j:Nat):Int)==1):Bool)=decide (Int.gcd i j=1):=by
    rw[Bool.eq_iff_iff,H_,Jb];omega
   by_cases hj:1<=j
   ·simp![it,dS,w1,w2,gY,bX,r_ hj,f,g]
   ·simp![it,dS,w1,w2,gY,bX,o_ hj,f,g]
 ·have e:(((xs.length:Nat):Int)==2)=false:=by rw[v_];omega
  simp![it,dS,e,GY hl]
def lV{v:Val}(ha:fZ 2 v=true):fD.G [v]=.ok (.val (.bl (ez v))) []:=by
 unfold fD
 rw[aH]
 unfold nK
 rcases nQ v with ht |⟨xs,rfl⟩
 ·have it:=iQ (yu ha ht)
  rw[ht] at it
  simp![it,Hb ht]
 have it:=iQ (v:=.tup xs) rfl
 by_cases hl:xs.length=4
 ·match
   xs,hl,ha with
  |
   [a,b,c,d],_,ha=>
   have e1:ez (.tup [a,b,c,d])=(aD a&&(aD b&&(aD c&&(aD d&&(gO c&&gO d))))):=rfl
   have bl4:∀x y z w:Bool,iF [.bl x,.bl y,.bl z,.bl w]=some [x,y,z,w]:=λ_ _ _ _=>rfl
   obtain⟨e',⟨s',rfl,_⟩,lc⟩:=lI (g:=(gtN 0).G) (F:=(ai bM (aa (af 0) ag)).G) (f:=λv=>.bl (aD v)) (λe=>∃s,e=[s]/\s.pl=true) [a,b,c,d] [] [.no] ⟨.no,rfl,rfl⟩ (by
    rintro v hv e ⟨s,rfl,hs⟩
    have hv':fZ 1 v=true:=HU.mp (by simpa [fZ] using ha) v hv
    refine⟨[.sh v],.val (.bl (aD v)),[.sh v],?_,?_,rfl,⟨_,rfl,rfl⟩⟩
    ·simp![hs]
    ·simp![kM hv']) (by simp)
   have cy:cY=qY.G:=rfl
   rw[cy,Ik] at lc
   simp only[D_,H9] at lc
   cases hA:(aD a&&(aD b&&(aD c&&aD d))) with
   |
    true=>
    simp only[m_] at hA
    obtain⟨p,rfl⟩:=uN hA.2.2.1
    obtain⟨q,rfl⟩:=uN hA.2.2.2
    rw[hA.1,hA.2.1,hA.2.2.1,hA.2.2.2] at e1 lc
    have e2:ez (.tup [a,b,fV p,fV q])=(decide (0<p.num)&&decide (0<q.num)):=by rw[e1];rfl
    rw[e2]
    have i1:(fV p).items=some [.int p.num,.int p.den]:=rfl
    have i2:(fV q).items=some [.int q.num,.int q.den]:=rfl
    by_cases hp:0<p.num
    ·simp![it,dS,lc,bR,bl4,id,i1,i2,r_ hp]
    ·simp![it,dS,lc,bR,bl4,id,i1,o_ hp]
   |
    false=>
    have e2:ez (.tup [a,b,c,d])=false:=by
     rw[e1]
     revert hA
     generalize aD a=a',aD b=b',aD c=c',aD d=d',(gO c&&gO d)=z
     revert a' b' c' d' z
     decide
    rw[e2]
    simp![it,dS,lc,bR,bl4,id,hA]
 ·have e:(((xs.length:Nat):Int)==4)=false:=by rw[v_];omega
  simp![it,dS,e,Gk hl]
def nH{v:Val}(ha:fZ 2 v=true):ba.G [v]=if ez v=true then .ok (.val .non) [] else .exc "NoBox" []:=by
 unfold ba
 rw[aH]
 unfold jn
 cases h:ez v with
 |true=>simp![lV ha,h]
 |false=>simp![lV ha,h]
def fB{b:Bx}(hb:b.Ok):ba.G [bV b]=.ok (.val .non) []:=by rw[nH (Ew b),xO hb];rfl
def Fz{v:Val}(h:gY v=false):fI v=false:=by
 cases v <;> first |rfl |cases h
def xA(v:Val):jt v=false\/∃xs,v=.lst xs:=by
 cases v <;> first |exact .inr ⟨_,rfl⟩ |exact .inl rfl
def o5{v:Val}(hk:knV v=true):cE.G [v]=.ok (.val (.bl (fI v))) []:=by
 have w:=fW hk
 unfold cE
 rw[aH]
 unfold jh
 rcases jw v with h |⟨i,rfl⟩
 ·rw[h] at w
  simp![w,Fz h]
 ·simp![w,gY];rfl
def qW{v:Val}(hk:knV v=true):(en fX).G [v,.ty "list"]=.val (.bl (jt v)):=by
 cases v <;> first |rfl |cases hk
def rY(v:Val):R3F:=match v with
 |.lst xs=>if xs=[] then .exc "NoWeights" [] else if xs.all fI=true then (if xs.length<=40 then .ok (.val .non) [] else .exc "TooMany" []) else .exc "NoWeights" []
 |_=>.exc "NoWeights" []
def CQ{v:Val}(h:jt v=false):rY v=.exc "NoWeights" []:=by
 cases v <;> first |rfl |cases h
def oU:Val->Bool
 |.lst xs=>decide (xs.length<=1000)&&xs.all knV
 |v=>knV v
def zW{v:Val}(h:oU v=true)(hl:jt v=false):knV v=true:=by cases v <;> first |(cases hl;done) |exact h
theorem gH(f:Val->Bool):∀xs:List Val,iF (xs.map λv=>.bl (f v))=some (xs.map f)
 | []=>rfl
 |x::xs=>by show (iF (xs.map λv=>.bl (f v))).map (f x :: ·)=_;rw[gH f xs];rfl
def gE(f:Val->Bool)(xs:List Val):(xs.map f).all id=xs.all f:=by rw[List.all_map];rfl
def jx{v:Val}(ha:oU v=true):aX.G [v]=rY v:=by
 unfold aX
 rw[aH]
 unfold fK
 rcases xA v with hv |⟨xs,rfl⟩
 ·have il:=qW (zW ha hv)
  rw[hv] at il
  rw[CQ hv]
  simp![il]
 ·have ha':xs.length<=1000/\xs.all knV=true:=by simpa [oU] using ha
  have il:=qW (v:=.lst xs) rfl
  unfold rY
  dsimp only
  by_cases h0:xs=[]
  ·subst h0
   simp![il]
  ·have e0:(((xs.length:Nat):Int)==0)=false:=by
    rw[v_]
    intro z
    exact h0 (List.length_eq_zero_iff.mp (by omega))
   rw[if_neg h0]
   obtain⟨e',p',lc⟩:=lI (g:=(gtN 0).G) (F:=(ai cE (aa (af 0) ag)).G) (f:=λv=>.bl (fI v)) (λe=>∃s,e=[s]/\s.pl=true) xs [] [.no] ⟨.no,rfl,rfl⟩ (by
    rintro v hv e ⟨s,rfl,hs⟩
    refine⟨[.sh v],.val (.bl (fI v)),[.sh v],?_,?_,rfl,⟨_,rfl,rfl⟩⟩
    ·simp![hs]
    ·simp![o5 (HU.mp ha'.2 v hv)]) (by simp;omega)
   obtain⟨s',rfl,_⟩:=p'
   have cy:cY=qY.G:=rfl
   rw[cy,Ik] at lc
   have be:(xs.map λv=>Val.bl (fI v)).length<=16777216:=by rw[g_];omega
   by_cases hw:xs.all fI=true
   ·rw[if_pos hw]
    by_cases h40:xs.length<=40
    ·have hd:decide ((40:Int)<((xs.length:Nat):Int))=false:=o_ (by omega)
     rw[if_pos h40]
     simp![il,e0,bR,lc,be,gH,gE,hw,hd]
    ·have hd:decide ((40:Int)<((xs.length:Nat):Int))=true:=r_ (by omega)
     rw[if_neg h40]
     simp![il,e0,bR,lc,be,gH,gE,hw,hd]
   ·have hw':xs.all fI=false:=Bool.eq_false_iff.mpr hw
    rw[if_neg hw]
    simp![il,e0,bR,lc,be,gH,gE,hw']
def uz{ws:List Int}(h0:ws≠[])(h1:∀w∈ws,1<=w)(h2:ws.length<=40):aX.G [.lst (ws.map .int)]=.ok (.val .non) []:=by
 have ha:oU (.lst (ws.map .int))=true:=by
  simp only[oU,m_,Jb,g_]
  exact⟨by omega,by rw[HU];intro v hv;obtain⟨w,_,rfl⟩:=IS.mp hv;rfl⟩
 rw[jx ha]
 unfold rY
 dsimp only
 rw[if_neg (by intro z;exact h0 (List.map_eq_nil_iff.mp z)),if_pos (by
  rw[HU];intro v hv
  obtain⟨w,hw,rfl⟩:=IS.mp hv
  exact r_ (h1 w hw)),if_pos (by rw[g_];exact h2)]
def ko:b0 (.str "down") (.str "across")=some false:=by rw[L3.eq_str (by decide) (by decide)];exact Iw some (by decide)
def j0:b0 (.str "across") (.str "across")=some true:=by rw[L3.eq_str (by decide) (by decide)];exact Iw some (by decide)
def prV(p:Rat×Rat):Val:=.tup [fV p.1,fV p.2]
theorem qS{s l:Rat}{n m:Nat}{W:Int}{wv:Val}(hs:Sz n s)(hl:Sz n l)(hW:0<W)(mW:Sm m W)(h:n+n+m<=8000):∀(ws:List Int) (a:Int) (acc:List (Rat×Rat)) (s6 s7:Sl),s6.pl=true->s7.pl=true->0<=a->(∀w∈ws,0<=w)->a+ws.sum<=W->acc.length+ws.length<=16777216->∃s6' s7',dm (gtN 6).G fL.G (ws.map .int) [.sh (fV s),.sh (fV l),.sh wv,.sh (.int W),.sh (.int a),.ow (.lst (acc.map prV)),s6,s7]=.nx [.sh (fV s),.sh (fV l),.sh wv,.sh (.int W),.sh (.int (a+ws.sum)),.ow (.lst ((acc++shL s l W a ws).map prV)),s6',s7']
 | [],a,acc,s6,s7,h6,h7,ha,hw,hsum,be=>⟨s6,s7,by rw[H9,eW,List.sum_nil,Int.add_zero];unfold shL;rw[Iz]⟩
 |
  w::ws,a,acc,s6,s7,h6,h7,ha,hw,hsum,be=>by
  have hw0:=hw w (k_ ..)
  have hws:0<=ws.sum:=by
   have:∀l:List Int,(∀w∈l,0<=w)->0<=l.sum:=by
    intro l
    induction l with
    |nil=>intro _;simp
    |cons x l ih=>intro hx;rw[Ie];have:=hx x (k_ ..);have:=ih λw hw=>hx w (i_ _ hw);omega
   exact this ws λx hx=>hw x (i_ _ hx)
  rw[Ie] at hsum
  rw[F_] at be
  have sa:Sm m a:=mW.of_le (by omega)
  have sw:Sm m w:=mW.of_le (by omega)
  have f1:=c7 (a:=a) (b:=W) (by omega) (mW.mono (by omega))
  have f2:=c7 (a:=w) (b:=W) (by omega) (mW.mono (by omega))
  have z1:Sz m ((a:Rat)/(W:Rat)):=Sz.div (by omega) sa mW m (j_ _) (j_ _)
  have z2:Sz m ((w:Rat)/(W:Rat)):=Sz.div (by omega) sw mW m (j_ _) (j_ _)
  have t1:=nt hl z1 (by omega)
  have t2:=nt hl z2 (by omega)
  have ad:=v8 hs (hl.mul z1) (by omega)
  have ll:(acc.map prV).length<16777216:=by rw[g_];omega
  obtain⟨t6,t7,ih⟩:=qS (wv:=wv) hs hl hW mW h ws (a+w) (acc++[(s+l*((a:Rat)/(W:Rat)),l*((w:Rat)/(W:Rat)))]) (.sh (.int w)) (.sh (fV (s+l*((a:Rat)/(W:Rat))))) rfl rfl (by omega) (λx hx=>hw x (i_ _ hx)) (by omega) (by simp;omega)
  refine⟨t6,t7,?_⟩
  have g1:(gtN 6).G (.int w) [.sh (fV s),.sh (fV l),.sh wv,.sh (.int W),.sh (.int a),.ow (.lst (acc.map prV)),s6,s7]=some [.sh (fV s),.sh (fV l),.sh wv,.sh (.int W),.sh (.int a),.ow (.lst (acc.map prV)),.sh (.int w),s7]:=by
   simp![h6]
  have b1:fL.G [.sh (fV s),.sh (fV l),.sh wv,.sh (.int W),.sh (.int a),.ow (.lst (acc.map prV)),.sh (.int w),s7]=.nx [.sh (fV s),.sh (fV l),.sh wv,.sh (.int W),.sh (.int (a+w)),.ow (.lst ((acc++[(s+l*((a:Rat)/(W:Rat)),l*((w:Rat)/(W:Rat)))]).map prV)),.sh (.int w),.sh (fV (s+l*((a:Rat)/(W:Rat))))]:=by
   unfold fL
   rw[Jq]
   simp![h7,f1,f2,t1,t2,ad,ll,prV]
  rw[D_,cJ,g1]
  simp only[b1,g9]
  rw[ih,Ie]
  rw[show shL s l W a (w::ws)=(s+l*((a:Rat)/(W:Rat)),l*((w:Rat)/(W:Rat)))::shL s l W (a+w) ws from rfl,IM,show a+w+ws.sum=a+(w+ws.sum) by omega]
  rfl
def mn{s l:Rat}{n m:Nat}{ws:List Int}(hs:Sz n s)(hl:Sz n l)(hw:∀w∈ws,0<=w)(h0:0<ws.sum)(mW:Sm m ws.sum)(h:n+n+m<=8000)(be:ws.length<=1000):dZ.G [fV s,fV l,.lst (ws.map .int)]=.ok (.new (.lst ((shL s l ws.sum 0 ws).map prV))) []:=by
 obtain⟨s6,s7,lo⟩:=qS (wv:=.lst (ws.map .int)) hs hl h0 mW h ws 0 [] .no .no rfl rfl (by omega) hw (by omega) (by simp;omega)
 rw[Ik,H9] at lo
 unfold dZ
 rw[aH]
 unfold oW
 simp![lo]
def Eh{way:Str}(hw:way="across" \/ way="down"):cZ.G [.str way]=.ok (.val .non) []:=by
 have i1:∀x:Str,(en fX).G [.str x,.ty "str"]=.val (.bl true):=λ_=>rfl
 have i2:bIn.G (.str way) (.tup [.str "across",.str "down"])=.val (.bl true):=by
  rcases hw with rfl |rfl <;> rfl
 have e1:fj.G [.str way]=.ok (.val (.bl true)) []:=by
  unfold fj
  rw[aH]
  unfold nM
  simp![i1,i2]
 unfold cZ
 rw[aH]
 unfold jk
 simp![e1]
def l9{b:Bx}{n m:Nat}{way:Str}{ws:List Int}(hb:b.Ok)(hs:b.Sz n)(hway:way="across" \/ way="down")(h0:ws≠[])(hw:∀w∈ws,1<=w)(mW:Sm m ws.sum)(h:n+n+m<=8000)(be:ws.length<=40):dB.G [bV b,.str way,.lst (ws.map .int)]=.ok (.new (.lst ((bg b way ws).map bV))) []:=by
 have cw:=uz h0 hw be
 have cy:=Eh hway
 have sp:0<ws.sum:=by
  cases ws with
  |nil=>exact absurd rfl h0
  |
   cons x l=>
   rw[Ie]
   have:=hw x (k_ ..)
   have:∀l:List Int,(∀w∈l,1<=w)->0<=l.sum:=by
    intro l
    induction l with
    |nil=>intro _;simp
    |cons x l ih=>intro hx;rw[Ie];have:=hx x (k_ ..);have:=ih λw hw=>hx w (i_ _ hw);omega
   have:=this l λx hx=>hw x (i_ _ hx)
   omega
 have cb:ba.G [.tup [fV b.l,fV b.t,fV b.w,fV b.h]]=.ok (.val .non) []:=fB hb
 have sh1:=mn hs.l hs.w (λw z=>by have:=hw w z;omega) sp mW h (by omega)
 have sh2:=mn hs.t hs.h (λw z=>by have:=hw w z;omega) sp mW h (by omega)
 show dB.G [.tup [fV b.l,fV b.t,fV b.w,fV b.h],.str way,.lst (ws.map .int)]=_
 unfold dB bg
 rw[aH]
 unfold n6
 rcases hway with rfl |rfl
 ·rw[if_pos (rfl:("across" : Str)="across")]
  have ln:=lB b.l b.w ws.sum ws 0
  obtain⟨e',⟨s,t,rfl,_,_⟩,lc⟩:=fA (g:=(gtT 2 (bZ (gtN 0) (bZ (gtN 1) gB))).G) (F:=(a8 (aa (af 0) (aa (af 2) (aa (af 1) (aa (af 3) ag))))).G) prV (λp=>bV ⟨p.1,b.t,p.2,b.h⟩) (λe=>∃s t,e=[s,t,.sh (fV b.t),.sh (fV b.h)]/\s.pl=true/\t.pl=true) (shL b.l b.w ws.sum 0 ws) [] [.no,.no,.sh (fV b.t),.sh (fV b.h)] ⟨.no,.no,rfl,rfl,rfl⟩ (by
   rintro p hp e ⟨s,t,rfl,hs,ht⟩
   refine⟨[.sh (fV p.1),.sh (fV p.2),.sh (fV b.t),.sh (fV b.h)],.val (bV ⟨p.1,b.t,p.2,b.h⟩),[.sh (fV p.1),.sh (fV p.2),.sh (fV b.t),.sh (fV b.h)],?_,?_,rfl,⟨_,_,rfl,rfl,rfl⟩⟩
   ·simp![prV,hs,ht]
   ·simp![bV]) (by rw[ln,Ir];omega)
  rw[Ik] at lc
  have ll:((shL b.l b.w ws.sum 0 ws).map λp=>bV ⟨p.1,b.t,p.2,b.h⟩).length<=16777216:=by rw[g_,ln];omega
  rw[Jf,show (bV ∘ λp:Rat×Rat=>(⟨p.1,b.t,p.2,b.h⟩:Bx))=λp=>bV ⟨p.1,b.t,p.2,b.h⟩ from rfl]
  simp![cb,cy,cw,j0,sh1,lc,ll]
 ·have hne:¬ (("down" : Str)="across"):=by decide
  rw[if_neg hne]
  have ln:=lB b.t b.h ws.sum ws 0
  obtain⟨e',⟨s,t,rfl,_,_⟩,lc⟩:=fA (g:=(gtT 2 (bZ (gtN 0) (bZ (gtN 1) gB))).G) (F:=(a8 (aa (af 2) (aa (af 0) (aa (af 3) (aa (af 1) ag))))).G) prV (λp=>bV ⟨b.l,p.1,b.w,p.2⟩) (λe=>∃s t,e=[s,t,.sh (fV b.l),.sh (fV b.w)]/\s.pl=true/\t.pl=true) (shL b.t b.h ws.sum 0 ws) [] [.no,.no,.sh (fV b.l),.sh (fV b.w)] ⟨.no,.no,rfl,rfl,rfl⟩ (by
   rintro p hp e ⟨s,t,rfl,hs,ht⟩
   refine⟨[.sh (fV p.1),.sh (fV p.2),.sh (fV b.l),.sh (fV b.w)],.val (bV ⟨b.l,p.1,b.w,p.2⟩),[.sh (fV p.1),.sh (fV p.2),.sh (fV b.l),.sh (fV b.w)],?_,?_,rfl,⟨_,_,rfl,rfl,rfl⟩⟩
   ·simp![prV,hs,ht]
   ·simp![bV]) (by rw[ln,Ir];omega)
  rw[Ik] at lc
  have ll:((shL b.t b.h ws.sum 0 ws).map λp=>bV ⟨b.l,p.1,b.w,p.2⟩).length<=16777216:=by rw[g_,ln];omega
  rw[Jf,show (bV ∘ λp:Rat×Rat=>(⟨b.l,p.1,b.w,p.2⟩:Bx))=λp=>bV ⟨b.l,p.1,b.w,p.2⟩ from rfl]
  simp![cb,cy,cw,ko,sh2,lc,ll]
def lK{ns:List Int}{k:Int}(hk:0<=k):∃a,cq.G [.kl (ns.map .int),.int k]=.ok (.new (fdV a 0 k)) []:=by
 unfold cq
 rw[aH]
 unfold kF fdV
 by_cases h0:ns.length=0
 ·have e:((((ns.map Val.int).length:Nat):Int)==0)=true:=by rw[H_,g_];omega
  exact⟨0,by simp![e]⟩
 ·have e:((((ns.map Val.int).length:Nat):Int)==0)=false:=by rw[v_,g_];omega
  have e1:bE.G (.int k) (.int ((ns.map Val.int).length:Nat))=.val (.int (k.fmod ((ns.map Val.int).length:Nat))):=dJ (by rw[g_];omega)
  have r:=cN (a:=k) (m:=((ns.map Val.int).length:Nat)) (by rw[g_];omega)
  rw[g_] at r e1
  have hi:(k.fmod (ns.length:Nat)).toNat<ns.length:=by omega
  have at1:atI (ns.map Val.int) (k.fmod (ns.length:Nat))=some (.int ns[(k.fmod (ns.length:Nat)).toNat]):=cH r.1 (by rw[Em,x_ hi];rfl)
  rw[g_] at e
  exact⟨ns[(k.fmod (ns.length:Nat)).toNat],by simp![g_,e,e1,at1]⟩
def pow6:eL.G (.int 10) (.int 6)=.val (.int 1000000):=mY ⟨by decide,by decide,by decide⟩
def Hf:gP [.int 6]=some [.int 0,.int 1,.int 2,.int 3,.int 4,.int 5]:=qt (i:=6) (by decide) (by decide)
def d6{a b k far:Int}(h0:0<=far)(hf:far.natAbs<=2000000000000000000000000000000):∃r a' b',aV.G [fdV a b k,.int far]=.ok (.val (.int r)) [fdV a' b' k]/\-far<=r/\r<=far:=by
 obtain⟨r1,a1,b1,e1,_,_⟩:=aw (a:=a) (b:=b) (k:=k) (m:=1000000) (by decide) (sm8 (by decide))
 obtain⟨r2,a2,b2,e2,_,_⟩:=aw (a:=a1) (b:=b1) (k:=k) (m:=1000000) (by decide) (sm8 (by decide))
 obtain⟨r3,a3,b3,e3,_,_⟩:=aw (a:=a2) (b:=b2) (k:=k) (m:=1000000) (by decide) (sm8 (by decide))
 obtain⟨r4,a4,b4,e4,_,_⟩:=aw (a:=a3) (b:=b3) (k:=k) (m:=1000000) (by decide) (sm8 (by decide))
 obtain⟨r5,a5,b5,e5,_,_⟩:=aw (a:=a4) (b:=b4) (k:=k) (m:=1000000) (by decide) (sm8 (by decide))
 obtain⟨r6,a6,b6,e6,_,_⟩:=aw (a:=a5) (b:=b5) (k:=k) (m:=1000000) (by decide) (sm8 (by decide))
 have c6:∀x:Int,ax.G (.int x) (.int 1000000)=.val (.int (x*1000000)):=λx=>aB (CMulA.right (by decide) (by decide))
 have c2:ax.G (.int 2) (.int far)=.val (.int (2*far)):=aB (CMulA.left (by decide) (by decide))
 have c3:∀x:Int,bE.G (.int x) (.int (2*far+1))=.val (.int (x.fmod (2*far+1))):=λx=>dJ (by omega)
 have fr:=cN (a:=(((((0*1000000+r1)*1000000+r2)*1000000+r3)*1000000+r4)*1000000+r5)*1000000+r6) (m:=2*far+1) (by omega)
 refine⟨((((((0*1000000+r1)*1000000+r2)*1000000+r3)*1000000+r4)*1000000+r5)*1000000+r6).fmod (2*far+1)-far,a6,b6,?_,by omega,by omega⟩
 unfold aV
 rw[aH]
 unfold jj iz
 unfold fdV at *
 simp![Hf,cJ,pow6,c6,e1,e2,e3,e4,e5,e6,c2,c3,Int.reduceMul]
theorem oQ(x y:Val):∀(n one am:Nat),am<=n->(xWh (qOf (pOp bGt (af 3) (ah 0))) eS).G [.sh x,.sh y,.sh (.int (one:Nat)),.sh (.int (am:Nat))]=.nx [.sh x,.sh y,.sh (.int (Nat.gcd one am:Nat)),.sh (.int 0)]
 |
  n,one,0,_=>by
  rw[gf]
  simp![Nat.gcd_zero_right,Int.natCast_zero,Int.lt_irrefl]
 |0,one,am+1,hl=>absurd hl (by omega)
 |
  n+1,one,am+1,hl=>by
  rw[gf]
  have e:decide ((0:Int)<((am+1:Nat):Int))=true:=r_ (by omega)
  have e1:bE.G (.int (one:Nat)) (.int ((am+1:Nat):Int))=.val (.int (((one:Nat):Int).fmod ((am+1:Nat):Int))):=dJ (by omega)
  have e2:((one:Nat):Int).fmod ((am+1:Nat):Int)=((one % (am+1):Nat):Int):=by
   rw[Int.fmod_eq_emod_of_nonneg _ (by omega)];rfl
  have ih:=oQ x y n (am+1) (one % (am+1)) (by have:=Nat.mod_lt one (show am+1>0 by omega);omega)
  rw[Fr.euc] at ih
  rw[e2] at e1
  have bb:eS.G [.sh x,.sh y,.sh (.int (one:Nat)),.sh (.int ((am+1:Nat):Int))]=.nx [.sh x,.sh y,.sh (.int ((am+1:Nat):Int)),.sh (.int ((one % (am+1):Nat):Int))]:=by
   unfold eS
   simp![e1]
  simp![e,bb,ih]
def dM{a b:Int}(hb:b≠0)(hs:Sm 8000 b):aF.G [.int a,.int b]=.ok (.val (fV ((a:Rat)/(b:Rat)))) []:=by
 unfold aF
 rw[aH]
 unfold me
 have lo:=oQ (.int a) (.int b) b.natAbs a.natAbs b.natAbs (j_ _)
 rw[show Nat.gcd a.natAbs b.natAbs=Int.gcd a b from rfl] at lo
 have c:∀x,CDivB x (Fr.dv a b):=λx=>CDivB.of (Fr.dv_ne hb) (hs.of_le (by
  rw[Fr.dv_abs]
  exact Nat.le_of_dvd (by omega) (Nat.gcd_dvd_right a.natAbs b.natAbs)))
 have k1:=i8 (c a)
 have k2:=i8 (c b)
 have hh:=j3 (a:=a) hb
 have d_:Val.tup [.int (a.fdiv (Fr.dv a b)),.int (b.fdiv (Fr.dv a b))]=fV ((a:Rat)/(b:Rat)):=by
  unfold fV
  rw[<- hh.1,<- hh.2]
  rfl
 by_cases hn:b<0
 ·have hd:Fr.dv a b=0-((Int.gcd a b:Nat):Int):=by unfold Fr.dv;rw[if_pos hn];omega
  rw[hd] at k1 k2 d_
  simp![eX,lo,r_ hn,k1,k2,d_]
 ·have hd:Fr.dv a b=((Int.gcd a b:Nat):Int):=by unfold Fr.dv;rw[if_neg hn]
  rw[hd] at k1 k2 d_
  simp![eX,lo,o_ hn,k1,k2,d_]
def p30:eL.G (.int 10) (.int 30)=.val (.int 1000000000000000000000000000000):=mY ⟨by decide,by decide,by decide⟩
def rmQ(k:Int)(r:SR3):Prop:=∃b a c,Good b/\ph [true] r=.ok (.val (bV b)) [fdV a c k]
def rmI(k way:Int)(e:E3):Prop:=∃b x a c,Good b/\x.pl=true/\e=[.mu (fdV a c k),.sh (.int way),.sh (fV b.l),.sh (fV b.t),.sh (fV b.w),.sh (fV b.h),x]
def g7{r:Int}(h:0<=r):0<1+r:=by omega
def rJ{r:Int}(h:0<=r):1+r≠0:=by omega
def fT{r m:Int}(h0:0<=r)(h1:r<m)(hm:m<=1000):(1+r).natAbs<=2000000000000000000000000000000:=by omega
def nh{r m c:Int}(h0:0<=r)(h1:r<m)(hm:m<=1000)(hc:0<=c/\c<=1000):(r-c).natAbs<=2000000000000000000000000000000:=by omega
def lp{r far:Int}(h0:-far<=r)(h1:r<=far)(hf:far<=1000000000000000000000000000000):r.natAbs<=2000000000000000000000000000000/\(1+((r.natAbs:Nat):Int)).natAbs<=2000000000000000000000000000000:=by omega
def m6{r:Int}:0<1+((r.natAbs:Nat):Int):=by omega
def vc{r:Int}(h:0<r):r≠0:=by omega
def zI(a c k:Int):∃b a' c',Good b/\dP.G [fdV a c k]=.ok (.val (bV b)) [fdV a' c' k]:=by
 unfold dP
 rw[rD rfl]
 show rmQ k (gX.G [.mu (fdV a c k),.no,.no,.no,.no,.no,.no])
 unfold gX
 obtain⟨way,a1,c1,e1,hw0,hw1⟩:=aw (a:=a) (b:=c) (k:=k) (m:=6) (by decide) (sm8 (by decide))
 refine aJ (λe=>e=[.mu (fdV a1 c1 k),.sh (.int way),.no,.no,.no,.no,.no]) ⟨_,by simp![e1],rfl⟩ ?_
 rintro _ rfl
 obtain⟨l,a2,c2,e2,hl0,hl1⟩:=aw (a:=a1) (b:=c1) (k:=k) (m:=19) (by decide) (sm8 (by decide))
 obtain⟨t,a3,c3,e3,ht0,ht1⟩:=aw (a:=a2) (b:=c2) (k:=k) (m:=19) (by decide) (sm8 (by decide))
 refine aJ (λe=>e=[.mu (fdV a3 c3 k),.sh (.int way),.sh (fV ((l-9:Int):Rat)),.sh (fV ((t-9:Int):Rat)),.no,.no,.no]) ⟨_,by simp![e2,e3,iV],rfl⟩ ?_
 rintro _ rfl
 obtain⟨w,a4,c4,e4,hww0,hww1⟩:=aw (a:=a3) (b:=c3) (k:=k) (m:=12) (by decide) (sm8 (by decide))
 obtain⟨hh,a5,c5,e5,hh0,hh1⟩:=aw (a:=a4) (b:=c4) (k:=k) (m:=12) (by decide) (sm8 (by decide))
 refine aJ (rmI k way) ⟨[.mu (fdV a5 c5 k),.sh (.int way),.sh (fV ((l-9:Int):Rat)),.sh (fV ((t-9:Int):Rat)),.sh (fV ((1+w:Int):Rat)),.sh (fV ((1+hh:Int):Rat)),.no],by simp![e4,e5,iV],⟨_,_,_,_⟩,.no,a5,c5,⟨⟨d4 (g7 hww0),d4 (g7 hh0)⟩,⟨eH (nh hl0 hl1 (by decide) (by decide)),eH (nh ht0 ht1 (by decide) (by decide)),eH (fT hww0 hww1 (by decide)),eH (fT hh0 hh1 (by decide))⟩⟩,rfl,rfl⟩ ?_
 rintro _ ⟨b,x,a,c,gb,hx,rfl⟩
 refine aJ (rmI k way) ?_ ?_
 ·by_cases hw:way=1
  ·subst hw
   exact⟨[.mu (fdV a c k),.sh (.int 1),.sh (fV b.l),.sh (fV b.t),.sh (fV b.w),.sh (fV b.w),x],by simp![iW],⟨b.l,b.t,b.w,b.w⟩,x,a,c,⟨⟨gb.ok.w,gb.ok.w⟩,⟨gb.sz.l,gb.sz.t,gb.sz.w,gb.sz.w⟩⟩,hx,rfl⟩
  ·exact⟨_,by simp![v_.mpr hw],b,x,a,c,gb,hx,rfl⟩
 rintro _ ⟨b,x,a,c,gb,hx,rfl⟩
 refine aJ (rmI k way) ?_ ?_
 ·by_cases hw:way=2
  ·subst hw
   obtain⟨r,a1,c1,e1,h0,h1⟩:=aw (a:=a) (b:=c) (k:=k) (m:=99) (by decide) (sm8 (by decide))
   exact⟨[.mu (fdV a1 c1 k),.sh (.int 2),.sh (fV b.l),.sh (fV b.t),.sh (fV ((1+r:Int):Rat)),.sh (fV b.h),x],by simp![e1,iV],⟨b.l,b.t,((1+r:Int):Rat),b.h⟩,x,a1,c1,⟨⟨d4 (g7 h0),gb.ok.h⟩,⟨gb.sz.l,gb.sz.t,eH (fT h0 h1 (by decide)),gb.sz.h⟩⟩,hx,rfl⟩
  ·exact⟨_,by simp![v_.mpr hw],b,x,a,c,gb,hx,rfl⟩
 rintro _ ⟨b,x,a,c,gb,hx,rfl⟩
 refine aJ (rmI k way) ?_ ?_
 ·by_cases hw:way=3
  ·subst hw
   obtain⟨r,a1,c1,e1,h0,h1⟩:=aw (a:=a) (b:=c) (k:=k) (m:=99) (by decide) (sm8 (by decide))
   exact⟨[.mu (fdV a1 c1 k),.sh (.int 3),.sh (fV b.l),.sh (fV b.t),.sh (fV b.w),.sh (fV ((1+r:Int):Rat)),x],by simp![e1,iV],⟨b.l,b.t,b.w,((1+r:Int):Rat)⟩,x,a1,c1,⟨⟨gb.ok.w,d4 (g7 h0)⟩,⟨gb.sz.l,gb.sz.t,gb.sz.w,eH (fT h0 h1 (by decide))⟩⟩,hx,rfl⟩
  ·exact⟨_,by simp![v_.mpr hw],b,x,a,c,gb,hx,rfl⟩
 rintro _ ⟨b,x,a,c,gb,hx,rfl⟩
 refine aJ (rmI k way) ?_ ?_
 ·by_cases hw:way=4
  ·subst hw
   obtain⟨r1,a1,c1,e1,h10,h11⟩:=aw (a:=a) (b:=c) (k:=k) (m:=199) (by decide) (sm8 (by decide))
   obtain⟨r2,a2,c2,e2,h20,h21⟩:=aw (a:=a1) (b:=c1) (k:=k) (m:=30) (by decide) (sm8 (by decide))
   obtain⟨r3,a3,c3,e3,h30,h31⟩:=aw (a:=a2) (b:=c2) (k:=k) (m:=9) (by decide) (sm8 (by decide))
   obtain⟨r4,a4,c4,e4,h40,h41⟩:=aw (a:=a3) (b:=c3) (k:=k) (m:=99) (by decide) (sm8 (by decide))
   obtain⟨r5,a5,c5,e5,h50,h51⟩:=aw (a:=a4) (b:=c4) (k:=k) (m:=30) (by decide) (sm8 (by decide))
   obtain⟨r6,a6,c6,e6,h60,h61⟩:=aw (a:=a5) (b:=c5) (k:=k) (m:=99) (by decide) (sm8 (by decide))
   have l1:=dM (a:=r1-99) (b:=1+r2) (rJ h20) (iO (fT h20 h21 (by decide)))
   have l2:=dM (a:=r3) (b:=7) (by decide) (iO (by decide))
   have l3:=dM (a:=1+r4) (b:=1+r5) (rJ h50) (iO (fT h50 h51 (by decide)))
   have l4:=dM (a:=1+r6) (b:=11) (by decide) (iO (by decide))
   exact⟨[.mu (fdV a6 c6 k),.sh (.int 4),.sh (fV (((r1-99:Int):Rat)/((1+r2:Int):Rat))),.sh (fV (((r3:Int):Rat)/((7:Int):Rat))),.sh (fV (((1+r4:Int):Rat)/((1+r5:Int):Rat))),.sh (fV (((1+r6:Int):Rat)/((11:Int):Rat))),x],by simp![e1,e2,e3,e4,e5,e6,l1,l2,l3,l4],⟨_,_,_,_⟩,x,a6,c6,⟨⟨fo (g7 h40) (g7 h50),fo (g7 h60) (by decide)⟩,⟨eZ (rJ h20) (nh h10 h11 (by decide) (by decide)) (fT h20 h21 (by decide)),eZ (by decide) (by have:=nh (c:=0) h30 h31 (by decide) (by decide);rw[Int.sub_zero] at this;exact this) (by decide),eZ (rJ h50) (fT h40 h41 (by decide)) (fT h50 h51 (by decide)),eZ (by decide) (fT h60 h61 (by decide)) (by decide)⟩⟩,hx,rfl⟩
  ·exact⟨_,by simp![v_.mpr hw],b,x,a,c,gb,hx,rfl⟩
 rintro _ ⟨b,x,a,c,gb,hx,rfl⟩
 refine aJ (rmI k way) ?_ ?_
 ·by_cases hw:way=5
  ·subst hw
   obtain⟨r1,a1,c1,e1,h10,h11⟩:=d6 (a:=a) (b:=c) (k:=k) (far:=999999999999999999999999999999) (by decide) (by decide)
   obtain⟨r2,a2,c2,e2,h20,h21⟩:=d6 (a:=a1) (b:=c1) (k:=k) (far:=999999999999999999999999999998) (by decide) (by decide)
   obtain⟨r3,a3,c3,e3,h30,h31⟩:=d6 (a:=a2) (b:=c2) (k:=k) (far:=999999999999999999999999999999) (by decide) (by decide)
   obtain⟨r4,a4,c4,e4,h40,h41⟩:=d6 (a:=a3) (b:=c3) (k:=k) (far:=999999999999999999999999999998) (by decide) (by decide)
   obtain⟨r5,a5,c5,e5,h50,h51⟩:=d6 (a:=a4) (b:=c4) (k:=k) (far:=999999999999999999999999999998) (by decide) (by decide)
   have n2:=eX r2
   have n4:=eX r4
   have n5:=eX r5
   have l1:=dM (a:=r1) (b:=1+((r2.natAbs:Nat):Int)) (vc m6) (iO (lp h20 h21 (by decide)).2)
   have l4:=dM (a:=1+((r5.natAbs:Nat):Int)) (b:=999999999999999999999999999999) (by decide) (iO (by decide))
   exact⟨[.mu (fdV a5 c5 k),.sh (.int 5),.sh (fV (((r1:Int):Rat)/((1+((r2.natAbs:Nat):Int):Int):Rat))),.sh (fV ((r3:Int):Rat)),.sh (fV ((1+((r4.natAbs:Nat):Int):Int):Rat)),.sh (fV (((1+((r5.natAbs:Nat):Int):Int):Rat)/((999999999999999999999999999999:Int):Rat))),.sh (.int 999999999999999999999999999999)],by simp![hx,p30,e1,e2,e3,e4,e5,n2,n4,n5,l1,l4,iV],⟨_,_,_,_⟩,_,a5,c5,⟨⟨d4 m6,fo m6 (by decide)⟩,⟨eZ (vc m6) (lp h10 h11 (by decide)).1 (lp h20 h21 (by decide)).2,eH (lp h30 h31 (by decide)).1,eH (lp h40 h41 (by decide)).2,eZ (by decide) (lp h50 h51 (by decide)).2 (by decide)⟩⟩,rfl,rfl⟩
  ·exact⟨_,by simp![v_.mpr hw],b,x,a,c,gb,hx,rfl⟩
 rintro _ ⟨b,x,a,c,gb,hx,rfl⟩
 refine⟨b,a,c,gb,?_⟩
 simp![yA,bV]
def kJ{p q:Rat}{n m:Nat}(hp:Sz n p)(hq:Sz m q)(h:n+m<=8000):dE.G [fV p,fV q]=.ok (.val (fV (p+q))) []:=by
 have c1:=aB (CMulA.of hp.top hq.bot (by omega) (by omega))
 have c2:=aB (CMulA.of hq.top hp.bot (by omega) (by omega))
 have c3:=aB (CMulA.of hp.bot hq.bot (by omega) (by omega))
 have dp:=p.den_pos
 have dq:=q.den_pos
 have lo:=dM (a:=p.num*q.den+q.num*p.den) (b:=p.den*q.den) (Int.ne_of_gt (JC (by omega) (by omega))) ((hp.bot.mul hq.bot).mono h)
 rw[<- qN] at lo
 unfold dE
 rw[aH]
 unfold l6
 rw[show fV p=.tup [.int p.num,.int p.den] from rfl,show fV q=.tup [.int q.num,.int q.den] from rfl]
 simp![c1,c2,c3,lo]
def zG(p:Rat)(a W:Int)(hW:0<W):((p.num*a:Int):Rat)/((p.den*W:Int):Rat)=p*((a:Rat)/(W:Rat)):=by
 have h1:p=(p.num:Rat)/(p.den:Rat):=by
  have z:=Rat.num_divInt_den p
  rw[Rat.divInt_eq_div] at z
  exact z.symm
 have h2:(p.den:Rat)≠0:=λz=>p.den_nz (by exact_mod_cast z)
 have h3:(W:Rat)≠0:=λz=>by
  have:W=0:=by exact_mod_cast z
  omega
 rw[H0,H0,Rat.intCast_natCast]
 generalize (p.num:Rat)=x at *
 generalize (p.den:Rat)=y at *
 generalize (W:Rat)=z at *
 generalize (a:Rat)=u at *
 subst h1
 grind
def iU{p:Rat}{n m:Nat}{a W:Int}(hp:Sz n p)(hW:0<W)(mW:Sm m W)(h:n+m<=8000):aF.G [.int (p.num*a),.int (p.den*W)]=.ok (.val (fV (p*((a:Rat)/(W:Rat))))) []:=by
 have dp:=p.den_pos
 rw[dM (Int.ne_of_gt (JC (by omega) hW)) ((hp.bot.mul mW).mono h),zG p a W hW]
def eQ(p:Rat):(fV p).items=some [.int p.num,.int p.den]:=rfl
def prt(b:Bx)(way:Str)(W a:Int)(ws:List Int):List Bx:=if way="across" then (shL b.l b.w W a ws).map λp=>⟨p.1,b.t,p.2,b.h⟩ else (shL b.t b.h W a ws).map λp=>⟨b.l,p.1,b.w,p.2⟩
def F4(b:Bx)(W a w:Int)(ws:List Int):prt b "across" W a (w::ws)=(⟨b.l+b.w*((a:Rat)/(W:Rat)),b.t,b.w*((w:Rat)/(W:Rat)),b.h⟩:Bx)::prt b "across" W (a+w) ws:=by
 unfold prt
 rw[if_pos rfl,if_pos rfl]
 rfl
def GU(b:Bx)(W a w:Int)(ws:List Int):prt b "down" W a (w::ws)=(⟨b.l,b.t+b.h*((a:Rat)/(W:Rat)),b.w,b.h*((w:Rat)/(W:Rat))⟩:Bx)::prt b "down" W (a+w) ws:=by
 have hne:¬ (("down" : Str)="across"):=by decide
 unfold prt
 rw[if_neg hne,if_neg hne]
 rfl
def zk(b:Bx)(way:Str)(W a:Int):prt b way W a []=[]:=by
 unfold prt
 split <;> rfl
theorem jR{b:Bx}{n m:Nat}{W:Int}{wv:Val}(hs:b.Sz n)(hW:0<W)(mW:Sm m W)(h:n+n+m<=8000){way:Str}(hway:way="across" \/ way="down"):∀(ws:List Int) (a:Int) (acc:List Bx) (s10 s11:Sl),s10.pl=true->s11.pl=true->0<=a->(∀w∈ws,1<=w)->a+ws.sum<=W->acc.length+ws.length<=1000->∃s9' s10' s11',dm (gtN 10).G b8.G (ws.map .int) [.sh (bV b),.sh (.str way),.sh wv,.sh (fV b.l),.sh (fV b.t),.sh (fV b.w),.sh (fV b.h),.sh (.int W),.ow (.lst (acc.map bV)),.sh (.int a),s10,s11]=.nx [.sh (bV b),.sh (.str way),.sh wv,.sh (fV b.l),.sh (fV b.t),.sh (fV b.w),.sh (fV b.h),.sh (.int W),.ow (.lst ((acc++prt b way W a ws).map bV)),s9',s10',s11']
 | [],a,acc,s10,s11,h10,h11,ha,hw,hs',be=>⟨.sh (.int a),s10,s11,by rw[H9,eW,zk,Iz]⟩
 |
  w::ws,a,acc,s10,s11,h10,h11,ha,hw,hs',be=>by
  have hw0:=hw w (k_ ..)
  have hws:0<=ws.sum:=by
   have:∀l:List Int,(∀w∈l,1<=w)->0<=l.sum:=by
    intro l
    induction l with
    |nil=>intro _;simp
    |cons x l ih=>intro hx;rw[Ie];have:=hx x (k_ ..);have:=ih λw hw=>hx w (i_ _ hw);omega
   exact this ws λx hx=>hw x (i_ _ hx)
  rw[Ie] at hs'
  rw[F_] at be
  have sa:Sm m a:=mW.of_le (by omega)
  have sw:Sm m w:=mW.of_le (by omega)
  have z1:Sz m ((a:Rat)/(W:Rat)):=Sz.div (by omega) sa mW m (j_ _) (j_ _)
  have ll:(acc.map bV).length<16777216:=by rw[g_];omega
  have g1:(gtN 10).G (.int w) [.sh (bV b),.sh (.str way),.sh wv,.sh (fV b.l),.sh (fV b.t),.sh (fV b.w),.sh (fV b.h),.sh (.int W),.ow (.lst (acc.map bV)),.sh (.int a),s10,s11]=some [.sh (bV b),.sh (.str way),.sh wv,.sh (fV b.l),.sh (fV b.t),.sh (fV b.w),.sh (fV b.h),.sh (.int W),.ow (.lst (acc.map bV)),.sh (.int a),.sh (.int w),s11]:=by
   simp![h10]
  rcases hway with rfl |rfl
  ·have t1:=iU (a:=a) hs.w hW mW (by omega)
   have t2:=iU (a:=w) hs.w hW mW (by omega)
   have c1:=aB (CMulA.of hs.w.top sa (by omega) (by omega))
   have c2:=aB (CMulA.of hs.w.top sw (by omega) (by omega))
   have c3:=aB (CMulA.of hs.w.bot mW (by omega) (by omega))
   have ad:=kJ hs.l (hs.w.mul z1) (by omega)
   obtain⟨t9,t10,t11,ih⟩:=jR (wv:=wv) hs hW mW h (.inl rfl) ws (a+w) (acc++[(⟨b.l+b.w*((a:Rat)/(W:Rat)),b.t,b.w*((w:Rat)/(W:Rat)),b.h⟩:Bx)]) (.sh (.int w)) (.sh (fV (b.l+b.w*((a:Rat)/(W:Rat))))) rfl rfl (by omega) (λx hx=>hw x (i_ _ hx)) (by omega) (by rw[z_];show acc.length+1+_<=_;omega)
   refine⟨t9,t10,t11,?_⟩
   have b1:b8.G [.sh (bV b),.sh (.str "across"),.sh wv,.sh (fV b.l),.sh (fV b.t),.sh (fV b.w),.sh (fV b.h),.sh (.int W),.ow (.lst (acc.map bV)),.sh (.int a),.sh (.int w),s11]=.nx [.sh (bV b),.sh (.str "across"),.sh wv,.sh (fV b.l),.sh (fV b.t),.sh (fV b.w),.sh (fV b.h),.sh (.int W),.ow (.lst ((acc++[(⟨b.l+b.w*((a:Rat)/(W:Rat)),b.t,b.w*((w:Rat)/(W:Rat)),b.h⟩:Bx)]).map bV)),.sh (.int (a+w)),.sh (.int w),.sh (fV (b.l+b.w*((a:Rat)/(W:Rat))))]:=by
    unfold b8
    rw[Jq,show [(⟨b.l+b.w*((a:Rat)/(W:Rat)),b.t,b.w*((w:Rat)/(W:Rat)),b.h⟩:Bx)].map bV=[.tup [fV (b.l+b.w*((a:Rat)/(W:Rat))),fV b.t,fV (b.w*((w:Rat)/(W:Rat))),fV b.h]] from rfl]
    simp![h11,eQ,c1,c2,c3,t1,t2,ad,ll,j0]
   rw[D_,cJ,g1]
   simp only[b1,g9]
   rw[ih,F4,IM]
   rfl
  ·have t1:=iU (a:=a) hs.h hW mW (by omega)
   have t2:=iU (a:=w) hs.h hW mW (by omega)
   have c1:=aB (CMulA.of hs.h.top sa (by omega) (by omega))
   have c2:=aB (CMulA.of hs.h.top sw (by omega) (by omega))
   have c3:=aB (CMulA.of hs.h.bot mW (by omega) (by omega))
   have ad:=kJ hs.t (hs.h.mul z1) (by omega)
   obtain⟨t9,t10,t11,ih⟩:=jR (wv:=wv) hs hW mW h (.inr rfl) ws (a+w) (acc++[(⟨b.l,b.t+b.h*((a:Rat)/(W:Rat)),b.w,b.h*((w:Rat)/(W:Rat))⟩:Bx)]) (.sh (.int w)) (.sh (fV (b.t+b.h*((a:Rat)/(W:Rat))))) rfl rfl (by omega) (λx hx=>hw x (i_ _ hx)) (by omega) (by rw[z_];show acc.length+1+_<=_;omega)
   refine⟨t9,t10,t11,?_⟩
   have b1:b8.G [.sh (bV b),.sh (.str "down"),.sh wv,.sh (fV b.l),.sh (fV b.t),.sh (fV b.w),.sh (fV b.h),.sh (.int W),.ow (.lst (acc.map bV)),.sh (.int a),.sh (.int w),s11]=.nx [.sh (bV b),.sh (.str "down"),.sh wv,.sh (fV b.l),.sh (fV b.t),.sh (fV b.w),.sh (fV b.h),.sh (.int W),.ow (.lst ((acc++[(⟨b.l,b.t+b.h*((a:Rat)/(W:Rat)),b.w,b.h*((w:Rat)/(W:Rat))⟩:Bx)]).map bV)),.sh (.int (a+w)),.sh (.int w),.sh (fV (b.t+b.h*((a:Rat)/(W:Rat))))]:=by
    unfold b8
    rw[Jq,show [(⟨b.l,b.t+b.h*((a:Rat)/(W:Rat)),b.w,b.h*((w:Rat)/(W:Rat))⟩:Bx)].map bV=[.tup [fV b.l,fV (b.t+b.h*((a:Rat)/(W:Rat))),fV b.w,fV (b.h*((w:Rat)/(W:Rat)))]] from rfl]
    simp![h11,eQ,c1,c2,c3,t1,t2,ad,ll,ko]
   rw[D_,cJ,g1]
   simp only[b1,g9]
   rw[ih,GU,IM]
   rfl
def fh{b:Bx}{n m:Nat}{way:Str}{ws:List Int}(hs:b.Sz n)(hway:way="across" \/ way="down")(hw:∀w∈ws,1<=w)(h0:0<ws.sum)(mW:Sm m ws.sum)(h:n+n+m<=8000)(be:ws.length<=1000):bS.G [bV b,.str way,.lst (ws.map .int)]=.ok (.new (.lst ((bg b way ws).map bV))) []:=by
 obtain⟨s9,s10,s11,lo⟩:=jR (wv:=.lst (ws.map .int)) hs h0 mW h hway ws 0 [] .no .no rfl rfl (by omega) hw (by omega) (by simpa using be)
 have pe:prt b way ws.sum 0 ws=bg b way ws:=rfl
 rw[Ik,pe,H9] at lo
 have e0:bV b=.tup [fV b.l,fV b.t,fV b.w,fV b.h]:=rfl
 rw[e0] at lo ⊢
 unfold bS
 rw[aH]
 unfold jq
 simp![lo]
def p29:eL.G (.int 10) (.int 29)=.val (.int 100000000000000000000000000000):=mY ⟨by decide,by decide,by decide⟩
def Bg{r:Int}(h0:0<=r)(h1:r<24):∃z,1<=z/\z<=8388608/\nR.G (.int 1) (.int r)=.val (.int z):=by
 have c1:(1:Nat)<=2^r.toNat:=Nat.one_le_two_pow
 have c2:2^r.toNat<=2^23:=IQ (by decide) (by omega)
 have e:(2:Int)^r.toNat=((2^r.toNat:Nat):Int):=by rw[Int.natCast_pow];rfl
 refine⟨1*2^r.toNat,?_,?_,F1 ⟨h0,by omega,by decide⟩⟩
 ·rw[Int.one_mul,e];exact Int.ofNat_le.mpr c1
 ·rw[Int.one_mul,e];exact Int.ofNat_le.mpr c2
def zm{ns:List Int}{at_ most many more sty k:Int}{acc:List Int}{s9:Sl}(h9:s9.pl=true)(hk:0<=k/\k<=40)(hs:0<=sty/\sty<6)(a c q:Int):
 ∃w a' c',1<=w/\w<=8388608/\(aq false 9 (pOp bIx (dg (aa (ah 1) (aa (pOp aK (ah 1) (ai ao (aa (af 3) (aa (ah 9) ag)))) (aa (pOp nR (ah 1) (pOp bE (af 8) (ah 24))) (aa (pOp aK (ah 1) (ai ao (aa (af 3) (aa (ah 9) ag)))) (aa (ah 1) (aa (pOp aK (ah 1) (ai ao (aa (af 3) (aa (ah 3) ag)))) ag))))))) (af 6))).G [.sh (.kl (ns.map .int)),.sh (.int at_),.sh (.int most),.ow (fdV a c q),.sh (.int many),.sh (.int more),.sh (.int sty),.ow (.lst (acc.map .int)),.sh (.int k),s9]=.nx [.sh (.kl (ns.map .int)),.sh (.int at_),.sh (.int most),.ow (fdV a' c' q),.sh (.int many),.sh (.int more),.sh (.int sty),.ow (.lst (acc.map .int)),.sh (.int k),.sh (.int w)]:=by
 obtain⟨r1,a1,c1,e1,l1,u1⟩:=aw (a:=a) (b:=c) (k:=q) (m:=9) (by decide) (sm8 (by decide))
 obtain⟨r2,a2,c2,e2,l2,u2⟩:=aw (a:=a1) (b:=c1) (k:=q) (m:=9) (by decide) (sm8 (by decide))
 obtain⟨r3,a3,c3,e3,l3,u3⟩:=aw (a:=a2) (b:=c2) (k:=q) (m:=3) (by decide) (sm8 (by decide))
 have fm:=cN (a:=k) (m:=24) (by decide)
 have km:=dJ (i:=k) (j:=24) (by decide)
 have sh:=Bg fm.1 fm.2
 obtain⟨z,z1,z2,z3⟩:=sh
 have hc:sty=0\/sty=1\/sty=2\/sty=3\/sty=4\/sty=5:=by omega
 have at6:∃w,1<=w/\w<=8388608/\atI [Val.int 1,.int (1+r1),.int z,.int (1+r2),.int 1,.int (1+r3)] sty=some (.int w):=by
  rcases hc with rfl |rfl |rfl |rfl |rfl |rfl
  ·exact⟨1,by decide,by decide,rfl⟩
  ·exact⟨1+r1,by omega,by omega,rfl⟩
  ·exact⟨z,z1,z2,rfl⟩
  ·exact⟨1+r2,by omega,by omega,rfl⟩
  ·exact⟨1,by decide,by decide,rfl⟩
  ·exact⟨1+r3,by omega,by omega,rfl⟩
 obtain⟨w,w1,w2,w3⟩:=at6
 refine⟨w,a3,c3,w1,w2,?_⟩
 simp![e1,e2,e3,km,z3,w3,h9]
def wtI(ns:List Int)(at_ most many more sty k:Int)(acc:List Int)(e:E3):Prop:=∃w a c q,1<=w/\w<=1000000000000000000000000000000/\(sty<3->w<=8388608)/\e=[.sh (.kl (ns.map .int)),.sh (.int at_),.sh (.int most),.ow (fdV a c q),.sh (.int many),.sh (.int more),.sh (.int sty),.ow (.lst (acc.map .int)),.sh (.int k),.sh (.int w)]
def wtQ(ns:List Int)(at_ most many more sty k:Int)(acc:List Int)(r:SR3):Prop:=∃w s3,1<=w/\w<=1000000000000000000000000000000/\(sty<3->w<=8388608)/\s3.pl=true/\r=.nx [.sh (.kl (ns.map .int)),.sh (.int at_),.sh (.int most),s3,.sh (.int many),.sh (.int more),.sh (.int sty),.ow (.lst ((acc++[w]).map .int)),.sh (.int k),.sh (.int w)]
def zF{ns:List Int}{at_ most many more sty k:Int}{acc:List Int}{s3 s9:Sl}(h3:s3.pl=true)(h9:s9.pl=true)(ha:0<=at_)(hk:0<=k/\k<=40)(hs:0<=sty/\sty<6)(hl:acc.length<=1000):
 wtQ ns at_ most many more sty k acc (cU.G [.sh (.kl (ns.map .int)),.sh (.int at_),.sh (.int most),s3,.sh (.int many),.sh (.int more),.sh (.int sty),.ow (.lst (acc.map .int)),.sh (.int k),s9]):=by
 unfold cU
 obtain⟨f,ef⟩:=lK (ns:=ns) (k:=at_+1+k) (by omega)
 refine aJ (λe=>e=[.sh (.kl (ns.map .int)),.sh (.int at_),.sh (.int most),.ow (fdV f 0 (at_+1+k)),.sh (.int many),.sh (.int more),.sh (.int sty),.ow (.lst (acc.map .int)),.sh (.int k),s9]) ⟨_,by simp![ef,h3],rfl⟩ ?_
 rintro _ rfl
 refine aJ (wtI ns at_ most many more sty k acc) ?_ ?_
 ·obtain⟨w,a,c,w1,w2,e⟩:=zm (ns:=ns) (at_:=at_) (most:=most) (many:=many) (more:=more) (acc:=acc) h9 hk hs f 0 (at_+1+k)
  exact⟨_,e,w,a,c,_,w1,by omega,λ_=>w2,rfl⟩
 rintro _ ⟨w,a,c,q,w1,w2,w3,rfl⟩
 refine aJ (wtI ns at_ most many more sty k acc) ?_ ?_
 ·by_cases h:sty=3
  ·subst h
   obtain⟨r1,a1,c1,e1,l1,u1⟩:=aw (a:=a) (b:=c) (k:=q) (m:=4) (by decide) (sm8 (by decide))
   obtain⟨r2,a2,c2,e2,l2,u2⟩:=aw (a:=a1) (b:=c1) (k:=q) (m:=100) (by decide) (sm8 (by decide))
   by_cases hr:r1=0
   ·subst hr
    exact⟨[.sh (.kl (ns.map .int)),.sh (.int at_),.sh (.int most),.ow (fdV a2 c2 q),.sh (.int many),.sh (.int more),.sh (.int 3),.ow (.lst (acc.map .int)),.sh (.int k),.sh (.int (100000000000000000000000000000+r2))],by simp![e1,e2,p29],_,_,_,_,by omega,by omega,λz=>absurd z (by decide),rfl⟩
   ·exact⟨[.sh (.kl (ns.map .int)),.sh (.int at_),.sh (.int most),.ow (fdV a1 c1 q),.sh (.int many),.sh (.int more),.sh (.int 3),.ow (.lst (acc.map .int)),.sh (.int k),.sh (.int w)],by simp![e1,v_.mpr hr],_,_,_,_,w1,w2,w3,rfl⟩
  ·exact⟨_,by simp![v_.mpr h],w,a,c,q,w1,w2,w3,rfl⟩
 rintro _ ⟨w,a,c,q,w1,w2,w3,rfl⟩
 refine aJ (wtI ns at_ most many more sty k acc) ?_ ?_
 ·by_cases h:sty=4
  ·subst h
   obtain⟨r1,a1,c1,e1,l1,u1⟩:=d6 (a:=a) (b:=c) (k:=q) (far:=999999999999999999999999999998) (by decide) (by decide)
   exact⟨[.sh (.kl (ns.map .int)),.sh (.int at_),.sh (.int most),.ow (fdV a1 c1 q),.sh (.int many),.sh (.int more),.sh (.int 4),.ow (.lst (acc.map .int)),.sh (.int k),.sh (.int (1+if r1<0 then -r1 else r1))],by simp![e1,p30],_,_,_,_,by split <;> omega,by split <;> omega,λz=>absurd z (by decide),rfl⟩
  ·exact⟨_,by simp![v_.mpr h],w,a,c,q,w1,w2,w3,rfl⟩
 rintro _ ⟨w,a,c,q,w1,w2,w3,rfl⟩
 have ll:(acc.map Val.int).length<16777216:=by rw[g_];omega
 refine⟨w,.ow (fdV a c q),w1,w2,w3,rfl,?_⟩
 rw[Jq,D_,H9]
 simp![ll]
theorem ql{ns:List Int}{at_ most many more sty:Int}(ha:0<=at_)(hs:0<=sty/\sty<6):∀(ks:List Nat) (acc:List Int) (s3 s8 s9:Sl),s3.pl=true->s8.pl=true->s9.pl=true->(∀k∈ks,k<=40)->acc.length+ks.length<=1000->
 ∃(ws:List Int) (s3' s8' s9':Sl),ws.length=ks.length/\(∀w∈ws,1<=w/\w<=1000000000000000000000000000000/\(sty<3->w<=8388608))/\dm (gtN 8).G cU.G (ks.map λk:Nat=>Val.int (k:Nat)) [.sh (.kl (ns.map .int)),.sh (.int at_),.sh (.int most),s3,.sh (.int many),.sh (.int more),.sh (.int sty),.ow (.lst (acc.map .int)),s8,s9]=.nx [.sh (.kl (ns.map .int)),.sh (.int at_),.sh (.int most),s3',.sh (.int many),.sh (.int more),.sh (.int sty),.ow (.lst ((acc++ws).map .int)),s8',s9']
 | [],acc,s3,s8,s9,_,_,_,_,_=>⟨[],s3,s8,s9,rfl,(λ_ h=>nomatch h),by rw[H9,eW,Iz]⟩
 |
  k::ks,acc,s3,s8,s9,h3,h8,h9,hk,hl=>by
  rw[F_] at hl
  obtain⟨w,t3,w1,w2,w3,p3,e⟩:=zF (ns:=ns) (at_:=at_) (most:=most) (many:=many) (more:=more) (sty:=sty) (k:=(k:Nat)) (acc:=acc) h3 h9 ha ⟨by omega,by have:=hk k (k_ ..);omega⟩ hs (by omega)
  obtain⟨ws,s3',s8',s9',q1,q2,q3⟩:=ql (ns:=ns) (most:=most) (many:=many) (more:=more) ha hs ks (acc++[w]) t3 (.sh (.int (k:Nat))) (.sh (.int w)) p3 rfl rfl (λj hj=>hk j (i_ _ hj)) (by rw[z_];show acc.length+1+_<=_;omega)
  refine⟨w::ws,s3',s8',s9',by rw[F_,F_,q1],λx hx=>?_,?_⟩
  ·rcases G_.mp hx with rfl |hx
   ·exact⟨w1,w2,w3⟩
   ·exact q2 x hx
  ·have g1:(gtN 8).G (.int (k:Nat)) [.sh (.kl (ns.map .int)),.sh (.int at_),.sh (.int most),s3,.sh (.int many),.sh (.int more),.sh (.int sty),.ow (.lst (acc.map .int)),s8,s9]=some [.sh (.kl (ns.map .int)),.sh (.int at_),.sh (.int most),s3,.sh (.int many),.sh (.int more),.sh (.int sty),.ow (.lst (acc.map .int)),.sh (.int (k:Nat)),s9]:=by
    simp![h8]
   rw[D_,cJ,g1]
   dsimp only
   rw[e]
   show dm _ _ _ _=_
   rw[q3,IM]
   rfl
def div8{x:Int}:g6.G (.int x) (.int 8)=.val (.int (x.fdiv 8)):=i8 (CDivB.of (by decide) (sm8 (by decide)))
def wsQ(M:Int)(r:SR3):Prop:=∃ws:List Int,1<=ws.length/\(ws.length:Int)<=M/\(∀w∈ws,1<=w/\w<=1000000000000000000000000000000)/\(9<ws.length->∀w∈ws,w<=8388608)/\ph [false,false,false] r=.ok (.new (liV ws)) []
def ws_a{x most M:Int}(h:x<=most)(h1:most<=M)(h7:7<=M):1<=(if x>1 then x else 1)/\(if x>1 then x else 1)<=M:=by split <;> omega
def ws_b{most:Int}(h1:1<=most)(h2:most<=40):0<(if (7:Int)<most then 7 else most)/\Sm 8000 (if (7:Int)<most then 7 else most):=by
 split
 ·exact⟨by decide,sm8 (by decide)⟩
 ·exact⟨by omega,sm8 (by omega)⟩
def ws_c{r most:Int}(h:r<if (7:Int)<most then 7 else most):1+r<=7:=by split at h <;> omega
def rS{ns:List Int}{at_ most:Int}(ha:0<=at_)(hm:1<=most/\most<=40):∃ws:List Int,1<=ws.length/\(ws.length:Int)<=max most 7/\(∀w∈ws,1<=w/\w<=1000000000000000000000000000000)/\(9<ws.length->∀w∈ws,w<=8388608)/\cz.G [.kl (ns.map .int),.int at_,.int most]=.ok (.new (liV ws)) []:=by
 have x1:most<=max most 7:=Int.le_max_left ..
 have x7:(7:Int)<=max most 7:=Int.le_max_right ..
 have x4:max most 7<=40:=Int.max_le.mpr ⟨hm.2,by decide⟩
 generalize max most 7=M at *
 unfold cz
 rw[rD rfl]
 show wsQ M (eN.G [.sh (.kl (ns.map .int)),.sh (.int at_),.sh (.int most),.no,.no,.no,.no,.no,.no,.no])
 unfold eN
 obtain⟨f,ef⟩:=lK (ns:=ns) (k:=at_) ha
 refine aJ (λe=>e=[.sh (.kl (ns.map .int)),.sh (.int at_),.sh (.int most),.ow (fdV f 0 at_),.no,.no,.no,.no,.no,.no]) ⟨_,by simp![ef],rfl⟩ ?_
 rintro _ rfl
 obtain⟨r1,a1,c1,e1,l1,u1⟩:=aw (a:=f) (b:=0) (k:=at_) (m:=if (7:Int)<most then 7 else most) (ws_b hm.1 hm.2).1 (ws_b hm.1 hm.2).2
 refine aJ (λe=>e=[.sh (.kl (ns.map .int)),.sh (.int at_),.sh (.int most),.ow (fdV a1 c1 at_),.sh (.int (1+r1)),.no,.no,.no,.no,.no]) ⟨_,by simp![e1],rfl⟩ ?_
 rintro _ rfl
 have b1:1+r1<=7:=ws_c u1
 obtain⟨r2,a2,c2,e2,l2,u2⟩:=aw (a:=a1) (b:=c1) (k:=at_) (m:=6) (by decide) (sm8 (by decide))
 refine aJ (λe=>e=[.sh (.kl (ns.map .int)),.sh (.int at_),.sh (.int most),.ow (fdV a2 c2 at_),.sh (.int (1+r1)),.sh (.int r2),.no,.no,.no,.no]) ⟨_,by simp![e2],rfl⟩ ?_
 rintro _ rfl
 refine aJ (λe=>∃many:Int,1<=many/\many<=M/\e=[.sh (.kl (ns.map .int)),.sh (.int at_),.sh (.int most),.ow (fdV a2 c2 at_),.sh (.int many),.sh (.int r2),.no,.no,.no,.no]) ?_ ?_
 ·have mm:=aB (i:=1+r1) (j:=most) (CMulA.of (sm8 (m:=1+r1) (by omega)) (sm8 (m:=most) (by omega)) (by decide) (by decide))
  by_cases h:r2<2
  ·have dl:((1+r1)*most).fdiv 8<=most:=by
    rw[Int.fdiv_eq_ediv_of_nonneg _ (by decide)]
    have:(1+r1)*most<=7*most:=Int.mul_le_mul_of_nonneg_right b1 (by omega)
    omega
   have hc:r2=0\/r2=1:=by omega
   rcases hc with rfl |rfl
   ·exact⟨_,by simp![mm,div8],most,hm.1,x1,rfl⟩
   ·exact⟨_,by simp![mm,div8],(if ((1+r1)*most).fdiv 8>1 then ((1+r1)*most).fdiv 8 else 1),(ws_a dl x1 x7).1,(ws_a dl x1 x7).2,rfl⟩
  ·exact⟨_,by simp![o_ h],1+r1,Int.le_add_of_nonneg_right l1,Int.le_trans b1 x7,rfl⟩
 rintro _ ⟨many,m1,m2,rfl⟩
 obtain⟨r3,a3,c3,e3,l3,u3⟩:=aw (a:=a2) (b:=c2) (k:=at_) (m:=6) (by decide) (sm8 (by decide))
 refine aJ (λe=>e=[.sh (.kl (ns.map .int)),.sh (.int at_),.sh (.int most),.ow (fdV a3 c3 at_),.sh (.int many),.sh (.int r2),.sh (.int r3),.no,.no,.no]) ⟨_,by simp![e3],rfl⟩ ?_
 rintro _ rfl
 refine aJ (λe=>∃sty:Int,0<=sty/\sty<6/\(9<many->sty<3)/\e=[.sh (.kl (ns.map .int)),.sh (.int at_),.sh (.int most),.ow (fdV a3 c3 at_),.sh (.int many),.sh (.int r2),.sh (.int sty),.no,.no,.no]) ?_ ?_
 ·have km:=dJ (i:=r3) (j:=3) (by decide)
  have fm:=cN (a:=r3) (m:=3) (by decide)
  by_cases h:9<many
  ·exact⟨_,by simp![r_ h,km],r3.fmod 3,fm.1,Int.lt_trans fm.2 (by decide),λ_=>fm.2,rfl⟩
  ·exact⟨_,by simp![o_ h],r3,l3,u3,λz=>absurd z h,rfl⟩
 rintro _ ⟨sty,t0,t1,t2,rfl⟩
 refine aJ (λe=>e=[.sh (.kl (ns.map .int)),.sh (.int at_),.sh (.int most),.ow (fdV a3 c3 at_),.sh (.int many),.sh (.int r2),.sh (.int sty),.ow (.lst []),.no,.no]) ⟨_,by simp![Ir],rfl⟩ ?_
 rintro _ rfl
 have rg:=qt (i:=many) (by omega) (by omega)
 obtain⟨ws,s3,s8,s9,q1,q2,q3⟩:=ql (ns:=ns) (at_:=at_) (most:=most) (many:=many) (more:=r2) (sty:=sty) ha ⟨t0,t1⟩ (List.range many.toNat) [] (.ow (fdV a3 c3 at_)) .no .no rfl rfl rfl (λk hk=>by have:=Jw.mp hk;omega) (by rw[Ir,Ij];omega)
 rw[Ij] at q1
 rw[Ik,H9] at q3
 unfold rgV at rg
 refine⟨ws,by omega,by omega,λw hw=>⟨(q2 w hw).1,(q2 w hw).2.1⟩,λh w hw=>(q2 w hw).2.2 (t2 (by omega)),?_⟩
 unfold liV
 simp![rg,q3]
 rfl
def jU{q:Rat}{k D:Nat}(hs:Sz 101 q)(hD:D=q.den*k)(hk:0<k):∃z:Int,q=(z:Rat)/((D:Int):Rat)/\z.natAbs<=2^101*D/\(0<q->0<z/\z<=((2^101:Nat):Int)*(D:Int)):=by
 have dp:=q.den_pos
 have hn:q.num.natAbs<2^101:=hs.1
 have hz:(q.num*(k:Int)).natAbs<=2^101*D:=by
  rw[Ii,Int.natAbs_natCast,hD]
  exact Ip (by omega) (Nat.le_mul_of_pos_left _ dp)
 refine⟨q.num*(k:Int),?_,hz,λh=>⟨JC (gp.mpr h) (by omega),?_⟩⟩
 ·have:=jV (y:=q.num) (W:=(k:Int)) dp (by omega)
  rw[Iq,<- hD] at this
  rw[<- this]
  exact eg q
 ·rw[<- II]
  generalize q.num*(k:Int)=z at *
  generalize 2^101*D=y at *
  omega
def Hl{b:Bx}(g:Good b):∃D,D<2^404/\Rp D (2^101) (2^101) b:=by
 have dl:=b.l.den_pos
 have dt:=b.t.den_pos
 have dw:=b.w.den_pos
 have dh:=b.h.den_pos
 have sz:∀q:Rat,Sz 101 q->q.den<=2^101:=λq h=>by have:(q.den:Int).natAbs<2^101:=h.2;omega
 have k1:=Iy (Iy dt dw) dh
 have k2:=Iy (Iy dl dw) dh
 have k3:=Iy (Iy dl dt) dh
 have k4:=Iy (Iy dl dt) dw
 refine⟨b.l.den*(b.t.den*b.w.den*b.h.den),?_,Iy dl k1,?_,?_,?_,?_⟩
 ·have a1:b.l.den<2^101:=by have:(b.l.den:Int).natAbs<2^101:=g.sz.l.2;omega
  have a2:=Ip (Ip (sz _ g.sz.t) (sz _ g.sz.w)) (sz _ g.sz.h)
  calc b.l.den*(b.t.den*b.w.den*b.h.den)<=b.l.den*(2^101*2^101*2^101):=IU _ a2
   _<2^101*(2^101*2^101*2^101):=Nat.mul_lt_mul_of_pos_right a1 (by decide)
   _=2^404:=by rw[<- Jn,<- Jn,<- Jn]
 ·obtain⟨z,h1,h2,_⟩:=jU (D:=b.l.den*(b.t.den*b.w.den*b.h.den)) g.sz.l rfl k1
  exact⟨z,h1,h2⟩
 ·obtain⟨z,h1,h2,_⟩:=jU (D:=b.l.den*(b.t.den*b.w.den*b.h.den)) (k:=b.l.den*b.w.den*b.h.den) g.sz.t (by ac_rfl) k2
  exact⟨z,h1,h2⟩
 ·obtain⟨z,h1,_,h2⟩:=jU (D:=b.l.den*(b.t.den*b.w.den*b.h.den)) (k:=b.l.den*b.t.den*b.h.den) g.sz.w (by ac_rfl) k3
  exact⟨z,h1,h2 g.ok.w⟩
 ·obtain⟨z,h1,_,h2⟩:=jU (D:=b.l.den*(b.t.den*b.w.den*b.h.den)) (k:=b.l.den*b.t.den*b.w.den) g.sz.h (by ac_rfl) k4
  exact⟨z,h1,h2 g.ok.h⟩
structure WOk(ws:List Int):Prop where
 pos:1<=ws.length
 len:ws.length<=40
 wt:∀w∈ws,1<=w/\w<=1000000000000000000000000000000
 few:10<ws.length->∀w∈ws,w<=8388608
theorem nZ{ws:List Int}{M:Int}:∀{l:List Nat},(∀k∈l,ws.getD k 0<=M)->wtA ws l<=(l.length:Int)*M
 | [],_=>by simp [wtA]
 |
  k::l,h=>by
  have h1:=h k (k_ ..)
  have h2:=nZ (l:=l) λj hj=>h j (i_ _ hj)
  unfold wtA at h2 ⊢
  rw[D_,Ie,F_,Int.natCast_add,Int.add_mul]
  omega
def Hd(ws:List Int):b0 (liV ws) (liV ws)=some true:=by
 have:wfV 60 (liV ws)=true:=by
  show bK 59 (ws.map .int)=true
  exact kN λv hv=>by obtain⟨w,_,rfl⟩:=IS.mp hv;rfl
 rw[G5 this this,lR 60 _ this]
noncomputable def lwB(b:Bx):Bool:=!decide (b.w<b.h)
def c9{b:Bx}{n:Nat}(hb:b.Ok)(hs:b.Sz n)(h:n<=8000):bx.G [bV b]=.ok (.val (.str (wy (lwB b)))) []:=by
 have cb:=fB hb
 have il:=gJ hs.w hs.h (by omega) (by omega)
 have ib:(bV b).items=some [fV b.l,fV b.t,fV b.w,fV b.h]:=rfl
 unfold bx lwB
 rw[aH]
 unfold kr
 by_cases hl:b.w<b.h
 ·rw[r_ hl] at il ⊢
  simp![cb,ib,il]
  rfl
 ·rw[o_ hl] at il ⊢
  simp![cb,ib,il]
  rfl
def Bd(m B:Nat)(b:Bx)(n:Nat):Prop:=∃D A,Rp D A B b/\B<=A/\1<=A/\(A+n*B)*(D*2^(m*n))<2^2000
def Bd.ok{m B n:Nat}{b:Bx}(h:Bd m B b n):b.Ok:=by
 obtain⟨D,A,r,_⟩:=h
 exact r.ok
def Bd.sz{m B n:Nat}{b:Bx}(h:Bd m B b n):b.Sz 2000:=by
 obtain⟨D,A,r,hBA,hA,hq⟩:=h
 have hD1:1<=2^(m*n):=Nat.one_le_two_pow
 have z1:A*D<=(A+n*B)*(D*2^(m*n)):=Ip (by omega) (Nat.le_mul_of_pos_right _ hD1)
 have z2:D<=A*D:=Nat.le_mul_of_pos_left _ hA
 have z3:B*D<=A*D:=Ji _ hBA
 exact r.sz (by omega) (by omega) (by omega)
def Bd.part{m B n k:Nat}{b c:Bx}{way:Str}{ws:List Int}(h:Bd m B b n)(hw:∀w∈ws,1<=w)(hS:ws.sum<2^m)(hc:c∈bg b way ws)(hk:k<n):Bd m B c k:=by
 obtain⟨D,A,r,hBA,hA,hq⟩:=h
 have hT:ws.sum.toNat<=2^m:=by
  have h4:((2^m:Nat):Int)=(2:Int)^m:=by push_cast;rfl
  rw[<- h4] at hS
  generalize 2^m=X at hS ⊢
  clear hq
  omega
 refine⟨D*ws.sum.toNat,A+B,r.parts hw hc,by omega,by omega,I0 (Ip ?_ ?_) hq⟩
 ·have:(k+1)*B<=n*B:=Ji _ hk
  rw[Nat.add_mul,Nat.one_mul] at this
  omega
 ·rw[JV]
  refine IU _ ?_
  have e:2^m*2^(m*k)=2^(m*(k+1)):=by rw[<- Jn];congr 1;rw[Nat.mul_add,Nat.mul_one,Nat.add_comm]
  exact w_ (Ji _ hT) (by rw[e];exact IQ (by decide) (IU _ hk))
def iD(b:Bx)(w:Bool)(x y:Int):bg b (wy w) [x,y]=[bT b w (x+y) 0 x,bT b w (x+y) x y]:=by
 rw[l7]
 simp [frm]
def ix(w:Bool):wy w="across" \/ wy w="down":=by cases w;exact .inr rfl;exact .inl rfl
def ij{m:Nat}{S:Int}(h0:0<=S)(h:S<2^m):Sm m S:=by
 show S.natAbs<2^m
 have h4:((2^m:Nat):Int)=(2:Int)^m:=by push_cast;rfl
 rw[<- h4] at h
 omega
def kI{b:Bx}{xs:List Int}{m B n i:Nat}(hb:Bd m B b n)(hm:m<=104)(h1:1<=(xs.take i).sum)(h2:1<=(xs.drop i).sum)(hS:(xs.take i).sum+(xs.drop i).sum<2^m):b9.G [bV b,liV xs,.int (i:Nat)]=.ok (.new (.lst [bV (bT b (lwB b) ((xs.take i).sum+(xs.drop i).sum) 0 (xs.take i).sum),bV (bT b (lwB b) ((xs.take i).sum+(xs.drop i).sum) (xs.take i).sum (xs.drop i).sum)])) []:=by
 have lw:=c9 hb.ok hb.sz (by decide)
 have pe:=l9 (way:=wy (lwB b)) (ws:=[(xs.take i).sum,(xs.drop i).sum]) (m:=m) hb.ok hb.sz (ix _) (by simp) (λw hw=>by
  rcases G_.mp hw with rfl |hw
  ·exact h1
  ·rw[IZ.mp hw];exact h2) (by
  rw[show [(xs.take i).sum,(xs.drop i).sum].sum=(xs.take i).sum+(xs.drop i).sum from by simp]
  exact ij (by omega) hS) (by omega) (by show 2<=40;decide)
 rw[iD] at pe
 simp only[D_,H9] at pe
 have ct:=iL (xs.map Val.int) i
 have cd:=fC (xs.map Val.int) i
 rw[<- JG] at ct
 rw[<- JF] at cd
 have m1:=cj (xs.take i)
 have m2:=cj (xs.drop i)
 unfold b9
 rw[aH]
 unfold iM
 unfold liV
 generalize (xs.take i).map Val.int=w1 at *
 generalize (xs.drop i).map Val.int=w2 at *
 generalize xs.map Val.int=w3 at *
 generalize bV (bT b (lwB b) ((xs.take i).sum+(xs.drop i).sum) 0 (xs.take i).sum)=b1 at *
 generalize bV (bT b (lwB b) ((xs.take i).sum+(xs.drop i).sum) (xs.take i).sum (xs.drop i).sum)=b2 at *
 generalize bV b=bv at *
 generalize wy (lwB b)=yy at *
 simp![lw,cA,ct,cd,m1,m2,pe]
def we{b:Bx}:atI [Val.str "down",.str "across"] (if decide (b.h.num*(b.w.den:Int)<=b.w.num*(b.h.den:Int))=true then 1 else 0)=some (.str (wy (lwB b))):=by
 have e:decide (b.h.num*(b.w.den:Int)<=b.w.num*(b.h.den:Int))=lwB b:=by
  unfold lwB
  rw[show decide (b.h.num*(b.w.den:Int)<=b.w.num*(b.h.den:Int))=decide (b.h<=b.w) from decide_eq_decide.mpr (Rat.le_iff b.h b.w).symm]
  by_cases h:b.w<b.h
  ·rw[r_ h,o_ (Rat.not_le.mpr h)];rfl
  ·rw[o_ h,r_ (Rat.not_lt.mp h)];rfl
 rw[e]
 cases lwB b
 ·exact cH (by decide) rfl
 ·exact cH (by decide) rfl
def jF{p q:Rat}(hq:q≠0):p/q=((p.num*q.den:Int):Rat)/((p.den*q.num:Int):Rat):=by
 have h1:=fk (bN p)
 have h2:=fk (bN q)
 have h3:q.num≠0:=λz=>hq (JR.mp z)
 have h4:=fk h3
 conv=>lhs;rw[eg p,eg q]
 rw[H0,H0]
 simp only[JE,Rat.inv_mul_rev,Rat.inv_inv]
 rw[Rat.mul_assoc,Rat.mul_assoc,Rat.mul_comm (((p.den:Int):Rat))⁻¹,Rat.mul_assoc]
def rm{p q:Rat}{n m:Nat}(hp:Sz n p)(hq:Sz m q)(h0:0<q)(h:n+m<=8000):gy.G [fV p,fV q]=.ok (.val (fV (p/q))) []:=by
 have c1:=aB (CMulA.of hp.top hq.bot (by omega) (by omega))
 have c2:=aB (CMulA.of hp.bot hq.top (by omega) (by omega))
 have hq0:q≠0:=λz=>by rw[z] at h0;exact absurd h0 (by decide)
 have hn:q.num≠0:=λz=>hq0 (JR.mp z)
 have fe:=c7 (a:=p.num*q.den) (b:=p.den*q.num) (IX (bN p) hn) ((hp.bot.mul hq.top).mono h)
 rw[<- jF hq0] at fe
 unfold gy
 rw[aH]
 unfold uH
 rw[show fV p=.tup [.int p.num,.int p.den] from rfl,show fV q=.tup [.int q.num,.int q.den] from rfl]
 simp![c1,c2,fe]
def vT{b:Bx}{n:Nat}(hb:b.Ok)(hs:b.Sz n)(h:n+n<=8000):gi.G [bV b]=.ok (.val (fV (bL b))) []:=by
 have lw:=c9 hb hs (by omega)
 have ib:(bV b).items=some [fV b.l,fV b.t,fV b.w,fV b.h]:=rfl
 have o1:=rm hs.w hs.h hb.2 h
 have o2:=rm hs.h hs.w hb.1 h
 unfold gi bL
 rw[aH]
 unfold qc
 by_cases hl:b.w<b.h
 ·rw[show wy (lwB b)="down" from by unfold lwB;rw[r_ hl];rfl] at lw
  rw[if_pos hl]
  simp![lw,ib,o1,o2,ko]
 ·rw[show wy (lwB b)="across" from by unfold lwB;rw[o_ hl];rfl] at lw
  rw[if_neg hl]
  simp![lw,ib,o1,o2,j0]
def Sz.over{p q:Rat}{n m:Nat}(hp:Sz n p)(hq:Sz m q)(h0:0<q):Sz (n+m) (p/q):=by
 have hq0:q≠0:=λz=>by rw[z] at h0;exact absurd h0 (by decide)
 have hn:q.num≠0:=λz=>hq0 (JR.mp z)
 rw[jF hq0]
 exact Sz.div (IX (bN p) hn) (hp.top.mul hq.bot) (hp.bot.mul hq.top) (n+m) (j_ _) (j_ _)
def DV{b:Bx}{n:Nat}(hb:b.Ok)(hs:b.Sz n):Sz (n+n) (bL b):=by
 unfold bL
 split
 ·exact Sz.over hs.h hs.w hb.1
 ·exact Sz.over hs.w hs.h hb.2
def Ci{ws:List Int}{l:List Nat}(hl:l.length<=1000)(hi:∀k∈l,k<ws.length):∃s,lcV (gtN 0).G qY.G (pOp bIx (af 1) (af 0)).G (l.map λk:Nat=>.int k) [] [.no,.sh (liV ws)]=.ok ((l.map λk=>ws.getD k 0).map .int) [s,.sh (liV ws)]:=by
 obtain⟨e',⟨s,rfl,_⟩,lc⟩:=fA (g:=(gtN 0).G) (F:=(pOp bIx (af 1) (af 0)).G) (λk:Nat=>Val.int k) (λk:Nat=>Val.int (ws.getD k 0)) (λe=>∃s:Sl,e=[s,.sh (liV ws)]/\s.pl=true) l [] [.no,.sh (liV ws)] ⟨.no,rfl,rfl⟩ (by
  rintro k hk _ ⟨s,rfl,hs⟩
  have h1:=hi k hk
  have a1:atI (ws.map Val.int) (k:Nat)=some (.int (ws.getD k 0)):=cH (by omega) (by
   rw[Em]
   show (ws[k]?).map _=_
   rw[Ib,x_ h1]
   rfl)
  refine⟨[.sh (.int (k:Nat)),.sh (liV ws)],.val (.int (ws.getD k 0)),[.sh (.int (k:Nat)),.sh (liV ws)],?_,?_,rfl,_,rfl,rfl⟩
  ·simp![hs]
  ·unfold liV
   simp![a1]) (by rw[Ir];omega)
 exact⟨s,by rw[Jf];exact lc⟩
def mxL:List Rat->Rat
 | []=>0
 |x::xs=>xs.foldl mx x
theorem ux{n:Nat}:∀(xs:List Rat) (a:Rat),Sz n a->(∀x∈xs,Sz n x)->Sz n (xs.foldl mx a)
 | [],a,h,_=>h
 |
  x::xs,a,h,hx=>by
  rw[List.foldl_cons]
  refine ux xs _ ?_ λy hy=>hx y (i_ _ hy)
  unfold mx
  split
  ·exact hx x (k_ ..)
  ·exact h
theorem ke{n:Nat}(hn:n<=100000){v:Val}:∀(xs:List Rat) (a:Rat) (s:Sl),s.pl=true->Sz n a->(∀x∈xs,Sz n x)->∃s',dm (gtN 2).G cV.G (xs.map fV) [.sh v,.sh (fV a),s]=.nx [.sh v,.sh (fV (xs.foldl mx a)),s']
 | [],a,s,_,_,_=>⟨s,by rw[H9,eW];rfl⟩
 |
  x::xs,a,s,hs,ha,hx=>by
  have hx0:=hx x (k_ ..)
  have il:=gJ ha hx0 hn hn
  have hm:Sz n (mx a x):=by
   unfold mx
   split
   ·exact hx0
   ·exact ha
  obtain⟨s',ih⟩:=ke hn (v:=v) xs (mx a x) (.sh (fV x)) rfl hm λy hy=>hx y (i_ _ hy)
  refine⟨s',?_⟩
  have bb:cV.G [.sh v,.sh (fV a),.sh (fV x)]=.nx [.sh v,.sh (fV (mx a x)),.sh (fV x)]:=by
   unfold cV mx
   by_cases hl:a<x
   ·rw[r_ hl] at il
    rw[if_pos hl]
    simp![il]
   ·rw[o_ hl] at il
    rw[if_neg hl]
    simp![il]
  have g1:(gtN 2).G (fV x) [.sh v,.sh (fV a),s]=some [.sh v,.sh (fV a),.sh (fV x)]:=by
   simp![hs]
  rw[D_,cJ,g1]
  simp only[bb,g9]
  rw[ih]
  rfl
def pJ{n:Nat}(hn:n<=100000){qs:List Rat}(h0:qs≠[])(hq:∀q∈qs,Sz n q):cB.G [.lst (qs.map fV)]=.ok (.val (fV (mxL qs))) []:=by
 cases qs with
 |nil=>exact absurd rfl h0
 |
  cons q qs=>
  have hq0:=hq q (k_ ..)
  obtain⟨s',lo⟩:=ke hn (v:=.lst ((q::qs).map fV)) (q::qs) q .no rfl hq0 hq
  have e:(q::qs).foldl mx q=mxL (q::qs):=by
   rw[List.foldl_cons,show mx q q=q from if_neg Rat.lt_irrefl]
   rfl
  rw[e] at lo
  have a0:atI ((q::qs).map fV) 0=some (fV q):=cH (by decide) rfl
  generalize mxL (q::qs)=r at *
  generalize (q::qs).map fV=qv at *
  unfold cB
  rw[aH]
  unfold ig
  simp![a0,lo]
def o8(w:Bool):cD.G [.str (wy w)]=.ok (.val (.str (wy !w))) []:=by
 unfold cD
 rw[aH]
 unfold jm
 cases w
 ·rw[show wy (!false)="across" from rfl,show wy false="down" from rfl]
  simp![ko]
 ·rw[show wy (!true)="down" from rfl,show wy true="across" from rfl]
  simp![j0]
def fc(b:Bx)(xs:List Int)(k:Nat):Bx:=if k<xs.length then bT b (lwB b) ((xs.take k).sum+(xs.drop k).sum) 0 (xs.take k).sum else b
def bH(b:Bx)(xs:List Int)(k:Nat):List Bx:=bg (fc b xs k) (wy !lwB b) (xs.take k)
def aG(b:Bx)(xs:List Int)(k:Nat):Rat:=mxL ((bH b xs k).map bL)
structure RwIn(m B:Nat)(b:Bx)(xs:List Int):Prop where
 hm:m<=104
 bd:Bd m B b xs.length
 pos:∀w∈xs,1<=w
 sum:xs.sum<2^m
 len:xs.length<=40
def RwIn.two{m B:Nat}{b:Bx}{xs:List Int}(h:RwIn m B b xs){k:Nat}(h1:1<=k)(h2:k<xs.length):1<=(xs.take k).sum/\1<=(xs.drop k).sum/\(xs.take k).sum+(xs.drop k).sum<2^m:=by
 have a1:=dN (l:=xs.take k) λw hw=>h.pos w (IC hw)
 have a2:=dN (l:=xs.drop k) λw hw=>h.pos w (JM hw)
 have a3:(xs.take k).sum+(xs.drop k).sum=xs.sum:=by rw[<- List.sum_append,JH]
 rw[Iv] at a1
 rw[Jg] at a2
 have:=h.sum
 refine⟨by omega,by omega,by rw[a3];exact this⟩
def RwIn.cut{m B:Nat}{b:Bx}{xs:List Int}(h:RwIn m B b xs){k:Nat}(h1:1<=k)(h2:k<xs.length){c:Bx}(hc:c∈[bT b (lwB b) ((xs.take k).sum+(xs.drop k).sum) 0 (xs.take k).sum,bT b (lwB b) ((xs.take k).sum+(xs.drop k).sum) (xs.take k).sum (xs.drop k).sum]){j:Nat}(hj:j<xs.length):Bd m B c j:=by
 obtain⟨a1,a2,a3⟩:=h.two h1 h2
 exact
  h.bd.part (way:=wy (lwB b)) (ws:=[(xs.take k).sum,(xs.drop k).sum]) (λw hw=>by
  rcases G_.mp hw with rfl |hw
  ·exact a1
  ·rw[IZ.mp hw];exact a2) (by rw[show [(xs.take k).sum,(xs.drop k).sum].sum=(xs.take k).sum+(xs.drop k).sum from by simp];exact a3) (by rw[iD];exact hc) hj
def RwIn.row{m B:Nat}{b:Bx}{xs:List Int}(h:RwIn m B b xs){k:Nat}(h1:1<=k)(h2:k<=xs.length):∃j,1<=j/\Bd m B (fc b xs k) j:=by
 unfold fc
 by_cases hk:k<xs.length
 ·rw[if_pos hk]
  exact⟨k,h1,h.cut h1 hk (k_ ..) hk⟩
 ·rw[if_neg hk]
  exact⟨xs.length,by omega,h.bd⟩
def RwIn.take{m B:Nat}{b:Bx}{xs:List Int}(h:RwIn m B b xs){k:Nat}:(xs.take k).sum<2^m:=by
 have a2:=dN (l:=xs.drop k) λw hw=>h.pos w (JM hw)
 have a3:(xs.take k).sum+(xs.drop k).sum=xs.sum:=by rw[<- List.sum_append,JH]
 have:=h.sum
 omega
def tN(b:Bx)(w:Bool)(xs:List Int):(bg b (wy w) xs).length=xs.length:=by rw[l7,qg]
def RwIn.boxes{m B:Nat}{b:Bx}{xs:List Int}(h:RwIn m B b xs){k:Nat}(h1:1<=k)(h2:k<=xs.length):∀c∈bH b xs k,c.Ok/\c.Sz 2000:=λc hc=>by
 obtain⟨j,hj,hB⟩:=h.row h1 h2
 have:=hB.part (λw hw=>h.pos w (IC hw)) h.take hc (show 0<j by omega)
 exact⟨this.ok,this.sz⟩
def RwIn.len'{m B:Nat}{b:Bx}{xs:List Int}(h:RwIn m B b xs){k:Nat}(h2:k<=xs.length):(bH b xs k).length=k:=by
 unfold bH
 rw[tN,Iv]
 omega
def RwIn.shp{m B:Nat}{b:Bx}{xs:List Int}(h:RwIn m B b xs){k:Nat}(h1:1<=k)(h2:k<=xs.length):(bH b xs k).map bL≠[]/\∀q∈(bH b xs k).map bL,Sz 4000 q:=by
 have:=h.len' h2
 refine⟨λz=>?_,λq hq=>?_⟩
 ·have:=Iw List.length z
  rw[g_,Ir] at this
  omega
 ·obtain⟨c,hc,rfl⟩:=IS.mp hq
  obtain⟨c1,c2⟩:=h.boxes h1 h2 c hc
  exact DV c1 c2
def RwIn.wsz{m B:Nat}{b:Bx}{xs:List Int}(h:RwIn m B b xs){k:Nat}(h1:1<=k)(h2:k<=xs.length):Sz 4000 (aG b xs k):=by
 obtain⟨q1,q2⟩:=h.shp h1 h2
 unfold aG
 cases hq:(bH b xs k).map bL with
 |nil=>exact absurd hq q1
 |
  cons q qs=>
  rw[hq] at q2
  exact ux qs q (q2 q (k_ ..)) λx hx=>q2 x (i_ _ hx)
def uF{P:PFn}{bs:List Bx}(h:∀c∈bs,P.G [bV c]=.ok (.val (fV (bL c))) [])(hm:P.ms=[false])(hl:bs.length<=1000):∃s,lcV (gtN 0).G qY.G (ai P (aa (af 0) ag)).G (bs.map bV) [] [.no]=.ok ((bs.map bL).map fV) [s]:=by
 obtain⟨e',⟨s,rfl,_⟩,lc⟩:=fA (g:=(gtN 0).G) (F:=(ai P (aa (af 0) ag)).G) bV (λc=>fV (bL c)) (λe=>∃s:Sl,e=[s]/\s.pl=true) bs [] [.no] ⟨.no,rfl,rfl⟩ (by
  rintro c hc _ ⟨s,rfl,hs⟩
  have hp:=h c hc
  refine⟨[.sh (bV c)],.val (fV (bL c)),[.sh (bV c)],?_,?_,rfl,_,rfl,rfl⟩
  ·simp![hs]
  ·simp![hm,hp]) (by rw[Ir];omega)
 rw[Ik] at lc
 refine⟨s,?_⟩
 rw[Jf]
 exact lc
def iI{m B:Nat}{b:Bx}{xs:List Int}(h:RwIn m B b xs){k:Nat}(h1:1<=k)(h2:k<=xs.length):bD.G [bV b,liV xs,.int (k:Nat)]=.ok (.val (fV (aG b xs k))) []:=by
 obtain⟨j,hj,hB⟩:=h.row h1 h2
 have hm:=h.hm
 have be:=h.len
 have lw:=c9 h.bd.ok h.bd.sz (by decide)
 have ow:=o8 (lwB b)
 have tl:(xs.take k).length=k:=by rw[Iv];omega
 have tp:=dN (l:=xs.take k) λw hw=>h.pos w (IC hw)
 have pe:=l9 (way:=wy !lwB b) (ws:=xs.take k) (m:=m) hB.ok hB.sz (ix _) (λz=>by rw[z] at tl;simp at tl;omega) (λw hw=>h.pos w (IC hw)) (ij (by omega) h.take) (by omega) (by omega)
 rw[show bg (fc b xs k) (wy !lwB b) (xs.take k)=bH b xs k from rfl] at pe
 have bl:=h.len' h2
 obtain⟨s,lc⟩:=uF (P:=gi) (bs:=bH b xs k) (λc hc=>vT (h.boxes h1 h2 c hc).1 (h.boxes h1 h2 c hc).2 (by decide)) rfl (by omega)
 obtain⟨q1,q2⟩:=h.shp h1 h2
 have ge:=pJ (by decide) q1 q2
 rw[show mxL ((bH b xs k).map bL)=aG b xs k from rfl] at ge
 have sl:(((bH b xs k).map bL).map fV).length<=16777216:=by rw[g_,g_];omega
 have ct:=iL (xs.map Val.int) k
 rw[<- JG] at ct
 have lx:((xs.map Val.int).length:Nat)=xs.length:=g_ ..
 unfold bD
 rw[aH]
 unfold gn
 by_cases hk:k<xs.length
 ·obtain⟨a1,a2,a3⟩:=h.two h1 hk
  have ct2:=kI h.bd hm a1 a2 a3
  rw[show bT b (lwB b) ((xs.take k).sum+(xs.drop k).sum) 0 (xs.take k).sum=fc b xs k from (if_pos hk).symm] at ct2
  have c1:decide (((k:Nat):Int)<((xs.length:Nat):Int))=true:=r_ (by omega)
  unfold liV at ct2 ⊢
  generalize bV (bT b (lwB b) ((xs.take k).sum+(xs.drop k).sum) (xs.take k).sum (xs.drop k).sum)=b2 at *
  generalize bV (fc b xs k)=b1 at *
  generalize ((bH b xs k).map bL).map fV=sv at *
  generalize (bH b xs k).map bV=bs at *
  generalize (xs.take k).map Val.int=w1 at *
  generalize xs.map Val.int=w3 at *
  generalize bV b=bv at *
  generalize wy (!lwB b)=y1 at *
  generalize wy (lwB b)=yy at *
  generalize aG b xs k=rr at *
  simp![lx,c1,ct2,lw,ow,cA,ct,pe,lc,sl,ge]
 ·have c1:decide (((k:Nat):Int)<((xs.length:Nat):Int))=false:=o_ (by omega)
  rw[show fc b xs k=b from if_neg hk] at pe
  unfold liV
  generalize ((bH b xs k).map bL).map fV=sv at *
  generalize (bH b xs k).map bV=bs at *
  generalize (xs.take k).map Val.int=w1 at *
  generalize xs.map Val.int=w3 at *
  generalize bV b=bv at *
  generalize wy (!lwB b)=y1 at *
  generalize wy (lwB b)=yy at *
  generalize aG b xs k=rr at *
  simp![lx,c1,lw,ow,cA,ct,pe,lc,sl,ge]
def dj(b:Bx)(xs:List Int):Nat->Nat->Nat
 |0,k=>k
 |f+1,k=>if k<xs.length then (if aG b xs k<aG b xs (k+1) then k else dj b xs f (k+1)) else k
theorem rl(b:Bx)(xs:List Int):∀f k,k<=xs.length->k<=dj b xs f k/\dj b xs f k<=xs.length
 |0,k,h=>⟨j_ _,h⟩
 |
  f+1,k,h=>by
  rw[dj]
  split
  ·split
   ·omega
   ·have:=rl b xs f (k+1) (by omega)
    omega
  ·omega
theorem oR{m B:Nat}{b:Bx}{xs:List Int}(h:RwIn m B b xs):∀(f k:Nat) (s:Sl),s.pl=true->xs.length<=k+f->1<=k->k<=xs.length->∃s3 s4,(xWh (qOf (pOp bLt (af 2) (pFn bA (aa (af 1) ag)))) cx).G [.sh (bV b),.sh (liV xs),.sh (.int (k:Nat)),.sh (fV (aG b xs k)),s]=.nx [.sh (bV b),.sh (liV xs),.sh (.int (dj b xs f k:Nat)),s3,s4]
 |
  f,k,s,hs,hf,h1,h2=>by
  have lx:((xs.map Val.int).length:Nat)=xs.length:=g_ ..
  by_cases hk:k<xs.length
  ·cases
    f with
   |zero=>omega
   |
    succ f=>
    have c1:decide (((k:Nat):Int)<((xs.length:Nat):Int))=true:=r_ (by omega)
    have k1:((k:Nat):Int)+1=((k+1:Nat):Int):=by omega
    have wr:=iI h (k:=k+1) (by omega) (by omega)
    have il:=gJ (h.wsz h1 h2) (h.wsz (k:=k+1) (by omega) (by omega)) (by decide) (by decide)
    obtain⟨s3,s4,ih⟩:=oR h f (k+1) (.sh (fV (aG b xs (k+1)))) rfl (by omega) (by omega) (by omega)
    rw[dj,if_pos hk]
    by_cases hl:aG b xs k<aG b xs (k+1)
    ·rw[if_pos hl]
     rw[r_ hl] at il
     refine⟨.sh (fV (aG b xs k)),.sh (fV (aG b xs (k+1))),?_⟩
     rw[gf]
     unfold cx
     unfold liV at wr ⊢
     generalize xs.map Val.int=w3 at *
     generalize bV b=bv at *
     generalize fV (aG b xs (k+1))=r1 at *
     generalize fV (aG b xs k)=r0 at *
     simp![hs,lx,c1,k1,wr,il]
    ·rw[if_neg hl]
     rw[o_ hl] at il
     refine⟨s3,s4,?_⟩
     have bb:cx.G [.sh (bV b),.sh (liV xs),.sh (.int (k:Nat)),.sh (fV (aG b xs k)),s]=.nx [.sh (bV b),.sh (liV xs),.sh (.int ((k+1:Nat):Int)),.sh (fV (aG b xs (k+1))),.sh (fV (aG b xs (k+1)))]:=by
      unfold cx
      generalize liV xs=w3 at *
      generalize bV b=bv at *
      generalize fV (aG b xs (k+1))=r1 at *
      generalize fV (aG b xs k)=r0 at *
      simp![hs,k1,wr,il]
     rw[gf]
     unfold liV at bb ih ⊢
     generalize xs.map Val.int=w3 at *
     generalize bV b=bv at *
     generalize fV (aG b xs (k+1))=r1 at *
     generalize fV (aG b xs k)=r0 at *
     simp![lx,c1,bb,ih]
  ·have c1:decide (((k:Nat):Int)<((xs.length:Nat):Int))=false:=o_ (by omega)
   refine⟨.sh (fV (aG b xs k)),s,?_⟩
   have e:dj b xs f k=k:=by
    cases f with
    |zero=>rfl
    |succ f=>rw[dj,if_neg hk]
   rw[e,gf]
   unfold liV
   generalize xs.map Val.int=w3 at *
   simp![lx,c1]
def row(b:Bx)(xs:List Int):Nat:=dj b xs xs.length 1
def D9{b:Bx}{xs:List Int}(h:1<=xs.length):1<=row b xs/\row b xs<=xs.length:=rl b xs _ 1 h
def mC{m B:Nat}{b:Bx}{xs:List Int}(h:RwIn m B b xs)(h1:1<=xs.length):cM.G [bV b,liV xs]=.ok (.val (.int (row b xs:Nat))) []:=by
 have wr:=iI h (k:=1) (by omega) (by omega)
 obtain⟨s3,s4,lo⟩:=oR h xs.length 1 .no rfl (by omega) (by omega) (by omega)
 rw[show dj b xs xs.length 1=row b xs from rfl] at lo
 unfold cM
 rw[aH]
 unfold iA
 rw[show ((1:Nat):Int)=1 from rfl] at wr lo
 generalize liV xs=w3 at *
 generalize bV b=bv at *
 generalize fV (aG b xs 1)=r0 at *
 simp![wr,lo]
def js{b:Bx}{n:Nat}(hs:b.Sz n)(h:n<=100000):cp.G [bV b]=.ok (.val (.str (wy (lwB b)))) []:=by
 have wp:=we (b:=b)
 have ib:(bV b).items=some [fV b.l,fV b.t,fV b.w,fV b.h]:=rfl
 have c1:ax.G (.int b.w.num) (.int (b.h.den:Nat))=.val (.int (b.w.num*(b.h.den:Nat))):=aB (CMulA.of hs.w.top hs.h.bot h h)
 have c2:ax.G (.int b.h.num) (.int (b.w.den:Nat))=.val (.int (b.h.num*(b.w.den:Nat))):=aB (CMulA.of hs.h.top hs.w.bot h h)
 unfold cp
 rw[aH]
 unfold kx
 generalize wy (lwB b)=yy at *
 simp![ib,eQ,c1,c2,wp]
def tS{q:Rat}(h:0<q.num):(q⁻¹).num=q.den/\((q⁻¹).den:Int)=q.num:=by
 rw[Rat.num_inv,Rat.den_inv,Int.sign_eq_one_of_pos h,if_neg (by omega)]
 omega
def o6{b:Bx}{n:Nat}(hb:b.Ok)(hs:b.Sz n)(h:n+n<=8000):c8.G [bV b]=.ok (.val (fV (bL b))) []:=by
 have ib:(bV b).items=some [fV b.l,fV b.t,fV b.w,fV b.h]:=rfl
 have c1:ax.G (.int b.w.num) (.int (b.h.den:Nat))=.val (.int (b.w.num*(b.h.den:Nat))):=aB (CMulA.of hs.w.top hs.h.bot (by omega) (by omega))
 have c2:ax.G (.int (b.w.den:Nat)) (.int b.h.num)=.val (.int ((b.w.den:Nat)*b.h.num)):=aB (CMulA.of hs.w.bot hs.h.top (by omega) (by omega))
 have h0:=hb.1
 have h1:=hb.2
 have hw0:0<b.w.num:=gp.mpr h0
 have hh0:0<b.h.num:=gp.mpr h1
 have dw:=b.w.den_pos
 have lo:=dM (a:=b.w.num*b.h.den) (b:=b.w.den*b.h.num) (Int.ne_of_gt (JC (by omega) hh0)) ((hs.w.bot.mul hs.h.top).mono h)
 have hne:b.h≠0:=λz=>by rw[z] at h1;exact absurd h1 (by decide)
 have hnw:b.w≠0:=λz=>by rw[z] at h0;exact absurd h0 (by decide)
 rw[<- jF hne] at lo
 have q0:0<b.w/b.h:=by rw[JE];exact Rat.mul_pos h0 (Rat.inv_pos.mpr h1)
 have qn:0<(b.w/b.h).num:=gp.mpr q0
 have iv:(b.w/b.h)⁻¹=b.h/b.w:=by rw[JE,JE,Rat.inv_mul_rev,Rat.inv_inv]
 obtain⟨i1,i2⟩:=tS qn
 rw[iv] at i1 i2
 have lt:(b.w/b.h).num<((b.w/b.h).den:Int) ↔ b.w<b.h:=by
  have e:=gx (b.w/b.h) 1
  rw[show (1:Rat).den=1 from rfl,show (1:Rat).num=1 from rfl] at e
  rw[show ((b.w/b.h).num<((b.w/b.h).den:Int)) ↔ (b.w/b.h).num*((1:Nat):Int)<1*((b.w/b.h).den:Int) from by omega,<- e]
  constructor
  ·intro z
   have:=Rat.mul_lt_mul_of_pos_right z h1
   rw[Rat.div_mul_cancel hne,Rat.one_mul] at this
   exact this
  ·intro z
   have:=Rat.mul_lt_mul_of_pos_right z (Rat.inv_pos.mpr h1)
   rw[<- JE,Rat.mul_inv_cancel _ hne] at this
   exact this
 unfold c8 bL
 rw[aH]
 unfold ji
 by_cases hl:b.w<b.h
 ·rw[if_pos hl,show fV (b.h/b.w)=.tup [.int (b.h/b.w).num,.int (b.h/b.w).den] from rfl,i1,i2]
  have d1:=r_ (lt.mpr hl)
  simp![ib,eQ,c1,c2,lo,d1]
 ·rw[if_neg hl]
  have d1:=o_ (λz=>hl (lt.mp z))
  simp![ib,eQ,c1,c2,lo,d1]
theorem lZ{n:Nat}(hn:n<=100000){v:Val}:∀(xs:List Rat) (a:Rat) (s:Sl),s.pl=true->Sz n a->(∀x∈xs,Sz n x)->∃s',dm (gtN 2).G er.G (xs.map fV) [.sh v,.sh (fV a),s]=.nx [.sh v,.sh (fV (xs.foldl mx a)),s']
 | [],a,s,_,_,_=>⟨s,by rw[H9,eW];rfl⟩
 |
  x::xs,a,s,hs,ha,hx=>by
  have hx0:=hx x (k_ ..)
  have c1:ax.G (.int x.num) (.int (a.den:Nat))=.val (.int (x.num*(a.den:Nat))):=aB (CMulA.of hx0.top ha.bot hn hn)
  have c2:ax.G (.int a.num) (.int (x.den:Nat))=.val (.int (a.num*(x.den:Nat))):=aB (CMulA.of ha.top hx0.bot hn hn)
  have hm:Sz n (mx a x):=by
   unfold mx
   split
   ·exact hx0
   ·exact ha
  obtain⟨s',ih⟩:=lZ hn (v:=v) xs (mx a x) (.sh (fV x)) rfl hm λy hy=>hx y (i_ _ hy)
  refine⟨s',?_⟩
  have bb:er.G [.sh v,.sh (fV a),.sh (fV x)]=.nx [.sh v,.sh (fV (mx a x)),.sh (fV x)]:=by
   unfold er mx
   by_cases hl:a<x
   ·have d1:=r_ ((gx a x).mp hl)
    rw[if_pos hl]
    simp![eQ,c1,c2,d1]
   ·have d1:=o_ (λz=>hl ((gx a x).mpr z))
    rw[if_neg hl]
    simp![eQ,c1,c2,d1]
  have g1:(gtN 2).G (fV x) [.sh v,.sh (fV a),s]=some [.sh v,.sh (fV a),.sh (fV x)]:=by
   simp![hs]
  rw[D_,cJ,g1]
  simp only[bb,g9]
  rw[ih]
  rfl
def pL{n:Nat}(hn:n<=100000){qs:List Rat}(h0:qs≠[])(hq:∀q∈qs,Sz n q):dU.G [.lst (qs.map fV)]=.ok (.val (fV (mxL qs))) []:=by
 cases qs with
 |nil=>exact absurd rfl h0
 |
  cons q qs=>
  have hq0:=hq q (k_ ..)
  obtain⟨s',lo⟩:=lZ hn (v:=.lst ((q::qs).map fV)) qs q .no rfl hq0 λx hx=>hq x (i_ _ hx)
  rw[show qs.foldl mx q=mxL (q::qs) from rfl] at lo
  have a0:atI ((q::qs).map fV) 0=some (fV q):=cH (by decide) rfl
  have cf:aSl (.lst ((q::qs).map fV)) (some 1) none=.new (.lst (qs.map fV)):=by
   rw[cA,show (some 1:Option Int)=some ((1:Nat):Int) from rfl,fC]
   rfl
  generalize mxL (q::qs)=r at *
  generalize (q::qs).map fV=qv at *
  generalize qs.map fV=qw at *
  unfold dU
  rw[aH]
  unfold ky
  simp![a0,cf,lo]
def rb(w:Bool):lkD [((.inr "across" : Key),(.str "down" : Val)),(.inr "down",.str "across")] (.inr (wy w))=some (.str (wy !w)):=by
 cases w <;> rfl
def jT{m B:Nat}{b:Bx}{xs:List Int}(h:RwIn m B b xs){k:Nat}(h1:1<=k)(h2:k<=xs.length):bo.G [bV b,liV xs,.int (k:Nat)]=.ok (.val (fV (aG b xs k))) []:=by
 obtain⟨j,hj,hB⟩:=h.row h1 h2
 have hm:=h.hm
 have be:=h.len
 have lw:=js h.bd.sz (by decide)
 have lb:=rb (lwB b)
 have tl:(xs.take k).length=k:=by rw[Iv];omega
 have tp:=dN (l:=xs.take k) λw hw=>h.pos w (IC hw)
 have pe:=fh (way:=wy !lwB b) (ws:=xs.take k) (m:=m) hB.sz (ix _) (λw hw=>h.pos w (IC hw)) (by omega) (ij (by omega) h.take) (by omega) (by omega)
 rw[show bg (fc b xs k) (wy !lwB b) (xs.take k)=bH b xs k from rfl] at pe
 have bl:=h.len' h2
 obtain⟨s,lc⟩:=uF (P:=c8) (bs:=bH b xs k) (λc hc=>o6 (h.boxes h1 h2 c hc).1 (h.boxes h1 h2 c hc).2 (by decide)) rfl (by omega)
 obtain⟨q1,q2⟩:=h.shp h1 h2
 have ge:=pL (by decide) q1 q2
 rw[show mxL ((bH b xs k).map bL)=aG b xs k from rfl] at ge
 have sl:(((bH b xs k).map bL).map fV).length<=16777216:=by rw[g_,g_];omega
 have ct:=iL (xs.map Val.int) k
 rw[<- JG] at ct
 have cd:=fC (xs.map Val.int) k
 rw[<- JF] at cd
 have m1:=cj (xs.take k)
 have m2:=cj (xs.drop k)
 have lx:((xs.map Val.int).length:Nat)=xs.length:=g_ ..
 unfold bo
 rw[aH]
 unfold fJ
 by_cases hk:k<xs.length
 ·obtain⟨a1,a2,a3⟩:=h.two h1 hk
  have ct2:=fh (way:=wy (lwB b)) (ws:=[(xs.take k).sum,(xs.drop k).sum]) (m:=m) h.bd.sz (ix _) (λw hw=>by
   rcases G_.mp hw with rfl |hw
   ·exact a1
   ·rw[IZ.mp hw];exact a2) (by simp;omega) (by rw[show [(xs.take k).sum,(xs.drop k).sum].sum=(xs.take k).sum+(xs.drop k).sum from by simp];exact ij (by omega) a3) (by omega) (by show 2<=1000;decide)
  rw[iD] at ct2
  simp only[D_,H9] at ct2
  rw[show bT b (lwB b) ((xs.take k).sum+(xs.drop k).sum) 0 (xs.take k).sum=fc b xs k from (if_pos hk).symm] at ct2
  have c1:decide (((k:Nat):Int)<((xs.length:Nat):Int))=true:=r_ (by omega)
  unfold liV
  generalize bV (bT b (lwB b) ((xs.take k).sum+(xs.drop k).sum) (xs.take k).sum (xs.drop k).sum)=b2 at *
  generalize bV (fc b xs k)=b1 at *
  generalize ((bH b xs k).map bL).map fV=sv at *
  generalize (bH b xs k).map bV=bs at *
  generalize (xs.take k).map Val.int=w1 at *
  generalize (xs.drop k).map Val.int=w2 at *
  generalize xs.map Val.int=w3 at *
  generalize bV b=bv at *
  generalize wy (!lwB b)=y1 at *
  generalize wy (lwB b)=yy at *
  generalize aG b xs k=rr at *
  simp![Ju,JA,lx,c1,ct2,lw,lb,cA,ct,cd,m1,m2,pe,lc,sl,ge]
 ·have c1:decide (((k:Nat):Int)<((xs.length:Nat):Int))=false:=o_ (by omega)
  rw[show fc b xs k=b from if_neg hk] at pe
  unfold liV
  generalize ((bH b xs k).map bL).map fV=sv at *
  generalize (bH b xs k).map bV=bs at *
  generalize (xs.take k).map Val.int=w1 at *
  generalize xs.map Val.int=w3 at *
  generalize bV b=bv at *
  generalize wy (!lwB b)=y1 at *
  generalize wy (lwB b)=yy at *
  generalize aG b xs k=rr at *
  simp![Ju,JA,lx,c1,lw,lb,cA,ct,pe,lc,sl,ge]
def bI(b:Bx)(l:List Nat):AT:=if l.length=1 then .lf (l.headD 0) else .nd (!lwB b) (l.map .lf)
def lJ(b:Bx)(l:List Nat):atV (.nd (!lwB b) (l.map .lf))=.tup [.str (wy !lwB b),.tup (l.map λk:Nat=>Val.int k)]:=by
 unfold atV
 rw[AT.val,AT.vals_map,Jf]
 rfl
def pO{b:Bx}{l:List Nat}{n:Nat}(hb:b.Ok)(hs:b.Sz n)(h:n<=8000)(hl:1<=l.length)(hl2:l.length<=1000):cC.G [bV b,itV l]=.ok (.val (atV (bI b l))) []:=by
 have lw:=c9 hb hs h
 have ow:=o8 (lwB b)
 have ll:((l.map λk:Nat=>Val.int k).length:Nat)=l.length:=g_ ..
 unfold cC bI
 rw[aH]
 unfold hX
 by_cases h1:l.length=1
 ·obtain⟨k,rfl⟩:=List.length_eq_one_iff.mp h1
  have a0:atI [Val.int (k:Nat)] 0=some (.int (k:Nat)):=cH (by decide) rfl
  rw[if_pos h1,show atV (.lf ([k].headD 0))=.int (k:Nat) from rfl,show itV [k]=.lst [.int (k:Nat)] from rfl]
  simp![a0]
 ·have n1:(((l.length:Nat):Int)==1)=false:=by rw[v_];omega
  rw[if_neg h1,lJ]
  unfold itV
  generalize wy (!lwB b)=y1 at *
  generalize wy (lwB b)=yy at *
  generalize (l.map λk:Nat=>Val.int k)=l0 at *
  generalize bV b=bv at *
  simp![ll,n1,lw,ow]
theorem pk{m B:Nat}{b:Bx}{xs:List Int}{wv lv:Val}{p:PFx [false,false,false]}(h:RwIn m B b xs):∀(f k:Nat) (s:Sl),s.pl=true->xs.length<=k+f->1<=k->k<=xs.length->∃s5 s6,(xWh (qOf (pOp bLt (af 4) (pFn bA (aa (af 3) ag)))) (dX p)).G [.sh (bV b),.sh wv,.sh lv,.sh (liV xs),.sh (.int (k:Nat)),.sh (fV (aG b xs k)),s,.no,.no,.no]=.nx [.sh (bV b),.sh wv,.sh lv,.sh (liV xs),.sh (.int (dj b xs f k:Nat)),s5,s6,.no,.no,.no]
 |
  f,k,s,hs,hf,h1,h2=>by
  have lx:((xs.map Val.int).length:Nat)=xs.length:=g_ ..
  by_cases hk:k<xs.length
  ·cases
    f with
   |zero=>omega
   |
    succ f=>
    have c1:decide (((k:Nat):Int)<((xs.length:Nat):Int))=true:=r_ (by omega)
    have k1:((k:Nat):Int)+1=((k+1:Nat):Int):=by omega
    have wr:=jT h (k:=k+1) (by omega) (by omega)
    have z0:=h.wsz h1 h2
    have z1:=h.wsz (k:=k+1) (by omega) (by omega)
    obtain⟨s3,s4,ih⟩:=pk (wv:=wv) (lv:=lv) (p:=p) h f (k+1) (.sh (fV (aG b xs (k+1)))) rfl (by omega) (by omega) (by omega)
    rw[dj,if_pos hk]
    generalize aG b xs (k+1)=r1 at *
    generalize aG b xs k=r0 at *
    have e1:ax.G (.int r1.num) (.int (r0.den:Nat))=.val (.int (r1.num*(r0.den:Nat))):=aB (CMulA.of z1.top z0.bot (by decide) (by decide))
    have e2:ax.G (.int r0.num) (.int (r1.den:Nat))=.val (.int (r0.num*(r1.den:Nat))):=aB (CMulA.of z0.top z1.bot (by decide) (by decide))
    by_cases hl:r0<r1
    ·rw[if_pos hl]
     have d1:=r_ ((gx r0 r1).mp hl)
     refine⟨.sh (fV r0),.sh (fV r1),?_⟩
     rw[gf]
     unfold dX
     unfold liV at wr ⊢
     generalize xs.map Val.int=w3 at *
     generalize bV b=bv at *
     simp![hs,lx,c1,k1,wr,eQ,e1,e2,d1]
    ·rw[if_neg hl]
     have d1:=o_ (λz=>hl ((gx r0 r1).mpr z))
     refine⟨s3,s4,?_⟩
     have bb:(dX p).G [.sh (bV b),.sh wv,.sh lv,.sh (liV xs),.sh (.int (k:Nat)),.sh (fV r0),s,.no,.no,.no]=.nx [.sh (bV b),.sh wv,.sh lv,.sh (liV xs),.sh (.int ((k+1:Nat):Int)),.sh (fV r1),.sh (fV r1),.no,.no,.no]:=by
      unfold dX
      generalize liV xs=w3 at *
      generalize bV b=bv at *
      simp![hs,k1,wr,eQ,e1,e2,d1]
     rw[gf]
     unfold liV at bb ih ⊢
     generalize xs.map Val.int=w3 at *
     generalize bV b=bv at *
     simp![lx,c1,bb,ih]
  ·have c1:decide (((k:Nat):Int)<((xs.length:Nat):Int))=false:=o_ (by omega)
   refine⟨.sh (fV (aG b xs k)),s,?_⟩
   have e:dj b xs f k=k:=by
    cases f with
    |zero=>rfl
    |succ f=>rw[dj,if_neg hk]
   rw[e,gf]
   unfold liV
   generalize xs.map Val.int=w3 at *
   simp![lx,c1]
def rwT(ws:List Int):Nat->Bx->List Nat->AT
 |0,_,l=>.lf (l.headD 0)
 |N+1,b,l=>if row b (l.map λk=>ws.getD k 0)=l.length then bI b l else .nd (lwB b) [bI b (l.take (row b (l.map λk=>ws.getD k 0))),rwT ws N (bT b (lwB b) (((l.map λk=>ws.getD k 0).take (row b (l.map λk=>ws.getD k 0))).sum+((l.map λk=>ws.getD k 0).drop (row b (l.map λk=>ws.getD k 0))).sum) ((l.map λk=>ws.getD k 0).take (row b (l.map λk=>ws.getD k 0))).sum ((l.map λk=>ws.getD k 0).drop (row b (l.map λk=>ws.getD k 0))).sum) (l.drop (row b (l.map λk=>ws.getD k 0)))]
theorem yk:∀l:List Nat,AT.okL (l.map .lf)=true/\AT.lvsL (l.map .lf)=l/\AT.depL (l.map .lf)<=1
 | []=>⟨rfl,rfl,by decide⟩
 |
  k::l=>by
  obtain⟨a,b,c⟩:=yk l
  rw[D_]
  refine⟨?_,?_,?_⟩
  ·rw[AT.okL,a];rfl
  ·rw[AT.lvsL,b];rfl
  ·rw[AT.depL,AT.dep];omega
def Ab(b:Bx){l:List Nat}(hl:1<=l.length):(bI b l).ok=true/\(bI b l).lvs=l/\(bI b l).dep<=l.length/\(bI b l).dep<=2:=by
 unfold bI
 by_cases h1:l.length=1
 ·obtain⟨k,rfl⟩:=List.length_eq_one_iff.mp h1
  rw[if_pos h1]
  exact⟨rfl,rfl,by simp [AT.dep],by simp [AT.dep]⟩
 ·rw[if_neg h1]
  obtain⟨a1,a2,a3⟩:=yk l
  refine⟨?_,?_,?_,?_⟩
  ·simp [AT.ok,a1];omega
  ·rw[AT.lvs,a2]
  ·rw[AT.dep];omega
  ·rw[AT.dep];omega
theorem qH{ws:List Int}{m B:Nat}(hm:m<=104)(hS:∀l:List Nat,(∀k∈l,k<ws.length)->l.length<=ws.length->wtA ws l<2^m)(hw:∀w∈ws,1<=w)(hn:ws.length<=40):∀(N:Nat) (l:List Nat) (b:Bx),l.length<=N->1<=l.length->l.length<=ws.length->(∀k∈l,k<ws.length)->Bd m B b l.length->
 (aT N).G [bV b,itV l,liV (l.map λk=>ws.getD k 0)]=.ok (.val (atV (rwT ws N b l))) []/\(cm N).G [bV b,liV ws,itV l]=.ok (.val (atV (rwT ws N b l))) []/\(rwT ws N b l).ok=true/\(rwT ws N b l).lvs=l/\(rwT ws N b l).dep<=l.length
 |0,l,b,h0,h1,_,_,_=>by omega
 |
  N+1,l,b,h0,h1,hl,hi,hB=>by
  have hp:∀k∈l,1<=ws.getD k 0:=λj hj=>by
   rw[Ib,x_ (hi j hj)]
   exact hw _ (List.getElem_mem _)
  have xl:(l.map λk=>ws.getD k 0).length=l.length:=g_ ..
  have hR:RwIn m B b (l.map λk=>ws.getD k 0):=⟨hm,by rw[xl];exact hB,λw hw=>by obtain⟨k,hk,rfl⟩:=IS.mp hw;exact hp k hk,hS l hi hl,by omega⟩
  obtain⟨r1,r2⟩:=D9 (b:=b) (xs:=l.map λk=>ws.getD k 0) (by omega)
  have re:=mC hR (by omega)
  obtain⟨s0,lc0⟩:=Ci (ws:=ws) (l:=l) (by omega) hi
  have lr:=jT hR (k:=1) (by omega) (by omega)
  obtain⟨s5,s6,lo⟩:=pk (wv:=liV ws) (lv:=itV l) (p:=cm N) hR (l.map λk=>ws.getD k 0).length 1 .no rfl (by omega) (by omega) (by omega)
  rw[show dj b (l.map λk=>ws.getD k 0) (l.map λk=>ws.getD k 0).length 1=row b (l.map λk=>ws.getD k 0) from rfl] at lo
  have te:rwT ws (N+1) b l=_:=rwT.eq_2 ws b l N
  rw[xl] at r2
  have lz:l.length<=16777216:=by omega
  have lx:(((l.map λk=>ws.getD k 0).map Val.int).length:Nat)=l.length:=by rw[g_,xl]
  have ll:((l.map λk:Nat=>Val.int k).length:Nat)=l.length:=g_ ..
  have lw:=c9 hB.ok hB.sz (by decide)
  have lw2:=js hB.sz (by decide)
  have lb:=rb (lwB b)
  have ctl:=iL (l.map λk:Nat=>Val.int k) (row b (l.map λk=>ws.getD k 0))
  have cdl:=fC (l.map λk:Nat=>Val.int k) (row b (l.map λk=>ws.getD k 0))
  rw[<- JG] at ctl
  rw[<- JF] at cdl
  have a0:atI (l.map λk:Nat=>Val.int k) 0=some (.int ((l.headD 0:Nat):Int)):=by
   cases l with
   |nil=>simp at h1
   |cons x l=>exact cH (by decide) rfl
  have two:∀k,k<l.length->1<=k->_:=λk h1 h2=>hR.two (k:=k) h2 (by omega)
  have cut:∀k,k<l.length->1<=k->∀c,c∈_->∀j,j<l.length->Bd m B c j:=λk h1 h2 c hc j hj=>hR.cut (k:=k) h2 (by omega) hc (by omega)
  have hd0:∀i,1<=i->(l.take i).headD 0=l.headD 0:=λi hi=>by
   cases l with
   |nil=>simp
   |cons x l=>cases i with
    |zero=>omega
    |succ i=>rfl
  rw[te]
  generalize hi0:row b (l.map λk=>ws.getD k 0)=i at *
  have lt:(l.take i).length=i:=by rw[Iv];omega
  have ld:(l.drop i).length=l.length-i:=Jg ..
  have tr:=pO (l:=l.take i) hB.ok hB.sz (by decide) (by omega) (by omega)
  obtain⟨o1,o2,o3,o4⟩:=Ab b (l:=l.take i) (by omega)
  by_cases hk:i=l.length
  ·rw[if_pos hk]
   have et:l.take i=l:=IG (by omega)
   rw[et] at o1 o2 o3 o4 tr lt ctl
   have q1:(((i:Nat):Int)==((l.length:Nat):Int))=true:=by rw[H_];omega
   refine⟨?_,?_,o1,o2,o3⟩
   ·show (PFx.of [false,false,false] 6 (bC (aT N))).G _=_
    rw[mQ]
    unfold bC
    unfold itV at tr ⊢
    generalize atV (bI b l)=tv at *
    generalize liV (l.map λk=>ws.getD k 0)=x0 at *
    generalize (l.map λk:Nat=>Val.int k)=l0 at *
    generalize bV b=bv at *
    simp![re,cA,ctl,tr,ll,q1]
   ·show (PFx.of [false,false,false] 10 (dG (cm N))).G _=_
    rw[mQ]
    unfold dG
    unfold itV at lo ⊢
    unfold liV at lr lc0 lo ⊢
    by_cases h2:1<i
    ·have g1:decide ((1:Int)<(i:Nat))=true:=r_ (by omega)
     have e8:atV (bI b l)=.tup [.str (wy !lwB b),.tup (l.map λk:Nat=>Val.int k)]:=by unfold bI;rw[if_neg (by omega),lJ]
     rw[e8]
     generalize fV (aG b _ _)=r0 at *
     generalize wy (!lwB b)=y1 at *
     generalize wy (lwB b)=yy at *
     generalize (l.map λk=>ws.getD k 0).map Val.int=x0 at *
     generalize (l.map λk:Nat=>Val.int k)=l0 at *
     generalize ws.map Val.int=wv at *
     generalize bV b=bv at *
     rw[show ((1:Nat):Int)=1 from rfl] at lr lo
     simp![lz,bR,inS,lc0,lr,lo,lw2,a0,g1,Ju,JA,lb,cA,ctl,ll,lx,q1]
    ·have g1:decide ((1:Int)<(i:Nat))=false:=o_ (by omega)
     have e8:atV (bI b l)=.int ((l.headD 0:Nat):Int):=by unfold bI;rw[if_pos (by omega)];rfl
     rw[e8]
     generalize fV (aG b _ _)=r0 at *
     generalize wy (lwB b)=yy at *
     generalize (l.map λk=>ws.getD k 0).map Val.int=x0 at *
     generalize (l.map λk:Nat=>Val.int k)=l0 at *
     generalize ws.map Val.int=wv at *
     generalize bV b=bv at *
     rw[show ((1:Nat):Int)=1 from rfl] at lr lo
     simp![lz,bR,inS,lc0,lr,lo,lw2,a0,g1,cA,ctl,ll,lx,q1]
  ·rw[if_neg hk]
   have q1:(((i:Nat):Int)==((l.length:Nat):Int))=false:=by rw[v_];omega
   have hi2:i<l.length:=by omega
   obtain⟨p1,p2,p3⟩:=two i hi2 r1
   have pm:=cut i hi2 r1
   have ct2:=kI hR.bd hm p1 p2 p3
   have lpe:=fh (way:=wy (lwB b)) (ws:=[((l.map λk=>ws.getD k 0).take i).sum,((l.map λk=>ws.getD k 0).drop i).sum]) (m:=m) hB.sz (ix _) (λw hw=>by
    rcases G_.mp hw with rfl |hw
    ·exact p1
    ·rw[IZ.mp hw];exact p2) (by rw[Ie,Ie,List.sum_nil];omega) (by rw[show [((l.map λk=>ws.getD k 0).take i).sum,((l.map λk=>ws.getD k 0).drop i).sum].sum=((l.map λk=>ws.getD k 0).take i).sum+((l.map λk=>ws.getD k 0).drop i).sum from by simp];exact ij (by omega) p3) (by omega) (by show 2<=1000;decide)
   rw[iD] at lpe
   simp only[D_,H9] at lpe
   have m1:=cj ((l.map λk=>ws.getD k 0).take i)
   have m2:=cj ((l.map λk=>ws.getD k 0).drop i)
   have ctx:=iL ((l.map λk=>ws.getD k 0).map Val.int) i
   have cdx:=fC ((l.map λk=>ws.getD k 0).map Val.int) i
   rw[<- JG] at ctx
   rw[<- JF] at cdx
   obtain⟨b1,b2,b3,b4,b5⟩:=qH hm hS hw hn N (l.drop i) _ (by omega) (by omega) (by omega) (λj hj=>hi j (JM hj)) (pm _ (i_ _ (k_ ..)) _ (by omega))
   rw[JF] at b1
   generalize rwT ws N (bT b (lwB b) (((l.map λk=>ws.getD k 0).take i).sum+((l.map λk=>ws.getD k 0).drop i).sum) ((l.map λk=>ws.getD k 0).take i).sum ((l.map λk=>ws.getD k 0).drop i).sum) (l.drop i)=T2 at *
   refine⟨?_,?_,?_,?_,?_⟩
   ·show (PFx.of [false,false,false] 6 (bC (aT N))).G _=_
    rw[mQ]
    unfold bC
    rw[show atV (.nd (lwB b) [bI b (l.take i),T2])=.tup [.str (wy (lwB b)),.tup [atV (bI b (l.take i)),atV T2]] from rfl]
    generalize atV (bI b (l.take i))=tv at *
    generalize atV T2=tv2 at *
    generalize wy (lwB b)=yy at *
    generalize bV (bT b (lwB b) _ 0 _)=B1 at *
    generalize bV (bT b (lwB b) _ _ _)=B2 at *
    unfold itV at tr b1 ⊢
    unfold liV at re ct2 b1 ⊢
    generalize ((l.map λk=>ws.getD k 0).take i).map Val.int=x1 at *
    generalize ((l.map λk=>ws.getD k 0).drop i).map Val.int=x2 at *
    generalize (l.map λk=>ws.getD k 0).map Val.int=x0 at *
    generalize ((l.take i).map λk:Nat=>Val.int k)=l1 at *
    generalize ((l.drop i).map λk:Nat=>Val.int k)=l2 at *
    generalize (l.map λk:Nat=>Val.int k)=l0 at *
    generalize bV b=bv at *
    simp![re,cA,ctl,tr,ll,q1,ct2,lw,cdl,cdx,b1]
   ·show (PFx.of [false,false,false] 10 (dG (cm N))).G _=_
    rw[mQ]
    unfold dG
    rw[show atV (.nd (lwB b) [bI b (l.take i),T2])=.tup [.str (wy (lwB b)),.tup [atV (bI b (l.take i)),atV T2]] from rfl]
    generalize atV T2=tv2 at *
    generalize bV (bT b (lwB b) _ 0 _)=B1 at *
    generalize bV (bT b (lwB b) _ _ _)=B2 at *
    unfold itV at lo b2 ⊢
    unfold liV at lr lc0 lo b2 ⊢
    by_cases h2:1<i
    ·have g1:decide ((1:Int)<(i:Nat))=true:=r_ (by omega)
     have e8:atV (bI b (l.take i))=.tup [.str (wy !lwB b),.tup ((l.take i).map λk:Nat=>Val.int k)]:=by unfold bI;rw[if_neg (by omega),lJ]
     rw[e8]
     generalize fV (aG b _ _)=r0 at *
     generalize wy (!lwB b)=y1 at *
     generalize wy (lwB b)=yy at *
     generalize ((l.map λk=>ws.getD k 0).take i).map Val.int=x1 at *
     generalize ((l.map λk=>ws.getD k 0).drop i).map Val.int=x2 at *
     generalize (l.map λk=>ws.getD k 0).map Val.int=x0 at *
     generalize ((l.take i).map λk:Nat=>Val.int k)=l1 at *
     generalize ((l.drop i).map λk:Nat=>Val.int k)=l2 at *
     generalize (l.map λk:Nat=>Val.int k)=l0 at *
     generalize ws.map Val.int=wv at *
     generalize bV b=bv at *
     rw[show ((1:Nat):Int)=1 from rfl] at lr lo
     simp![lz,bR,inS,lc0,lr,lo,lw2,a0,g1,Ju,JA,lb,cA,ctl,cdl,ctx,cdx,m1,m2,lpe,ll,lx,q1,b2]
    ·have g1:decide ((1:Int)<(i:Nat))=false:=o_ (by omega)
     have e8:atV (bI b (l.take i))=.int ((l.headD 0:Nat):Int):=by unfold bI;rw[if_pos (by omega),hd0 i r1];rfl
     rw[e8]
     generalize fV (aG b _ _)=r0 at *
     generalize wy (lwB b)=yy at *
     generalize ((l.map λk=>ws.getD k 0).take i).map Val.int=x1 at *
     generalize ((l.map λk=>ws.getD k 0).drop i).map Val.int=x2 at *
     generalize (l.map λk=>ws.getD k 0).map Val.int=x0 at *
     generalize ((l.take i).map λk:Nat=>Val.int k)=l1 at *
     generalize ((l.drop i).map λk:Nat=>Val.int k)=l2 at *
     generalize (l.map λk:Nat=>Val.int k)=l0 at *
     generalize ws.map Val.int=wv at *
     generalize bV b=bv at *
     rw[show ((1:Nat):Int)=1 from rfl] at lr lo
     simp![lz,bR,inS,lc0,lr,lo,lw2,a0,g1,cA,ctl,cdl,ctx,cdx,m1,m2,lpe,ll,lx,q1,b2]
   ·simp [AT.ok,AT.okL,o1,b3]
   ·rw[AT.lvs,AT.lvsL,AT.lvsL,AT.lvsL,o2,b4,Iz,JH]
   ·simp only[AT.dep,AT.depL]
    omega
def vR(ws:List Int):((List.range ws.length).map λk=>ws.getD k 0)=ws:=by
 refine List.ext_getElem? λi=>?_
 rw[Em]
 by_cases hi:i<ws.length
 ·rw[List.getElem?_range hi,x_ hi]
  show some (ws.getD i 0)=_
  rw[Ib,x_ hi]
  rfl
 ·rw[Jd (by rw[Ij];omega),Jd (by omega)]
  rfl
def bndN{ws:List Int}{b:Bx}(g:Good b)(W:WOk ws):∃m,m<=104/\Bd m (2^101) b ws.length/\∀l:List Nat,(∀k∈l,k<ws.length)->l.length<=ws.length->wtA ws l<2^m:=by
 obtain⟨D,hD,R⟩:=Hl g
 have hin:∀k,k<ws.length->ws.getD k 0∈ws:=λk hk=>by
  rw[Ib,x_ hk]
  exact List.getElem_mem _
 have wl:=W.len
 have key:∀m,m*ws.length<=1218->Bd m (2^101) b ws.length:=λm h1=>by
  refine⟨D,2^101,R,j_ _,by decide,?_⟩
  have a1:2^101+ws.length*2^101<=2^107:=by
   have h1:=Ji (2^101) (show ws.length<=40 by omega)
   have h2:2^107=64*2^101:=by decide
   rw[h2]
   generalize 2^101=X at *
   omega
  have a2:2^(m*ws.length)<=2^1218:=IQ (by decide) h1
  refine I0 (Ip a1 (Ip (JO hD) a2)) ?_
  rw[<- Jn,<- Jn]
  exact Nat.pow_lt_pow_right (by decide) (by decide)
 by_cases h9:10<ws.length
 ·refine⟨29,by decide,key 29 (by omega),λl hl hn=>?_⟩
  have:=nZ (M:=8388608) λk hk=>W.few h9 _ (hin k (hl k hk))
  have:(2:Int)^29=536870912:=by decide
  omega
 ·refine⟨104,by decide,key 104 (by omega),λl hl hn=>?_⟩
  have:=nZ (M:=1000000000000000000000000000000) λk hk=>(W.wt _ (hin k (hl k hk))).2
  have:(2:Int)^104=20282409603651670423947251286016:=by decide
  omega
def Av{ws:List Int}{b:Bx}{t:Val}(hb:b.Ok)(W:WOk ws)(h:(aT 42).G [bV b,itV (List.range ws.length),liV ws]=.ok (.val t) []):bQ.G [bV b,liV ws]=.ok (.val t) []:=by
 have wl:=W.len
 have wp:=W.pos
 have cb:=fB hb
 have cw:=uz (ws:=ws) (by intro z;rw[z] at wp;exact absurd wp (by decide)) (λw hw=>(W.wt w hw).1) wl
 have ll:((ws.map Val.int).length:Nat)=ws.length:=g_ ..
 have lr:i9.G [.int (ws.length:Nat)]=.new (itV (List.range ws.length)):=ye ⟨by omega,by omega⟩
 unfold bQ
 rw[aH]
 unfold jo
 unfold liV at h ⊢
 generalize itV (List.range ws.length)=rv at *
 generalize ws.map Val.int=wv at *
 generalize bV b=bv at *
 simp![cb,cw,ll,lr,h]
def zo{ws:List Int}{b:Bx}{t:Val}(h:bQ.G [bV b,liV ws]=.ok (.val t) []):da.G [.str "rows",bV b,liV ws]=.ok (.val t) []:=by
 have n1:xN.G (.str "rows") (.tup [.str "across",.str "down",.str "halves",.str "rows",.str "greatest",.str "thirds"])=.val (.bl false):=rfl
 have ck:cL.G [.str "rows"]=.ok (.val .non) []:=by
  unfold cL
  rw[aH]
  unfold iG
  simp![n1]
 have e0:b0 (.str "rows") (.str "halves")=some false:=by rw[L3.eq_str (by decide) (by decide)];exact Iw some (by decide)
 have e1:b0 (.str "rows") (.str "rows")=some true:=by rw[L3.eq_str (by decide) (by decide)];exact Iw some (by decide)
 unfold da
 rw[aH]
 unfold jl
 generalize liV ws=wv at *
 generalize bV b=bv at *
 simp![ck,e0,e1,h]
def lawQ(r:SR3):Prop:=ph [false] r=.ok (.val (.bl true)) []
def Du{r:Int}:∃m:Int,1<=m/\m<=40/\atI [Val.int 9,.int 40] (if (r==0)=true then 1 else 0)=some (.int m):=by
 by_cases h:r=0
 ·exact⟨40,by decide,by decide,by rw[h];exact cH (by decide) rfl⟩
 ·have e:(r==0)=false:=by rw[v_];exact h
  exact⟨9,by decide,by decide,by rw[e];exact cH (by decide) rfl⟩
def C6(ns:List Int)(hl:ns.length<=63):mT.G [.kl (ns.map .int)]=.ok (.val (.bl true)) []:=by
 unfold mT
 rw[rD rfl]
 show lawQ (rE.G [.sh (.kl (ns.map .int)),.no,.no,.no,.no,.no,.no])
 unfold rE
 obtain⟨a,e0⟩:=lK (ns:=ns) (k:=55) (by omega)
 refine aJ (λe=>e=[.sh (.kl (ns.map .int)),.ow (fdV a 0 55),.no,.no,.no,.no,.no]) ⟨_,by simp![e0],rfl⟩ ?_
 rintro _ rfl
 obtain⟨b,a1,c1,g,e1⟩:=zI a 0 55
 refine aJ (λe=>e=[.sh (.kl (ns.map .int)),.ow (fdV a1 c1 55),.sh (bV b),.no,.no,.no,.no]) ⟨_,by simp![e1],rfl⟩ ?_
 rintro _ rfl
 obtain⟨r,a2,c2,e2,_,_⟩:=aw (a:=a1) (b:=c1) (k:=55) (m:=6) (by decide) (sm8 (by decide))
 obtain⟨m,m1,m2,pm⟩:=Du (r:=r)
 obtain⟨ws,p1,p2,p3,p4,p5⟩:=rS (ns:=ns) (at_:=0) (most:=m) (by decide) ⟨m1,m2⟩
 have W:WOk ws:=⟨p1,by omega,p3,λh=>p4 (by omega)⟩
 refine aJ (λe=>e=[.sh (.kl (ns.map .int)),.ow (fdV a2 c2 55),.sh (bV b),.sh (liV ws),.no,.no,.no]) ⟨_,by
  generalize liV ws=wv at *
  generalize bV b=bv at *
  generalize fdV a1 c1 55=f1 at *
  generalize fdV a2 c2 55=f2 at *
  simp![e2,pm,p5],rfl⟩ ?_
 rintro _ rfl
 have wl:=W.len
 have wp:=W.pos
 have ll:((ws.map Val.int).length:Nat)=ws.length:=g_ ..
 refine aJ (λe=>e=[.sh (.kl (ns.map .int)),.ow (fdV a2 c2 55),.sh (bV b),.sh (liV ws),.sh (liV ws),.no,.no]) ⟨_,by
  unfold liV
  generalize ws.map Val.int=wv at *
  generalize bV b=bv at *
  generalize fdV a2 c2 55=f2 at *
  simp![iW],rfl⟩ ?_
 rintro _ rfl
 obtain⟨mm,hm,B,hS⟩:=bndN g W
 obtain⟨t1,t2,t3,t4,t5⟩:=qH (B:=2^101) hm hS (λw hw=>(W.wt w hw).1) wl 42 (List.range ws.length) b (by rw[Ij];omega) (by rw[Ij];omega) (by rw[Ij];omega) (λk hk=>Jw.mp hk) (by rw[Ij];exact B)
 rw[vR] at t1
 generalize rwT ws 42 b (List.range ws.length)=t at *
 rw[Ij] at t5
 have lr:i9.G [.int (ws.length:Nat)]=.new (itV (List.range ws.length)):=ye ⟨by omega,by omega⟩
 refine aJ (λe=>e=[.sh (.kl (ns.map .int)),.ow (fdV a2 c2 55),.sh (bV b),.sh (liV ws),.sh (liV ws),.sh (atV t),.no]) ⟨_,by
  unfold liV at t2 ⊢
  generalize itV (List.range ws.length)=rv at *
  generalize ws.map Val.int=wv at *
  generalize bV b=bv at *
  generalize atV t=tv at *
  generalize fdV a2 c2 55=f2 at *
  simp![ll,lr,t2],rfl⟩ ?_
 rintro _ rfl
 have h1:=Av g.ok W t1
 have h2:=zo h1
 have et:b0 (atV t) (atV t)=some true:=zO t (by omega) λ_ _=>rfl
 have ew:=Hd ws
 obtain⟨e',⟨s,rfl,_⟩,lo⟩:=oq (g:=(gtN 6).G) (B:=ox.G) (λe=>∃s:Sl,e=[.sh (.kl (ns.map .int)),.ow (fdV a2 c2 55),.sh (bV b),.sh (liV ws),.sh (liV ws),.sh (atV t),s]/\s.pl=true) (rgV 2) [.sh (.kl (ns.map .int)),.ow (fdV a2 c2 55),.sh (bV b),.sh (liV ws),.sh (liV ws),.sh (atV t),.no] ⟨_,rfl,rfl⟩ (by
  rintro v _ _ ⟨s,rfl,hs⟩
  refine⟨[.sh (.kl (ns.map .int)),.ow (fdV a2 c2 55),.sh (bV b),.sh (liV ws),.sh (liV ws),.sh (atV t),.sh v],[.sh (.kl (ns.map .int)),.ow (fdV a2 c2 55),.sh (bV b),.sh (liV ws),.sh (liV ws),.sh (atV t),.sh v],?_,?_,_,rfl,rfl⟩
  ·simp![hs]
  ·left
   unfold ox
   generalize liV ws=wv at *
   generalize bV b=bv at *
   generalize atV t=tv at *
   generalize fdV a2 c2 55=f2 at *
   simp![h1,h2,et,ew])
 have rg:gP [.int 2]=some (rgV 2):=qG (k:=2) (by decide)
 unfold lawQ
 generalize liV ws=wv at *
 generalize bV b=bv at *
 generalize atV t=tv at *
 generalize fdV a2 c2 55=f2 at *
 simp![rg,lo,yA]
end KK
namespace PySem.W.Fast
noncomputable def tw10002447954866145064:=trivial
noncomputable def tw10040907500636308338:=trivial
noncomputable def tw10048654952308802396:=trivial
noncomputable def tw10095786393796969282:=trivial
noncomputable def tw10138686353240351612:=trivial
noncomputable def tw10154559854317080653:=trivial
noncomputable def tw10176055113876242973:=trivial
noncomputable def tw10298903829381155692:=trivial
noncomputable def tw1046720341200088374:=trivial
noncomputable def tw1049743389841665534:=trivial
noncomputable def tw10533763611913455698:=trivial
noncomputable def tw1062555782628838908:=trivial
noncomputable def tw10679970712899806653:=trivial
noncomputable def tw10708043940776081908:=trivial
noncomputable def tw1071702152942184584:=trivial
noncomputable def tw10732631213329592075:=trivial
noncomputable def tw10773838746523410069:=trivial
noncomputable def tw10777582377550639663:=trivial
noncomputable def tw10837220867431032278:=trivial
noncomputable def tw10924934703493347019:=trivial
noncomputable def tw10956116249696229413:=trivial
noncomputable def tw11007334777341602371:=trivial
noncomputable def tw11048109468133714155:=trivial
noncomputable def tw11084648466096948889:=trivial
noncomputable def tw11094230342920521743:=trivial
noncomputable def tw11098564870908692415:=trivial
noncomputable def tw11103522141850613139:=trivial
noncomputable def tw11156937950394449826:=trivial
noncomputable def tw11158129174815456265:=trivial
noncomputable def tw11201346395600723709:=trivial
noncomputable def tw11215994564849626186:=trivial
noncomputable def tw11307203778547437713:=trivial
noncomputable def tw11358139127672544615:=trivial
noncomputable def tw11397739168513430871:=trivial
noncomputable def tw1141623302850116063:=trivial
noncomputable def tw11424497132470893090:=trivial
noncomputable def tw11461238318590340631:=trivial
noncomputable def tw11466306572010682622:=trivial
noncomputable def tw11473295311488306506:=trivial
noncomputable def tw11482744487917895183:=trivial
noncomputable def tw115330211006073802:=trivial
noncomputable def tw11542331027989812892:=trivial
noncomputable def tw11580527033397201463:=trivial
noncomputable def tw11588573865674837253:=trivial
noncomputable def tw115989814901722811:=trivial
noncomputable def tw11624122836376205102:=trivial
noncomputable def tw11646878871559018650:=trivial
noncomputable def tw11780487261864692946:=trivial
noncomputable def tw11782443457775156492:=trivial
noncomputable def tw11832392160313708273:=trivial
noncomputable def tw11846924931417146913:=trivial
noncomputable def tw11860704368758791555:=trivial
noncomputable def tw11877844316076451726:=trivial
noncomputable def tw12026019056412056819:=trivial
noncomputable def tw12037316354542600310:=trivial
noncomputable def tw12059231983619973301:=trivial
noncomputable def tw12116376168729685573:=trivial
noncomputable def tw12133244299147064230:=trivial
noncomputable def tw12157238088329864550:=trivial
noncomputable def tw12176632246470173051:=trivial
noncomputable def tw12202616881541773075:=trivial
noncomputable def tw12225131287738810863:=trivial
noncomputable def tw12239577599395692550:=trivial
noncomputable def tw12246207751063567640:=trivial
noncomputable def tw12268919362513965665:=trivial
noncomputable def tw12274727599620573970:=trivial
noncomputable def tw1229195287931926733:=trivial
noncomputable def tw12335720535271926738:=trivial
noncomputable def tw12350537864923245046:=trivial
noncomputable def tw12479440373387357502:=trivial
noncomputable def tw12482229017812138263:=trivial
noncomputable def tw12509513218878323625:=trivial
noncomputable def tw12541481963203867483:=trivial
noncomputable def tw12542867924766068893:=trivial
noncomputable def tw12554335286955063918:=trivial
noncomputable def tw12642694317154004029:=trivial
noncomputable def tw12705417556609015799:=trivial
noncomputable def tw12744086103989439979:=trivial
noncomputable def tw12765561414743609096:=trivial
noncomputable def tw12783928372446637849:=trivial
noncomputable def tw12823318362592867261:=trivial
noncomputable def tw12842107596870374367:=trivial
noncomputable def tw12898747111438254468:=trivial
noncomputable def tw12924773338350578722:=trivial
noncomputable def tw12940320871178794092:=trivial
noncomputable def tw12954802501469148114:=trivial
noncomputable def tw12992947931698935595:=trivial
noncomputable def tw13091460009333910027:=trivial
noncomputable def tw13207007562425837362:=trivial
noncomputable def tw13246088253337140755:=trivial
noncomputable def tw13400762002706838313:=trivial
noncomputable def tw13425209401244737302:=trivial
noncomputable def tw1342753030481397122:=trivial
noncomputable def tw13458228818624632133:=trivial
noncomputable def tw13482330933287248587:=trivial
noncomputable def tw13505306312574679054:=trivial
noncomputable def tw13519551744638591785:=trivial
noncomputable def tw13570617392559414254:=trivial
noncomputable def tw13576657415967368340:=trivial
noncomputable def tw1363696257830377885:=trivial
noncomputable def tw13637425451385997958:=trivial
noncomputable def tw13700938406761875078:=trivial
noncomputable def tw13743316763975503435:=trivial
noncomputable def tw13758246951708074728:=trivial
noncomputable def tw1409835154209634685:=trivial
noncomputable def tw14105259037397918290:=trivial
noncomputable def tw14144247144343704077:=trivial
noncomputable def tw14188098776244202818:=trivial
noncomputable def tw14222250287410577104:=trivial
noncomputable def tw14230295276503905899:=trivial
noncomputable def tw14264387474067672348:=trivial
noncomputable def tw14367317744610122996:=trivial
noncomputable def tw14369194973111602854:=trivial
noncomputable def tw14426917994740387523:=trivial
noncomputable def tw14467434070425686519:=trivial
noncomputable def tw14472489127878424603:=trivial
noncomputable def tw14482589152577058315:=trivial
noncomputable def tw14514002207159828243:=trivial
noncomputable def tw14591442103059701587:=trivial
noncomputable def tw14606958936509950835:=trivial
noncomputable def tw14619777050437131955:=trivial
noncomputable def tw14638641723492526076:=trivial
noncomputable def tw14735648776543311522:=trivial
noncomputable def tw14742676476353618291:=trivial
noncomputable def tw14744385804530789817:=trivial
noncomputable def tw14775329987348822244:=trivial
noncomputable def tw14831985727013532329:=trivial
noncomputable def tw14850006275667558145:=trivial
noncomputable def tw14910438298790286230:=trivial
noncomputable def tw14976194490835243519:=trivial
noncomputable def tw14986153601357023546:=trivial
noncomputable def tw14986811987496051291:=trivial
noncomputable def tw14990328851778267961:=trivial
noncomputable def tw14993020192364053782:=trivial
noncomputable def tw15003664701488551016:=trivial
noncomputable def tw15316071115009815288:=trivial
noncomputable def tw15429067819251041599:=trivial
noncomputable def tw15482410281202736774:=trivial
noncomputable def tw15489287492105919882:=trivial
noncomputable def tw15524130392467773354:=trivial
noncomputable def tw1558659199164773941:=trivial
noncomputable def tw15613129182230724200:=trivial
noncomputable def tw15637475447880249138:=trivial
noncomputable def tw15674300870469883671:=trivial
noncomputable def tw15709812716103184887:=trivial
noncomputable def tw15738422508746124175:=trivial
noncomputable def tw15789222978494781491:=trivial
noncomputable def tw15850703524880759067:=trivial
noncomputable def tw15904999308265845807:=trivial
noncomputable def tw15960279419482636824:=trivial
noncomputable def tw15964098339347313817:=trivial
noncomputable def tw15964820965085197885:=trivial
noncomputable def tw15973389578738850802:=trivial
noncomputable def tw16044710725027746731:=trivial
noncomputable def tw1607464428484304056:=trivial
noncomputable def tw16089891708535794547:=trivial
noncomputable def tw16173396214883814050:=trivial
noncomputable def tw16208736297389277189:=trivial
noncomputable def tw16258498041261897658:=trivial
noncomputable def tw1632395719483601035:=trivial
noncomputable def tw16341452444024172671:=trivial
noncomputable def tw16364724824786426173:=trivial
noncomputable def tw16376355050761840068:=trivial
noncomputable def tw16390880667360654860:=trivial
noncomputable def tw16397739808617774512:=trivial
noncomputable def tw16411235242631532562:=trivial
noncomputable def tw1647250716523417797:=trivial
noncomputable def tw16482549655293743525:=trivial
noncomputable def tw16566662236630274994:=trivial
noncomputable def tw16602088795496756316:=trivial
noncomputable def tw16639627373415801003:=trivial
noncomputable def tw16656519276542598855:=trivial
noncomputable def tw16745879330399707429:=trivial
noncomputable def tw167894637118010837:=trivial
noncomputable def tw16844108994900825524:=trivial
noncomputable def tw16898971933904413013:=trivial
noncomputable def tw16948157648092644380:=trivial
noncomputable def tw17102924591463031957:=trivial
noncomputable def tw17122318686959052790:=trivial
noncomputable def tw17122387432988355117:=trivial
noncomputable def tw17182899498643154726:=trivial
noncomputable def tw17212776950085109380:=trivial
noncomputable def tw17224717136752382897:=trivial
noncomputable def tw17236953124777212342:=trivial
noncomputable def tw17312726308583486229:=trivial
noncomputable def tw17321999615803435314:=trivial
noncomputable def tw17323569838975068971:=trivial
noncomputable def tw17347648669241854077:=trivial
noncomputable def tw17365547581134545755:=trivial
noncomputable def tw173871059132204993:=trivial
noncomputable def tw17387593557880934358:=trivial
noncomputable def tw17414354191381020474:=trivial
noncomputable def tw17416383611894075864:=trivial
noncomputable def tw17437307089787465837:=trivial
noncomputable def tw17583717798237561998:=trivial
noncomputable def tw17677286921567033502:=trivial
noncomputable def tw17713052188622979500:=trivial
noncomputable def tw17753171521029196632:=trivial
noncomputable def tw17780683451036915864:=trivial
noncomputable def tw17846052288427757369:=trivial
noncomputable def tw17890973722336887499:=trivial
noncomputable def tw18004631535064780183:=trivial
noncomputable def tw1801193327355884350:=trivial
noncomputable def tw18192731294655419100:=trivial
noncomputable def tw1826143925866550854:=trivial
noncomputable def tw18272218559879465213:=trivial
noncomputable def tw183217305837517946:=trivial
noncomputable def tw18351462485529950282:=trivial
noncomputable def tw18400429554364798113:=trivial
noncomputable def tw18408581358174335354:=trivial
noncomputable def tw18433324886613691990:=trivial
noncomputable def tw1973395768173038641:=trivial
noncomputable def tw2035835142488488824:=trivial
noncomputable def tw2049404321097810473:=trivial
noncomputable def tw2101000920912965776:=trivial
noncomputable def tw2145571221552598110:=trivial
noncomputable def tw2170062149286497658:=trivial
noncomputable def tw219168867746416852:=trivial
noncomputable def tw2192893574728585393:=trivial
noncomputable def tw2194241447796511904:=trivial
noncomputable def tw2197785825777432265:=trivial
noncomputable def tw2200109844841190523:=trivial
noncomputable def tw223446837769811928:=trivial
noncomputable def tw2265837817196505622:=trivial
noncomputable def tw2277235238396775307:=trivial
noncomputable def tw2325305843903048832:=trivial
noncomputable def tw2335566578144813424:=trivial
noncomputable def tw2486996667052683674:=trivial
noncomputable def tw2489287311474153469:=trivial
noncomputable def tw2539356938774814531:=trivial
noncomputable def tw2551399743119086741:=trivial
noncomputable def tw2571718100811987380:=trivial
noncomputable def tw2645433409664605276:=trivial
noncomputable def tw2661852575319226429:=trivial
noncomputable def tw2726736774843660939:=trivial
noncomputable def tw2735978891492923630:=trivial
noncomputable def tw2740172734759918931:=trivial
noncomputable def tw2820106139669696970:=trivial
noncomputable def tw2858604022751496109:=trivial
noncomputable def tw2877840693535492131:=trivial
noncomputable def tw2899157147502261584:=trivial
noncomputable def tw2995731023180986909:=trivial
noncomputable def tw3006402446257194314:=trivial
noncomputable def tw3066391576141914046:=trivial
noncomputable def tw3090639557287411738:=trivial
noncomputable def tw310450292856533627:=trivial
noncomputable def tw3106466167402158797:=trivial
noncomputable def tw3112959624272142971:=trivial
noncomputable def tw3260471702178131835:=trivial
noncomputable def tw3294867829422007878:=trivial
noncomputable def tw3307836720254757820:=trivial
noncomputable def tw3351190622374033021:=trivial
noncomputable def tw3405314661893851751:=trivial
noncomputable def tw3437232952017955068:=trivial
noncomputable def tw3468787026310278627:=trivial
noncomputable def tw348937174143095712:=trivial
noncomputable def tw3523262963878267371:=trivial
noncomputable def tw3550163392290197344:=trivial
noncomputable def tw3566961826932236022:=trivial
noncomputable def tw3584318458629494334:=trivial
noncomputable def tw3601836268906725508:=trivial
noncomputable def tw3698186820895347316:=trivial
noncomputable def tw3730445216880986600:=trivial
noncomputable def tw3746927277939338302:=trivial
noncomputable def tw3799150141325976902:=trivial
noncomputable def tw3879487120673610195:=trivial
noncomputable def tw3890429948095710061:=trivial
noncomputable def tw392463533166007085:=trivial
noncomputable def tw4107140434968267955:=trivial
noncomputable def tw4198663550224432694:=trivial
noncomputable def tw4308057425876940434:=trivial
noncomputable def tw4344620090765476492:=trivial
noncomputable def tw4376888218415613896:=trivial
noncomputable def tw4384673300176813047:=trivial
noncomputable def tw4562939143017751201:=trivial
noncomputable def tw4573336515041544707:=trivial
noncomputable def tw4606199788598802679:=trivial
noncomputable def tw4637320992736129094:=trivial
noncomputable def tw4658961155098631350:=trivial
noncomputable def tw4669364722438104323:=trivial
noncomputable def tw4702076440153995447:=trivial
noncomputable def tw4712268583686606672:=trivial
noncomputable def tw4810414083847577426:=trivial
noncomputable def tw4892108443022508772:=trivial
noncomputable def tw489367473947610379:=trivial
noncomputable def tw4931311511489201892:=trivial
noncomputable def tw4947629631778084058:=trivial
noncomputable def tw498997847246668274:=trivial
noncomputable def tw502195413161315430:=trivial
noncomputable def tw5073107358769552362:=trivial
noncomputable def tw508725316054613597:=trivial
noncomputable def tw5098444350443622627:=trivial
noncomputable def tw5123722287896235751:=trivial
noncomputable def tw5129479570961855039:=trivial
noncomputable def tw5222376019451337724:=trivial
noncomputable def tw5289768153784013761:=trivial
noncomputable def tw5304225265040463304:=trivial
noncomputable def tw5346516325759264132:=trivial
noncomputable def tw540467171728432593:=trivial
noncomputable def tw5405975648489176578:=trivial
noncomputable def tw5411147442168540307:=trivial
noncomputable def tw5451150518542998755:=trivial
noncomputable def tw5497992727784727483:=trivial
noncomputable def tw5533406336638813752:=trivial
noncomputable def tw5541723004782226008:=trivial
noncomputable def tw5593468670274986008:=trivial
noncomputable def tw5595244992412566301:=trivial
noncomputable def tw5645988029287385013:=trivial
noncomputable def tw5737897832521029367:=trivial
noncomputable def tw5757093807395835531:=trivial
noncomputable def tw5852470642110236292:=trivial
noncomputable def tw5873963288883761866:=trivial
noncomputable def tw6060130260537623181:=trivial
noncomputable def tw6155538789398381310:=trivial
noncomputable def tw616557446721901400:=trivial
noncomputable def tw621767857337968335:=trivial
noncomputable def tw6297108090221926488:=trivial
noncomputable def tw6312189846267336829:=trivial
noncomputable def tw6352988751173847966:=trivial
noncomputable def tw6372713179703030865:=trivial
noncomputable def tw6375028898586316795:=trivial
noncomputable def tw6385034074635206762:=trivial
noncomputable def tw6480875136788500537:=trivial
noncomputable def tw6496313519875110256:=trivial
noncomputable def tw651604581467633706:=trivial
noncomputable def tw6640087520416858283:=trivial
noncomputable def tw6640273463885992524:=trivial
noncomputable def tw6782764728122144:=trivial
noncomputable def tw6858167645329940553:=trivial
noncomputable def tw6923612364237504184:=trivial
noncomputable def tw6923919690647927639:=trivial
noncomputable def tw6925921450943425782:=trivial
noncomputable def tw7058891463973915108:=trivial
noncomputable def tw7095056310025722864:=trivial
noncomputable def tw7126645537316554731:=trivial
noncomputable def tw7240892949012157744:=trivial
noncomputable def tw7310889992850346554:=trivial
noncomputable def tw7365105286477529806:=trivial
noncomputable def tw7472571136907885306:=trivial
noncomputable def tw7528516318632804749:=trivial
noncomputable def tw7531624335155437624:=trivial
noncomputable def tw7541546920909489994:=trivial
noncomputable def tw7695176857713251154:=trivial
noncomputable def tw7721221733141510274:=trivial
noncomputable def tw7739298426242954922:=trivial
noncomputable def tw777553813929005142:=trivial
noncomputable def tw7789319225597805125:=trivial
noncomputable def tw7840950762457236092:=trivial
noncomputable def tw7872093449377512075:=trivial
noncomputable def tw7888704432006748397:=trivial
noncomputable def tw7899746673770735719:=trivial
noncomputable def tw7926187837615704948:=trivial
noncomputable def tw793081235501378564:=trivial
noncomputable def tw7939682063755078309:=trivial
noncomputable def tw8106589201949696449:=trivial
noncomputable def tw8140606054909708441:=trivial
noncomputable def tw8153771450745467495:=trivial
noncomputable def tw8174161400424850118:=trivial
noncomputable def tw8189944380241954723:=trivial
noncomputable def tw8194167892676294129:=trivial
noncomputable def tw8300999616083807862:=trivial
noncomputable def tw8323441019454390245:=trivial
noncomputable def tw834545960573530424:=trivial
noncomputable def tw8397302013828783338:=trivial
noncomputable def tw8402090860897136823:=trivial
noncomputable def tw8419718630484158536:=trivial
noncomputable def tw8423654376546920957:=trivial
noncomputable def tw85650856829797979:=trivial
noncomputable def tw8584395696817654753:=trivial
noncomputable def tw8645449213175605830:=trivial
noncomputable def tw8648658892749610595:=trivial
noncomputable def tw8714273716842312681:=trivial
noncomputable def tw8716249265770569602:=trivial
noncomputable def tw8741861287476322175:=trivial
noncomputable def tw8744494709762818956:=trivial
noncomputable def tw8757636452467822908:=trivial
noncomputable def tw8791048812215996558:=trivial
noncomputable def tw8820896296094185844:=trivial
noncomputable def tw883861888297596863:=trivial
noncomputable def tw8859638376379979206:=trivial
noncomputable def tw8901127283094005504:=trivial
noncomputable def tw8904189369144729604:=trivial
noncomputable def tw8979697253511672800:=trivial
noncomputable def tw9021617017101919727:=trivial
noncomputable def tw9079280106261281119:=trivial
noncomputable def tw9082388296644519561:=trivial
noncomputable def tw9195922492747721302:=trivial
noncomputable def tw921516523279827925:=trivial
noncomputable def tw9228299490130207752:=trivial
noncomputable def tw9323914769887718654:=trivial
noncomputable def tw9361177711857746551:=trivial
noncomputable def tw9378932040069580096:=trivial
noncomputable def tw9381888855674516100:=trivial
noncomputable def tw9393277305250224806:=trivial
noncomputable def tw9427318119860094221:=trivial
noncomputable def tw9443515586047896394:=trivial
noncomputable def tw9446026295176358405:=trivial
noncomputable def tw9450811579761368253:=trivial
noncomputable def tw9507243780528881033:=trivial
noncomputable def tw9525090075545417737:=trivial
noncomputable def tw9528842852568408896:=trivial
noncomputable def tw9573164153820917754:=trivial
noncomputable def tw9612702372217555460:=trivial
noncomputable def tw9618446776701994242:=trivial
noncomputable def tw9623537235359347031:=trivial
noncomputable def tw9792992491416445521:=trivial
noncomputable def tw9811726803263392059:=trivial
noncomputable def tw9861848886686934624:=trivial
noncomputable def tw9902330577738014374:=trivial
noncomputable def tw9934851557600835619:=trivial
noncomputable def tw993681329161716937:=trivial
noncomputable def tw9958096128646860326:=trivial
end PySem.W.Fast
open PySem PySem.W PyProof.Rows L2 L3 KK
set_option maxRecDepth 100000 in
set_option maxHeartbeats 0 in
theorem PySem.Challenge.cw_weightrooms_k18_rows_holds : PySem.Challenge.rw_weightrooms_k18_rows.Holds := by
 w_on;o_law;k_head;(case hw=>w_witness2)
 k_fill
 refine L2.walk_lawD (l:=PySem.Challenge.rw_weightrooms_k18_rows) (x:="_law_script") (k:=55) rfl rfl ⟨rfl,by decide,by decide⟩ (λw h Y=>W.km_in_of Y) ?F ?D
 case F=>
  intro w mg h KX G base kb nb
  refine vE (Ax ⟨Gr KX G (by kernel_rfl),?_⟩) (law3 mT rfl C6)
  repeat first
   |exact trivial
   |refine⟨by refine' uu KX G ?a ?l ?c ?k;(case a=>k_is);(case l=>k_is);(case c=>k_is);(case k=>k_is),?_⟩
 case D=>
  intro w mg h KX G
  refine⟨top 65,?_,(λ_ _ _ _ _ _=>ar1 λ_=>rfl)⟩
  refine' uu KX G ?a ?l ?c ?k;case a|l|c|k=>k_is
