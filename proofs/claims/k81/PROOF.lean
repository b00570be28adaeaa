import PyProof.Rows.All
import Wide.All
import OpenK.AllK
import Wide.FinOn
import Lean
import PyProof.EqAt
import PyProof.EqKinds
import PyProof.TupleCall
import PyProof.Rows.SumAny
import PyProof.EnumMake
import PyProof.Draws
import PyProof.ZipIter
import KE.KNestM
import KE.KUnpack
import KE.KxIndex
import PyProof.SetRoads
import PyProof.SetNew
import PyProof.AutoSeq1
import KE.KRevSl
import PyProof.SeqI3
import PyProof.Rows.SortWalk
import PyProof.Rows.Range3
import KE.KSortTup
import KE.KLam
import PyProof.Rows.SetFrom
import PyProof.FactsAll.list_2
import PyProof.Rows.SortStr
import PyProof.Rows.StrRules
import PyProof.StrOps
import PySem.Challenge.RW_weightrooms_k81_what_lies_in_what
local macro_rules|`(tactic|trivial)=>`(tactic|first|exact Or.inl rfl|exact Or.inr rfl)
local macro_rules|`(tactic|decide)=>`(tactic|decide +kernel)
set_option genSizeOf false
set_option genInjectivity false
set_option bootstrap.genMatcherCode false
noncomputable section
set_option Elab.async false
set_option linter.all false
def t_:=@PySem.wpAny_bind
def u_:=@List.getElem?_eq_some_iff
def v_:=@List.length_map
def w_:=@PySem.Heap.get?_push_of_some
def x_:=@Bool.and_eq_true
def y_:=@Nat.le_refl
def z_:=@Bool.false_ne_true
def A_:=@List.getElem?_eq_getElem
def B_:=@List.size_toArray
def C_:=@PySem.Heap.lt_size
def D_:=@List.map_cons
def Em:=@PySem.wpAny_pure
def E_:=@Nat.lt_of_lt_of_le
def F_:=@List.mem_cons_of_mem
def G5:=@List.mem_cons_self
def G6:=@Nat.le_trans
def G7:=@List.length_set
def G8:=@List.length_append
def G9:=@Option.map_eq_some_iff
def G_:=@List.getElem?_append_left
def Hc:=@Option.some.inj
def Hd:=@List.all_eq_true
def He:=@decide_eq_false
def Hf:=@decide_eq_true
def Hg:=@List.getElem?_append_right
def Hi:=@Nat.ne_of_lt
def Hj:=@List.getElem?_map
def Hk:=@List.mem_append_right
def Hl:=@PySem.Heap.get?_push_size
def Hm:=@beq_eq_false_iff_ne
def Ho:=@Nat.zero_le
def Hq:=@PySem.wpAny_mono
def Hr:=@List.length_cons
def Hu:=@List.getD_eq_getElem?_getD
def Hv:=@List.mem_cons
def Hw:=@beq_iff_eq
def Hx:=@List.contains_iff_mem
def Hy:=@Option.bind_eq_some_iff
def Hz:=@Nat.lt_irrefl
def HA:=@List.nil_append
def HB:=@Int.eq_ofNat_of_zero_le
def HC:=@List.getElem?_replicate
def HD:=@decide_eq_true_eq
def HE:=@List.mem_filter
def HF:=@List.length_replicate
def HG:=@Option.isSome_iff_exists
def HH:=@List.mem_of_getElem?
def HI:=@congrArg
def HJ:=@PySem.mem_of_lookup
def HK:=@PySem.wpAny_holding
def HL:=@List.length_singleton
def HM:=@List.mem_singleton
def HN:=@List.find?_cons
def HP:=@Int.mul_assoc
def HQ:=@List.filterMap_cons
def HR:=@List.lookup_cons
def HS:=@Bool.false_eq_true
def HU:=@List.getElem?_zipWith
def HV:=@List.length_nil
def HW:=@Nat.not_lt_zero
def HX:=@PySem.wpAny_passesOwn
def HY:=@PySem.wpAny_newObj_type
def HZ:=@List.pairwise_iff_getElem
def H0:=@Int.natAbs_mul
def H9:=@List.map_fst_zip
def H_:=@List.map_map
def Ia:=@PySem.Heap.SameBut.update
def Ib:=@List.length_zipWith
def Ic:=@List.map_append
def Ie:=@List.take_of_length_le
def Ig:=@Int.mul_left_comm
def Ih:=@Int.toNat_natCast
def Ii:=@List.append_assoc
def Ij:=@List.pairwise_map
def Ik:=@PySem.wpAny_truthy_bool
def Il:=@List.mapM_cons
def Im:=@List.mem_range
def Io:=@Nat.sub_self
def Ip:=@if_true
def Iq:=@List.getElem?_set_ne
def Ir:=@List.getElem_map
def Iu:=@List.mem_append_left
def Iv:=@Int.eq_of_mul_eq_mul_right
def Iw:=@Int.fmod_eq_emod_of_nonneg
def Iy:=@List.drop_nil
def Iz:=@List.take_nil
def IA:=@PySem.wpAny_standAt
def IC:=@Classical.byContradiction
def ID:=@Int.mul_ne_zero
def IE:=@List.append_nil
def IF:=@List.getElem?_eq_none_iff
def IG:=@List.mem_append
def IH:=@List.of_mem_zip
def II:=@Int.mul_comm
def IJ:=@Int.mul_right_comm
def IK:=@List.map_nil
def IL:=@PySem.F.args_tuple_add_2
def IM:=@if_false
def IP:=@PySem.wpAny_Call_Name_kw
def IQ:=@PySem.F.entry_tuple_add
def IS:=@decide_eq_false_iff_not
def IT:=@List.getElem?_set
def IU:=@of_decide_eq_true
def IV:=@PySem.Heap.get?_update_other
def IW:=@List.getElem?_set_self
def IX:=@PySem.F.slot_tuple_add
def IZ:=@List.any_cons
def I0:=@List.length_take
def I_:=@List.length_filter_le
def Ja:=@Bool.or_eq_true
def Jb:=@PySem.Heap.get?_none_of_le
def Jc:=@List.getElem?_append
def Jd:=@List.length_zip
def Je:=@List.mem_map
def Jf:=@List.nodup_cons
def Jg:=@Nat.le_of_lt
def Jh:=@Nat.lt_trans
def Ji:=@Nat.ne_of_gt
def Jj:=@PySem.wpAny_execs_nil
def Jk:=@Array.length_toList
def Jl:=@List.toList_toArray
def Jm:=@Rat.le_refl
def Jn:=@PyProof.Rows.listUpdate_at
set_option maxRecDepth 100000
namespace L2
open PySem PySem.Spec PyProof.Rows
abbrev _root_.Jo:=Str->Option Value
abbrev _root_.Jp:=List (Addr×Obj)
abbrev _root_.Jq:=Value->Shared->Prop
abbrev _root_.Jr:=List (Option Nat)
abbrev Key:=Sum Int Str
noncomputable def g7:Key->Value->Bool
 |.inl k,v=>Value.isInt k v
 |.inr x,v=>Value.isStrOf x v
noncomputable def keyH(w:World):Key->Int
 |.inl k=>hashInt k
 |.inr x=>hashStr w x
theorem bh:∀{k:Key}{v:Value},g7 k v=true->(∃i t,k=Sum.inl i/\v=Value.int i t)\/(∃x t,k=Sum.inr x/\v=Value.str x t)
 |
  .inl i,v,h=>by
  obtain⟨t,e⟩:=Value.isInt_shape (k:=i) (v:=v) h;exact .inl ⟨i,t,rfl,e⟩
 |
  .inr x,v,h=>by
  obtain⟨t,e⟩:=Value.isStrOf_shape (x:=x) (v:=v) h;exact .inr ⟨x,t,rfl,e⟩
def tw(i:Int)(t:Tok):g7 (.inl i) (.int i t)=true:=by simp [g7,Value.isInt]
def ua(x:Str)(t:Tok):g7 (.inr x) (.str x t)=true:=by simp [g7,Value.isStrOf]
def CA(a b:Int):decide ((Sum.inl a:Key)=Sum.inl b)=(a==b):=by
 by_cases e:a=b
 .subst e;simp
 .have h:¬ (Sum.inl a:Key)=Sum.inl b:=λq=>e (Sum.inl.inj q);rw[He h];exact (Hm.mpr e).symm
def Ej(a b:Str):decide ((Sum.inr a:Key)=Sum.inr b)=decide (a=b):=by
 by_cases e:a=b
 .subst e;simp
 .have h:¬ (Sum.inr a:Key)=Sum.inr b:=λq=>e (Sum.inr.inj q);rw[He h,He e]
def Dk(a:Int)(b:Str):decide ((Sum.inl a:Key)=Sum.inr b)=false:=He (λq=>nomatch q)
def Bi(a:Str)(b:Int):decide ((Sum.inr a:Key)=Sum.inl b)=false:=He (λq=>nomatch q)
noncomputable def a8(prog:Program)(w:World):PySem.KeyKind prog w Key where
 is:=g7
 hash:=keyH w
 inj
  := λv a b ha hb=>by
  rcases bh ha with ⟨i,t,rfl,rfl⟩ |⟨x,t,rfl,rfl⟩
  .rcases bh hb with ⟨j,u,rfl,e⟩ |⟨y,u,rfl,e⟩
   .injection e with e1 _;rw[e1]
   .exact nomatch e
  .rcases bh hb with ⟨j,u,rfl,e⟩ |⟨y,u,rfl,e⟩
   .exact nomatch e
   .injection e with e1 _;rw[e1]
 byValue:=λk v h=>by rcases bh h with ⟨i,t,rfl,rfl⟩ |⟨x,t,rfl,rfl⟩ <;> rfl
 pyHash:=λhv h=>by
  rcases bh hv with ⟨i,t,rfl,rfl⟩ |⟨x,t,rfl,rfl⟩
  .exact wpAny_pyHash_int h
  .exact wpAny_pyHash_str h
 eqBool:=λhu hv h=>by
  rcases bh hu with ⟨i,t,rfl,rfl⟩ |⟨x,t,rfl,rfl⟩
  .rcases bh hv with ⟨j,u,rfl,rfl⟩ |⟨y,u,rfl,rfl⟩
   .rw[CA] at h;exact wpAny_eqBool_int h
   .rw[Dk] at h;exact SeqAt.EqAt.int_str i t y u _ _ _ _ h
  .rcases bh hv with ⟨j,u,rfl,rfl⟩ |⟨y,u,rfl,rfl⟩
   .rw[Bi] at h;exact SeqAt.EqAt.str_int x t j u _ _ _ _ h
   .rw[Ej] at h;exact wpAny_eqBool_str h
 «strs»:=λk x t v h=>by
  rcases bh h with ⟨i,u,rfl,e⟩ |⟨y,u,rfl,e⟩
  .exact nomatch e
  .injection e with e1 _;subst e1;cases v <;> rfl
def oo(prog:Program)(w:World)(i:Int)(t:Tok):(a8 prog w).is (.inl i) (.int i t)=true:=tw i t
def oq(prog:Program)(w:World)(x:Str)(t:Tok):(a8 prog w).is (.inr x) (.str x t)=true:=ua x t
inductive V where
 |non |bl (b:Bool) |int (i:Int) |str (x:Str) |byt (b:Array UInt8) |flt (b:UInt64) |ref (a:Addr) |ty (n:String)
 deriving DecidableEq
def RelV:V->Value->Prop
 |.non,u=>u=Value.none
 |.bl b,u=>u=Value.bool b
 |.int i,u=>∃t,u=Value.int i t
 |.str x,u=>∃t,u=Value.str x t
 |.byt b,u=>∃t,u=Value.bytes b t
 |.flt b,u=>∃t,u=Value.float b t
 |.ref a,u=>u=Value.ref a
 |.ty n,u=>u=Value.type n
abbrev Vals:List V->List Value->Prop:=Paired RelV
def Vals.length(r:Vals xs us):xs.length=us.length:=Paired.length r
def Vals.get{xs:List V}{us:List Value}{i:Nat}{x:V}(r:Vals xs us)(e:xs[i]?=some x):∃u,us[i]?=some u/\RelV x u:=by
 induction r generalizing i with
 |nil=>rw[List.getElem?_nil] at e;cases e
 |
  cons r t ih=>
  cases i with
  |zero=>cases e;exact⟨_,rfl,r⟩
  |succ i=>exact ih (i:=i) e
def Vals.set(r:RelV x u)(i:Nat)(q:Vals xs us):Vals (xs.set i x) (us.set i u):=by
 induction q generalizing i with
 |nil=>exact .nil
 |
  cons q t ih=>
  cases i with
  |zero=>exact .cons r t
  |succ i=>exact .cons q (ih i)
def Vals.append(r:Vals xs us)(s:Vals ys ws):Vals (xs++ys) (us++ws):=by
 induction r with
 |nil=>exact s
 |cons r t ih=>exact .cons r ih
def Vals.take(n:Nat)(r:Vals xs us):Vals (xs.take n) (us.take n):=by
 induction r generalizing n with
 |nil=>rw[Iz,Iz];exact .nil
 |
  cons r t ih=>
  cases n with
  |zero=>exact .nil
  |succ n=>exact .cons r (ih n)
def Vals.drop(n:Nat)(r:Vals xs us):Vals (xs.drop n) (us.drop n):=by
 induction r generalizing n with
 |nil=>rw[Iy,Iy];exact .nil
 |
  cons r t ih=>
  cases n with
  |zero=>exact .cons r t
  |succ n=>exact ih n
def RelO:Option V->Option Value->Prop
 |some v,some u=>RelV v u
 |none,none=>True
 |_,_=>False
def KV{κ:Type}:List (κ×V)->List (κ×Value)->Prop:=Paired λ(p:κ×V) (q:κ×Value)=>p.1=q.1/\RelV p.2 q.2
noncomputable def kV:Key->V
 |.inl i=>.int i
 |.inr x=>.str x
inductive HO where
 |lst (xs:List V)
 |tup (xs:List V)
 |dK (kvs:List (Key×V)) |dT (kvs:List (List Key×V))
 |set (S:Int->Bool) (n:Nat)
 |ins (C dx:Addr) (fs:List (Str×V))
 |own (x:Addr)
 |xd (fs:List (Str×V))
 |met (f x:Addr)
 |rng (lo hi:Int)
 |frz (o:Obj) (u:HO)
 |tbl (ps:Array Value)
 |ext (φ:Heap->Prop)
abbrev Hp:=Addr->Option HO
noncomputable def upd(H:Hp)(a:Addr)(o:HO):Hp:=λb=>if b=a then some o else H b
def aP:upd H a o a=some o:=by unfold upd;rw[if_pos rfl]
def au(h:b≠a):upd H a o b=H b:=by unfold upd;rw[if_neg h]
def FX{H:Hp}{a b:Addr}{o u:HO}(h:H a=some o)(h':H b=some u)(d:o≠u):a≠b:=by intro e;subst e;rw[h] at h';exact d (Hc h')
def aD{H:Hp}{a b:Addr}{o:HO}(h:H a=some o)(h':H b=none):a≠b:=by intro e;subst e;rw[h] at h';cases h'
section
variable(P:Program)(w:World)
def ObjOk(H:Hp)(h:Heap)(a:Addr):HO->Prop
 |.lst xs=>xs.length<=sizeLine/\∃(its:List Value) (n:Nat),Vals xs its/\h.get? a=some { cls:=.type "list",data:=.seq its.toArray n }
 |.tup xs=>xs.length<=sizeLine/\∃its:List Value,Vals xs its/\IsTup h a its.toArray
 |.dK kvs=>kvs.length<=sizeLine/\(a==sysModules)=false/\∃vs,KV kvs vs/\h.DictOf (a8 P w) a vs
 |.dT kvs=>kvs.length<=sizeLine/\(a==sysModules)=false/\∃xs:List (List Key×Addr×Value),
  Paired (λ(p:List Key×V) (q:List Key×Addr×Value)=>p.1=q.1/\H q.2.1=some (.tup (p.1.map kV))/\RelV p.2 q.2.2) kvs xs/\
  ∃o es ep,h.get? a=some o/\o.ExactDict/\o.data=.dict es ep/\es.toList=xs.map (entryOfKey (tupleKind (a8 P w)))/\(xs.map (·.1)).Nodup
 |.set S n=>h.SetOf (intKind P w) a S n
 |.ins C dx fs=>H dx=some (.own a)/\fs.length<=1000/\dx≠a/\h.get? a=some (W.instObj C dx)/\
  ∃mA,h.Ns1 dx mA/\(∀f,RelO (fs.lookup f) (mA f))/\PySem.Within mA (fs.map (·.1))
 |.own _=>∃o,h.get? a=some o
 |.xd fs=>∃mA,h.Ns1 a mA/\∀f,RelO (fs.lookup f) (mA f)
 |.rng lo hi=>∃t u v,h.get? a=some { cls:=.type "range",data:=.fields #[.int lo t,.int hi u,.int 1 v] }
 |.frz o u=>h.get? a=some o/\ObjOk H h a u
 |.tbl ps=>h.get? a=some { cls:=.none,data:=.fields ps }
 |.met f x=>h.get? a=some (W.methodObj (.ref f) (.ref x))
 |.ext φ=>φ h/\(∃o,h.get? a=some o)/\∀h1 h2:Heap,φ h1->(∀o,h1.get? a=some o->h2.get? a=some o)->φ h2
def HOk(H:Hp)(h:Heap):Prop:=∀a o,H a=some o->ObjOk P w H h a o
end
section
variable{P:Program}{w:World}{H H':Hp}{h h':Heap}{a:Addr}{o:HO}
def ObjOk.lt(x:ObjOk P w H h a o):a<h.objs.size:=by
 cases o with
 |lst xs=>obtain⟨_,_,_,_,e⟩:=x;exact C_ e
 |tup xs=>obtain⟨_,_,_,p⟩:=x;exact p.lt
 |dK kvs=>obtain⟨_,_,_,_,o,_,_,e,_⟩:=x;exact C_ e
 |dT kvs=>obtain⟨_,_,_,_,o,_,_,e,_⟩:=x;exact C_ e
 |set S n=>obtain⟨o,_,_,_,e,_⟩:=x;exact C_ e
 |ins C dx fs=>obtain⟨_,_,_,e,_⟩:=x;exact C_ e
 |own y=>obtain⟨_,e⟩:=x;exact C_ e
 |xd fs=>obtain⟨_,⟨_,_,_,e,_⟩,_⟩:=x;exact C_ e
 |rng lo hi=>obtain⟨_,_,_,e⟩:=x;exact C_ e
 |frz ob u=>obtain⟨e,_⟩:=x;exact C_ e
 |tbl ps=>exact C_ (show h.get? a=some _ from x)
 |met f y=>exact C_ (show h.get? a=some _ from x)
 |ext φ=>obtain⟨_,⟨_,e⟩,_⟩:=x;exact C_ e
def Paired.mapP(r:Paired F l₁ l₂)(f:∀a b,F a b->G a b):Paired G l₁ l₂:=by
 induction r with
 |nil=>exact .nil
 |cons r t ih=>exact .cons (f _ _ r) ih
def ObjOk.stay(x:ObjOk P w H h a o)(k:∀b u,(b=a\/H b=some (.own a))->h.get? b=some u->h'.get? b=some u)
 (ho:∀b,H b=some (.own a)->H' b=some (.own a)) (ht:∀b xs,H b=some (.tup xs)->H' b=some (.tup xs)):ObjOk P w H' h' a o:=by
 induction o with
 |lst xs=>obtain⟨z,its,n,r,e⟩:=x;exact⟨z,its,n,r,k _ _ (.inl rfl) e⟩
 |tup xs=>obtain⟨z,its,r,ob,e,c⟩:=x;exact⟨z,its,r,ob,k _ _ (.inl rfl) e,c⟩
 |dK kvs=>obtain⟨z,y,vs,r,ob,es,ep,e,c⟩:=x;exact⟨z,y,vs,r,ob,es,ep,k _ _ (.inl rfl) e,c⟩
 |dT kvs=>obtain⟨z,y,xs,r,ob,es,ep,e,c⟩:=x;exact⟨z,y,xs,Paired.mapP r λp q z=>⟨z.1,ht _ _ z.2.1,z.2.2⟩,ob,es,ep,k _ _ (.inl rfl) e,c⟩
 |set S n=>obtain⟨ob,es,ep,t,e,c⟩:=x;exact⟨ob,es,ep,t,k _ _ (.inl rfl) e,c⟩
 |ins C dx fs=>obtain⟨d,z,ne,e,mA,⟨od,es,ep,e2,c⟩,r⟩:=x;exact⟨ho _ d,z,ne,k _ _ (.inl rfl) e,mA,⟨od,es,ep,k _ _ (.inr d) e2,c⟩,r⟩
 |own y=>obtain⟨ob,e⟩:=x;exact⟨ob,k _ _ (.inl rfl) e⟩
 |xd fs=>obtain⟨mA,⟨od,es,ep,e,c⟩,r⟩:=x;exact⟨mA,⟨od,es,ep,k _ _ (.inl rfl) e,c⟩,r⟩
 |rng lo hi=>obtain⟨t,u,v,e⟩:=x;exact⟨t,u,v,k _ _ (.inl rfl) e⟩
 |frz ob u ih=>obtain⟨e,q⟩:=x;exact⟨k _ _ (.inl rfl) e,ih q⟩
 |tbl ps=>have e:h.get? a=some { cls:=.none,data:=.fields ps }:=x;show h'.get? a=some { cls:=.none,data:=.fields ps };exact k a _ (.inl rfl) e
 |met f y=>have e:h.get? a=some (W.methodObj (.ref f) (.ref y)):=x;show h'.get? a=some (W.methodObj (.ref f) (.ref y));exact k a _ (.inl rfl) e
 |ext φ=>obtain⟨p,⟨o,e⟩,st⟩:=x;exact⟨st _ _ p λo q=>k _ _ (.inl rfl) q,⟨o,k _ _ (.inl rfl) e⟩,st⟩
def HOk.lt(x:HOk P w H h)(e:H a=some o):a<h.objs.size:=(x a o e).lt
def HOk.fresh(x:HOk P w H h)(e:h.objs.size<=a):H a=none:=by
 cases q:H a with
 |none=>rfl
 |some u=>exact absurd (E_ (x.lt q) e) (Hz _)
def HOk.kept(x:HOk P w H h)(k:∀b u,h.get? b=some u->h'.get? b=some u):HOk P w H h':=λa o e=>
 (x a o e).stay (λb u _ q=>k b u q) (λ_ q=>q) λ_ _ q=>q
def HOk.laid(x:HOk P w H h)(k:∀b u,h.get? b=some u->h'.get? b=some u)(hp:h.objs.size<=a)(new:ObjOk P w (upd H a o) h' a o):HOk P w (upd H a o) h':=λb u e=>by
 have hn:=x.fresh hp;by_cases hb:b=a
 .subst hb;rw[aP] at e;cases e;exact new
 .rw[au hb] at e;exact (x b u e).stay (λc v _ q=>k c v q) (λc q=>by rw[au (aD q hn)];exact q) λc xs q=>by rw[au (aD q hn)];exact q
end
def Rd(H:Hp)(a:Addr)(u:HO):Prop:=H a=some u\/∃o,H a=some (.frz o u)
def Rd.ok(r:Rd H a u)(x:HOk P w H h):ObjOk P w H h a u:=by
 rcases r with r |⟨o,r⟩
 .exact x a u r
 .obtain⟨_,q⟩:=x a _ r;exact q
def Mut:Option HO->Prop
 |some (.lst _)=>True
 |some (.dK _)=>True
 |some (.dT _)=>True
 |some (.set _ _)=>True
 |some (.ins _ _ _)=>True
 |some (.ext _)=>True
 |_=>False
section
variable{P:Program}{w:World}{H:Hp}{h h':Heap}{x e:Addr}{o':HO}
def HOk.write(ok:HOk P w H h)(mu:Mut (H x))(he:e=x\/H e=some (.own x))(k:∀b u,b≠e->h.get? b=some u->h'.get? b=some u)(heo:∃u,h'.get? e=some u)
 (new:ObjOk P w (upd H x o') h' x o'):HOk P w (upd H x o') h':=λb u q=>by
 have nown:∀c y,H c=some (.own y)->c≠x:=λc y r z=>by subst z;rw[r] at mu;exact mu
 have ntup:∀c xs,H c=some (.tup xs)->c≠x:=λc xs r z=>by subst z;rw[r] at mu;exact mu
 by_cases hb:b=x
 .subst hb;rw[aP] at q;cases q;exact new
 .rw[au hb] at q;by_cases hbe:b=e
  .have q':H b=some (.own x):=by
    rcases he with z |z
    .exact absurd (hbe.trans z) hb
    .rw[hbe];exact z
   rw[q] at q';cases q';obtain⟨v,hv⟩:=heo;exact⟨v,by rw[hbe];exact hv⟩
  .refine (ok b u q).stay (λc v hc r=>k c v ?_ r) (λc r=>by rw[au (nown c b r)];exact r) λc xs r=>by rw[au (ntup c xs r)];exact r
   rcases hc with rfl |hc
   .exact hbe
   .rintro rfl;rcases he with z |z
    .exact nown c b hc z
    .rw[hc] at z;cases z;exact hb rfl
end
structure Un(fs ex:List Addr)(H H':Hp)(h h':Heap):Prop where
 keep:∀b o,h.get? b=some o->H b=none->b∉fs->b∉ex->h'.get? b=some o
 slot:∀b o,h.get? b=some o->H b=none->b∈fs->b∉ex->∃sl,h'.get? b=some { o with slots:=sl }
 free:∀b o,h.get? b=some o->H b=none->b∉ex->H' b=none
 there:∀b o,h.get? b=some o->b∉ex->∃o',h'.get? b=some o'
 tups:∀b xs,H b=some (.tup xs)->H' b=some (.tup xs)
 frzs:∀b o u,H b=some (.frz o u)->H' b=some (.frz o u)
 tbls:∀b ps,H b=some (.tbl ps)->∃more,H' b=some (.tbl (ps++more))
section
variable{fs ex:List Addr}{H H1:Hp}{h h1 h':Heap}{a x e:Addr}{o:HO}
def Un.any(u:Un fs ex H H1 h h1)(q:h.get? b=some ob)(n:H b=none)(hx:b∉ex):∃sl,h1.get? b=some { ob with slots:=sl }:=by
 by_cases hb:b∈fs
 .exact u.slot b ob q n hb hx
 .exact⟨ob.slots,u.keep b ob q n hb hx⟩
def Un.kept(k:∀b u,h.get? b=some u->h'.get? b=some u):Un fs ex H H h h':=
 ⟨λb ob q _ _ _=>k b ob q,λb ob q _ _ _=>⟨ob.slots,k b ob q⟩,λ_ _ _ n _=>n,λb ob q _=>⟨ob,k b ob q⟩,λ_ _ q=>q,λ_ _ _ q=>q,λ_ ps q=>⟨#[],by rw[q];simp⟩⟩
def Un.refl:Un fs ex H H h h:=Un.kept λ_ _ q=>q
def Un.laid(k:∀b u,h.get? b=some u->h'.get? b=some u)(hp:h.objs.size<=a)(hn:H a=none):Un fs ex H (upd H a o) h h' where
 keep:=λb u q _ _ _=>k b u q
 slot:=λb u q _ _ _=>⟨u.slots,k b u q⟩
 free:=λb u q n _=>by rw[au (Hi (E_ (C_ q) hp))];exact n
 there:=λb u q _=>⟨u,k b u q⟩
 tups:=λb xs q=>by rw[au (aD q hn)];exact q
 frzs:=λb u xs q=>by rw[au (aD q hn)];exact q
 tbls:=λb ps q=>⟨#[],by rw[au (aD q hn),q];simp⟩
def Un.write(mu:Mut (H x))(he:e=x\/H e=some (.own x))(k:∀b u,b≠e->h.get? b=some u->h'.get? b=some u)(heo:∃u,h'.get? e=some u):Un fs ex H (upd H x o) h h':=by
 have hx:∀b,H b=none->b≠x:=λb n z=>by subst z;rw[n] at mu;exact mu
 have hb:∀b,H b=none->b≠e:=λb n z=>by
  subst z;rcases he with r |r
  .exact hx b n r
  .rw[n] at r;cases r
 have hm:∀b u,H b=some u->¬ Mut (some u)->b≠x:=λb u q nm z=>by subst z;rw[q] at mu;exact nm mu
 refine⟨λb u q n _ _=>k b u (hb b n) q,λb u q n _ _=>⟨u.slots,k b u (hb b n) q⟩,λb u q n _=>by rw[au (hx b n)];exact n,λb u q _=>?_,
  λb xs q=>by rw[au (hm b _ q λz=>z)];exact q,λb u xs q=>by rw[au (hm b _ q λz=>z)];exact q,λb ps q=>⟨#[],by rw[au (hm b _ q λz=>z),q];simp⟩⟩
 by_cases hbe:b=e
 .subst hbe;exact heo
 .exact⟨u,k b u hbe q⟩
end
noncomputable def trk(h:Heap)(H:Hp):List Addr:=(List.range h.objs.size).filter λa=>(H a).isSome
noncomputable def da(h:Heap)(H:Hp):Heap:=W.hideAll h (trk h H)
def lF(h:Heap)(H:Hp):(da h H).objs.size=h.objs.size:=W.hideAll_size _ _
def mE(e:h.get? b=some o)(n:H b=none):(da h H).get? b=some o:=
 W.hideAll_get _ e λhm=>by have q:(H b).isSome=true:=(HE.mp hm).2;rw[n] at q;simp at q
def oG(e:(da h H).get? b=some o):h.get? b=some o/\H b=none:=by
 have e':h.get? b=some o:=W.of_hideAll (trk h H) e;refine⟨e',?_⟩;cases q:H b with
 |none=>rfl
 |some x=>have hm:b∈trk h H:=HE.mpr ⟨Im.mpr (C_ e'),by simp [q]⟩;have z:(da h H).get? b=none:=W.hideAll_none (trk h H) hm;rw[z] at e;cases e
noncomputable def yB(g h:Heap)(L:Addr):List (Addr×Obj):=(List.range h.objs.size).filterMap λa=>if a=L\/(g.get? a).isSome=true then none else (h.get? a).map λo=>(a,o)
noncomputable def aw(g h:Heap)(L d:Addr):List (Addr×Obj):=(yB g h L).filter λp=>decide (p.1≠d)
structure Mod(K:W.Frag)(mg:Jo)(base:Heap):Prop where
 kin:K.In base
 glob:base.Ns mainGlobals mg
 blt:∃mb,base.Ns builtinsNs mb/\∀x:Str,x ≠ "__name__"->mb x=bootBuiltins x
 nolimit:base.NoLimit
structure Cx where
 prog:Program
 w:World
 K:W.Frag
 mg:Str->Option Value
 base:Heap
 A:Around
 N:List Str
 s₀:Shared
 H₀:Hp
 env:Env
 outer:List Env
 stack:List Env
 ex:List Addr
 fn:Str->Bool
 calm:Bool
 pn:List (Addr×Obj)
 xe:Value->Shared->Prop
noncomputable def frs(l:List Env):List Addr:=l.filterMap (·.frame)
abbrev Cx.fs(X:Cx):List Addr:=frs X.outer
def Vis(sc:Scope)(x:Str):Prop:=sc.names.lookup x=some .local\/sc.names.lookup x=some .cell\/sc.names.lookup x=some .free
def Loc(sc:Scope)(x:Str):Prop:=sc.names.lookup x=some .local\/sc.names.lookup x=some .cell
def Look(env:Env)(h:Heap)(m:Jo)(x:Str)(u:Value):Prop:=
 (env.kindOf x=some .local/\m x=some u)\/((env.kindOf x=some .cell\/env.kindOf x=some .free)/\∃c,env.cells.lookup x=some c/\h.IsCell c (some u))
structure Cx.Ok(X:Cx):Prop where
 mod:Mod X.K X.mg X.base
 kind:X.env.scope.kind=.function
 glob:X.env.globals=mainGlobals
 blt:X.env.builtins=builtinsNs
 above:X.s₀.heap.objs.size<=X.env.locals
 inj:∀x y c,X.env.cells.lookup x=some c->X.env.cells.lookup y=some c->x=y
 has:∀x,(X.env.kindOf x=some .cell\/X.env.kindOf x=some .free)->∃c,X.env.cells.lookup x=some c
 cab:∀x c,X.fn x=true->X.env.cells.lookup x=some c->X.s₀.heap.objs.size<=c
 hd:X.calm=true->X.A.handled=none
 frames:X.A.frames=some X.stack
 stk:X.stack=X.outer\/(X.stack=X.env::X.outer/\X.env.frame=some X.env.locals)
 exf:∀b∈X.ex,b≠X.env.locals/\∀x c,X.env.cells.lookup x=some c->c≠b
 bs:∀b o,X.base.get? b=some o->X.s₀.heap.get? b=some o/\X.H₀ b=none
 bsz:X.base.objs.size<=X.s₀.heap.objs.size
 noex:∀b o,X.base.get? b=some o->b∉X.ex
 exfs:∀b∈X.ex,b∉X.fs
 funs:X.s₀.heap.FunFrames X.base X.outer
 frf:∀b∈X.fs,X.H₀ b=none
structure Inv(X:Cx)(pins:Jp)(σ:List (Option V))(H:Hp)(s:Shared):Prop where
 ok:X.Ok
 os:s.os=X.s₀.os
 bare:AllBare s.gens
 base:Un X.fs X.ex X.H₀ H X.s₀.heap s.heap
 loc:∃m,s.heap.Ns X.env.locals m/\∀(i:Nat) (x:Str) (v:V),X.N[i]?=some x->σ[i]?=some (some v)->Vis X.env.scope x->∃u,RelV v u/\Look X.env s.heap m x u
 cell:∀x c,X.env.cells.lookup x=some c->∃v,s.heap.IsCell c v
 free:H X.env.locals=none
 freeC:∀x c,X.env.cells.lookup x=some c->H c=none
 pin:∀p∈X.pn++pins,s.heap.get? p.1=some p.2/\H p.1=none/\p.1≠X.env.locals/\p.1∉X.fs/\∀v,p.2.data ≠ .cell v
 hok:HOk X.prog X.w H s.heap
 len:σ.length=X.N.length
section
variable{X:Cx}{pins:Jp}{σ:List (Option V)}{H H':Hp}{s:Shared}{h':Heap}
def Cx.Ok.nofr(ok:X.Ok)(e:X.base.get? b=some o):b∉X.fs:=λhb=>by
 have:=(ok.funs.mem hb).1
 rw[e] at this;cases this
def Inv.bs(I:Inv X pins σ H s):∀b o,X.base.get? b=some o->s.heap.get? b=some o/\H b=none:=λb o e=>
 ⟨I.base.keep b o (I.ok.bs b o e).1 (I.ok.bs b o e).2 (I.ok.nofr e) (I.ok.noex b o e),I.base.free b o (I.ok.bs b o e).1 (I.ok.bs b o e).2 (I.ok.noex b o e)⟩
def Inv.bk(I:Inv X pins σ H s):∀b o,X.base.get? b=some o->s.heap.get? b=some o:=λb o e=>(I.bs b o e).1
def Inv.mod(I:Inv X pins σ H s):Mod X.K X.mg X.base:=I.ok.mod
def Inv.kIn(I:Inv X pins σ H s):X.K.In s.heap:=I.ok.mod.kin.keeps I.bk
def Inv.nolimit(I:Inv X pins σ H s):s.heap.NoLimit:=I.ok.mod.nolimit.keeps I.bk
def Inv.lt(I:Inv X pins σ H s):X.env.locals<s.heap.objs.size:=let ⟨_,hn,_⟩:=I.loc;hn.lt
def Inv.sz(I:Inv X pins σ H s):X.s₀.heap.objs.size<=s.heap.objs.size:=G6 I.ok.above (Jg I.lt)
def Inv.nofs(I:Inv X pins σ H s)(h:s.heap.objs.size<=a):a∉X.fs:=λhb=>by obtain⟨_,o,ho,_⟩:=I.ok.funs.mem hb;exact absurd (E_ (C_ ho) (G6 I.sz h)) (Hz _)
def Inv.cne(I:Inv X pins σ H s):∀x c,X.env.cells.lookup x=some c->c≠X.env.locals:=λx c e z=>by obtain⟨v,o,ho,hd⟩:=I.cell x c e;obtain⟨m,⟨o',es,ep,ho',hd',_⟩,_⟩:=I.loc;rw[z,ho'] at ho;cases ho;rw[hd'] at hd;cases hd
def Inv.funs(I:Inv X pins σ H s):s.heap.FunFrames X.base X.outer:=by
 have all:∀(l:List Env),(∀b∈frs l,b∈X.fs)->X.s₀.heap.FunFrames X.base l->s.heap.FunFrames X.base l:=by
  intro l;induction l with
  |nil=>intro _ _;trivial
  |cons env r ih=>intro hs hl;obtain⟨hk,⟨L,o,hf,hn,ho,hd⟩,hr⟩:=hl;have hL:L∈X.fs:=hs L (by unfold frs;rw[HQ,hf];exact G5);obtain⟨sl,e⟩:=I.base.slot L o ho (I.ok.frf L hL) hL λz=>I.ok.exfs L z hL;exact⟨hk,⟨L,_,hf,hn,e,hd⟩,ih (λb hb=>hs b (by unfold frs;rw[HQ,hf];exact F_ _ hb)) hr⟩
 exact all X.outer (λ_ hb=>hb) I.ok.funs
def Inv.stack(I:Inv X pins σ H s):s.heap.FunFrames X.base X.stack:=by
 rcases I.ok.stk with e |⟨e,hf⟩
 .rw[e];exact I.funs
 .rw[e];obtain⟨m,hn,_⟩:=I.loc;refine .cons (by rw[I.ok.kind];decide) hf hn ?_ I.funs;exact Jb (G6 I.ok.bsz I.ok.above)
def Inv.stkSub(I:Inv X pins σ H s):∀b∈frs X.stack,b∈X.env.locals::X.fs:=λb hb=>by
 rcases I.ok.stk with e |⟨e,hf⟩
 .rw[e] at hb;exact F_ _ hb
 .rw[e] at hb;unfold frs at hb;rw[HQ,hf] at hb;exact hb
def Inv.stkFree(I:Inv X pins σ H s):∀b∈frs X.stack,H b=none:=λb hb=>by
 rcases Hv.mp (I.stkSub b hb) with e |hb
 .rw[e];exact I.free
 .obtain⟨_,o,ho,_⟩:=I.ok.funs.mem hb;exact I.base.free b o ho (I.ok.frf b hb) λz=>I.ok.exfs b z hb
def Inv.step{g':Array GenState}{t':Nat}{d':Drawn}{ch:List Addr}(I:Inv X pins σ H s)
 (hch:∀b∈ch,(b∈X.ex\/X.s₀.heap.objs.size<=b)/\b≠X.env.locals/\(∀x c,X.env.cells.lookup x=some c->c≠b)/\∀p∈X.pn++pins,p.1≠b)
 (keep:∀b o,b≠X.env.locals->b∉X.fs->b∉ch->s.heap.get? b=some o->H b=none->h'.get? b=some o)
 (slot:∀b o,b≠X.env.locals->b∈X.fs->b∉ch->s.heap.get? b=some o->H b=none->∃sl,h'.get? b=some { o with slots:=sl }) (free:∀b o,b∉ch->s.heap.get? b=some o->H b=none->H' b=none)
 (there:∀b o,b∉ch->s.heap.get? b=some o->∃o',h'.get? b=some o')
 (tups:∀b xs,H b=some (.tup xs)->H' b=some (.tup xs)) (frzs:∀b o u,H b=some (.frz o u)->H' b=some (.frz o u)) (tbls:∀b ps,H b=some (.tbl ps)->∃more,H' b=some (.tbl (ps++more)))
 (ns:∀m,s.heap.Ns X.env.locals m->h'.Ns X.env.locals m) (hok:HOk X.prog X.w H' h') (hg:AllBare g'):
 Inv X pins σ H' { s with heap:=h',gens:=g',drawn:=d',toks:=t' }:=by
 have neL:∀b o,X.s₀.heap.get? b=some o->b≠X.env.locals:=λb o e=>Hi (E_ (C_ e) I.ok.above);have neC:∀b o,X.s₀.heap.get? b=some o->b∉X.ex->b∉ch:=λb o e hx hb=>by
  rcases (hch b hb).1 with z |z
  .exact hx z
  .exact absurd (E_ (C_ e) z) (Hz _)
 have cellK:∀x c,X.env.cells.lookup x=some c->∀v,s.heap.IsCell c v->h'.IsCell c v:=λx c e v ⟨o,ho,hd⟩=>by
  have nch:c∉ch:=λz=>(hch c z).2.2.1 x c e rfl;by_cases hc:c∈X.fs
  .obtain⟨sl,q⟩:=slot c o (I.cne x c e) hc nch ho (I.freeC x c e);exact⟨_,q,hd⟩
  .exact⟨o,keep c o (I.cne x c e) hc nch ho (I.freeC x c e),hd⟩
 refine⟨I.ok,I.os,hg,⟨λb o e n hb hx=>?_,λb o e n hb hx=>?_,λb o e n hx=>?_,λb o e hx=>?_,λb xs e=>tups b xs (I.base.tups b xs e),λb o xs e=>frzs b o xs (I.base.frzs b o xs e),λb ps e=>?_⟩,?_,λx c e=>?_,?_,λx c e=>?_,λp hp=>?_,hok,I.len⟩
 .exact keep b o (neL b o e) hb (neC b o e hx) (I.base.keep b o e n hb hx) (I.base.free b o e n hx)
 .obtain⟨sl,e1⟩:=I.base.slot b o e n hb hx;obtain⟨sl',e2⟩:=slot b _ (neL b o e) hb (neC b o e hx) e1 (I.base.free b o e n hx);exact⟨sl',e2⟩
 .obtain⟨o',e1⟩:=I.base.there b o e hx;exact free b o' (neC b o e hx) e1 (I.base.free b o e n hx)
 .obtain⟨o',e1⟩:=I.base.there b o e hx;exact there b o' (neC b o e hx) e1
 .obtain⟨m1,e1⟩:=I.base.tbls b ps e;obtain⟨m2,e2⟩:=tbls b _ e1;exact⟨m1++m2,by rw[e2,Array.append_assoc]⟩
 .obtain⟨m,hn,hl⟩:=I.loc;refine⟨m,ns m hn,λi x v e1 e2 e3=>?_⟩;obtain⟨u,r,l⟩:=hl i x v e1 e2 e3;refine⟨u,r,?_⟩;rcases l with l |⟨k,c,e,z⟩
  .exact .inl l
  .exact .inr ⟨k,c,e,cellK x c e _ z⟩
 .obtain⟨v,z⟩:=I.cell x c e;exact⟨v,cellK x c e v z⟩
 .obtain⟨m,⟨o,_,_,ho,_⟩,_⟩:=I.loc;exact free _ o (λz=>(hch _ z).2.1 rfl) ho I.free
 .obtain⟨v,o,ho,hd⟩:=I.cell x c e;exact free c o (λz=>(hch c z).2.2.1 x c e rfl) ho (I.freeC x c e)
 .obtain⟨e,n,ne,nf,d⟩:=I.pin p hp;have nch:p.1∉ch:=λz=>(hch p.1 z).2.2.2 p hp rfl;exact⟨keep p.1 p.2 ne nf nch e n,free p.1 p.2 nch e n,ne,nf,d⟩
def Inv.un{t':Nat}(I:Inv X pins σ H s)(u:Un X.fs [] H H' s.heap h')(hok:HOk X.prog X.w H' h'):Inv X pins σ H' { s with heap:=h',toks:=t' }:=by obtain⟨m,⟨o,es,ep,ho,r⟩,_⟩:=id I.loc;obtain⟨sl,hL⟩:=u.any ho I.free (by simp);exact I.step (g':=s.gens) (d':=s.drawn) (ch:=[]) (λ_ z=>nomatch z) (λb o _ hb _ e n=>u.keep b o e n hb (by simp)) (λb o _ hb _ e n=>u.slot b o e n hb (by simp)) (λb o _ e n=>u.free b o e n (by simp)) (λb o _ e=>u.there b o e (by simp)) u.tups u.frzs u.tbls (λm' hm=>by obtain⟨o',es',ep',ho',r'⟩:=hm;rw[ho] at ho';cases ho';exact⟨_,es',ep',hL,r'⟩) hok I.bare
def Inv.call{g':Array GenState}{t':Nat}{d':Drawn}{ch:List Addr}(I:Inv X pins σ H s)(u:Un (frs X.stack) ch H H' s.heap h')(hok:HOk X.prog X.w H' h')(hg:AllBare g')
 (hch:∀b∈ch,(b∈X.ex\/X.s₀.heap.objs.size<=b)/\b≠X.env.locals/\(∀x c,X.env.cells.lookup x=some c->c≠b)/\∀p∈X.pn++pins,p.1≠b):
 Inv X pins σ H' { s with heap:=h',gens:=g',drawn:=d',toks:=t' }:=by
 obtain⟨m,⟨o,es,ep,ho,r⟩,_⟩:=id I.loc;obtain⟨sl,hL⟩:=u.any ho I.free λz=>(hch _ z).2.1 rfl;exact I.step (ch:=ch) hch (λb o hL hb hc e n=>u.keep b o e n (λz=>(Hv.mp (I.stkSub b z)).elim hL hb) hc) (λb o _ _ hc e n=>u.any e n hc) (λb o hc e n=>u.free b o e n hc) (λb o hc e=>u.there b o e hc) u.tups u.frzs u.tbls (λm' hm=>by obtain⟨o',es',ep',ho',r'⟩:=hm;rw[ho] at ho';cases ho';exact⟨_,es',ep',hL,r'⟩) hok hg
def Inv.turned{t':Nat}{it:Addr}(I:Inv X pins σ H s)(k:∀b o,b≠it->s.heap.get? b=some o->h'.get? b=some o)(hn:H it=none)(hL:it≠X.env.locals)
 (h1:it∈X.ex\/X.s₀.heap.objs.size<=it) (h2:∀x c,X.env.cells.lookup x=some c->c≠it) (h3:∀p∈X.pn++pins,p.1≠it):Inv X pins σ H { s with heap:=h',toks:=t' }:=by
 have nit:∀b u,H b=some u->b≠it:=λb u e z=>by rw[z,hn] at e;cases e
 refine I.step (g':=s.gens) (d':=s.drawn) (ch:=[it]) (λb hb=>?_) (λb o _ _ hc e _=>k b o (λz=>hc (by simp [z])) e) (λb o _ _ hc e _=>⟨o.slots,k b o (λz=>hc (by simp [z])) e⟩) (λ_ _ _ _ n=>n)
  (λb o hc e=>⟨o,k b o (λz=>hc (by simp [z])) e⟩) (λ_ _ e=>e) (λ_ _ _ e=>e) (λb ps e=>⟨#[],by rw[e];simp⟩) (λm hm=>?_) (λb u e=>?_) I.bare
 .have e:b=it:=by simpa using hb
  subst e;exact⟨h1,hL,h2,h3⟩
 .obtain⟨o,es,ep,ho,r⟩:=hm;exact⟨o,es,ep,k _ o (Ne.symm hL) ho,r⟩
 .refine (I.hok b u e).stay (λc v hc q=>k c v ?_ q) (λ_ q=>q) λ_ _ q=>q;rcases hc with z |z
  .rw[z];exact nit b u e
  .exact nit c _ z
def Inv.tok(I:Inv X pins σ H s)(t:Nat):Inv X pins σ H { s with toks:=t }:=I.un (h':=s.heap) (t':=t) Un.refl I.hok
def Inv.kept(I:Inv X pins σ H s)(k:∀b u,s.heap.get? b=some u->h'.get? b=some u):Inv X pins σ H { s with heap:=h',toks:=t' }:=I.un (Un.kept k) (I.hok.kept k)
def Inv.laid(I:Inv X pins σ H s)(k:∀b u,s.heap.get? b=some u->h'.get? b=some u)(hp:s.heap.objs.size<=a)(new:ObjOk X.prog X.w (upd H a o) h' a o):
 Inv X pins σ (upd H a o) { s with heap:=h',toks:=t' }:=I.un (Un.laid k hp (I.hok.fresh hp)) (I.hok.laid k hp new)
def Inv.write(I:Inv X pins σ H s)(mu:Mut (H x))(he:e=x\/H e=some (.own x))(k:∀b u,b≠e->s.heap.get? b=some u->h'.get? b=some u)(heo:∃u,h'.get? e=some u)
 (new:ObjOk X.prog X.w (upd H x o) h' x o):Inv X pins σ (upd H x o) { s with heap:=h',toks:=t' }:=I.un (Un.write mu he k heo) (I.hok.write mu he k heo new)
def Inv.pins_of(I:Inv X pins σ H s)(h:∀p∈pins',s.heap.get? p.1=some p.2/\H p.1=none/\p.1≠X.env.locals/\p.1∉X.fs/\∀v,p.2.data ≠ .cell v):Inv X pins' σ H s:=
 ⟨I.ok,I.os,I.bare,I.base,I.loc,I.cell,I.free,I.freeC,λp hp=>(IG.mp hp).elim (λz=>I.pin p (Iu _ z)) (h p),I.hok,I.len⟩
def mT{N:List Str}(hN:N.Nodup){i j:Nat}{x:Str}(a:N[i]?=some x)(b:N[j]?=some x):i=j:=by obtain⟨h1,e1⟩:=u_.mp a;obtain⟨h2,e2⟩:=u_.mp b;exact (List.getElem_inj hN).mp (e1.trans e2.symm)
def kN(I:Inv X pins σ H s)(hN:X.N.Nodup)(hi:X.N[i]?=some x)(hx:Loc X.env.scope x)(r:RelV v u)
 (h:∀s',Inv X pins (σ.set i (some v)) H s'->(∃a,Heap.SameBut a s.heap s'.heap/\(a=X.env.locals\/X.env.cells.lookup x=some a))->Q () s') (hf:X.fn x=true\/X.env.scope.names.lookup x=some .local):wpAny M A (storeName X.env x u) Q E s:=by
 obtain⟨m,hn,hl⟩:=id I.loc;have hcls:(X.env.scope.kind == .class || (X.env.scope.kind == .module&&X.env.locals != X.env.globals))=false:=by rw[I.ok.kind];rfl
 have hiσ:i<σ.length:=by rw[I.len];exact (u_.mp hi).1
 have cne:=I.cne;have tracked:∀{a:Addr}{h':Heap},(∃o,s.heap.get? a=some o/\H a=none)->Heap.SameBut a s.heap h'->HOk X.prog X.w H h':=λ{a h'} ha hs b ob e=>by
  obtain⟨_,_,hfree⟩:=ha;refine (I.hok b ob e).stay (λc w' hc q=>(hs.2 c ?_).trans q) (λ_ q=>q) λ_ _ q=>q;rintro rfl;rcases hc with rfl |hc
  .rw[hfree] at e;cases e
  .rw[hfree] at hc;cases hc
 rcases hx with hk |hk
 .refine wpAny_storeName_local hk hn (λh' hn' hs=>?_) hcls;obtain⟨oL,_,_,hoL,_⟩:=id hn;refine h _ ⟨I.ok,I.os,I.bare,⟨λb o e n hb hx=>?_,λb o e n hb hx=>?_,I.base.free,λb o e hx=>?_,I.base.tups,I.base.frzs,I.base.tbls⟩,⟨_,hn',λj y v' e1 e2 e3=>?_⟩,λy c e=>?_,I.free,I.freeC,λp hp=>?_,tracked ⟨oL,hoL,I.free⟩ hs,by simpa using I.len⟩ ⟨_,hs,.inl rfl⟩
  .exact (hs.2 b (Hi (E_ (C_ e) I.ok.above))).trans (I.base.keep b o e n hb hx)
  .obtain⟨sl,e1⟩:=I.base.slot b o e n hb hx;exact⟨sl,(hs.2 b (Hi (E_ (C_ e) I.ok.above))).trans e1⟩
  .obtain⟨o',e1⟩:=I.base.there b o e hx;exact⟨o',(hs.2 b (Hi (E_ (C_ e) I.ok.above))).trans e1⟩
  .by_cases hj:j=i
   .subst hj;rw[hi] at e1;cases e1;rw[IW hiσ] at e2;cases e2;exact⟨u,r,.inl ⟨hk,by simp⟩⟩
   .rw[Iq (Ne.symm hj)] at e2;obtain⟨u',r',q⟩:=hl j y v' e1 e2 e3;refine⟨u',r',?_⟩;rcases q with ⟨k,e⟩ |⟨k,c,e,z⟩
    .refine .inl ⟨k,?_⟩;have:y≠x:=λe=>hj (mT hN e1 (e ▸ hi));simp [this,e]
    .exact .inr ⟨k,c,e,z.sameBut hs (cne y c e)⟩
  .obtain⟨w',z⟩:=I.cell y c e;exact⟨w',z.sameBut hs (cne y c e)⟩
  .obtain⟨e,n,ne,nf,d⟩:=I.pin p hp;exact⟨(hs.2 p.1 ne).trans e,n,ne,nf,d⟩
 .have hfn:X.fn x=true:=by
   rcases hf with z |z
   .exact z
   .rw[z] at hk;cases hk
  obtain⟨c,hc⟩:=I.ok.has x (.inl hk);obtain⟨w',z⟩:=I.cell x c hc;refine wpAny_storeName_cell I.ok.kind hk hc z (λh' hc' hs=>?_);obtain⟨oc,hoc,hocd⟩:=id z;refine h { s with heap:=h' } ⟨I.ok,I.os,I.bare,⟨λb o e n hb hx=>?_,λb o e n hb hx=>?_,I.base.free,λb o e hx=>?_,I.base.tups,I.base.frzs,I.base.tbls⟩,⟨m,hn.sameBut hs (Ne.symm (cne x c hc)),λj y v' e1 e2 e3=>?_⟩,λy c' e=>?_,I.free,I.freeC,λp hp=>?_,tracked ⟨oc,hoc,I.freeC x c hc⟩ hs,by simpa using I.len⟩ ⟨c,hs,.inr hc⟩
  .exact (hs.2 b (Hi (E_ (C_ e) (I.ok.cab x c hfn hc)))).trans (I.base.keep b o e n hb hx)
  .obtain⟨sl,e1⟩:=I.base.slot b o e n hb hx;exact⟨sl,(hs.2 b (Hi (E_ (C_ e) (I.ok.cab x c hfn hc)))).trans e1⟩
  .obtain⟨o',e1⟩:=I.base.there b o e hx;exact⟨o',(hs.2 b (Hi (E_ (C_ e) (I.ok.cab x c hfn hc)))).trans e1⟩
  .by_cases hj:j=i
   .subst hj;rw[hi] at e1;cases e1;rw[IW hiσ] at e2;cases e2;exact⟨u,r,.inr ⟨.inl hk,c,hc,hc'⟩⟩
   .rw[Iq (Ne.symm hj)] at e2;obtain⟨u',r',q⟩:=hl j y v' e1 e2 e3;refine⟨u',r',?_⟩;rcases q with q |⟨k,c',e,z'⟩
    .exact .inl q
    .refine .inr ⟨k,c',e,z'.sameBut hs ?_⟩;rintro rfl;exact hj (mT hN e1 (I.ok.inj _ _ _ e hc ▸ hi))
  .by_cases hcc:c'=c
   .subst hcc;exact⟨_,hc'⟩
   .obtain⟨w2,z2⟩:=I.cell y c' e;exact⟨w2,z2.sameBut hs hcc⟩
  .obtain⟨e,n,ne,nf,d⟩:=I.pin p hp;refine⟨(hs.2 p.1 ?_).trans e,n,ne,nf,d⟩;intro q;rw[q,hoc] at e;have q':oc=p.2:=Hc e;exact d w' (by rw[<- q'];exact hocd)
def fL(I:Inv X pins σ H s)(hN:X.N.Nodup)(hi:X.N[i]?=some x)(hx:Loc X.env.scope x)(r:RelV v u)
 (h:∀s',Inv X pins (σ.set i (some v)) H s'->Q () s') (hf:X.fn x=true\/X.env.scope.names.lookup x=some .local):wpAny M A (storeName X.env x u) Q E s:=
 kN I hN hi hx r (λs' I' _=>h s' I') hf
def Inv.call'(I:Inv X pins σ H s)(ho:s'.os=s.os)(u:Un (frs X.stack) ch H H' s.heap s'.heap)(hok:HOk X.prog X.w H' s'.heap)(hg:AllBare s'.gens)
 (hch:∀b∈ch,(b∈X.ex\/X.s₀.heap.objs.size<=b)/\b≠X.env.locals/\(∀x c,X.env.cells.lookup x=some c->c≠b)/\∀p∈X.pn++pins,p.1≠b):Inv X pins σ H' s':=by
 obtain⟨h',g',d',t',o'⟩:=s';have e:o'=s.os:=ho;subst e;exact I.call (g':=g') (t':=t') (d':=d') u hok hg hch
end
abbrev XK:=Value->Option Addr->Hp->Prop
abbrev St:=List (Option V)
abbrev VK:=V->Hp->Prop
abbrev TE:=St->Hp->VK->Prop
abbrev TT:=St->Hp->(Bool->Hp->Prop)->Prop
abbrev TA:=St->Hp->(List V->Hp->Prop)->Prop
structure Ends where
 nx:St->Hp->Prop
 rt:VK
 bk:St->Hp->Prop:=λ_ _=>False
 ct:St->Hp->Prop:=λ_ _=>False
abbrev TS:=Ends->St->Hp->Prop
def EP(X:Cx)(pins:Jp)(σ:St)(Q:VK)(u:Value)(s':Shared):Prop:=∃v H',Inv X pins σ H' s'/\RelV v u/\Q v H'
def TP(X:Cx)(pins:Jp)(σ:St)(Q:Bool->Hp->Prop)(b:Bool)(s':Shared):Prop:=∃H',Inv X pins σ H' s'/\Q b H'
def AP(X:Cx)(pins:Jp)(σ:St)(Q:List V->Hp->Prop)(us:List Value)(s':Shared):Prop:=∃vs H',Inv X pins σ H' s'/\Vals vs us/\Q vs H'
def SP(X:Cx)(pins:Jp)(D:Ends)(f:Flow)(s':Shared):Prop:=
 match f with
 |.next=>∃σ' H',Inv X pins σ' H' s'/\D.nx σ' H'
 |.brk=>∃σ' H',Inv X pins σ' H' s'/\D.bk σ' H'
 |.cont=>∃σ' H',Inv X pins σ' H' s'/\D.ct σ' H'
 |.ret u=>∃v σ' H',Inv X pins σ' H' s'/\RelV v u/\D.rt v H'
def PE(X:Cx)(e:Expr)(t:TE):Prop:=
 ∀(pins:Jp) (s:Shared) (σ:St) (H:Hp) (Q:VK),Inv X pins σ H s->t σ H Q->wpAny (model X.prog X.w) X.A (eval e X.env) (EP X pins σ Q) X.xe s
def PT(X:Cx)(e:Expr)(t:TT):Prop:=
 ∀(pins:Jp) (s:Shared) (σ:St) (H:Hp) (Q:Bool->Hp->Prop),Inv X pins σ H s->t σ H Q->wpAny (model X.prog X.w) X.A (isTrue e X.env (eval e X.env)) (TP X pins σ Q) X.xe s
def PW(X:Cx)(e:Expr)(t:TT):Prop:=
 ∀(s_:Sem Value) (pins:Jp) (s:Shared) (σ:St) (H:Hp) (Q:Bool->Hp->Prop),Inv X pins σ H s->t σ H Q->wpAny (model X.prog X.w) X.A (isTrue e X.env s_) (TP X pins σ Q) X.xe s
def PW.pt(h:PW X e t):PT X e t:=h _
def PA(X:Cx)(es:List Expr)(t:TA):Prop:=
 ∀(pos:Pos) (pins:Jp) (s:Shared) (σ:St) (H:Hp) (Q:List V->Hp->Prop),Inv X pins σ H s->t σ H Q->wpAny (model X.prog X.w) X.A (spliced (backTo pos (starEach es X.env))) (AP X pins σ Q) X.xe s
def PS(X:Cx)(st:Stmt)(t:TS):Prop:=
 ∀(pins:Jp) (s:Shared) (σ:St) (H:Hp) (D:Ends),Inv X pins σ H s->t D σ H->wpAny (model X.prog X.w) X.A (exec st X.env) (SP X pins D) X.xe s
def PSs(X:Cx)(st:List Stmt)(t:TS):Prop:=
 ∀(pins:Jp) (s:Shared) (σ:St) (H:Hp) (D:Ends),Inv X pins σ H s->t D σ H->wpAny (model X.prog X.w) X.A (execs st X.env) (SP X pins D) X.xe s
def thn(h:wpAny M A t Q E s)(hQ:∀a s,Q a s->Q' a s):wpAny M A t Q' E s:=Hq h hQ λ_ _ x=>x
section
variable{X:Cx}
def tVar(i:Nat):TE:=λσ H Q=>∃v,σ[i]?=some (some v)/\Q v H
def tC(v:V):TE:=λ_ H Q=>Q v H
def D8(hN:X.N[i]?=some x)(hv:Vis X.env.scope x)(hd:(x==("__debug__" : Str))=false)(p_:(x==("__classdict__" : Str))=false):PE X (.Name x pos) (tVar i):=by
 intro pins s σ H Q I h;obtain⟨v,e,h⟩:=h;obtain⟨m,hn,hl⟩:=I.loc;obtain⟨u,r,l⟩:=hl i x v hN e hv;have g_:EP X pins σ Q u s:=⟨v,H,I,r,h⟩;rcases l with ⟨hk,hm⟩ |⟨hk,c,hc,hcell⟩
 .exact wpAny_Name (wpAny_loadName_local I.ok.kind hk hn hm g_) hd
 .rcases hk with hk |hk
  .exact wpAny_Name (wpAny_loadName_cell I.ok.kind hk hc hcell g_) hd
  .exact wpAny_Name (wpAny_loadName_free I.ok.kind hk hc hcell g_ p_) hd
def B5{i j pos}:PE X (.Constant (.int i) j pos) (tC (.int i)):=λ_ _ _ H _ I h=>wpAny_Constant_int ⟨.int i,H,I.tok _,⟨_,rfl⟩,h⟩
def Fm{b j pos}:PE X (.Constant (.bool b) j pos) (tC (.bl b)):=λ_ _ _ H _ I h=>Constant_bool ⟨.bl b,H,I,rfl,h⟩
def Cv{j pos}:PE X (.Constant .none j pos) (tC .non):=λ_ _ _ H _ I h=>Constant_none ⟨.non,H,I,rfl,h⟩
def sk{x j pos}:PE X (.Constant (.str x) j pos) (tC (.str x)):=λ_ _ _ H _ I h=>Calls.Constant_str ⟨.str x,H,I.tok _,⟨_,rfl⟩,h⟩
def Gl(X:Cx)(x:Str):Prop:=X.env.kindOf x=some .globalImplicit
def o6(I:Inv X pins σ H s)(hg:Gl X x)(hm:X.mg x=some u)(h:Q u s)
 (hd:(x==("__debug__" : Str))=false):wpAny (model X.prog X.w) X.A (eval (.Name x pos) X.env) Q E s:=
 Calls.Name_function_global I.ok.kind hg (Calls.loadGlobal_global (by rw[I.ok.glob];exact I.mod.glob.keeps I.bk) hm h) hd
def gE(I:Inv X pins σ H s)(hg:Gl X x)(hm:X.mg x=none)(hv:bootBuiltins x=some u)(h:Q u s)
 (hn:x ≠ "__name__":=by decide) (hd:(x==("__debug__" : Str))=false:=by decide):wpAny (model X.prog X.w) X.A (eval (.Name x pos) X.env) Q E s:=by
 obtain⟨mb,h1,h2⟩:=I.mod.blt;exact Calls.Name_function_global I.ok.kind hg (Calls.loadGlobal_builtin (by rw[I.ok.glob];exact I.mod.glob.keeps I.bk) hm (by rw[I.ok.blt];exact h1.keeps I.bk) ((h2 x hn).trans hv) h) hd
def xQ(hg:Gl X x)(hm:X.mg x=none)(hv:bootBuiltins x=some u)(r:RelV v u)(hn:x ≠ "__name__")(hd:(x==("__debug__" : Str))=false):PE X (.Name x pos) (tC v):=
 λ_ _ _ H _ I h=>gE I hg hm hv ⟨v,H,I,r,h⟩ hn hd
variable{a b:Expr}{ta tb:TE}{pos:Pos}
def tB(t:TE):TT:=λσ H Q=>t σ H λx H1=>∃c,x=.bl c/\Q c H1
def Dh(h:PE X e t)(he:∀s_,isTrue e X.env s_=(do let v <- s_;standAt e.pos;holding [v] (truthy v))):PT X e (tB t):=by intro pins s σ H Q I hw;refine isTrue_plain (thn (h pins s σ H _ I hw) λv s1 ⟨x,H1,I1,r1,q1⟩=>?_) (he _);obtain⟨d,rfl,q⟩:=q1;cases r1;exact Ik ⟨H1,I1,q⟩
variable{tA tB':TT}{aw:List Expr}
def tAnd(t u:TT):TT:=λσ H Q=>t σ H λc H1=>if c=true then u σ H1 Q else Q false H1
def tOr(t u:TT):TT:=λσ H Q=>t σ H λc H1=>if c=true then Q true H1 else u σ H1 Q
def tNot(t:TT):TT:=λσ H Q=>t σ H λc H1=>Q (!c) H1
def yG(ha:PT X a tA):PW X (.BoolOp .And [a] pos) tA:=by
 intro wh pins s σ H Q I h;refine isTrue_and (thn (ha pins s σ H Q I h) λc s1 e=>?_);cases c with
 |true=>exact isTrue_and_nil e
 |false=>exact e
def BZ(ha:PT X a tA):PW X (.BoolOp .Or [a] pos) tA:=by
 intro wh pins s σ H Q I h;refine isTrue_or (thn (ha pins s σ H Q I h) λc s1 e=>?_);cases c with
 |false=>exact isTrue_or_nil e
 |true=>exact e
def AW(ha:PT X a tA)(hb:PW X (.BoolOp .And (b::aw) pos) tB'):PW X (.BoolOp .And (a::b::aw) pos) (tAnd tA tB'):=by
 intro wh pins s σ H Q I h;refine isTrue_and (thn (ha pins s σ H _ I h) λc s1 ⟨H1,I1,q1⟩=>?_);cases c with
 |true=>exact hb wh pins s1 σ H1 Q I1 q1
 |false=>exact⟨H1,I1,q1⟩
def Gm(ha:PT X a tA)(hb:PW X (.BoolOp .Or (b::aw) pos) tB'):PW X (.BoolOp .Or (a::b::aw) pos) (tOr tA tB'):=by
 intro wh pins s σ H Q I h;refine isTrue_or (thn (ha pins s σ H _ I h) λc s1 ⟨H1,I1,q1⟩=>?_);cases c with
 |true=>exact⟨H1,I1,q1⟩
 |false=>exact hb wh pins s1 σ H1 Q I1 q1
def CF(ha:PT X a tA):PT X (.UnaryOp .Not a pos) (tNot tA):=by intro pins s σ H Q I h;exact isTrue_not (ha pins s σ H (λc H1=>Q (!c) H1) I h)
def EZ(ta tb:TE):TE:=λσ H Q=>ta σ H λx H1=>∃c,x=.bl c/\if c=true then tb σ H1 Q else Q (.bl false) H1
def Fo(ta:TE):TE:=λσ H Q=>ta σ H λx H1=>∃c,x=.bl c/\Q (.bl (!c)) H1
def Ef{op}(h:PE X a t):PE X (.BoolOp op [a] pos) t:=λpins s σ H Q I hw=>BoolOp_one (h pins s σ H Q I hw)
def DQ(ha:PE X a ta)(hb:PE X (.BoolOp .And (b::aw) pos) tb):PE X (.BoolOp .And (a::b::aw) pos) (EZ ta tb):=by
 intro pins s σ H Q I h;refine BoolOp_and (thn (ha pins s σ H _ I h) λv s1 ⟨x,H1,I1,r1,q1⟩=>?_);obtain⟨c,rfl,q1⟩:=q1;cases r1;refine Ik ?_;cases c with
 |true=>exact hb pins s1 σ H1 Q I1 q1
 |false=>exact⟨.bl false,H1,I1,rfl,q1⟩
def D7(ha:PE X a ta):PE X (.UnaryOp .Not a pos) (Fo ta):=by intro pins s σ H Q I h;refine UnaryOp_ (thn (ha pins s σ H _ I h) λv s1 ⟨x,H1,I1,r1,q1⟩=>?_);obtain⟨c,rfl,q1⟩:=q1;cases r1;exact not_of (Ik ⟨.bl (!c),H1,I1,rfl,q1⟩)
end
def SqL(K:W.Frag)(H:Hp)(a:Addr)(xs:List V):Prop:=
 Rd H a (.lst xs)\/
  ∃(o:Obj) (its:Array Value) (n:Nat),K.lookup a=some o/\o.cls=.type "list" /\ o.dict=none/\o.data=.seq its n/\its.size<=sizeLine/\Vals xs its.toList
def SqT(K:W.Frag)(H:Hp)(a:Addr)(xs:List V):Prop:=
 Rd H a (.tup xs)\/
  ∃(o:Obj) (its:Array Value) (n:Nat),K.lookup a=some o/\o.cls=.type "tuple" /\ o.data=.seq its n/\its.size<=sizeLine/\Vals xs its.toList
noncomputable def absV:Value->Option V
 |.none=>some .non
 |.bool b=>some (.bl b)
 |.int i _=>some (.int i)
 |.str x _=>some (.str x)
 |.bytes b _=>some (.byt b)
 |.float b _=>some (.flt b)
 |.ref a=>some (.ref a)
 |.type n=>some (.ty n)
 |_=>none
def RelV.abs(r:RelV x u):absV u=some x:=by
 cases x with
 |non=>cases r;rfl
 |bl _=>cases r;rfl
 |int _=>obtain⟨t,rfl⟩:=r;rfl
 |str _=>obtain⟨t,rfl⟩:=r;rfl
 |byt _=>obtain⟨t,rfl⟩:=r;rfl
 |flt _=>obtain⟨t,rfl⟩:=r;rfl
 |ref _=>cases r;rfl
 |ty _=>cases r;rfl
def RelV.inj(r:RelV x u)(q:RelV y u):x=y:=Hc (r.abs.symm.trans q.abs)
def Vals.inj(r:Vals xs us)(q:Vals ys us):xs=ys:=by
 induction r generalizing ys with
 |nil=>cases q;rfl
 |
  cons r t ih=>
  cases q with
  |cons q t'=>rw[r.inj q,ih t']
section
variable{X:Cx}{pins:Jp}{σ:St}{H:Hp}{s:Shared}{a:Addr}{xs ys:List V}
def SqL.of{K:W.Frag}(h:H a=some (.lst xs)):SqL K H a xs:=.inl (.inl h)
def SqT.of{K:W.Frag}(h:H a=some (.tup xs)):SqT K H a xs:=.inl (.inl h)
def Inv.list(I:Inv X pins σ H s)(h:SqL X.K H a xs):∃its:List Value,Vals xs its/\PlainL s.heap a its.toArray/\xs.length<=sizeLine:=by
 rcases h with h |⟨o,its,n,hk,hc,hd,hs,hz,r⟩
 .obtain⟨z,its,n,r,e⟩:=h.ok I.hok;exact⟨its,r,⟨_,n,e,rfl,rfl,rfl⟩,z⟩
 .refine⟨its.toList,r,⟨o,n,I.kIn a o hk,hc,hd,by simpa using hs⟩,?_⟩;have e:=r.length;simp only[Jk] at e;omega
def Inv.tuple(I:Inv X pins σ H s)(h:SqT X.K H a xs):∃its:List Value,Vals xs its/\IsTup s.heap a its.toArray/\xs.length<=sizeLine:=by
 rcases h with h |⟨o,its,n,hk,hc,hs,hz,r⟩
 .obtain⟨z,its,r,p⟩:=h.ok I.hok;exact⟨its,r,p,z⟩
 .refine⟨its.toList,r,⟨o,I.kIn a o hk,hc,n,by simpa using hs⟩,?_⟩;have e:=r.length;simp only[Jk] at e;omega
def Inv.list_inj(I:Inv X pins σ H s)(h:SqL X.K H a xs)(h':SqL X.K H a ys):xs=ys:=by
 obtain⟨its,r,⟨o,n,e,_,_,d⟩,_⟩:=I.list h;obtain⟨its',r',⟨o',n',e',_,_,d'⟩,_⟩:=I.list h';rw[e] at e';cases e';rw[d] at d';injection d' with d1 _;have:its=its':=by simpa using HI Array.toList d1
 subst this;exact r.inj r'
def Inv.tuple_inj(I:Inv X pins σ H s)(h:SqT X.K H a xs)(h':SqT X.K H a ys):xs=ys:=by
 obtain⟨its,r,⟨o,e,_,n,d⟩,_⟩:=I.tuple h;obtain⟨its',r',⟨o',e',_,n',d'⟩,_⟩:=I.tuple h';rw[e] at e';cases e';rw[d] at d';injection d' with d1 _;have:its=its':=by simpa using HI Array.toList d1
 subst this;exact r.inj r'
end
section
variable{X:Cx}{st:Stmt}{aw:List Stmt}{t u:TS}{e:Expr}{te:TE}{pos:Pos}
def GV:TS:=λD σ H=>D.nx σ H
def tSeq(t u:TS):TS:=λD σ H=>t { D with nx:=u D } σ H
def zm:PSs X [] GV:=λ_ _ σ H _ I h=>Jj ⟨σ,H,I,h⟩
def uM(h1:PS X st t)(h2:PSs X aw u):PSs X (st::aw) (tSeq t u):=by
 intro pins s σ H D I h;refine wpAny_execs_cons (thn (h1 pins s σ H { D with nx:=u D } I h) λf s1 q=>?_);cases f with
 |next=>obtain⟨σ',H',I',q⟩:=q;exact h2 pins s1 σ' H' D I' q
 |ret v=>exact q
 |brk=>exact q
 |cont=>exact q
def zJ(h1:PS X st t):PSs X [st] t:=by
 intro pins s σ H D I h;refine wpAny_execs_cons (thn (h1 pins s σ H D I h) λf s1 q=>?_);cases f with
 |next=>exact Jj q
 |ret v=>exact q
 |brk=>exact q
 |cont=>exact q
def Inv.quiet(I:Inv X pins σ H s):interactive X.env=false:=by simp [interactive,I.ok.kind]
def EX(te:TE):TS:=λD σ H=>te σ H λ_ H1=>D.nx σ H1
def yV(he:PE X e te)(hs:swapsWith e none pos.line X.env=pure false):PS X (.Expr e pos) (EX te):=by intro pins s σ H D I h;exact wpAny_Expr_any (thn (he pins s σ H _ I h) λv s1 ⟨x,H1,I1,r1,q1⟩=>⟨σ,H1,I1,q1⟩) I.quiet hs
def tRet(te:TE):TS:=λD σ H=>te σ H D.rt
def Cb(he:PE X e te):PS X (.Return (some e) pos) (tRet te):=by intro pins s σ H D I h;exact wpAny_Return_some (thn (he pins s σ H _ I h) λv s1 ⟨x,H1,I1,r1,q1⟩=>⟨x,σ,H1,I1,r1,q1⟩)
def tIfS(c:TT)(t u:TS):TS:=λD σ H=>c σ H λb H1=>if b=true then t D σ H1 else u D σ H1
def EY(hc:PT X c tc)(ha:PSs X a t)(hb:PSs X b u):PS X (.If c a b pos) (tIfS tc t u):=by
 intro pins s σ H D I h;refine wpAny_If (thn (hc pins s σ H _ I h) λd s1 ⟨H1,I1,q1⟩=>?_);cases d with
 |true=>exact ha pins s1 σ H1 D I1 q1
 |false=>exact hb pins s1 σ H1 D I1 q1
end
abbrev TG:=V->St->Hp->(St->Hp->Prop)->Prop
abbrev TGs:=List V->St->Hp->(St->Hp->Prop)->Prop
def PG(X:Cx)(target:Expr)(t:TG):Prop:=
 ∀
  (pins:Jp) (s:Shared) (σ:St) (H:Hp) (v:V) (u:Value) (Q:St->Hp->Prop),Inv X pins σ H s->RelV v u->t v σ H Q->
  wpAny (model X.prog X.w) X.A (assign target X.env u) (λ_ s'=>∃σ' H',Inv X pins σ' H' s'/\Q σ' H') X.xe s
def PGs(X:Cx)(ts:List Expr)(t:TGs):Prop:=
 ∀
  (pins:Jp) (s:Shared) (σ:St) (H:Hp) (vs:List V) (us:List Value) (Q:St->Hp->Prop),Inv X pins σ H s->Vals vs us->t vs σ H Q->
  wpAny (model X.prog X.w) X.A (assignInOrder ((assignEach ts X.env).map (·.2)) us) (λ_ s'=>∃σ' H',Inv X pins σ' H' s'/\Q σ' H') X.xe s
abbrev qG:=V->V->V->Hp->(Hp->Prop)->Prop
def mz(X:Cx)(t:qG):Prop:=
 ∀
  (pins:Jp) (s:Shared) (σ:St) (H:Hp) (o i v:V) (ov iv u:Value) (Q:Hp->Prop),Inv X pins σ H s->RelV o ov->RelV i iv->RelV v u->t o i v H Q->
  wpAny (model X.prog X.w) X.A (setItem ov iv u) (λ_ s'=>∃H',Inv X pins σ H' s'/\Q H') X.xe s
section
variable{X:Cx}{pos:Pos}
def ja(i:Nat):TG:=λv σ H Q=>Q (σ.set i (some v)) H
def z9(hN:X.N.Nodup)(hi:X.N[i]?=some x)(hx:Loc X.env.scope x)(hf:X.fn x=true\/X.env.scope.names.lookup x=some .local):PG X (.Name x pos) (ja i):=by intro pins s σ H v u Q I r h;exact wpAny_assign_Name (fL I hN hi hx r (λs' I'=>⟨_,H,I',h⟩) hf)
def gNil:TGs:=λvs σ H Q=>vs=[]/\Q σ H
def EC(t:TG)(u:TGs):TGs:=λvs σ H Q=>∃v r,vs=v::r/\t v σ H λσ' H'=>u r σ' H' Q
def x8:PGs X [] gNil:=by intro pins s σ H vs us Q I r h;obtain⟨e,h⟩:=h;subst e;cases r;exact assignInOrder_nil ⟨σ,H,I,h⟩
def wO(h1:PG X e t)(h2:PGs X es u)
 (hs:(assignEach (e::es) X.env).map (·.2)=assign e X.env::(assignEach es X.env).map (·.2)):PGs X (e::es) (EC t u):=by
 intro pins s σ H vs us Q I r h;obtain⟨v,vr,e1,h⟩:=h;subst e1;cases r with
 |cons r rr=>rw[hs];refine assignInOrder_cons (thn (h1 pins s σ H _ _ _ I r h) λ_ s1 ⟨σ1,H1,I1,q1⟩=>?_);exact h2 pins s1 σ1 H1 _ _ Q I1 rr q1
def gTup(K:W.Frag)(n:Nat)(t:TGs):TG:=λv σ H Q=>∃a xs,v=.ref a/\SqT K H a xs/\xs.length=n/\t xs σ H Q
def tR(hc:X.calm=true)(h:PGs X es t)
 (hn:(assignEach es X.env).length=n) (hst:(assignEach es X.env).findIdx? (·.1)=none):PG X (.Tuple es k pos) (gTup X.K n t):=by
 intro pins s σ H v u Q I r hw;obtain⟨a,xs,e1,hq,hl,hw⟩:=hw;subst e1;cases r;obtain⟨its,rv,ht,hz⟩:=I.tuple hq;refine assign_Tuple_tuple (I.ok.hd hc) ht (by simp [hn,<- hl,rv.length]) hst λh' hx=>?_;have I1:Inv X pins σ H { s with heap:=h' }:=I.kept (t':=s.toks) λb o e=>hx b o (Hi (C_ e)) e;exact h pins _ σ H xs _ Q I1 (by simpa using rv) hw
def gSub(to ti:TE)(t:qG):TG:=λv σ H Q=>to σ H λo H1=>ti σ H1 λi H2=>t o i v H2 λH3=>Q σ H3
def DL(ho:PE X o to)(hi:PE X i ti)(hs:mz X t)
 (ha:∀v,assign (.Subscript o i pos) X.env v=(do
  let ov <- holding [v] (eval o X.env)
  let iv <- holding [v,ov] (eval i X.env)
  standAt pos
  holding [v,ov,iv] (setItem ov iv v)
  release [v,ov,iv] [])):PG X (.Subscript o i pos) (gSub to ti t):=by
 intro pins s σ H v u Q I r h;rw[ha];refine t_ (HK (thn (ho pins s σ H _ I h) λov s1 ⟨x,H1,I1,r1,q1⟩=>?_));refine t_ (HK (thn (hi pins s1 σ H1 _ I1 q1) λiv s2 ⟨y,H2,I2,r2,q2⟩=>?_));refine t_ (IA (t_ (HK (thn (hs pins s2 σ H2 x y v ov iv u _ I2 r1 r2 r q2) λ_ s3 ⟨H3,I3,q3⟩=>?_))));exact wpAny_release ⟨σ,H3,I3,q3⟩
def mB(te:TE)(g:TG):TS:=λD σ H=>te σ H λx H1=>g x σ H1 D.nx
def DN(he:PE X e te)(hg:PG X tg g)(hs:swapsWithSole [tg] e pos.line X.env=pure false)(hw:swappedStores [tg] e X.env=pure none)
 (h1:(assignEach [tg] X.env).map (·.2)=[assign tg X.env]):PS X (.Assign [tg] e pos) (mB te g):=by
 intro pins s σ H D I h;refine wpAny_Assign_stores (thn (he pins s σ H _ I h) λv s1 ⟨x,H1,I1,r1,q1⟩=>?_) hs hw;rw[h1];exact thn (hg pins s1 σ H1 x v _ I1 r1 q1) λ_ s2 q=>q
def Dr(hN:X.N.Nodup)(hi:X.N[i]?=some x)(hx:Loc X.env.scope x)(he:PE X e te)(hs:swapsWith e (some (.Name x r_)) pos.line X.env=pure false)(hf:X.fn x=true\/X.env.scope.names.lookup x=some .local):
 PS X (.Assign [.Name x r_] e pos) (mB te (ja i)):=by
 intro pins s σ H D I h;refine wpAny_Assign_Name (thn (he pins s σ H _ I h) λv s1 ⟨y,H1,I1,r1,q1⟩=>?_) hs;exact fL I1 hN hi hx r1 (λs2 I2=>⟨_,H1,I2,q1⟩) hf
def tPar(i j:Nat)(ta:TA):TS:=λD σ H=>ta σ H λvs H1=>∃v w,vs=[v,w]/\D.nx ((σ.set i (some v)).set j (some w)) H1
def CY{kt k2 pt2}(hc:X.calm=true)(hN:X.N.Nodup)(hi:X.N[i]?=some x)(hj:X.N[j]?=some y)(hij:i≠j)
 (hx:X.env.scope.names.lookup x=some .local) (hy:X.env.scope.names.lookup y=some .local) (ha:PA X [a,b] ta)
 (hw:swappedStores [.Tuple [.Name x px,.Name y py] kt pt] (.Tuple [a,b] k2 pt2) X.env=pure (some [x,y]))
 (hs:swapsWithSole [.Tuple [.Name x px,.Name y py] kt pt] (.Tuple [a,b] k2 pt2) pos.line X.env=pure false):
 PS X (.Assign [.Tuple [.Name x px,.Name y py] kt pt] (.Tuple [a,b] k2 pt2) pos) (tPar i j ta):=by
 intro pins s σ H D I h;rw[exec_Assign_arm];refine t_ (IA ?_);rw[hs];refine t_ (Em ?_);rw[if_neg (by decide)];refine t_ (Tuple_ (thn (ha _ pins s σ H _ I h) λus s1 ⟨vs,H1,I1,r1,q1⟩=>?_));obtain⟨v,w,e1,q1⟩:=q1;subst e1;obtain⟨u1,u2,rfl,rv,rw'⟩:∃u1 u2,us=[u1,u2]/\RelV v u1/\RelV w u2:=by
  cases r1 with
  |
   cons p q=>
   cases q with
   |cons p' q'=>cases q';exact⟨_,_,rfl,p,p'⟩
 refine HY ?_ (by show 2<=sizeLine;decide);have I2:Inv X pins σ H1 { s1 with heap:=s1.heap.push { cls:=.type "tuple",data:=.seq [u1,u2].toArray } }:=I1.kept (t':=s1.toks) λb o e=>w_ _ e;rw[hw];refine t_ (Em ?_);show wpAny (model X.prog X.w) X.A (do rule "assign.swapped-stores";let items <- unpackItems (.ref s1.heap.objs.size) 2 none;assignInOrder [λv=>bindName X.env y v,λv=>bindName X.env x v] items.reverse;pure Flow.next) _ _ _;refine t_ (wpAny_rule (t_ (unpackItems_tuple (items:=#[u1,u2]) (I.ok.hd hc) (IsTup.new s1.heap _) λh' hx'=>?_)));have I3:=I2.kept (h':=h') (t':=s1.toks) λb o e=>hx' b o (Hi (C_ e)) e;show wpAny _ _ (assignInOrder [λv=>bindName X.env y v,λv=>bindName X.env x v] [u2,u1] >>= λ_=>pure Flow.next) _ _ _;refine t_ (assignInOrder_cons (wpAny_bindName (fL I3 hN hj (.inl hy) rw' (λs2 I4=>?_) (.inr hy))));refine assignInOrder_cons (wpAny_bindName (fL I4 hN hi (.inl hx) rv (λs3 I5=>assignInOrder_nil (Em ?_)) (.inr hx)));rw[List.set_comm _ _ (Ne.symm hij)] at I5;exact⟨_,H1,I5,q1⟩
def AX(c:TT)(tb:TS):TS:=λD σ H=>∃W:Nat->St->Hp->Prop,(∃m,W m σ H)/\∀m σ H,W m σ H->
 c σ H λb H1=>if b=true then ∃N:St->Hp->Prop,(∀σ' H',N σ' H'->∃m',m'<m/\W m' σ' H')/\tb { D with nx:=N,ct:=N,bk:=D.nx } σ H1 else D.nx σ H1
def uA(hp:PassesOwn (model X.prog X.w) X.A X.env X.xe)(hc:PT X c tc)(hb:PSs X body tb):PS X (.While c body [] pos) (AX tc tb):=by
 intro pins s σ H D I h;obtain⟨W,⟨m0,w0⟩,turn⟩:=h;refine wpAny_While (codeAny_whileLoop (λn s'=>∃σ' H',Inv X pins σ' H' s'/\W n σ' H') ?_ m0 ⟨σ,H,I,w0⟩);rintro n s1 ⟨σ1,H1,I1,w1⟩;refine HX hp (thn (hc pins s1 σ1 H1 _ I1 (turn n σ1 H1 w1)) λb s2 ⟨H2,I2,q2⟩=>?_);cases b with
 |
  true=>
  obtain⟨N,hN,q2⟩:=q2;rw[if_pos rfl];refine HX hp (thn (hb pins s2 σ1 H2 _ I2 q2) λf s3 q3=>?_);cases f with
  |next=>obtain⟨σ3,H3,I3,n3⟩:=q3;obtain⟨m',hm,w3⟩:=hN σ3 H3 n3;exact⟨m',hm,σ3,H3,I3,w3⟩
  |cont=>obtain⟨σ3,H3,I3,n3⟩:=q3;obtain⟨m',hm,w3⟩:=hN σ3 H3 n3;exact⟨m',hm,σ3,H3,I3,w3⟩
  |brk=>exact q3
  |ret v=>exact q3
 |false=>rw[if_neg z_];exact Jj ⟨σ1,H2,I2,q2⟩
end
structure It where
 go:Nat->Hp->Prop
 yld:Nat->Hp->V->Hp->Prop
 stop:Nat->Hp->Prop
def iG(X:Cx)(pins:Jp)(H:Hp)(b:Addr):Prop:=
 H b=none/\b≠X.env.locals/\b∉X.fs/\(b∈X.ex\/X.s₀.heap.objs.size<=b)/\(∀x c,X.env.cells.lookup x=some c->c≠b)/\∀p∈X.pn++pins,p.1≠b
def Inv.fpOk(I:Inv X pins σ H s)(hb:s.heap.objs.size<=b)(hn:H' b=none):iG X pins H' b:=by
 refine⟨hn,Ji (E_ I.lt hb),I.nofs hb,.inr (G6 I.sz hb),λx c e z=>?_,λp hp z=>?_⟩
 .obtain⟨v,q⟩:=I.cell x c e;exact absurd (E_ q.lt (by rw[z];exact hb)) (Hz _)
 .exact absurd (E_ (C_ (I.pin p hp).1) (by rw[z];exact hb)) (Hz _)
structure Turn(P:Program)(w:World)(K:W.Frag)(tg:Expr)(J:It)(fp:List Addr)(it:Addr)(tn:Nat->Heap->Prop):Prop where
 mem:it∈fp
 obj:∀i h,tn i h->∀b∈fp,∃o,h.get? b=some o/\∀v,o.data ≠ .cell v
 keep:∀i h h',tn i h->(∀b∈fp,∀o,h.get? b=some o->h'.get? b=some o)->tn i h'
 item:∀(X:Cx),X.prog=P->X.w=w->X.K=K->X.calm=true->∀(i:Nat) (pins:Jp) (s:Shared) (σ:St) (H:Hp) (E:Jq),Inv X pins σ H s->(∀b∈fp,iG X pins H b)->tn i s.heap->J.go i H->
  wpAny (model P w) X.A (pyNext (.ref it)) (λr s1=>∃u,r=some u/\
   wpAny (model P w) X.A (letOwnedTupleGo tg (.ref it) u) (λ_ s2=>∃x H',Inv X pins σ H' s2/\RelV x u/\J.yld i H x H'/\tn (i+1) s2.heap/\∀b∈fp,H' b=none) E s1) E s
 done:∀(X:Cx),X.prog=P->X.w=w->X.K=K->X.calm=true->∀(i:Nat) (pins:Jp) (s:Shared) (σ:St) (H:Hp) (E:Jq),Inv X pins σ H s->(∀b∈fp,iG X pins H b)->tn i s.heap->J.stop i H->
  wpAny (model P w) X.A (pyNext (.ref it)) (λr s1=>r=none/\Inv X pins σ H s1) E s
 self:∀(A:Around) (i:Nat) (s:Shared) (Q:Jq) (E:Jq),tn i s.heap->Q (.ref it) s->wpAny (model P w) A (pyIter (.ref it)) Q E s
abbrev TI:=St->Hp->(It->Hp->Prop)->Prop
def PIE(X:Cx)(pins:Jp)(σ:St)(tg:Expr)(R:It->Hp->Prop)(itv:Value)(s2:Shared):Prop:=
 ∃(it:Addr) (fp:List Addr) (tn:Nat->Heap->Prop) (J:It) (H':Hp),itv=.ref it/\Inv X pins σ H' s2/\Turn X.prog X.w X.K tg J fp it tn/\tn 0 s2.heap/\(∀b∈fp,iG X pins H' b)/\R J H'
def PI(X:Cx)(tg a_:Expr)(wi:TI):Prop:=
 ∀
  (pins:Jp) (s:Shared) (σ:St) (H:Hp) (R:It->Hp->Prop),Inv X pins σ H s->wi σ H R->
  wpAny (model X.prog X.w) X.A (eval a_ X.env) (λv s1=>wpAny (model X.prog X.w) X.A (pyIter v) (PIE X pins σ tg R) X.xe s1) X.xe s
def qP(ho:s.heap.get? it=some o)(hc:o.cls=.type n)(hd:o.data=.fields vs)
 (hn:["enumerate", "zip", "dict_itemiterator", "dict_reverseitemiterator", "odict_iterator", "itertools.zip_longest", "itertools.pairwise"].contains n=false) (hQ:Q () s):wpAny M A (letOwnedTupleGo tg (.ref it) u) Q E s:=by
 unfold letOwnedTupleGo;cases tg
  <;> first
  |exact Em hQ
  |(cases u <;> first
   |exact Em hQ
   |(
    refine t_ (wpAny_load ho ?_);rw[hc,hd];show wpAny M A (if (["enumerate", "zip", "dict_itemiterator", "dict_reverseitemiterator", "odict_iterator", "itertools.zip_longest", "itertools.pairwise"].contains n&&vs[0]?==some (rawInt _))=true then _ else _) Q E s;rw[if_neg (by intro h;rw[hn,Bool.false_and] at h;cases h)];exact Em hQ))
noncomputable def Itl(K:W.Frag)(a:Addr):It:=
 ⟨λi H=>∃xs x,SqL K H a xs/\xs[i]?=some x,λi H x H'=>H'=H/\∀xs,SqL K H a xs->xs[i]?=some x,λi H=>∃xs,SqL K H a xs/\xs.length<=i⟩
noncomputable def Itt(K:W.Frag)(a:Addr):It:=
 ⟨λi H=>∃xs x,SqT K H a xs/\xs[i]?=some x,λi H x H'=>H'=H/\∀xs,SqT K H a xs->xs[i]?=some x,λi H=>∃xs,SqT K H a xs/\xs.length<=i⟩
noncomputable def Itr(lo:Int)(n:Nat):It:=⟨λi _=>i<n,λi H x H'=>H'=H/\x=.int (lo+i),λi _=>n<=i⟩
def tF{P:Program}{w:World}{K:W.Frag}{tg:Expr}(a it:Addr):Turn P w K tg (Itl K a) [it] it (λi h=>h.IsListIter it a i) where
 mem:=by simp
 obj:=λi h st b hb=>by
  have e:b=it:=by simpa using hb
  subst e;obtain⟨o,e,c,d⟩:=st;exact⟨o,e,λv z=>by rw[d] at z;cases z⟩
 keep:=λi h h' st k=>st.at λo e=>k it (by simp) o e
 item:=by intro X hP hw hK hc i pins s σ H E I hf st hg;subst hP hw hK;obtain⟨xs,x,hq,hx⟩:=hg;obtain⟨its,rv,p,hz⟩:=I.list hq;obtain⟨u,hu,ru⟩:=rv.get hx;obtain⟨f0,f1,f2,f3,f4,f5⟩:=hf it (by simp);refine wpAny_pyNext_list_item st p.isList (x:=u) (by simpa using hu) λh' st' sb=>?_;have I1:Inv X pins σ H { s with heap:=h' }:=I.turned (t':=s.toks) (λb o hb e=>(sb.2 b hb).trans e) f0 f1 f3 f4 f5;obtain⟨o,e,c,d⟩:=id st';exact⟨u,rfl,qP (s:={ s with heap:=h' }) e c d (by decide) ⟨x,H,I1,ru,⟨rfl,λys hy=>by rw[I.list_inj hy hq];exact hx⟩,st',λb hb=>(hf b hb).1⟩⟩
 done:=by intro X hP hw hK hc i pins s σ H E I hf st hg;subst hP hw hK;obtain⟨xs,hq,hx⟩:=hg;obtain⟨its,rv,p,hz⟩:=I.list hq;obtain⟨f0,f1,f2,f3,f4,f5⟩:=hf it (by simp);have hl:=rv.length;exact wpAny_pyNext_list_end (I.ok.hd hc) st p.isList (by simp;omega) λh' eb=>⟨rfl,I.turned (t':=s.toks) (λb o hb e=>eb b o hb e) f0 f1 f3 f4 f5⟩
 self:=λ_ _ _ _ _ st h=>wpAny_pyIter_listiter st h
def qF{P:Program}{w:World}{K:W.Frag}{tg:Expr}(a it:Addr):Turn P w K tg (Itt K a) [it] it (λi h=>h.IsTupleIter it a i) where
 mem:=by simp
 obj:=λi h st b hb=>by
  have e:b=it:=by simpa using hb
  subst e;obtain⟨o,e,c,d⟩:=st;exact⟨o,e,λv z=>by rw[d] at z;cases z⟩
 keep:=λi h h' st k=>st.at λo e=>k it (by simp) o e
 item:=by intro X hP hw hK hc i pins s σ H E I hf st hg;subst hP hw hK;obtain⟨xs,x,hq,hx⟩:=hg;obtain⟨its,rv,p,hz⟩:=I.tuple hq;obtain⟨u,hu,ru⟩:=rv.get hx;obtain⟨f0,f1,f2,f3,f4,f5⟩:=hf it (by simp);refine wpAny_pyNext_tuple_item st (show s.heap.IsTuple a its.toArray from p) (x:=u) (by simpa using hu) λh' st' sb=>?_;have I1:Inv X pins σ H { s with heap:=h' }:=I.turned (t':=s.toks) (λb o hb e=>(sb.2 b hb).trans e) f0 f1 f3 f4 f5;obtain⟨o,e,c,d⟩:=id st';exact⟨u,rfl,qP (s:={ s with heap:=h' }) e c d (by decide) ⟨x,H,I1,ru,⟨rfl,λys hy=>by rw[I.tuple_inj hy hq];exact hx⟩,st',λb hb=>(hf b hb).1⟩⟩
 done:=by intro X hP hw hK hc i pins s σ H E I hf st hg;subst hP hw hK;obtain⟨xs,hq,hx⟩:=hg;obtain⟨its,rv,p,hz⟩:=I.tuple hq;obtain⟨f0,f1,f2,f3,f4,f5⟩:=hf it (by simp);have hl:=rv.length;exact wpAny_pyNext_tuple_end (I.ok.hd hc) st (show s.heap.IsTuple a its.toArray from p) (by simp;omega) λh' eb=>⟨rfl,I.turned (t':=s.toks) (λb o hb e=>eb b o hb e) f0 f1 f3 f4 f5⟩
 self:=λ_ _ _ _ _ st h=>wpAny_pyIter_tupleiter st h
def pD{P:Program}{w:World}{K:W.Frag}{tg:Expr}(it:Addr)(lo:Int)(n:Nat):Turn P w K tg (Itr lo n) [it] it (λi h=>IsRangeIter h it (lo+(i:Nat)*1) ((n:Int)-(i:Nat)) 1) where
 mem:=by simp
 obj
  := λi h st b hb=>by
  have e:b=it:=by simpa using hb
  subst e;exact⟨_,st,λv z=>by have z':Data.fields _=Data.cell v:=z;cases z'⟩
 keep:=λi h h' st k=>k it (by simp) _ st
 item:=by intro X hP hw hK hc i pins s σ H E I hf st hg;subst hP hw hK;obtain⟨f0,f1,f2,f3,f4,f5⟩:=hf it (by simp);have W:=Walks.range (prog:=X.prog) (w:=X.w) (I.ok.hd hc) it lo 1 n;refine W.item i s _ _ hg st λv h' tk hv st' kk=>?_;obtain⟨t,rfl⟩:=hv;have I1:Inv X pins σ H { s with heap:=h',toks:=tk }:=I.turned (λb o hb e=>kk b o (by simpa using hb) e) f0 f1 f3 f4 f5;refine⟨_,rfl,qP (s:={ s with heap:=h',toks:=tk }) (n:="range_iterator") st' rfl rfl (by decide) ⟨.int (lo+i),H,I1,⟨t,?_⟩,⟨rfl,rfl⟩,st',λb hb=>(hf b hb).1⟩⟩;rw[Int.mul_one]
 done:=by intro X hP hw hK hc i pins s σ H E I hf st hg;subst hP hw hK;obtain⟨f0,f1,f2,f3,f4,f5⟩:=hf it (by simp);exact wpAny_pyNext_range_end (I.ok.hd hc) st (by have:n<=i:=hg;omega) λh' eb=>⟨rfl,I.turned (t':=s.toks) (λb o hb e=>eb b o hb e) f0 f1 f3 f4 f5⟩
 self:=λ_ _ _ _ _ st h=>wpAny_pyIter_rangeiter st h
section
variable{X:Cx}{tg:Expr}
def uN{pins:Jp}{σ:St}{H:Hp}{s:Shared}{R:It->Hp->Prop}{E:Jq}{lo hi:Int}{t u v:Tok}{tk:Nat}(I:Inv X pins σ H s)(h1:-(2^62)<=lo)(h2:lo<2^62)(h3:-(2^62)<=hi)(h4:hi<2^62)
 (q:R (Itr lo (hi-lo).toNat) H):wpAny (model X.prog X.w) X.A (pyIter (.ref s.heap.objs.size)) (PIE X pins σ tg R) E { s with heap:=s.heap.push { cls:=.type "range",data:=.fields #[.int lo t,.int hi u,.int 1 v] },toks:=tk }:=by
 refine wpAny_pyIter_range (IsRange.new ..) (small_one h1 h2 h3 h4) ?_;have I1:Inv X pins σ H { s with heap:=s.heap.push { cls:=.type "range",data:=.fields #[.int lo t,.int hi u,.int 1 v] },toks:=tk }:=I.kept λb o e=>w_ _ e;refine⟨(s.heap.push { cls:=.type "range",data:=.fields #[.int lo t,.int hi u,.int 1 v] }).objs.size,[(s.heap.push { cls:=.type "range",data:=.fields #[.int lo t,.int hi u,.int 1 v] }).objs.size],_,_,H,rfl,
  I1.kept (t':=tk) λb o e=>w_ _ e,pD _ lo (hi-lo).toNat,?_,λb hb=>?_,q⟩
 .have e1:lo+((0:Nat):Int)*1=lo:=by simp
  have e2:(((hi-lo).toNat:Nat):Int)-((0:Nat):Int)=Builtin.Range.rangeSize lo hi 1:=by rw[rangeSize_one];split <;> omega
  show IsRangeIter _ _ (lo+((0:Nat):Int)*1) ((((hi-lo).toNat:Nat):Int)-((0:Nat):Int)) 1;rw[e1,e2];exact Hl _ rfl
 .have e:b=(s.heap.push { cls:=.type "range",data:=.fields #[.int lo t,.int hi u,.int 1 v] }).objs.size:=by simpa using hb
  subst e;exact I1.fpOk (y_ _) (I1.hok.fresh (y_ _))
def FO(ta:TA):TI:=λσ H R=>ta σ H λvs H1=>∃j:Int,vs=[.int j]/\-(2^62)<=j/\j<2^62/\R (Itr 0 j.toNat) H1
def sf(hg:Gl X "range")(hm:X.mg "range"=none)(ha:PA X [a] ta)(hs:starEach [a] X.env=[(false,eval a X.env)]):PI X tg (.Call (.Name "range" p) [a] [] pos) (FO ta):=by
 intro pins s σ H R I h;refine Call_ (gE I hg hm boot_range (PyProof.Rows.callWith_type1 (thn (ha pos pins s σ H _ I h) λus s1 ⟨vs,H1,I1,r1,q1⟩=>?_) hs rfl));obtain⟨j,e,q1,q2,q⟩:=q1;subst e;cases r1 with
 |cons r rr=>cases rr;obtain⟨t,rfl⟩:=r;exact call_range_1 (uN I1 (by omega) (by omega) q1 q2 (by simpa using q))
def tFor(wi:TI)(g:TG)(tb:TS):TS:=λD σ H=>wi σ H λJ H1=>∃W:Nat->Nat->St->Hp->Prop,(∃m,W 0 m σ H1)/\∀i m σ H,W i m σ H->
 (J.stop i H/\D.nx σ H)\/(J.go i H/\∃N:St->Hp->Prop,(∀σ' H',N σ' H'->∃m',m'<m/\W (i+1) m' σ' H')/\∀x H',J.yld i H x H'->g x σ H' λσ2 H2=>tb { D with nx:=N,ct:=N,bk:=D.nx } σ2 H2)
noncomputable def gq(fp:List Addr)(h:Heap):List (Addr×Obj):=fp.filterMap λb=>(h.get? b).map λo=>(b,o)
def dG(hb:b∈fp)(e:h.get? b=some o):(b,o)∈gq fp h:=List.mem_filterMap.mpr ⟨b,hb,by rw[e];rfl⟩
def sE(hp:p∈gq fp h):p.1∈fp/\h.get? p.1=some p.2:=by
 obtain⟨b,hb,e⟩:=List.mem_filterMap.mp hp;cases q:h.get? b with
 |none=>rw[q] at e;cases e
 |some o=>rw[q] at e;have e':(b,o)=p:=Hc e;subst e';exact⟨hb,q⟩
def Inv.pinned(I:Inv X pins σ H s)(hf:∀b∈fp,iG X pins H b)(ho:∀b∈fp,∃o,s.heap.get? b=some o/\∀v,o.data ≠ .cell v):Inv X (pins++gq fp s.heap) σ H s:=
 I.pins_of λp hp=>(IG.mp hp).elim (λz=>I.pin p (Hk _ z)) λz=>by obtain⟨hb,e⟩:=sE z;obtain⟨f0,f1,f2,_⟩:=hf p.1 hb;obtain⟨o,e',d⟩:=ho p.1 hb;rw[e] at e';cases e';exact⟨e,f0,f1,f2,d⟩
def Inv.unpinned(I:Inv X (pins++pl) σ H s):Inv X pins σ H s:=I.pins_of λp hp=>I.pin p (Hk _ (Iu _ hp))
def Dt(hp:PassesOwn (model X.prog X.w) X.A X.env X.xe)(hc:X.calm=true)(hi:PI X tg a_ wi)(hg:PG X tg g)(hb:PSs X body tb)
 (hs:∀x,foldedSetIterable a_ X.env x=pure x):PS X (.For tg a_ body [] pos) (tFor wi g tb):=by
 intro pins s σ H D I h;refine wpAny_For (thn (hi pins s σ H _ I h) λv s1 h1=>thn h1 λitv s2 h2=>?_) hs;obtain⟨it,fp,tn,J,H2,e,I2,T,st2,f2,W,⟨m0,w0⟩,turn⟩:=h2;subst e;have stat:∀{H':Hp},(∀b∈fp,H' b=none)->∀b∈fp,iG X pins H' b:=λhn b hb=>⟨hn b hb,(f2 b hb).2⟩;refine codeAny_forLoop_any (λn s'=>∃i σ' H',Inv X pins σ' H' s'/\tn i s'.heap/\(∀b∈fp,H' b=none)/\W i n σ' H') ?_ m0 ⟨0,σ,H2,I2,st2,λb hb=>(f2 b hb).1,w0⟩;rintro n s3 ⟨i,σ3,H3,I3,st3,fr3,w3⟩;rcases turn i n σ3 H3 w3 with ⟨stop,qn⟩ |⟨go,N,hN,step⟩
 .refine HX hp (thn (T.done X rfl rfl rfl hc i pins s3 σ3 H3 X.xe I3 (stat fr3) st3 stop) λr s4 ⟨hr,I4⟩=>?_);subst hr;exact Jj ⟨σ3,H3,I4,qn⟩
 .refine HX hp (thn (T.item X rfl rfl rfl hc i pins s3 σ3 H3 X.xe I3 (stat fr3) st3 go) λr s4 ⟨u,hr,h4⟩=>?_);subst hr;refine HX hp (thn h4 λ_ s5 ⟨x,H5,I5,r5,y5,st5,fr5⟩=>?_);have I5':=I5.pinned (stat fr5) (T.obj _ _ st5);refine HX hp (thn (hg _ s5 σ3 H5 x u _ I5' r5 (step x H5 y5)) λ_ s6 ⟨σ6,H6,I6,q6⟩=>?_);refine HX hp (thn (hb _ s6 σ6 H6 _ I6 q6) λf s7 q7=>?_);have again:∀{σ7:St}{H7:Hp},Inv X (pins++gq fp s5.heap) σ7 H7 s7->N σ7 H7->∃m,m<n/\∃i σ' H',Inv X pins σ' H' s7/\tn i s7.heap/\(∀b∈fp,H' b=none)/\W i m σ' H':=λ{σ7 H7} I7 n7=>by obtain⟨m',hm,w7⟩:=hN σ7 H7 n7;refine⟨m',hm,i+1,σ7,H7,I7.unpinned,T.keep _ _ _ st5 λb hb o e=>(I7.pin (b,o) (Hk _ (Hk _ (dG hb e)))).1,λb hb=>?_,w7⟩;obtain⟨o,e,d⟩:=T.obj _ _ st5 b hb;exact (I7.pin (b,o) (Hk _ (Hk _ (dG hb e)))).2.1
  cases f with
  |next=>obtain⟨σ7,H7,I7,n7⟩:=q7;exact again I7 n7
  |cont=>obtain⟨σ7,H7,I7,n7⟩:=q7;exact again I7 n7
  |brk=>obtain⟨σ7,H7,I7,q7⟩:=q7;exact⟨σ7,H7,I7.unpinned,q7⟩
  |ret v=>obtain⟨x7,σ7,H7,I7,r7,q7⟩:=q7;exact⟨x7,σ7,H7,I7.unpinned,r7,q7⟩
end
abbrev R2:=V->V->Hp->VK->Prop
def OpR(X:Cx)(f:Value->Value->Sem Value)(r:R2):Prop:=
 ∀
  (pins:Jp) (s:Shared) (σ:St) (H:Hp) (x y:V) (v u:Value) (Q:VK),Inv X pins σ H s->RelV x v->RelV y u->r x y H Q->
  wpAny (model X.prog X.w) X.A (f v u) (EP X pins σ Q) X.xe s
def UnR(X:Cx)(f:Value->Sem Value)(r:V->Hp->VK->Prop):Prop:=
 ∀
  (pins:Jp) (s:Shared) (σ:St) (H:Hp) (x:V) (v:Value) (Q:VK),Inv X pins σ H s->RelV x v->r x H Q->
  wpAny (model X.prog X.w) X.A (f v) (EP X pins σ Q) X.xe s
def CallR(X:Cx)(f:Value)(r:List V->Hp->VK->Prop):Prop:=
 ∀
  (pins:Jp) (s:Shared) (σ:St) (H:Hp) (xs:List V) (us:List Value) (Q:VK),Inv X pins σ H s->Vals xs us->r xs H Q->
  wpAny (model X.prog X.w) X.A (call f us) (EP X pins σ Q) X.xe s
def tOp(r:R2)(ta tb:TE):TE:=λσ H Q=>ta σ H λx H1=>tb σ H1 λy H2=>r x y H2 Q
def tUn(r:V->Hp->VK->Prop)(ta:TE):TE:=λσ H Q=>ta σ H λx H1=>r x H1 Q
def rI(C:Int->Int->Prop)(g:Int->Int->V):R2:=λx y H Q=>∃i j,x=.int i/\y=.int j/\C i j/\Q (g i j) H
def rI0(g:Int->Int->V):R2:=λx y H Q=>∃i j,x=.int i/\y=.int j/\Q (g i j) H
def rU(g:Int->V):V->Hp->VK->Prop:=λx H Q=>∃i,x=.int i/\Q (g i) H
section
variable{X:Cx}{a b:Expr}{ta tb:TE}{pos:Pos}
def vw(ha:PE X a ta)(hb:PE X b tb){pins:Jp}{s:Shared}{σ:St}{H:Hp}{R:V->V->Hp->Prop}(I:Inv X pins σ H s)
 (h:ta σ H λx H1=>tb σ H1 λy H2=>R x y H2) {Q:Jq}{f:Value->Value->Sem Value}
 (hf:∀v u s2 x y H2,Inv X pins σ H2 s2->RelV x v->RelV y u->R x y H2->wpAny (model X.prog X.w) X.A (f v u) Q X.xe s2):
 wpAny (model X.prog X.w) X.A (eval a X.env) (λv s₁=>wpAny (model X.prog X.w) X.A (eval b X.env) (λu s₂=>wpAny (model X.prog X.w) X.A (f v u) Q X.xe s₂) X.xe s₁) X.xe s:=by
 refine thn (ha pins s σ H _ I h) λv s1 ⟨x,H1,I1,r1,q1⟩=>?_;refine thn (hb pins s1 σ H1 _ I1 q1) λu s2 ⟨y,H2,I2,r2,q2⟩=>?_;exact hf v u s2 x y H2 I2 r1 r2 q2
def Fb(ho:OpR X (binaryOp op) r)(ha:PE X a ta)(hb:PE X b tb):PE X (.BinOp a op b pos) (tOp r ta tb):=by intro pins s σ H Q I h;exact wpAny_BinOp (vw ha hb I h λv u s2 x y H2 I2 rx ry q=>ho pins s2 σ H2 x y v u Q I2 rx ry q)
def Fs(ho:UnR X (unaryOp op) r)(ha:PE X a ta):PE X (.UnaryOp op a pos) (tUn r ta):=by intro pins s σ H Q I h;exact UnaryOp_ (thn (ha pins s σ H _ I h) λv s1 ⟨x,H1,I1,r1,q1⟩=>ho pins s1 σ H1 x v Q I1 r1 q1)
def opI{f:Value->Value->Sem Value}{C:Int->Int->Prop}{g:Int->Int->Int}
 (rule:∀(i j:Int) (t u:Tok) (s:Shared) (Q:Jq) (E:Jq),C i j->Q (.int (g i j) s.toks) { s with toks:=s.toks+1 }->wpAny (model X.prog X.w) X.A (f (.int i t) (.int j u)) Q E s):
 OpR X f (rI C λi j=>.int (g i j)):=by
 intro pins s σ H x y v u Q I rx ry h;obtain⟨i,j,rfl,rfl,hc,q⟩:=h;obtain⟨t,rfl⟩:=rx;obtain⟨t',rfl⟩:=ry;exact rule i j t t' s _ _ hc ⟨.int (g i j),H,I.tok _,⟨_,rfl⟩,q⟩
def opI0{f:Value->Value->Sem Value}{g:Int->Int->Int}
 (rule:∀(i j:Int) (t u:Tok) (s:Shared) (Q:Jq) (E:Jq),Q (.int (g i j) s.toks) { s with toks:=s.toks+1 }->wpAny (model X.prog X.w) X.A (f (.int i t) (.int j u)) Q E s):
 OpR X f (rI0 λi j=>.int (g i j)):=by
 intro pins s σ H x y v u Q I rx ry h;obtain⟨i,j,rfl,rfl,q⟩:=h;obtain⟨t,rfl⟩:=rx;obtain⟨t',rfl⟩:=ry;exact rule i j t t' s _ _ ⟨.int (g i j),H,I.tok _,⟨_,rfl⟩,q⟩
def vp{f:Value->Value->Sem Value}{g:Int->Int->Bool}
 (rule:∀(i j:Int) (t u:Tok) (s:Shared) (Q:Jq) (E:Jq),Q (.bool (g i j)) s->wpAny (model X.prog X.w) X.A (f (.int i t) (.int j u)) Q E s):
 OpR X f (rI0 λi j=>.bl (g i j)):=by
 intro pins s σ H x y v u Q I rx ry h;obtain⟨i,j,rfl,rfl,q⟩:=h;obtain⟨t,rfl⟩:=rx;obtain⟨t',rfl⟩:=ry;exact rule i j t t' s _ _ ⟨.bl (g i j),H,I,rfl,q⟩
def j5(i j:Int):Prop:=0<=j/\j<=1000000/\i.natAbs<2^64
def CMul(i j:Int):Prop:=(-(2^64)<i/\i<2^64)\/(-(2^64)<j/\j<2^64)
def CMul.ok(h:CMul i j):IntMulOk i j:=by
 rcases h with ⟨h1,h2⟩ |⟨h1,h2⟩
 .exact .of_left (intBits_le_64 h1 h2)
 .exact .of_right (intBits_le_64 h1 h2)
def A1:OpR X (binaryOp .Add) (rI0 λi j=>.int (i+j)):=opI0 λ_ _ _ _ _ _ _ q=>add_int q
def CI:OpR X (binaryOp .Sub) (rI0 λi j=>.int (i-j)):=opI0 λ_ _ _ _ _ _ _ q=>sub_int q
def Bs:OpR X (binaryOp .Mult) (rI CMul λi j=>.int (i*j)):=opI λ_ _ _ _ _ _ _ hc q=>mul_int q hc.ok
def yz:OpR X (binaryOp .Mod) (rI (λ_ j=>j≠0) λi j=>.int (i.fmod j)):=opI λ_ _ _ _ _ _ _ hc q=>mod_int' hc q
def Dv:OpR X (binaryOp .Pow) (rI j5 λi j=>.int (i^j.toNat)):=opI λ_ _ _ _ _ _ _ hc q=>pow_int_small hc.1 hc.2.1 hc.2.2 q
def unI{f:Value->Sem Value}{g:Int->Int}
 (rule:∀(i:Int) (t:Tok) (s:Shared) (Q:Jq) (E:Jq),Q (.int (g i) s.toks) { s with toks:=s.toks+1 }->wpAny (model X.prog X.w) X.A (f (.int i t)) Q E s):
 UnR X f (rU λi=>.int (g i)):=by
 intro pins s σ H x v Q I rx h;obtain⟨i,rfl,q⟩:=h;obtain⟨t,rfl⟩:=rx;exact rule i t s _ _ ⟨.int (g i),H,I.tok _,⟨_,rfl⟩,q⟩
def Be:UnR X (unaryOp .USub) (rU λi=>.int (-i)):=unI λ_ _ _ _ _ q=>neg_int q
end
section
variable{X:Cx}{a b c:Expr}{ta tb:TE}{pos:Pos}
def gH(I:Inv X pins σ H s)(q:Q (.bl k) H)(e:k=k'):EP X pins σ Q (.bool k') s:=by subst e;exact⟨.bl k,H,I,rfl,q⟩
def xy:OpR X (compareOp .Lt) (rI0 λi j=>.bl (decide (i<j))):=vp λ_ _ _ _ _ _ _ q=>lt_int q
def xG:OpR X (compareOp .Gt) (rI0 λi j=>.bl (decide (j<i))):=vp λ_ _ _ _ _ _ _ q=>gt_int q
def xw:OpR X (compareOp .GtE) (rI0 λi j=>.bl (decide (j<=i))):=vp λ_ _ _ _ _ _ _ q=>ge_int q
def B7:OpR X (compareOp .Is) (λx y H Q=>y=.non/\Q (.bl (decide (x=.non))) H):=by
 intro pins s σ H x y v u Q I rx ry h;obtain⟨rfl,q⟩:=h;cases ry;refine is_none_gen (gH I q ?_);cases x <;> first
  |(cases rx;rfl)
  |(obtain⟨t,rfl⟩:=rx;rfl)
def OpR.or(h:OpR X f r)(h':OpR X f r'):OpR X f (λx y H Q=>r x y H Q\/r' x y H Q):=by
 intro pins s σ H x y v u Q I rx ry q;rcases q with q |q
 .exact h pins s σ H x y v u Q I rx ry q
 .exact h' pins s σ H x y v u Q I rx ry q
def ub(b:Expr)(h:op ≠ .In:=by decide)(h2:op ≠ .NotIn:=by decide):behindInMarks op b=false:=by
 have e1:(op==CmpOp.In)=false:=by cases op <;> first |rfl |exact absurd rfl h
 have e2:(op==CmpOp.NotIn)=false:=by cases op <;> first |rfl |exact absurd rfl h2
 cases b <;> simp [behindInMarks,e1,e2]
def zV(ho:OpR X (compareOp op) r)(ha:PE X a ta)(hb:PE X b tb)(hm:behindInMarks op b=false):PE X (.Compare a [op] [b] pos) (tOp r ta tb):=by intro pins s σ H Q I h;exact wpAny_Compare1 (vw ha hb I h λv u s2 x y H2 I2 rx ry q=>ho pins s2 σ H2 x y v u Q I2 rx ry q) hm
def FN(t:TE):TT:=λσ H Q=>t σ H λx H'=>∃k,x=.bl k/\Q k H'
def Ak(ho:OpR X (compareOp op) r)(ha:PE X a ta)(hb:PE X b tb)(hm:behindInMarks op b=false):PT X (.Compare a [op] [b] pos) (FN (tOp r ta tb)):=by
 intro pins s σ H Q I h;refine wpAny_isTrue_Compare1 (thn (ha pins s σ H _ I h) λv s1 ⟨x,H1,I1,r1,q1⟩=>thn (hb pins s1 σ H1 _ I1 q1) λu s2 ⟨y,H2,I2,r2,q2⟩=>
  thn (ho pins s2 σ H2 x y v u _ I2 r1 r2 q2) λc s3 ⟨z,H3,I3,r3,k,e,q3⟩=>?_) hm
 subst e;cases r3;exact Ik ⟨H3,I3,q3⟩
def fi:(sizeLine:Nat)<2^63:=by rw[sizeLine_eq];decide
def gJ(r:Vals [x] us):∃u,us=[u]/\RelV x u:=by
 cases r with
 |cons r1 r2=>cases r2;exact⟨_,rfl,r1⟩
def xr(r:Vals [x,y] us):∃u w',us=[u,w']/\RelV x u/\RelV y w':=by
 cases r with
 |
  cons r1 r2=>
  cases r2 with
  |cons r3 r4=>cases r4;exact⟨_,_,rfl,r1,r3⟩
def wd:CallR X (.builtin "abs") (λxs H Q=>∃i,xs=[.int i]/\Q (.int (if i<0 then -i else i)) H):=by intro pins s σ H xs us Q I r h;obtain⟨i,rfl,q⟩:=h;obtain⟨u,rfl,t,rfl⟩:=gJ r;exact call_abs_int λu tk=>⟨.int (if i<0 then -i else i),H,I.tok _,⟨_,rfl⟩,q⟩
end
structure ObjM(h:Heap)(x dx C:Addr)(mA:Jo):Prop where
 obj:h.get? x=some (W.instObj C dx)
 ns:h.Ns1 dx mA
 ne:dx≠x
def rP{h:Heap}{dx:Addr}{mA:Jo}(n:h.Ns1 dx mA):∃od,h.get? dx=some od/\∀name,W.lookIn name od=some (mA name):=by
 obtain⟨o,es,ep,ho,hd,hk,_,hm⟩:=n;refine⟨o,ho,λname=>?_⟩;have e:=hm name;unfold nsFind findBy at e;rw[<- Array.find?_toList] at e;unfold W.lookIn;rw[hd];dsimp only;split
 .rename_i y q;rw[q] at e;exact HI some e
 .rename_i q;rw[q] at e;have a:es.toList.any (·.refKey)=false:=by rw[List.any_eq_false];intro y hy;obtain⟨z,t,hkey⟩:=hk y (Array.mem_toList_iff.mp hy);simp [DictEntry.refKey,hkey]
  have a':¬ es.toList.any (·.refKey)=true:=by rw[a];exact z_
  rw[if_neg a'];exact HI some e
def ObjM.look(I:ObjM h x dx C mA):∃od,W.InstAt h x (W.instObj C dx) C (some od)/\∀name,W.lookIn name od=some (mA name):=
 let ⟨od,ho,hl⟩:=rP I.ns
 ⟨od,⟨I.obj,rfl,rfl,ho⟩,hl⟩
def RelO.some_of(r:RelO (some v) o):∃u,o=some u/\RelV v u:=by
 cases o with
 |none=>exact (show False from r).elim
 |some u=>exact⟨u,rfl,r⟩
section
variable{P:Program}{w:World}{H:Hp}{h:Heap}{a C dx:Addr}{fs:List (Str×V)}
def yq(hok:HOk P w H h)(e:H a=some (.ins C dx fs)):∃mA,ObjM h a dx C mA/\(∀f,RelO (fs.lookup f) (mA f))/\PySem.Within mA (fs.map (·.1))/\fs.length<=1000/\H dx=some (.own a):=by obtain⟨d,z,ne,ob,mA,n,r,q⟩:=(show ObjOk P w H h a (.ins C dx fs) from hok a _ e);exact⟨mA,⟨ob,n,ne⟩,r,q,z,d⟩
end
structure Cls(K:W.Frag)(C:Addr):Prop where
 pg:W.plainGet K C Str.empty=true
 hd:W.hasDictIn K C=true
 po:W.plainOver K C=true
 sa:W.findIn K (.ref C) "__setattr__"=some (some (.builtin "object.__setattr__"))
def Cls.get{K:W.Frag}{C:Addr}(c:Cls K C)(f:Str):W.plainGet K C f=true:=c.pg
section
variable{H:Hp}
inductive TyOf(K:W.Frag)(H:Hp):V->Value->Prop where
 |non:TyOf K H .non (.type "NoneType")
 |bl (x:Bool):TyOf K H (.bl x) (.type "bool")
 |int (i:Int):TyOf K H (.int i) (.type "int")
 |str (x:Str):TyOf K H (.str x) (.type "str")
 |flt (x:UInt64):TyOf K H (.flt x) (.type "float")
 |lst {a:Addr}{xs:List V} (e:H a=some (.lst xs)):TyOf K H (.ref a) (.type "list")
 |frz {a:Addr}{o:Obj}{xs:List V} (e:H a=some (.frz o (.lst xs))):TyOf K H (.ref a) (.type "list")
 |tup {a:Addr}{xs:List V} (e:H a=some (.tup xs)):TyOf K H (.ref a) (.type "tuple")
 |dK {a:Addr}{kvs:List (Key×V)} (e:H a=some (.dK kvs)):TyOf K H (.ref a) (.type "dict")
 |dT {a:Addr}{kvs:List (List Key×V)} (e:H a=some (.dT kvs)):TyOf K H (.ref a) (.type "dict")
 |ins {a C dx:Addr}{fs:List (Str×V)} (e:H a=some (.ins C dx fs)) (cl:Cls K C) (ha:W.findIn K (.ref C) "__class__"=some (some (.builtin "object.__class__")))
  (hn:W.specialIn K (.builtin "object.__class__") "__get__"=some (some (.builtin "getset_descriptor.__get__"))) (htk:W.takesIn K (.builtin "object.__class__")=some true)
  (hm:W.mroIn K C (.type "object")=some true):TyOf K H (.ref a) (.ref C)
end
structure Room(k:Nat)(A:Around):Prop where
 hd:A.handled=none
 dp:A.depth+3*k+5<recursionLimit
 un:A.units+16*k+200<cLine
def Room.mono(r:Room k A)(h:j<=k):Room j A:=⟨r.hd,by have:=r.dp;omega,by have:=r.un;omega⟩
def Room.deeper(r:Room (k+1) A)(env:Env):Room k (A.deeper env):=
 ⟨r.hd,by have:=r.dp;show A.depth+1+3*k+5<_;omega,by have:=r.un;show A.units+3+16*k+200<_;omega⟩
def Room.depth(r:Room k A):A.depth<recursionLimit:=by have:=r.dp;omega
def Room.units(r:Room k A):A.units+64<cLine:=by have:=r.un;omega
def tNil:TA:=λ_ H Q=>Q [] H
def Fu(ta:TE)(tr:TA):TA:=λσ H Q=>ta σ H λx H1=>tr σ H1 λxs H2=>Q (x::xs) H2
section
variable{X:Cx}{e:Expr}{es:List Expr}{te:TE}{t:TA}{pos:Pos}
def A7:PA X [] tNil:=λ_ _ _ _ H Q I h=>Calls.spliced_nil ⟨[],H,I,.nil,h⟩
def yu(ha:PE X e te)(hr:PA X es t)(hs:starEach (e::es) X.env=(false,eval e X.env)::starEach es X.env):PA X (e::es) (Fu te t):=by intro pos pins s σ H Q I h;rw[hs];show wpAny _ _ (spliced ((false,eval e X.env)::backTo pos (starEach es X.env))) _ _ s;refine Calls.spliced_cons (thn (ha pins s σ H _ I h) λu s1 ⟨x,H1,I1,r1,q1⟩=>?_);exact thn (hr pos pins s1 σ H1 _ I1 q1) λus s2 ⟨xs,H2,I2,r2,q2⟩=>⟨x::xs,H2,I2,.cons r1 r2,q2⟩
def tTup(t:TA):TE:=λσ H Q=>t σ H λxs H1=>xs.length<=sizeLine/\∀p,H1 p=none->Q (.ref p) (upd H1 p (.tup xs))
def tLst(t:TA):TE:=λσ H Q=>t σ H λxs H1=>xs.length<=sizeLine/\∀p,H1 p=none->Q (.ref p) (upd H1 p (.lst xs))
def Ci{x1}(h:PA X es t):PE X (.Tuple es x1 pos) (tTup t):=by intro pins s σ H Q I hq;refine wpAny_Tuple_spliced (thn (h pos pins s σ H _ I hq) λus s1 ⟨xs,H1,I1,r,z,q⟩=>⟨by rw[<- r.length];exact z,?_⟩);have hf:H1 s1.heap.objs.size=none:=I1.hok.fresh (y_ _);refine⟨.ref s1.heap.objs.size,upd H1 s1.heap.objs.size (.tup xs),I1.laid (t':=s1.toks) (λb u e=>w_ _ e) (y_ _) ?_,rfl,q _ hf⟩;exact⟨z,us,r,⟨_,Hl _ rfl,rfl,_,rfl⟩⟩
def D5(h:PA X es t):PE X (.List es pos) (tLst t):=by intro pins s σ H Q I hq;refine wpAny_List_spliced (thn (h pos pins s σ H _ I hq) λus s1 ⟨xs,H1,I1,r,z,q⟩=>⟨by rw[<- r.length];exact z,?_⟩);have hf:H1 s1.heap.objs.size=none:=I1.hok.fresh (y_ _);refine⟨.ref s1.heap.objs.size,upd H1 s1.heap.objs.size (.lst xs),I1.laid (t':=s1.toks) (λb u e=>w_ _ e) (y_ _) ?_,rfl,q _ hf⟩;exact⟨z,us,0,r,Hl _ rfl⟩
end
abbrev Sp:=List V->Hp->VK->XK->Prop
abbrev CXT:=List Env->Hp->Shared->XK->Value->Shared->Prop
structure Env0(P:Program)(w:World)(K:W.Frag)(mg:Jo)(base:Heap)(A:Around)(outer:List Env)(s:Shared)(H:Hp):Prop where
 frames:A.frames=some outer
 mod:Mod K mg base
 bs:∀b o,base.get? b=some o->s.heap.get? b=some o/\H b=none
 bsz:base.objs.size<=s.heap.objs.size
 funs:s.heap.FunFrames base outer
 frf:∀b∈frs outer,H b=none
 hok:HOk P w H s.heap
 bare:AllBare s.gens
def CE(outer:List Env)(P:Program)(w:World)(H:Hp)(s:Shared)(Q:VK)(u:Value)(s':Shared):Prop:=
 ∃v H',s'.os=s.os/\AllBare s'.gens/\Un (frs outer) [] H H' s.heap s'.heap/\HOk P w H' s'.heap/\RelV v u/\Q v H'
def CR(CX:CXT)(outer:List Env)(P:Program)(w:World)(H:Hp)(s:Shared)(Q:VK)(E:XK)(r:Result)(s':Shared):Prop:=
 match r with
 |.ok (.ret u)=>CE outer P w H s Q u s'
 |.ok _=>False
 |.error e=>CX outer H s E e s'
structure FnOk(P:Program)(w:World)(K:W.Frag)(mg:Jo)(base:Heap)(CX:CXT)(k:Nat)(f:Addr)(fd:FuncData)(ps:List Str)(sp:Sp):Prop where
 len:∀vs H Q E,sp vs H Q E->vs.length=ps.length
 run:∀(A:Around) (outer:List Env) (s:Shared) (H:Hp) (args:Args) (us:List Value) (vs:List V) (Q:VK) (E:XK),Room k A->Env0 P w K mg base A outer s H->BindsTo s fd args (ps.zip us)->Vals vs us->sp vs H Q E->
  codeAny (model P w) A (.call (.ref f) args) (CR CX outer P w H s Q E) s
def FnOk.imp{P:Program}{w:World}{K:W.Frag}{mg:Jo}{base:Heap}{CX:CXT}{k:Nat}{f:Addr}{fd:FuncData}{ps:List Str}{sp sp':Sp}(F:FnOk P w K mg base CX k f fd ps sp)
 (h:∀vs H Q E,sp' vs H Q E->sp vs H Q E):FnOk P w K mg base CX k f fd ps sp':=
 ⟨λvs H Q E q=>F.len vs H Q E (h _ _ _ _ q),λA outer s H args us vs Q E hr he hb hv hs=>F.run A outer s H args us vs Q E hr he hb hv (h _ _ _ _ hs)⟩
section
variable{X:Cx}{pins:Jp}{σ:St}{H:Hp}{s s':Shared}
def Inv.env0(I:Inv X pins σ H s):Env0 X.prog X.w X.K X.mg X.base X.A X.stack s H:=
 ⟨I.ok.frames,I.ok.mod,I.bs,G6 I.ok.bsz I.sz,I.stack,I.stkFree,I.hok,I.bare⟩
def Inv.after(I:Inv X pins σ H s)(h:CE X.stack X.prog X.w H s Q u s'):EP X pins σ Q u s':=by obtain⟨v,H',os,bare,un,hok,r,q⟩:=h;obtain⟨hh,g,d,t,os'⟩:=s';obtain rfl:os'=s.os:=os;exact⟨v,H',I.call (h':=hh) (g':=g) (d':=d) (t':=t) (ch:=[]) un hok bare (λb z=>absurd z (by simp)),r,q⟩
end
def Binds(K:W.Frag)(fd:FuncData)(ps:List Str)(ds:List Value):Prop:=
 ∀(s:Shared) (us:List Value),K.In s.heap->(us++ds).length=ps.length->BindsTo s fd ⟨us,[]⟩ (ps.zip (us++ds))
def Binds.all{K:W.Frag}{fd:FuncData}{ps:List Str}(h:∀us:List Value,us.length=ps.length->bindArgs fd ⟨us,[]⟩=pure (ps.zip us)):Binds K fd ps []:=λs us _ hl=>by rw[IE] at hl ⊢;exact .of_eq (h us hl)
def ml(CX:CXT)(X:Cx)(E:XK):Prop:=∀(pins:Jp) (σ:St) (H:Hp) (s:Shared) (e:Value) (s':Shared),Inv X pins σ H s->CX X.stack H s E e s'->X.xe e s'
structure FnScope(N P:List Str)(sc:Scope):Prop where
 kind:sc.kind=.function
 co:sc.isCoroutine=false
 gen:sc.isGenerator=false
 nd:N.Nodup
 pre:N.take P.length=P
 par:∀x∈P,sc.names.lookup x=some .local\/sc.names.lookup x=some .cell
 nofree:∀y∈sc.names,y.2 ≠ .free
theorem lj{kindOf:Str->Option NameKind}{x:Str}:∀{binds:List (Str×Value)}{m:Jo},(∀v,(x,v)∉binds)->bindL kindOf binds m x=m x
 | [],_,_=>rfl
 |
  (n,v)::r,m,h=>by
  unfold bindL;rw[lj λw hw=>h w (F_ _ hw)];split
  .have:x≠n:=by rintro rfl;exact h v G5
   simp [this]
  .rfl
theorem kT{kindOf:Str->Option NameKind}{x:Str}:∀{binds:List (Str×Value)}{m:Jo},(∀v,(x,v)∉binds)->bindC kindOf binds m x=m x
 | [],_,_=>rfl
 |
  (n,v)::r,m,h=>by
  unfold bindC;rw[kT λw hw=>h w (F_ _ hw)];split
  .rfl
  .have:x≠n:=by rintro rfl;exact h v G5
   simp [this]
theorem lu{kindOf:Str->Option NameKind}{x:Str}{v:Value}:∀{P:List Str}{vs:List Value}{i:Nat}{m:Jo},P.Nodup->P[i]?=some x->vs[i]?=some v->kindOf x=some .local->
 bindL kindOf (P.zip vs) m x=some v
 | [],_,_,_,_,h,_,_=>by simp at h
 |_::_,[],_,_,_,_,h,_=>by simp at h
 |
  p::P,w::vs,0,m,nd,h1,h2,hk=>by
  simp at h1 h2;subst h1;subst h2;show bindL kindOf ((p,w)::P.zip vs) m p=_;unfold bindL;rw[lj λv hv=>(Jf.mp nd).1 (IH hv).1,if_pos hk];simp
 |
  p::P,w::vs,i+1,m,nd,h1,h2,hk=>by
  show bindL kindOf ((p,w)::P.zip vs) m x=_;unfold bindL;exact lu (i:=i) (Jf.mp nd).2 (by simpa using h1) (by simpa using h2) hk
theorem lz{kindOf:Str->Option NameKind}{x:Str}{v:Value}:∀{P:List Str}{vs:List Value}{i:Nat}{m:Jo},P.Nodup->P[i]?=some x->vs[i]?=some v->kindOf x≠some .local->
 bindC kindOf (P.zip vs) m x=some v
 | [],_,_,_,_,h,_,_=>by simp at h
 |_::_,[],_,_,_,_,h,_=>by simp at h
 |
  p::P,w::vs,0,m,nd,h1,h2,hk=>by
  simp at h1 h2;subst h1;subst h2;show bindC kindOf ((p,w)::P.zip vs) m p=_;unfold bindC;rw[kT λv hv=>(Jf.mp nd).1 (IH hv).1,if_neg hk];simp
 |
  p::P,w::vs,i+1,m,nd,h1,h2,hk=>by
  show bindC kindOf ((p,w)::P.zip vs) m x=_;unfold bindC;exact lz (i:=i) (Jf.mp nd).2 (by simpa using h1) (by simpa using h2) hk
noncomputable def cW(N:List Str)(vs:List V):St:=vs.map some++List.replicate (N.length-vs.length) none
noncomputable def cz(CX:CXT)(P:Program)(w:World)(K:W.Frag)(mg:Jo)(base:Heap)(N:List Str)(qual:Str)(scope:Scope)(f:Addr)(cd:Value)(A:Around)(outer:List Env)(s:Shared)(H:Hp)(E:XK):Cx where
 prog:=P
 w:=w
 K:=K
 mg:=mg
 base:=base
 A:=A.deeper (envOfC qual scope s.heap.objs.size f cd)
 N:=N
 s₀:=s
 H₀:=H
 env:=envOfC qual scope s.heap.objs.size f cd
 outer:=outer
 stack:=envOfC qual scope s.heap.objs.size f cd::outer
 ex:=[]
 calm:=true
 fn:=λ_=>true
 pn:=[]
 xe:=λe s'=>wpAny (model P w) (A.deeper (envOfC qual scope s.heap.objs.size f cd)) (leaving (envOfC qual scope s.heap.objs.size f cd) e) (λ_ s''=>CX outer H s E e s'') (λe' s''=>CX outer H s E e' s'') s'
def nI{sc:Scope}{n:Nat}{x:Str}(h:sc.names.lookup x=some .cell):∃c,(cellsFrom n sc.names []).lookup x=some c:=by have q:=W.cellsFrom_some sc.names n [] (.inl h);exact HG.mp q
def tE{CX:CXT}{P:Program}{w:World}{K:W.Frag}{mg:Jo}{base:Heap}{N ps:List Str}{qual:Str}{scope:Scope}{f:Addr}{cd:Value}{A:Around}{outer:List Env}{s s1:Shared}{H:Hp}{E:XK}{us:List Value}{vs:List V}
 (S:FnScope N ps scope) (hd:A.handled=none) (e0:Env0 P w K mg base A outer s H) (hl:vs.length=ps.length) (r:Vals vs us)
 (x:InCallC s s.heap.objs.size (bindL (envOfC qual scope s.heap.objs.size f cd).kindOf (ps.zip us) λ_=>none) (cellsFrom (s.heap.objs.size+1) scope.names []) (bindC (envOfC qual scope s.heap.objs.size f cd).kindOf (ps.zip us) λ_=>none) s1):
 Inv (cz CX P w K mg base N qual scope f cd A outer s H E) [] (cW N vs) H s1:=by
 have hpl:ps.length<=N.length:=by have:=HI List.length S.pre;rw[I0] at this;omega
 obtain⟨h1,tk,rfl,hk⟩:=x.done;have noA:∀b:Addr,b∉(cz CX P w K mg base N qual scope f cd A outer s H E).ex:=λb z=>absurd (show b∈([]:List Addr) from z) (by simp);refine⟨⟨e0.mod,S.kind,rfl,rfl,y_ _,λy z c h1 h2=>?_,λy hy=>?_,λy c _ h=>?_,λ_=>hd,Around.frames_deeper e0.frames,.inr ⟨rfl,rfl⟩,λb z=>absurd z (noA b),e0.bs,e0.bsz,λb _ _=>noA b,λb z=>absurd z (noA b),e0.funs,e0.frf⟩,
  rfl,e0.bare,Un.kept hk,⟨_,x.toInCall.ns,λi y v h1 h2 h3=>?_⟩,λy c h=>⟨_,x.cell y c h⟩,e0.hok.fresh (y_ _),λy c h=>?_,λp hp=>absurd (show p∈([]:Jp) from hp) (by simp),e0.hok.kept hk,?_⟩
 .exact name_of_addr x.apart (HJ h1) (HJ h2)
 .have hy:scope.names.lookup y=some .cell\/scope.names.lookup y=some .free:=hy;rcases hy with hy |hy
  .exact nI hy
  .exact absurd rfl (S.nofree _ (HJ hy))
 .exact Jg (x.above y c (HJ h))
 .have hi:i<vs.length:=by
   unfold cW at h2;by_cases hi:i<vs.length
   .exact hi
   .rw[Hg (by simpa using hi)] at h2;rw[HC] at h2;split at h2 <;> cases h2
  have ha:vs[i]?=some v:=by
   unfold cW at h2;rw[G_ (by simpa using hi),Hj] at h2;cases e:vs[i]? with
   |none=>rw[e] at h2;cases h2
   |some a=>rw[e] at h2;cases h2;rfl
  obtain⟨u,hu,rv⟩:=r.get ha;have hp:ps[i]?=some y:=by rw[<- S.pre,List.getElem?_take_of_lt (by omega)];exact h1
  have ndP:ps.Nodup:=by rw[<- S.pre];exact S.nd.sublist (List.take_sublist _ _)
  refine⟨u,rv,?_⟩;rcases S.par y (HH hp) with k |k
  .exact .inl ⟨k,lu ndP hp hu k⟩
  .obtain⟨c,e⟩:=nI (n:=s.heap.objs.size+1) k;refine .inr ⟨.inl k,c,e,?_⟩;have q:=x.cell y c e;rw[lz ndP hp hu (by show scope.names.lookup y≠_;rw[k];decide)] at q;exact q
 .exact e0.hok.fresh (Jg (x.above y c (HJ h)))
 .unfold cW;show _=N.length;rw[G8,v_,HF];omega
def w6{CX:CXT}{P:Program}{w:World}{K:W.Frag}{mg:Jo}{base:Heap}{k:Nat}{f:Addr}{name qual:Str}{params:Arguments}{body:List Stmt}{scope:Scope}{dV kV doc pm cdv ct oc:Value}{an od:Option Addr}
 {osl:Array (Option Value)}{N ps:List Str}{sp:Sp} (lk:K.lookup f=some ⟨oc,od,.func (W.fnOf name qual params body scope dV kV doc pm an cdv ct),osl⟩) (p_:W.codeIn K cdv qual=true) (S:FnScope N ps scope)
 (len:∀vs H Q E,sp vs H Q E->vs.length=ps.length)
 (k_:∀(A:Around) (outer:List Env) (s:Shared) (H:Hp) (vs:List V) (Q:VK) (E:XK),Room k (A.deeper (envOfC qual scope s.heap.objs.size f cdv))->sp vs H Q E->
  ∃t,PSs (cz CX P w K mg base N qual scope f cdv A outer s H E) body t/\t { nx:=λ_ H'=>Q .non H',rt:=Q } (cW N vs) H):
 FnOk P w K mg base CX (k+1) f (W.fnOf name qual params body scope dV kV doc pm an cdv ct) ps sp:=by
 refine⟨len,λA outer s H args us vs Q E hr e0 hb r hsp=>?_⟩;have hl:=len _ _ _ _ hsp;have KX:K.In s.heap:=e0.mod.kin.keeps λb o e=>(e0.bs b o e).1;have lim:s.heap.NoLimit:=e0.mod.nolimit.keeps λb o e=>(e0.bs b o e).1;have hkind:∀y∈ps.zip us,scope.names.lookup y.1=some .local\/(scope.names.lookup y.1=some .cell/\((cellsFrom (s.heap.objs.size+1) scope.names []).lookup y.1).isSome=true):=λ⟨n,v⟩ hy=>by
  rcases S.par n (IH hy).1 with q |q
  .exact .inl q
  .exact .inr ⟨q,W.cellsFrom_some _ _ _ (.inl q)⟩
 refine codeAny_call_function hr.depth (KX _ _ lk) rfl S.co S.gen rfl (W.codeRec_of KX p_) (hb _ _ _ _ ?_);refine wpAny_newFunctionEnv_cells S.kind hkind λenv he s1 x=>?_;subst he;refine⟨lim.keeps x.toInCall.keep,codeAny_func ?_⟩;obtain⟨t,ht,hq⟩:=k_ A outer s H vs Q E (hr.deeper _) hsp;have I:Inv (cz CX P w K mg base N qual scope f cdv A outer s H E) [] (cW N vs) H s1:=tE S hr.hd e0 hl r x;refine Hq (ht [] s1 (cW N vs) H _ I hq) (λfl s' hs=>?_) λe s' hs=>hs;have g_:∀{σ':St}{H':Hp}{v:V}{u:Value},Inv (cz CX P w K mg base N qual scope f cdv A outer s H E) [] σ' H' s'->RelV v u->Q v H'->CE outer P w H s Q u s':=
  λ{σ' H' v u} J rv q=>⟨v,H',J.os,J.bare,J.base,J.hok,rv,q⟩
 cases fl with
 |ret u=>obtain⟨v,σ',H',J,rv,q⟩:=hs;exact g_ J rv q
 |next=>obtain⟨σ',H',J,q⟩:=hs;exact g_ (v:=V.non) (u:=Value.none) J rfl q
 |brk=>obtain⟨_,_,_,q⟩:=hs;exact False.elim q
 |cont=>obtain⟨_,_,_,q⟩:=hs;exact False.elim q
section
variable{X:Cx}{x:Str}{p pos:Pos}{e:Expr}{es:List Expr}{t:TA}{id T:String}{r:List V->Hp->VK->Prop}
def tCB(r:List V->Hp->VK->Prop)(t:TA):TE:=λσ H Q=>t σ H λvs H1=>r vs H1 Q
def vT(hc:CallR X (.builtin id) r)(hg:Gl X x)(hm:X.mg x=none)(hv:bootBuiltins x=some (.builtin id))(ha:PA X (e::es) t)(hn:x ≠ "__name__")(hdb:(x==("__debug__" : Str))=false)
 (he:starEach (e::es) X.env=(false,eval e X.env)::starEach es X.env) (hpl:(backTo pos (starEach es X.env)).any (·.1)=false):PE X (.Call (.Name x p) (e::es) [] pos) (tCB r t):=by
 intro pins s σ H Q I h;refine IP (gE I hg hm hv ?_ hn hdb);exact PyProof.Rows.callWith_builtin1 (thn (ha pos pins s σ H _ I h) λus s1 ⟨vs,H1,I1,r1,q1⟩=>hc pins s1 σ H1 vs us Q I1 r1 q1) he hpl
def sg(hc:CallR X (.type T) r)(hg:Gl X x)(hm:X.mg x=none)(hv:bootBuiltins x=some (.type T))(ha:PA X (e::es) t)(hn:x ≠ "__name__")(hdb:(x==("__debug__" : Str))=false)
 (he:starEach (e::es) X.env=(false,eval e X.env)::starEach es X.env) (hpl:(backTo pos (starEach es X.env)).any (·.1)=false):PE X (.Call (.Name x p) (e::es) [] pos) (tCB r t):=by
 intro pins s σ H Q I h;refine IP (gE I hg hm hv ?_ hn hdb);exact PyProof.Rows.callWith_type1 (thn (ha pos pins s σ H _ I h) λus s1 ⟨vs,H1,I1,r1,q1⟩=>hc pins s1 σ H1 vs us Q I1 r1 q1) he hpl
end
end L2
namespace HT
open PySem PyProof.Rows
section
variable{prog:Program}{w:World}{A:Around}{E:Jq}{s:Shared}
def cat_tup(ht:IsTup s.heap t vs.toArray)(hb:IsTup s.heap b ws.toArray)(hv:vs≠[])
 (h1:ws=[]->Q (.ref t) s) (h2:ws≠[]->Q (.ref s.heap.objs.size) { s with heap:=s.heap.push { cls:=.type "tuple",data:=.seq (vs++ws).toArray } })
 (hsz:vs.length+ws.length<=sizeLine):wpAny (model prog w) A (binaryOp .Add (.ref t) (.ref b)) Q E s:=by
 obtain⟨⟨cls,dd,data,sl⟩,ho,hc,n,hd⟩:=id ht;obtain⟨⟨cls2,dd2,data2,sl2⟩,ho2,hc2,n2,hd2⟩:=id hb;simp only at hc hd hc2 hd2;subst hc hd hc2 hd2;have e:vs.toArray++ws.toArray=(vs++ws).toArray:=by simp
 by_cases hw:ws=[]
 .exact concat_meets ⟨_,ho,rfl⟩ ⟨_,ho2,rfl⟩ noFill_tuple_add seq_tuple_add IX IQ (IL _ _)
   (tuple_addW1 t b vs.toArray ws.toArray n n2 dd dd2 sl sl2 (by simpa using hv) (by simp [hw])) ⟨ho,ho2,h1 hw⟩
 .refine concat_meets ⟨_,ho,rfl⟩ ⟨_,ho2,rfl⟩ noFill_tuple_add seq_tuple_add IX IQ (IL _ _)
   (tuple_addW2 t b vs.toArray ws.toArray n n2 dd dd2 sl sl2 (by simpa using hv) (by simpa using hw) (by rw[B_,B_];exact hsz)) ⟨ho,ho2,?_⟩
  rw[e];exact h2 hw
noncomputable def sIx(n d:Nat):Option Int->Nat
 |none=>d
 |some v=>if v<0 then (v+(n:Int)).toNat else min v.toNat n
def sIx_none(n d:Nat):sIx n d none=d:=rfl
def sIx_nat(n d k:Nat):sIx n d (some (k:Int))=min k n:=by show (if (k:Int)<0 then ((k:Int)+(n:Int)).toNat else min (k:Int).toNat n)=min k n;rw[if_neg (by omega),Ih]
def Al(n d:Nat)(hd:d<=n)(o:Option Int):sIx n d o<=n:=by
 cases o with
 |none=>exact hd
 |
  some v=>
  show (if v<0 then (v+(n:Int)).toNat else min v.toNat n)<=n;by_cases hv:v<0
  .rw[if_pos hv];omega
  .rw[if_neg hv];exact Nat.min_le_right _ _
def oU(v:Int)(n d:Nat):(if v<0 then max (v+(n:Int)) 0 else min v (n:Int))=((sIx n d (some v):Nat):Int):=by
 show (if v<0 then max (v+(n:Int)) 0 else min v (n:Int))=(((if v<0 then (v+(n:Int)).toNat else min v.toNat n):Nat):Int);by_cases hv:v<0
 .simp only[if_pos hv];omega
 .simp only[if_neg hv];omega
def qg(lo hi:Option Int)(n:Nat):Builtin.Slice.sliceAdjust lo hi 1 (n:Int)=(((sIx n 0 lo:Nat):Int),((sIx n n hi:Nat):Int)):=by
 have h1:¬ ((1:Int)<0):=by omega
 unfold Builtin.Slice.sliceAdjust;simp only[h1,IM];refine Prod.ext ?_ ?_
 .cases lo with
  |none=>rfl
  |some v=>exact oU v n 0
 .cases hi with
  |none=>rfl
  |some v=>exact oU v n n
def rD(i j:Nat):Builtin.Slice.slicePlaces (i:Int) (j:Int) 1=j-i:=by
 unfold Builtin.Slice.slicePlaces;have h1:(1:Int)>0:=by omega
 simp only[h1,Ip,Int.ediv_one];split <;> omega
def jR(p:IsPart v o)(h:Q o s):wpAny (model prog w) A (Builtin.Slice.slicePartIndex v) Q E s:=by
 cases p with
 |none=>exact slicePart_none h
 |int i t=>exact slicePart_int h
def iS{sl:Addr}{vl vu:Value}{lo hi:Option Int}{n:Nat}{Q:Int×Int×Nat->Shared->Prop}(hs:s.heap.IsSliceOf sl vl vu .none)(pl:IsPart vl lo)(pu:IsPart vu hi)
 (h:Q (((sIx n 0 lo:Nat):Int),1,sIx n n hi-sIx n 0 lo) s):wpAny (model prog w) A (Builtin.Slice.sliceApplied (.ref sl) (pure (n:Int))) Q E s:=by
 obtain⟨os,hos,hcs,hds⟩:=id hs;unfold Builtin.Slice.sliceApplied Builtin.Slice.sliceFields;refine t_ (t_ (wpAny_field hos hds (x:=vl) rfl (t_ (wpAny_field hos hds (x:=vu) rfl (t_ (wpAny_field hos hds (x:=.none) rfl (Em ?_)))))));refine t_ (slicePart_none ?_);show wpAny _ _ (if ((1:Int)==0)=true then _ else _) _ _ s;rw[if_neg (by decide)];refine t_ (jR pl (t_ (jR pu (t_ (Em ?_)))));show wpAny _ _ (match Builtin.Slice.sliceAdjust lo hi 1 (n:Int) with |(lo,hi)=>pure (lo,(1:Int),Builtin.Slice.slicePlaces lo hi 1)) _ _ s;rw[qg lo hi n];show wpAny _ _ (pure (((sIx n 0 lo:Nat):Int),(1:Int),Builtin.Slice.slicePlaces ((sIx n 0 lo:Nat):Int) ((sIx n n hi:Nat):Int) 1)) _ _ s;rw[rD];exact Em h
def uD(xs:Array Value)(i k:Nat):((List.range k).filterMap λ(m:Nat)=>xs[((i:Int)+(m:Int)*1).toNat]?).toArray=((xs.toList.drop i).take k).toArray:=by
 have e:(λ(m:Nat)=>xs[((i:Int)+(m:Int)*1).toNat]?)=λm=>xs[i+m]?:=by
  funext m;have:((i:Int)+(m:Int)*1).toNat=i+m:=by omega
  rw[this]
 rw[e]
 have:=pick_run xs i k
 rw[List.filterMap_map] at this;have e2:((λx=>xs[x]?) ∘ λx=>i+x)=λm=>xs[i+m]?:=rfl;rw[e2] at this;rw[this]
def getItem_tuple_cut{t sl:Addr}{items:Array Value}{vl vu:Value}{lo hi:Option Int}{Q:Jq}(ht:IsTup s.heap t items)(hs:s.heap.IsSliceOf sl vl vu .none)(pl:IsPart vl lo)(pu:IsPart vu hi)
 (hw:¬ (sIx items.size 0 lo=0/\sIx items.size items.size hi=items.size))
 (h:Q (.ref s.heap.objs.size) { s with heap:=s.heap.push { cls:=.type "tuple",data:=.seq ((items.toList.drop (sIx items.size 0 lo)).take (sIx items.size items.size hi-sIx items.size 0 lo)).toArray } })
 (hsz:items.size<=sizeLine):wpAny (model prog w) A (getItem (.ref t) (.ref sl)) Q E s:=by
 have htake:sizeOk (.seq ((items.toList.drop (sIx items.size 0 lo)).take (sIx items.size items.size hi-sIx items.size 0 lo)).toArray):=by show ((items.toList.drop (sIx items.size 0 lo)).take (sIx items.size items.size hi-sIx items.size 0 lo)).toArray.size<=sizeLine;rw[B_,I0,List.length_drop,Jk];omega
 have hj:sIx items.size items.size hi<=items.size:=Al _ _ (y_ _) hi;obtain⟨os,hos,hcs,hds⟩:=id hs;have hTs:s.TypeIs (.ref sl) "slice":=⟨os,hos,hcs⟩;unfold getItem;try with_reducible refine HK ?_
 first |refine t_ (Em ?_) |skip
 refine t_ (wpAny_sequenceKey ht.typeIs (by decide) ?_);refine t_ (wpAny_callSpecial?_slot (name:=Str.ofString "__getitem__") ht.typeIs PyProof.Rows.slot_tuple_getitem
  (wpAny_call_entry PyProof.Rows.slot_tuple_getitem ht.typeIs entry_tuple_getitem ?_ (args_tuple_getitem _ _)))
 show wpAny _ _ (Builtin.Tuple.tupleItemsOf (.ref t) >>= _) _ _ s;refine t_ (tupleItemsOf_ ht ?_);refine t_ (wpAny_typeOf hTs ?_);rw[if_pos (by decide)];refine t_ (iS hs pl pu ?_);have hno:¬ ((((sIx items.size 0 lo:Nat):Int)==0&&(1:Int)==1&&(sIx items.size items.size hi-sIx items.size 0 lo)==items.size)=true):=by intro q;rw[x_,x_] at q;have q1:((sIx items.size 0 lo:Nat):Int)=0:=eq_of_beq q.1.1;have q2:sIx items.size items.size hi-sIx items.size 0 lo=items.size:=eq_of_beq q.2;exact hw ⟨by omega,by omega⟩
 show wpAny _ _ (if (((sIx items.size 0 lo:Nat):Int)==0&&(1:Int)==1&&(sIx items.size items.size hi-sIx items.size 0 lo)==items.size)=true then _ else _) _ _ s;rw[if_neg hno,uD];first
  |exact t_ (m:=Builtin.Tuple.tupleExact _) (HY (Em ⟨_,rfl,Em h⟩) htake)
  |exact t_ (m:=Builtin.Tuple.tupleExact _) (HY (t_ (Em (Em ⟨_,rfl,Em h⟩))) htake)
  |exact t_ (t_ (m:=Builtin.Tuple.tupleExact _) (HY (Em (Em ⟨_,rfl,Em h⟩)) htake))
  |exact t_ (t_ (m:=Builtin.Tuple.tupleExact _) (HY (Em ⟨_,rfl,Em h⟩) htake))
end
end HT
namespace L2
open PySem PySem.Spec PyProof.Rows
abbrev TO:=St->Hp->(Option Int->Hp->Prop)->Prop
def PO(X:Cx)(e:Option Expr)(t:TO):Prop:=
 ∀
  (pins:Jp) (s:Shared) (σ:St) (H:Hp) (Q:Option Int->Hp->Prop),Inv X pins σ H s->t σ H Q->
  wpAny (model X.prog X.w) X.A (evalPart e X.env) (λu s'=>∃o H',Inv X pins σ H' s'/\IsPart u o/\Q o H') X.xe s
def zo:TO:=λ_ H Q=>Q none H
def EG(t:TE):TO:=λσ H Q=>t σ H λx H1=>∃i,x=.int i/\Q (some i) H1
section
variable{X:Cx}{e:Expr}{te:TE}{lo hi:Option Expr}{tl th:TO}{pos p2:Pos}
def yd:PO X none zo:=by intro pins s σ H Q I h;rw[evalPart_none];exact Em ⟨none,H,I,.none,h⟩
def zL(h:PE X e te):PO X (some e) (EG te):=by intro pins s σ H Q I hw;rw[evalPart_some];refine thn (h pins s σ H _ I hw) λu s1 ⟨x,H1,I1,r1,q1⟩=>?_;obtain⟨i,rfl,q⟩:=q1;obtain⟨t,rfl⟩:=r1;exact⟨some i,H1,I1,.int i t,q⟩
def SlR(X:Cx)(r:V->Option Int->Option Int->Hp->VK->Prop):Prop:=
 ∀
  (pins:Jp) (s:Shared) (σ:St) (H:Hp) (x:V) (v vl vu:Value) (lo hi:Option Int) (sl:Addr) (Q:VK),Inv X pins σ H s->RelV x v->s.heap.IsSliceOf sl vl vu .none->IsPart vl lo->IsPart vu hi->r x lo hi H Q->
  ∃T id,typeLookup (.type T) "__getitem__"=pure (some (.builtin id))/\s.TypeIs v T/\wpAny (model X.prog X.w) X.A (getItem v (.ref sl)) (EP X pins σ Q) X.xe s
def SlR.or(h:SlR X r)(h':SlR X r'):SlR X (λx lo hi H Q=>r x lo hi H Q\/r' x lo hi H Q):=by
 intro pins s σ H x v vl vu lo hi sl Q I rx hs pl pu q;rcases q with q |q
 .exact h pins s σ H x v vl vu lo hi sl Q I rx hs pl pu q
 .exact h' pins s σ H x v vl vu lo hi sl Q I rx hs pl pu q
def tSl(r:V->Option Int->Option Int->Hp->VK->Prop)(te:TE)(tl th:TO):TE:=λσ H Q=>te σ H λx H1=>tl σ H1 λl H2=>th σ H2 λu H3=>r x l u H3 Q
def vV(hr:SlR X r)(he:PE X e te)(hl:PO X lo tl)(hu:PO X hi th):PE X (.Subscript e (.Slice lo hi none p2) pos) (tSl r te tl th):=by intro pins s σ H Q I h;refine Subscript_ (thn (he pins s σ H _ I h) λv s1 ⟨x,H1,I1,r1,q1⟩=>?_);refine wpAny_Slice (thn (hl pins s1 σ H1 _ I1 q1) λvl s2 ⟨l,H2,I2,pl,q2⟩=>thn (hu pins s2 σ H2 _ I2 q2) λvu s3 ⟨u,H3,I3,pu,q3⟩=>?_);rw[evalPart_none];refine Em ?_;have I4:Inv X pins σ H3 { s3 with heap:=s3.heap.push { cls:=.type "slice",data:=.fields #[vl,vu,.none] } }:=I3.kept (t':=s3.toks) λb ob q=>w_ _ q;obtain⟨T,id,hT,ht,hg⟩:=hr pins { s3 with heap:=s3.heap.push { cls:=.type "slice",data:=.fields #[vl,vu,.none] } } σ H3 x v vl vu l u s3.heap.objs.size Q I4 r1 (Heap.IsSliceOf.new ..) pl pu q3;show wpAny (model X.prog X.w) X.A (subscriptTail e (.Slice lo hi none p2) v (.ref s3.heap.objs.size)) (EP X pins σ Q) X.xe { s3 with heap:=s3.heap.push { cls:=.type "slice",data:=.fields #[vl,vu,.none] } };exact tail_any (ops:=[.ref s3.heap.objs.size,v]) ht hT hg (by with_unfolding_all rfl)
noncomputable def gB(xs:List V)(lo hi:Option Int):List V:=(xs.drop (HT.sIx xs.length 0 lo)).take (HT.sIx xs.length xs.length hi-HT.sIx xs.length 0 lo)
def iu(xs:List V)(lo hi:Option Int):(gB xs lo hi).length<=xs.length:=by unfold gB;rw[I0,List.length_drop];omega
def rSlT(K:W.Frag):V->Option Int->Option Int->Hp->VK->Prop:=λx lo hi H Q=>∃a xs,x=.ref a/\SqT K H a xs/\
 ¬ (HT.sIx xs.length 0 lo=0/\HT.sIx xs.length xs.length hi=xs.length)/\∀p,H p=none->Q (.ref p) (upd H p (.tup (gB xs lo hi)))
def Bp:SlR X (rSlT X.K):=by
 intro pins s σ H x v vl vu lo hi sl Q I rx hs pl pu h;obtain⟨a,xs,rfl,hx,hw,q⟩:=h;cases rx;obtain⟨its,r,ht,hz⟩:=I.tuple hx;have hlen:its.toArray.size=xs.length:=by rw[B_];exact r.length.symm
 refine⟨"tuple",_,PyProof.Rows.slot_tuple_getitem.lookup,ht.typeIs,?_⟩;refine HT.getItem_tuple_cut ht hs pl pu (by rw[hlen];exact hw) ?_ (by rw[hlen];exact hz);rw[hlen];refine⟨.ref s.heap.objs.size,_,I.laid (t':=s.toks) (o:=.tup (gB xs lo hi)) (λb ob q=>w_ _ q) (y_ _) ?_,rfl,q _ (I.hok.fresh (y_ _))⟩;exact⟨G6 (iu xs lo hi) hz,_,(r.drop (HT.sIx xs.length 0 lo)).take (HT.sIx xs.length xs.length hi-HT.sIx xs.length 0 lo),IsTup.new _ _⟩
def hE(K:W.Frag):R2:=λx y H Q=>∃a b xs ys,x=.ref a/\y=.ref b/\SqT K H a xs/\SqT K H b ys/\xs≠[]/\xs.length+ys.length<=sizeLine/\
 (ys=[]->Q (.ref a) H)/\(ys≠[]->∀p,H p=none->Q (.ref p) (upd H p (.tup (xs++ys))))
def Vals.nil_iff(r:Vals xs us):us=[] ↔ xs=[]:=by
 cases r with
 |nil=>simp
 |cons _ _=>simp
def xK:OpR X (binaryOp .Add) (hE X.K):=by intro pins s σ H x y v u Q I rx ry h;obtain⟨a,b,xs,ys,rfl,rfl,ha,hb,hx,hz,q1,q2⟩:=h;cases rx;cases ry;obtain⟨its,r1,p1,_⟩:=I.tuple ha;obtain⟨its2,r2,p2,_⟩:=I.tuple hb;refine HT.cat_tup p1 p2 (λz=>hx (r1.nil_iff.mp z)) (λz=>⟨.ref a,H,I,rfl,q1 (r2.nil_iff.mp z)⟩) (λz=>?_) (by rw[<- r1.length,<- r2.length];exact hz);refine⟨.ref s.heap.objs.size,_,I.laid (t':=s.toks) (o:=.tup (xs++ys)) (λb ob q=>w_ _ q) (y_ _) ?_,rfl,q2 (λw=>z (r2.nil_iff.mpr w)) _ (I.hok.fresh (y_ _))⟩;exact⟨by rw[G8];exact hz,_,r1.append r2,IsTup.new _ _⟩
end
noncomputable def ixN(n:Nat)(i:Int):Option Nat:=if 0<=i then (if i<n then some i.toNat else none) else if -(n:Int)<=i then some (i+n).toNat else none
noncomputable def atI{α:Type}(xs:List α)(i:Int):Option α:=(ixN xs.length i).bind λj=>xs[j]?
def oR(h:ixN n i=some j):seqIndex? i n=some j/\j<n/\-(n:Int)<=i/\i<n:=by
 unfold ixN at h;by_cases h0:0<=i
 .rw[if_pos h0] at h;by_cases h1:i<n
  .rw[if_pos h1] at h;have e:i.toNat=j:=Hc h;exact⟨by rw[seqIndex_of h0 h1,e],by omega,by omega,h1⟩
  .rw[if_neg h1] at h;cases h
 .rw[if_neg h0] at h;by_cases h1:-(n:Int)<=i
  .rw[if_pos h1] at h;have e:(i+n).toNat=j:=Hc h;exact⟨by rw[seqIndex_neg (by omega) h1,e],by omega,h1,by omega⟩
  .rw[if_neg h1] at h;cases h
def jT(h:atI xs i=some v):∃j,seqIndex? i xs.length=some j/\xs[j]?=some v/\j<xs.length/\-(xs.length:Int)<=i/\i<xs.length:=by
 unfold atI at h;cases e:ixN xs.length i with
 |none=>rw[e] at h;cases h
 |some j=>rw[e] at h;obtain⟨h1,h2,h3,h4⟩:=oR e;exact⟨j,h1,h,h2,h3,h4⟩
def kh(b:Expr):Prop:=∀o i,subscripted b false o i=operate [o,i] (getItem o i)
def IxR(X:Cx)(r:R2):Prop:=
 ∀
  (value m_:Expr) (pins:Jp) (s:Shared) (σ:St) (H:Hp) (x y:V) (v u:Value) (Q:VK),Inv X pins σ H s->RelV x v->RelV y u->r x y H Q->
  subscripted m_ false v u=operate [v,u] (getItem v u)->wpAny (model X.prog X.w) X.A (subscriptTail value m_ v u) (EP X pins σ Q) X.xe s
def MtR(X:Cx)(id:String)(r:V->List V->Hp->VK->Prop):Prop:=
 ∀
  (pins:Jp) (s:Shared) (σ:St) (H:Hp) (x:V) (xs:List V) (v:Value) (us:List Value) (Q:VK),Inv X pins σ H s->RelV x v->Vals xs us->r x xs H Q->
  wpAny (model X.prog X.w) X.A (call (.builtin id) (v::us)) (EP X pins σ Q) X.xe s
section
variable{X:Cx}{a b:Expr}{ta tb:TE}{pos:Pos}
def IxR.or(h:IxR X r)(h':IxR X r'):IxR X (λx y H Q=>r x y H Q\/r' x y H Q):=by
 intro value m_ pins s σ H x y v u Q I rx ry q hs;rcases q with q |q
 .exact h value m_ pins s σ H x y v u Q I rx ry q hs
 .exact h' value m_ pins s σ H x y v u Q I rx ry q hs
def FD(hr:IxR X r)(ha:PE X a ta)(hb:PE X b tb)(hs:kh b):PE X (.Subscript a b pos) (tOp r ta tb):=by intro pins s σ H Q I h;exact Subscript_ (vw ha hb I h λv u s2 x y H2 I2 rx ry q=>hr a b pins s2 σ H2 x y v u Q I2 rx ry q (hs _ _))
def rh(K:W.Frag):R2:=λx y H Q=>∃p xs i v,x=.ref p/\y=.int i/\SqL K H p xs/\atI xs i=some v/\Q v H
def qM(K:W.Frag):R2:=λx y H Q=>∃p xs i v,x=.ref p/\y=.int i/\SqT K H p xs/\atI xs i=some v/\Q v H
def vk:R2:=λx y H Q=>∃z i c,x=.str z/\y=.int i/\z.length<=sizeLine/\atI z.cps.toList i=some c/\Q (.str ⟨#[c]⟩) H
def Aj:IxR X (rh X.K):=by
 intro value m_ pins s σ H x y v u Q I rx ry h hs;obtain⟨p,xs,i,z,rfl,rfl,hq,he,q⟩:=h;cases rx;obtain⟨t,rfl⟩:=ry;obtain⟨its,r,pl,hz⟩:=I.list hq;obtain⟨j,h1,h2,h3,h4,h5⟩:=jT he;obtain⟨w,ew,rw'⟩:=r.get h2;have hl:=r.length;have hn:=fi;have g_:EP X pins σ Q w s:=⟨z,H,I,rw',q⟩;by_cases h0:0<=i
 .have hj:i.toNat=j:=by rw[seqIndex_of h0 h5] at h1;exact Hc h1
  exact item_listR pl.isList h0 (by omega) (by rw[hj];simpa using ew) g_ hs
 .have hj:(i+(its.toArray.size:Int)).toNat=j:=by rw[seqIndex_neg (by omega) h4] at h1;rw[B_,<- hl];exact Hc h1
  exact subscriptTail_builtinR (x:=w) pl.isList.typeIs slot_list_getitem.lookup
   (wpAny_getItem_list_neg (Q:=λr s'=>r=w/\EP X pins σ Q r s') pl.isList (by omega) (by rw[B_] <;> omega) (by omega) (by rw[hj];simpa using ew) ⟨rfl,g_⟩) hs
def Ct:IxR X (qM X.K):=by
 intro value m_ pins s σ H x y v u Q I rx ry h hs;obtain⟨p,xs,i,z,rfl,rfl,hq,he,q⟩:=h;cases rx;obtain⟨t,rfl⟩:=ry;obtain⟨its,r,pl,hz⟩:=I.tuple hq;obtain⟨j,h1,h2,h3,h4,h5⟩:=jT he;obtain⟨w,ew,rw'⟩:=r.get h2;have hl:=r.length;have hn:=fi;have g_:EP X pins σ Q w s:=⟨z,H,I,rw',q⟩;exact subscriptTail_builtinR (x:=w) pl.typeIs slot_tuple_getitem.lookup
  (getItem_tuple (j:=j) (Q:=λr s'=>r=w/\EP X pins σ Q r s') pl (by omega) (by omega) (by rw[B_,<- hl];exact h1) (by simpa using ew) ⟨rfl,g_⟩) hs
def Bc:IxR X vk:=by
 intro value m_ pins s σ H x y v u Q I rx ry h hs;obtain⟨z,i,c,rfl,rfl,hz,he,q⟩:=h;obtain⟨t,rfl⟩:=rx;obtain⟨t',rfl⟩:=ry;obtain⟨j,h1,h2,h3,h4,h5⟩:=jT he;have hl:z.cps.toList.length=z.length:=by simp [Str.length]
 rw[hl] at h1 h4 h5;have hn:=fi;exact tail_any (typeIs_str s z t) slot_str_getitem.lookup (getItem_str (c:=c) (by have e1:decide (i < -(2^63:Int))=false:=He (by omega);have e2:decide (i >= 2^63)=false:=He (by omega);rw[e1,e2,Bool.or_false]) (by rw[h1];simpa using h2) ⟨.str ⟨#[c]⟩,H,I.tok _,⟨_,rfl⟩,q⟩) hs
def qQ(its:List Value)(n j:Nat)(u:Value):Obj.mapSeq (·.setIfInBounds j u) { cls:=.type "list",data:=.seq its.toArray n }={ cls:=.type "list",data:=.seq (its.set j u).toArray n }:=by simp [Obj.mapSeq]
def Inv.lst(I:Inv X pins σ H s)(h:H p=some (.lst xs)):
 ∃(its:List Value) (n:Nat),Vals xs its/\s.heap.get? p=some { cls:=.type "list",data:=.seq its.toArray n }/\xs.length<=sizeLine:=by
 obtain⟨z,its,n,r,e⟩:=I.hok p _ h;exact⟨its,n,r,e,z⟩
def Inv.lstUpd{pins:Jp}{σ:St}{H:Hp}{s:Shared}{p:Addr}{xs ys:List V}{its its':List Value}{n n':Nat}{f:Obj->Obj}(I:Inv X pins σ H s)(h:H p=some (.lst xs))
 (ho:s.heap.get? p=some { cls:=.type "list",data:=.seq its.toArray n }) (hf:f { cls:=.type "list",data:=.seq its.toArray n }={ cls:=.type "list",data:=.seq its'.toArray n' }) (r:Vals ys its') (hz:ys.length<=sizeLine) (t:Nat):
 Inv X pins σ (upd H p (.lst ys)) { s with heap:=s.heap.update p f,toks:=t }:=by
 have e:(s.heap.update p f).get? p=some { cls:=.type "list",data:=.seq its'.toArray n' }:=by rw[Heap.get?_update_self f ho (by rw[hf] <;> rfl),hf]
 refine I.write (x:=p) (e:=p) (by rw[h];trivial) (.inl rfl) (λb u hb q=>(IV _ _ (Ne.symm hb)).trans q) ⟨_,e⟩ ?_;exact⟨hz,its',n',r,e⟩
def pY:V->V->V->Hp->(Hp->Prop)->Prop:=λo i v H Q=>∃p xs k j,o=.ref p/\i=.int k/\H p=some (.lst xs)/\ixN xs.length k=some j/\Q (upd H p (.lst (xs.set j v)))
def vg:mz X pY:=by
 intro pins s σ H o i v ov iv u Q I ro ri rv h;obtain⟨p,xs,k,j,rfl,rfl,hp,hj,q⟩:=h;cases ro;obtain⟨t,rfl⟩:=ri;obtain⟨its,n,r,ho,hz⟩:=I.lst hp;obtain⟨h1,h2,h3,h4⟩:=oR hj;have hl:=r.length;have hn:=fi;have I':Inv X pins σ (upd H p (.lst (xs.set j v))) { s with heap:=s.heap.update p (Obj.mapSeq (·.setIfInBounds j u)) }:=
  I.lstUpd hp ho (qQ its n j u) (r.set rv j) (by rw[G7];exact hz) s.toks
 by_cases h0:0<=k
 .have hk:k.toNat=j:=by rw[seqIndex_of h0 h4] at h1;exact Hc h1
  exact W.ki_setAt ho h0 (by omega) (by rw[B_,<- hl];exact h4) (by rw[hk];exact⟨_,I',q⟩)
 .have hk:(k+(its.toArray.size:Int)).toNat=j:=by rw[seqIndex_neg (by omega) h3] at h1;rw[B_,<- hl];exact Hc h1
  exact W.ki_setBack ho (by omega) (by rw[B_,<- hl];exact h3) (by omega) (by rw[hk];exact⟨_,I',q⟩)
def nY(lo hi:Option Int)(n:Nat):(sliceBounds lo hi none n).1=((HT.sIx n 0 lo:Nat):Int)/\(sliceBounds lo hi none n).2.1=((HT.sIx n n hi:Nat):Int)/\(sliceBounds lo hi none n).2.2=1:=by
 refine⟨?_,?_,rfl⟩
 .cases lo with
  |none=>simp [sliceBounds,HT.sIx]
  |
   some i=>
   simp only[sliceBounds,HT.sIx,Option.getD_none,show (1:Int)>0 by decide,Ip];by_cases h:i<0
   .simp only[h,Ip] <;> omega
   .simp only[h,IM] <;> omega
 .cases hi with
  |none=>simp [sliceBounds,HT.sIx]
  |
   some i=>
   simp only[sliceBounds,HT.sIx,Option.getD_none,show (1:Int)>0 by decide,Ip];by_cases h:i<0
   .simp only[h,Ip] <;> omega
   .simp only[h,IM] <;> omega
def lM(its:List Value)(lo hi:Option Int):slicePick its.toArray lo hi none=((its.drop (HT.sIx its.length 0 lo)).take (HT.sIx its.length its.length hi-HT.sIx its.length 0 lo)).toArray:=by obtain⟨h1,h2,h3⟩:=nY lo hi its.toArray.size;unfold slicePick;rw[h1,h2,h3];simp only[sliceRange_one,pick_run,B_] <;> rfl
def rSlL(K:W.Frag):V->Option Int->Option Int->Hp->VK->Prop:=λx lo hi H Q=>∃a xs,x=.ref a/\SqL K H a xs/\∀p,H p=none->Q (.ref p) (upd H p (.lst (gB xs lo hi)))
def Ad:SlR X (rSlL X.K):=by intro pins s σ H x v vl vu lo hi sl Q I rx hs pl pu h;obtain⟨a,xs,rfl,hx,q⟩:=h;cases rx;obtain⟨its,r,ht,hz⟩:=I.list hx;have hlen:=r.length;refine⟨"list",_,slot_list_getitem.lookup,ht.isList.typeIs,?_⟩;refine wpAny_getItem_list_slice ht.isList hs pl pu .none (by simp) ?_ (by rw[B_] <;> omega);rw[lM,<- hlen];refine⟨.ref s.heap.objs.size,_,I.laid (t':=s.toks) (o:=.lst (gB xs lo hi)) (λb ob q=>w_ _ q) (y_ _) ?_,rfl,q _ (I.hok.fresh (y_ _))⟩;exact⟨G6 (iu xs lo hi) hz,_,0,(r.drop (HT.sIx xs.length 0 lo)).take (HT.sIx xs.length xs.length hi-HT.sIx xs.length 0 lo),Hl _ rfl⟩
noncomputable def flatV:V->Bool
 |.non=>true
 |.bl _=>true
 |.int _=>true
 |.str _=>true
 |_=>false
def mW:CallR X (.builtin "len") (λxs H Q=>∃p ys,xs=[.ref p]/\(SqL X.K H p ys\/SqT X.K H p ys)/\Q (.int ys.length) H):=by
 intro pins s σ H xs us Q I r h;obtain⟨p,ys,rfl,hq,q⟩:=h;obtain⟨u,rfl,rx⟩:=gJ r;cases rx;have hn:=fi;rcases hq with hq |hq
 .obtain⟨its,r',pl,hz⟩:=I.list hq;have hlen:=r'.length;exact Calls.call_len_list pl.isList (by simp only[B_] <;> omega) ⟨.int ys.length,H,I.tok _,⟨s.toks+1,by rw[B_,hlen]⟩,q⟩
 .obtain⟨its,r',pl,hz⟩:=I.tuple hq;have hlen:=r'.length;exact len_tuple pl (by simp only[B_] <;> omega) ⟨.int ys.length,H,I.tok _,⟨s.toks+1,by rw[B_,hlen]⟩,q⟩
def nF:CallR X (.builtin "len") (λxs H Q=>∃z,xs=[.str z]/\z.length<=sizeLine/\Q (.int z.length) H):=by intro pins s σ H xs us Q I r h;obtain⟨z,rfl,hz,q⟩:=h;obtain⟨u,rfl,t,rfl⟩:=gJ r;have hn:=fi;exact len_str (by omega) ⟨.int z.length,H,I.tok _,⟨_,rfl⟩,q⟩
def CallR.or(h:CallR X f r)(h':CallR X f r'):CallR X f (λxs H Q=>r xs H Q\/r' xs H Q):=by
 intro pins s σ H xs us Q I rs q;rcases q with q |q
 .exact h pins s σ H xs us Q I rs q
 .exact h' pins s σ H xs us Q I rs q
def nh:CallR X (.type "list") (λxs H Q=>∃p ys,xs=[.ref p]/\(SqL X.K H p ys\/SqT X.K H p ys)/\∀l,H l=none->Q (.ref l) (upd H l (.lst ys))):=by
 intro pins s σ H xs us Q I r h;obtain⟨p,ys,rfl,hq,q⟩:=h;obtain⟨u,rfl,rx⟩:=gJ r;cases rx;have g_:∀(its:List Value),Vals ys its->ys.length<=sizeLine->∀(h':Heap) (c':Nat),(∀b o',s.heap.get? b=some o'->h'.get? b=some o')->
  h'.get? s.heap.objs.size=some { cls:=.type "list",dict:=none,data:=.seq its.toArray c',slots:=#[] }->EP X pins σ Q (.ref s.heap.objs.size) { s with heap:=h' }:=λits r' hz h' c' kp e=>
  ⟨.ref s.heap.objs.size,_,I.laid (t':=s.toks) kp (y_ _) (show ObjOk X.prog X.w _ h' _ (.lst ys) from ⟨hz,its,c',r',e⟩),rfl,q _ (I.hok.fresh (y_ _))⟩
 rcases hq with hq |hq
 .obtain⟨its,r',pl,hz⟩:=I.list hq;have hlen:=r'.length;obtain⟨o,ho,hc,n,hd⟩:=pl.isList;exact call_list_seq p (.inl rfl) ho hc hd (λh' c' kp e=>g_ its r' hz h' c' kp e) (by simp only[B_] <;> omega)
 .obtain⟨its,r',pl,hz⟩:=I.tuple hq;have hlen:=r'.length;obtain⟨o,ho,hc,n,hd⟩:=pl;exact call_list_seq p (.inr rfl) ho hc hd (λh' c' kp e=>g_ its r' hz h' c' kp e) (by simp only[B_] <;> omega)
def tyV(K:W.Frag)(T:String)(x:V)(H:Hp):Prop:=match x with
 |.str _=>T="str"
 |.int _=>T="int"
 |.ref p=>(T="list" /\ ∃xs,SqL K H p xs)\/(T="tuple" /\ ∃o,K.lookup p=some o/\o.cls=.type "tuple" /\ o.dict=none)\/
  (T="dict" /\ ((∃kvs,H p=some (.dK kvs))\/∃kvs,H p=some (.dT kvs)))\/(T="set" /\ ∃S n,H p=some (.set S n))
 |_=>False
def BH(I:Inv X pins σ H s)(r:RelV x v)(ty:tyV X.K T x H):
 s.TypeIs v T/\∀a,v=.ref a->∃ob,s.heap.get? a=some ob/\ob.dict=none:=by
 cases x with
 |str z=>obtain⟨t,rfl⟩:=r;cases (show T="str" from ty);exact⟨typeIs_str s z t,λ_ e=>nomatch e⟩
 |int i=>obtain⟨t,rfl⟩:=r;cases (show T="int" from ty);exact⟨typeIs_int s i t,λ_ e=>nomatch e⟩
 |
  ref p=>
  cases r;rcases ty with ⟨rfl,xs,hq⟩ |⟨rfl,o,hk,hc,hd⟩ |⟨rfl,hk⟩ |⟨rfl,S,n,hk⟩
  .obtain⟨its,_,pl,_⟩:=I.list hq;refine⟨pl.isList.typeIs,λa e=>?_⟩;cases e;obtain⟨o,n,e,c,hd,_⟩:=pl;exact⟨o,e,hd⟩
  .refine⟨⟨o,I.kIn p o hk,hc⟩,λa e=>?_⟩;cases e;exact⟨o,I.kIn _ o hk,hd⟩
  .have z:∃o,s.heap.get? p=some o/\o.ExactDict:=by
    rcases hk with ⟨kvs,hk⟩ |⟨kvs,hk⟩
    .obtain⟨_,_,_,_,o,_,_,e,ex,_⟩:=I.hok p _ hk;exact⟨o,e,ex⟩
    .obtain⟨_,_,_,_,o,_,_,e,ex,_⟩:=I.hok p _ hk;exact⟨o,e,ex⟩
   obtain⟨o,e,ex⟩:=z;refine⟨⟨o,e,ex.1⟩,λa e2=>?_⟩;cases e2;exact⟨o,e,ex.2.1⟩
  .obtain⟨o,_,_,_,e,ex,_⟩:=I.hok p _ hk;refine⟨⟨o,e,ex.1⟩,λa e2=>?_⟩;cases e2;exact⟨o,e,ex.2.1⟩
 |_=>exact False.elim ty
def tBM(K:W.Frag)(T:String)(r:V->List V->Hp->VK->Prop)(to:TE)(t:TA):TE:=λσ H Q=>to σ H λx H1=>tyV K T x H1/\t σ H1 λxs H2=>r x xs H2 Q
variable{o e:Expr}{es:List Expr}{to:TE}{t:TA}{name:Str}{apos cpos:Pos}{T id:String}{r:V->List V->Hp->VK->Prop}
def EJ(pa:PlainAttrs T)(slot:Slot T name id)(hty:typeOf (.builtin id)=pure (.type "method_descriptor"))(hm:MtR X id r)(ho:PE X o to)(ha:PA X (e::es) t)
 (hbase:attributeBase o name X.env (eval o X.env)=eval o X.env)
 (hfew:((backTo cpos (starEach (e::es) X.env)).all (λx=>!x.1)&&(backToKw cpos (keywordEach [] X.env)).all (λx=>x.1.isSome)
  && decide ((e::es).length+([]:List Keyword).length+(if ([]:List Keyword).isEmpty then 0 else 1)<30))=true)
 (hline:(apos.endLine==cpos.line)=true) (hs:starEach (e::es) X.env=(false,eval e X.env)::starEach es X.env) (j_:(backTo cpos (starEach es X.env)).any (·.1)=false):
 PE X (.Call (.Attribute o name apos) (e::es) [] cpos) (tBM X.K T r to t):=by
 intro pins s σ H Q I h;refine wpAny_Call_method_late hbase hfew hline rfl (thn (ho pins s σ H _ I h) λv s1 ⟨x,H1,I1,r1,ty,q1⟩=>?_);obtain⟨h1,h2⟩:=BH I1 r1 ty;refine⟨T,id,pa,slot,hty,h1,h2,?_⟩;have hA:=ha cpos pins s1 σ H1 _ I1 q1;rw[hs] at hA ⊢;refine Calls.callWith_builtin (by show (false || (backTo cpos (starEach es X.env)).any (·.1))=false;rw[j_] <;> rfl) (Calls.evalArgs_plain ?_);exact thn hA λus s2 ⟨vs,H2,I2,r2,q2⟩=>hm pins s2 σ H2 x vs v us Q I2 r1 r2 q2
end
def MtM(X:Cx)(id:String)(r:V->List V->Hp->VK->Prop):Prop:=
 ∀
  (pins:Jp) (s:Shared) (σ:St) (H:Hp) (x:V) (xs:List V) (v:Value) (us:List Value) (Q:VK),Inv X pins σ H s->RelV x v->Vals xs us->r x xs H Q->
  wpAny (model X.prog X.w) X.A (call (.builtin id) (v::us)) (EP X pins σ Q) X.xe s
def Vals.one(r:Vals [x] us):∃u,us=[u]/\RelV x u:=by
 cases r with
 |cons r t=>cases t;exact⟨_,rfl,r⟩
section
variable{X:Cx}{pins:Jp}{σ:St}{H:Hp}{s:Shared}{l:Addr}{xs ys:List V}
def Inv.lset{its its':List Value}{n:Nat}{f:Array Value->Array Value}{t':Nat}(I:Inv X pins σ H s)(hH:H l=some (.lst xs))
 (e:s.heap.get? l=some { cls:=.type "list",data:=.seq its.toArray n }) (hf:f its.toArray=its'.toArray) (hv:Vals ys its') (hz:ys.length<=sizeLine):
 Inv X pins σ (upd H l (.lst ys)) { s with heap:=s.heap.update l (Obj.mapSeq f),toks:=t' }:=by
 have q:=PySem.IsL.update e f;rw[hf] at q;refine I.write (x:=l) (e:=l) (by rw[hH];exact trivial) (.inl rfl) (λb' u hb hu=>(IV s.heap (Obj.mapSeq f) (Ne.symm hb)).trans hu) ⟨_,q⟩ ?_;exact⟨hz,its',_,hv,q⟩
def Inv.lnew(I:Inv X pins σ H s)(hv:Vals ys its)(hz:ys.length<=sizeLine):
 Inv X pins σ (upd H s.heap.objs.size (.lst ys)) { s with heap:=s.heap.push { cls:=.type "list",data:=.seq its.toArray },toks:=t' }:=
 I.laid (λ_ _ q=>w_ _ q) (y_ _) ⟨hz,its,0,hv,Hl _ rfl⟩
def Inv.fresh(I:Inv X pins σ H s):H s.heap.objs.size=none:=I.hok.fresh (y_ _)
def Inv.lstM(I:Inv X pins σ H s)(hH:H l=some (.lst xs)):xs.length<=sizeLine/\∃(its:List Value) (n:Nat),Vals xs its/\xs.length=its.length/\s.heap.get? l=some { cls:=.type "list",data:=.seq its.toArray n }:=by obtain⟨z,its,n,r,e⟩:=I.hok l _ hH;exact⟨z,its,n,r,r.length,e⟩
end
section
variable{X:Cx}
def kf:V->List V->Hp->VK->Prop:=λx vs H Q=>∃l xs y,x=.ref l/\vs=[y]/\H l=some (.lst xs)/\xs.length<sizeLine/\Q .non (upd H l (.lst (xs++[y])))
def ui:MtM X "list.append" kf:=by intro pins s σ H x vs v us Q I rx rv h;obtain⟨l,xs,y,rfl,rfl,hH,hz,q⟩:=h;cases rx;obtain⟨u,rfl,ru⟩:=rv.one;obtain⟨z,its,n,r,hl,e⟩:=I.lstM hH;refine call_meets F.slot_list_append ⟨_,e,rfl⟩ F.entry_list_append (F.args_list_append_2 _ _) (PySem.list_append l its.toArray n u (by rw[B_];omega)) ⟨e,?_⟩;refine⟨.non,_,I.lset (its':=its++[u]) hH e (by simp) (r.append (.cons ru .nil)) ?_,rfl,q⟩;rw[G8,HL];omega
def jV:R2:=λx y H Q=>∃l b xs zs,x=.ref l/\y=.ref b/\H l=some (.lst xs)/\H b=some (.lst zs)/\xs.length+zs.length<=sizeLine/\∀p,H p=none->Q (.ref p) (upd H p (.lst (xs++zs)))
def D4:OpR X (binaryOp .Add) jV:=by
 intro pins s σ H x y v u Q I rx ry h;obtain⟨l,b,xs,zs,rfl,rfl,hH,hB,hz,q⟩:=h;cases rx;cases ry;obtain⟨z,its,n,r,hl,e⟩:=I.lstM hH;obtain⟨z2,its2,n2,r2,hl2,e2⟩:=I.lstM hB;refine PySem.P.add_list e e2 ?_ (by rw[B_,B_];omega);have ea:its.toArray++its2.toArray=(its++its2).toArray:=by simp
 rw[ea];exact⟨.ref _,_,I.lnew (t':=s.toks) (r.append r2) (by rw[G8];omega),rfl,q _ I.fresh⟩
end
section
set_option maxRecDepth 100000 in
end
end L2
namespace Att
open PySem PySem.W PySem.Calls PyProof.Rows
def jJ:∀(ns:List Int) (vs:List Value),WellAll P h vs (ns.map WData.int)->IntsAre vs ns:=by
 intro ns;induction ns with
 |nil=>intro vs w;rw[IK] at w;cases w;exact .nil
 |
  cons n ns ih=>
  intro vs w;rw[D_] at w;cases w with
  |cons a b=>cases a;exact .cons _ _ (ih _ b)
def tD{l:OpenLaw}{n:Nat}(hn:l.most=some n){P:Params}{h:Heap}{args:List WData}{vals:List Value}
 (hpre:l.row.toRowW.claim.pre args=true) (hwl:WellAll P h vals args):
 ∃a vs ns,vals=[Value.ref a]/\args=[WData.list (ns.map WData.int)]/\h.get? a=some { cls:=.type "list",data:=.seq vs.toArray }/\IntsAre vs ns/\ns.length<=n:=by
 have hsh:WShape.hasAll [] args [.list .int]=true:=(pre_splitW hpre).1;have hc:l.pre.holds [] { args:=args }=true:=(pre_splitW hpre).2;obtain⟨d,r,rfl,h1,h2⟩:=hasAllW_cons hsh;obtain rfl:=hasAllW_nil h2;obtain⟨xs,rfl,h3⟩:=hasW_list h1;obtain⟨ns,rfl⟩:=items_int h3;have hlen:ns.length<=n:=by
  unfold OpenLaw.pre at hc;have h4:(WTm.not (.lt (.lit (.int (n:Int))) (.len (.arg 0)))).holds [] { args:=[.list (ns.map .int)] }=true:=by have h4:=(holds_andW hc).1;rw[hn] at h4;exact h4
  have h5:=condW_of h4 (w_not (w_lt w_lit (w_len_list (w_arg rfl))));rw[v_] at h5;refine Nat.le_of_not_lt λq=>?_;have q':(n:Int)<((ns.length:Nat):Int):=by omega
  first
   |(rw[Hf q'] at h5;exact absurd h5 (by decide))
   |(simp at h5;omega)
 cases hwl with
 |
  cons w1 w2=>
  cases w2;cases w1 with
  |list ho hall=>exact⟨_,_,ns,rfl,rfl,ho,jJ ns _ hall,hlen⟩
def sR(l:OpenLaw)(args:List WData):l.row.toRowW.claim.post args (.bool true) args=true:=
 postW_of (r:=l.row.toRowW) (X:=(true==true))
  (show WShape.has [] (.bool true) .bool=true by first |rfl |decide |simp [WShape.has,WShape.arms,WShape.armsAll])
  (show (WTm.eq .res (.lit (.bool true))).value [] { args:=args,res:=some (.bool true),after:=args }=some (.bool (true==true)) from w_eq_bool (w_res rfl) w_lit) rfl
def attach_call{l:OpenLaw}{n:Nat}{q:Program}{loose:List Str}{XP:(Str->Option Value)->Heap->Prop}{YP:World->Heap->Prop}{d:DefRec}
 (hn:l.most=some n) (hdf:d.params.defaults=[])
 (call:∀(w:World) (s₀ s₁:Shared) (mg mb:Jo) (fa:Addr) (o:Obj) (pm cd doc:Value) (a:Addr) (vs:List Value) (ns:List Int),
  Ground q loose [] XP w s₀ mg mb s₁.heap->YP w s₁.heap->
  s₁.heap.get? fa=some o->o.data=.func (docDef d.name d.params d.body d.scope pm cd doc)->s₁.heap.CodeRec cd d.name->mg d.name=some (.ref fa)->
  s₁.heap.get? a=some { cls:=.type "list",data:=.seq vs.toArray }->IntsAre vs ns->ns.length<=n->s₁.gens=#[]->
  codeAny (model l.prog w) callerA (.call (.ref fa) ⟨[.ref a],[]⟩) (λr s'=>r=.ok (.ret (.bool true))/\OldK s₁.heap s'.heap/\s'.os=s₁.os/\AllBare s'.gens) s₁):
 WalkO q loose XP YP l.row.toRowW d [] (λf vs=>PySem.call f vs):=by
 intro w s₀ s₁ mg mb G Y fa o pm cd doc dV kV ho hd p_ hD hmg hg args vals as hpre hlay hrd hwl hlo;obtain rfl:dV=.none:=Dflts.none hD hdf;obtain rfl:kV=.none:=Dflts.noKw hD;obtain⟨a,vs,ns,rfl,rfl,hobj,hints,hlen⟩:=tD hn hpre hwl;refine enter_call (codeAny_mono (call w s₀ s₁ mg mb fa o pm cd doc a vs ns G Y ho (fd_plain hd) p_ hmg hobj hints hlen hg) λr s' hq=>?_);obtain⟨rfl,h2,h3,h4⟩:=hq;exact⟨.inl ⟨.bool true,.bool true,[],rfl,λ_=>rfl,.bool true,sR l _,λ_=>⟨List.Pairwise.nil,λ_ hm=>(nomatch hm)⟩⟩,h2,h3,h4⟩
section
def ledger(h:Heap)(L d:Addr):List (Addr×Obj):=(List.range h.objs.size).filterMap λa=>if a=L\/a=d then none else (h.get? a).map λo=>(a,o)
end
end Att
namespace L2
open PySem PySem.Spec PyProof.Rows
theorem gC:∀{vs:List Value}{ns:List Int},IntsAre vs ns->Vals (ns.map V.int) vs
 |_,_,.nil=>.nil
 |_,_,.cons n t h=>.cons ⟨t,rfl⟩ (gC h)
def uH(H:Hp):Prop:=∀b,H b=none\/∃o xs,H b=some (.frz o (.lst xs))
def vQ{P:Program}{w:World}{K:W.Frag}{mg mb:Jo}{CX:CXT}{k:Nat}{fa a:Addr}{fd:FuncData}{x:Str}{sp:Sp}{s₁:Shared}{vs:List Value}{ns:List Int}
 (KX:K.In s₁.heap) (hns:s₁.heap.Ns mainGlobals mg) (hb:s₁.heap.Ns builtinsNs mb) (hbb:∀x:Str,x ≠ "__name__"->mb x=bootBuiltins x) (hlim:s₁.heap.NoLimit) (hg:s₁.gens=#[])
 (ha:s₁.heap.get? a=some { cls:=.type "list",data:=.seq vs.toArray }) (hi:IntsAre vs ns) (hl:ns.length<=sizeLine) (hr:Room k callerA)
 (F:∀base:Heap,K.In base->base.Ns mainGlobals mg->FnOk P w K mg base CX k fa fd [x] sp) (hbind:∀(s:Shared) (u:Value),BindsTo s fd ⟨[u],[]⟩ [(x,u)])
 (hsp:∀H:Hp,uH H->SqL K H a (ns.map V.int)->sp [.ref a] H (λv _=>v=.bl true) λ_ _ _=>False)
 (hCX:∀H e s',CX [] H s₁ (λ_ _ _=>False) e s'->False):
 codeAny (model P w) callerA (.call (.ref fa) ⟨[.ref a],[]⟩) (λr s'=>r=.ok (.ret (.bool true))/\OldK s₁.heap s'.heap/\s'.os=s₁.os/\AllBare s'.gens) s₁:=by
 have rv:=gC hi;have lenV:=hi.length;have core
  : ∀H:Hp,uH H->SqL K H a (ns.map V.int)->HOk P w H s₁.heap->(∀b,H b≠none->b=a)->(H a≠none->K.lookup a=none)->
  codeAny (model P w) callerA (.call (.ref fa) ⟨[.ref a],[]⟩) (λr s'=>r=.ok (.ret (.bool true))/\OldK s₁.heap s'.heap/\s'.os=s₁.os/\AllBare s'.gens) s₁:=by
  intro H hO hS hok hA hK;have base_of:∀{b:Addr}{o:Obj},s₁.heap.get? b=some o->H b=none->(da s₁.heap H).get? b=some o:=λe n=>mE e n;have noA:∀{b:Addr}{o:Obj}{es:Array DictEntry}{ep:Nat},s₁.heap.get? b=some o->o.data=.dict es ep->H b=none:=λ{b o es ep} e d=>by
   cases q:H b with
   |none=>rfl
   |some u=>have e':b=a:=hA b (by rw[q];simp);subst e';rw[ha] at e;cases e;have d':Data.seq vs.toArray _=Data.dict es ep:=d;cases d'
  have nsK:∀{b:Addr}{m:Jo},s₁.heap.Ns b m->(da s₁.heap H).Ns b m:=λ{b m} ⟨o,es,ep,e,d,r⟩=>⟨o,es,ep,base_of e (noA e d),d,r⟩;have hKb:K.In (da s₁.heap H):=λb o e=>base_of (KX b o e) (by
   cases q:H b with
   |none=>rfl
   |some u=>have e':b=a:=hA b (by rw[q];simp);subst e';rw[hK (by rw[q];simp)] at e;cases e)
  have hM:Mod K mg (da s₁.heap H):=⟨hKb,nsK hns,⟨mb,nsK hb,hbb⟩,let ⟨mc,h1,h2⟩:=hlim;⟨mc,nsK h1,h2⟩⟩;have e0:Env0 P w K mg (da s₁.heap H) callerA [] s₁ H:=⟨rfl,hM,λb o e=>oG e,Nat.le_of_eq (lF _ _),trivial,λb hb=>absurd (show b∈([]:List Addr) from hb) (by simp),hok,.of_eq hg⟩;refine codeAny_mono ((F _ hKb (nsK hns)).run callerA [] s₁ H ⟨[.ref a],[]⟩ [.ref a] [.ref a] _ _ hr e0 (hbind s₁ (.ref a)) (.cons rfl .nil) (hsp H hO hS)) λr s' h=>?_;cases r with
  |error e=>exact (hCX H e s' h).elim
  |
   ok fl=>
   cases fl with
   |next=>exact False.elim h
   |brk=>exact False.elim h
   |cont=>exact False.elim h
   |
    ret u=>
    obtain⟨v,H',os,bare,un,hok',r',q⟩:=h;have q':v=.bl true:=q;subst q';obtain rfl:u=Value.bool true:=r';refine⟨rfl,OldK.of_keep λb o e=>?_,os,bare⟩;cases q:H b with
    |none=>exact un.keep b o e q (by intro z;exact absurd (show b∈([]:List Addr) from z) (by simp)) (by simp)
    |
     some u=>
     rcases hO b with z |⟨ob,xs,z⟩
     .rw[q] at z;cases z
     .have z2:=un.frzs b ob _ z;obtain⟨e1,_⟩:=hok b _ z;obtain⟨e2,_⟩:=hok' b _ z2;rw[e] at e1;cases e1;exact e2
 cases hk:K.lookup a with
 |some o=>have e:=KX a o hk;rw[ha] at e;cases e;refine core (λ_=>none) (λ_=>.inl rfl) (.inr ⟨_,vs.toArray,_,hk,rfl,rfl,rfl,by rw[B_,lenV];exact hl,by simpa using rv⟩) (λb u z=>by have z':(none:Option HO)=some u:=z;cases z') (λb z=>absurd rfl z) λz=>absurd rfl z
 |
  none=>
  refine core (λb=>if b=a then some (.frz { cls:=.type "list",data:=.seq vs.toArray } (.lst (ns.map V.int))) else none) (λb=>?_) (.inl (.inr ⟨{ cls:=.type "list",data:=.seq vs.toArray },if_pos rfl⟩)) (λb u z=>?_) (λb z=>?_) λ_=>hk
  .by_cases hb:b=a
   .exact .inr ⟨_,_,if_pos hb⟩
   .exact .inl (if_neg hb)
  .by_cases hb:b=a
   .have z':=(if_pos hb).symm.trans z;cases z';subst hb;exact⟨ha,by rw[v_];exact hl,vs,_,rv,ha⟩
   .have z':=(if_neg hb).symm.trans z;cases z'
  .by_cases hb:b=a
   .exact hb
   .exact absurd (if_neg hb) z
abbrev KOf{K:W.Frag}{h:Heap}(_:K.In h):W.Frag:=K
def G4{l:W.OpenLaw}{n k:Nat}{q:Program}{loose:List Str}{XP:(Str->Option Value)->Heap->Prop}{YP:World->Heap->Prop}{d:DefRec}{K:Params->W.Frag}{CX:World->CXT}{sp:World->Sp}{x:Str}
 (hn:l.most=some n) (hn2:n<=sizeLine) (hdf:d.params.defaults=[]) (hr:Room k callerA)
 (hY:∀(w:World) (h:Heap),YP w h->(K w.params).In h)
 (F:∀(w:World) (mg:Jo) (fa:Addr) (h:Heap),(K w.params).In h->h.Ns mainGlobals mg->mg d.name=some (.ref fa)->
  ∃
   fd:FuncData,(∀(s:Shared) (u:Value),BindsTo s fd ⟨[u],[]⟩ [(x,u)])/\
   ∀base:Heap,(K w.params).In base->base.Ns mainGlobals mg->FnOk l.prog w (K w.params) mg base (CX w) k fa fd [x] (sp w))
 (hsp:∀(w:World) (H:Hp) (a:Addr) (ns:List Int),ns.length<=n->uH H->SqL (K w.params) H a (ns.map V.int)->sp w [.ref a] H (λv _=>v=.bl true) λ_ _ _=>False)
 (hCX:∀(w:World) (H:Hp) (s:Shared) (e:Value) (s':Shared),CX w [] H s (λ_ _ _=>False) e s'->False):
 W.WalkO q loose XP YP l.row.toRowW d [] (λf vs=>PySem.call f vs):=by
 refine Att.attach_call hn hdf λw s₀ s₁ mg mb fa o pm cd doc a vs ns G Y ho hd p_ hmg hobj hints hlen hg=>?_;have KX:=hY w _ Y;obtain⟨fd,hb,hF⟩:=F w mg fa _ KX G.T.g hmg;exact vQ KX G.T.g G.T.b G.T.builtins G.T.nolimit hg hobj hints (G6 hlen hn2) hr hF hb (λH hO hS=>hsp w H a ns hlen hO hS) λH e s'=>hCX w H s₁ e s'
noncomputable def bT(s:Stmt):Arguments:=match s with
 |.FunctionDef _ a _ _ _ _ _ _ _ _=>a
 |_=>{ posonlyargs:=[],args:=[],vararg:=none,kwonlyargs:=[],kw_defaults:=[],kwarg:=none,defaults:=[] }
noncomputable def aT(s:Stmt):List Stmt:=match s with
 |.FunctionDef _ _ b _ _ _ _ _ _ _=>b
 |_=>[]
noncomputable def ak(s:Stmt):Scope:=match s with
 |.FunctionDef _ _ _ _ _ _ sc _ _ _=>sc
 |_=>{ kind:=.function,names:=[],isGenerator:=false,isCoroutine:=false }
abbrev E0:XK:=λ_ _ _=>False
structure Fun(K:W.Frag)(x qual:Str)(st:Stmt)(f:Addr)(fd:FuncData):Prop where
 ex:∃(oc:Value) (od:Option Addr) (kV doc pm:Value) (an:Option Addr) (cdv ct:Value) (osl:Array (Option Value)),
  fd=W.fnOf x qual (bT st) (aT st) (ak st) .none kV doc pm an cdv ct/\K.lookup f=some ⟨oc,od,.func fd,osl⟩/\W.codeIn K cdv qual=true
 kp:W.keepIn K (.ref f)=true
section
variable{K:W.Frag}
def Fun.binds{x qual:Str}{st:Stmt}{f:Addr}{fd:FuncData}{ps:List Str}(F:Fun K x qual st f fd)
 (h:∀(kV doc pm:Value) (an:Option Addr) (cdv ct:Value) (us:List Value),us.length=ps.length->bindArgs (W.fnOf x qual (bT st) (aT st) (ak st) .none kV doc pm an cdv ct) ⟨us,[]⟩=pure (ps.zip us)):Binds K fd ps []:=by
 obtain⟨oc,od,kV,doc,pm,an,cdv,ct,osl,rfl,lk,p_⟩:=F.ex;exact .all (h kV doc pm an cdv ct)
def A6{x qual:Str}{st:Stmt}{f:Addr}{oc:Value}{od an:Option Addr}{osl:Array (Option Value)}{kV doc pm cdv ct:Value}(l:K.lookup f=some ⟨oc,od,.func (W.fnOf x qual (bT st) (aT st) (ak st) .none kV doc pm an cdv ct),osl⟩)
 (c:W.codeIn K cdv qual=true) (k:W.keepIn K (.ref f)=true):Fun K x qual st f (W.fnOf x qual (bT st) (aT st) (ak st) .none kV doc pm an cdv ct):=⟨⟨oc,od,kV,doc,pm,an,cdv,ct,osl,rfl,l,c⟩,k⟩
end
def Fw(hr:Room k A):A.units+1<cLine:=Nat.lt_of_le_of_lt (Nat.add_le_add_left (by decide:1<=64) _) hr.units
section
variable{X:Cx}{pins:Jp}{σ:St}{H:Hp}{s:Shared}
def Inv.track{a:Addr}{o:HO}(I:Inv X pins σ H s)(hn:H a=none)(h0:X.s₀.heap.get? a=none)(hL:a≠X.env.locals)(hc:∀x c,X.env.cells.lookup x=some c->c≠a)
 (hp:∀p∈X.pn++pins,p.1≠a) (new:ObjOk X.prog X.w (upd H a o) s.heap a o):Inv X pins σ (upd H a o) s:=by
 have ne:∀b u,H b=some u->b≠a:=λb u e z=>by rw[z,hn] at e;cases e
 have ne0:∀b u,X.s₀.heap.get? b=some u->b≠a:=λb u e z=>by rw[z,h0] at e;cases e
 refine⟨I.ok,I.os,I.bare,⟨I.base.keep,I.base.slot,λb u e n hx=>?_,I.base.there,λb xs e=>?_,λb u xs e=>?_,λb ps e=>?_⟩,I.loc,I.cell,?_,λx c e=>?_,λp hp'=>?_,λb u e=>?_,I.len⟩
 .rw[au (ne0 b u e)];exact I.base.free b u e n hx
 .have q:=I.base.tups b xs e;rw[au (ne _ _ q)];exact q
 .have q:=I.base.frzs b u xs e;rw[au (ne _ _ q)];exact q
 .obtain⟨m,q⟩:=I.base.tbls b ps e;exact⟨m,by rw[au (ne _ _ q)];exact q⟩
 .rw[au (Ne.symm hL)];exact I.free
 .rw[au (hc x c e)];exact I.freeC x c e
 .obtain⟨e,n,r⟩:=I.pin p hp';exact⟨e,by rw[au (hp p hp')];exact n,r⟩
 .by_cases hb:b=a
  .subst hb;rw[aP] at e;cases e;exact new
  .rw[au hb] at e;exact (I.hok b u e).stay (λc v _ q=>q) (λc q=>by rw[au (ne _ _ q)];exact q) λc xs q=>by rw[au (ne _ _ q)];exact q
end
theorem fT{env:Env}:∀{names:List (Str×NameKind)} (cs:List (Str×Addr)),(∀x∈names,x.2=.free->∃c,env.cells.lookup x.1=some c)->(∀x c,cs.lookup x=some c->env.cells.lookup x=some c)->
 ∃
  cl,(forIn names cs λ(x:Str×NameKind) (r:List (Str×Addr))=>if (x.2==NameKind.free)=true then do let a <- cellOf env x.1;pure (ForInStep.yield ((x.1,a)::r)) else pure (ForInStep.yield r):Sem (List (Str×Addr)))=pure cl/\
  (∀x c,cl.lookup x=some c->env.cells.lookup x=some c)/\(∀x c,cs.lookup x=some c->∃c',cl.lookup x=some c')/\∀x∈names,x.2=.free->∃c,cl.lookup x.1=some c
 | [],cs,_,h=>⟨cs,by simp,h,λx c e=>⟨c,e⟩,λ_ hx=>nomatch hx⟩
 |
  (n,k)::r,cs,hf,h=>by
  rw[List.forIn_cons];by_cases hk:k=.free
  .subst hk;obtain⟨c,hc⟩:=hf (n,.free) G5 rfl;have hcell:cellOf env n=pure c:=by unfold cellOf;rw[hc]
   have h':∀x d,((n,c)::cs).lookup x=some d->env.cells.lookup x=some d:=λx d e=>by
    rw[HR] at e;cases q:x==n with
    |true=>rw[q] at e;cases e;rw[Hw.mp q];exact hc
    |false=>rw[q] at e;exact h x d e
   obtain⟨cl,e1,e2,e3,e4⟩:=fT (env:=env) (names:=r) ((n,c)::cs) (λx hx=>hf x (F_ _ hx)) h';have top:∃c',cl.lookup n=some c':=e3 n c (by rw[HR];simp);refine⟨cl,?_,e2,λx d e=>?_,λx hx l_=>?_⟩
   .simp only[beq_self_eq_true,Ip,hcell];exact e1
   .by_cases q:x=n
    .rw[q];exact top
    .exact e3 x d (by rw[HR,(Hm.mpr q:(x==n)=false)];exact e)
   .rcases Hv.mp hx with rfl |hx
    .exact top
    .exact e4 x hx l_
  .have hb:(k==NameKind.free)=false:=by simpa using hk
   obtain⟨cl,e1,e2,e3,e4⟩:=fT (env:=env) (names:=r) cs (λx hx=>hf x (F_ _ hx)) h;refine⟨cl,?_,e2,e3,λx hx l_=>?_⟩
   .simp only[hb,HS,IM];exact e1
   .rcases Hv.mp hx with rfl |hx
    .exact absurd l_ hk
    .exact e4 x hx l_
def lJ{env:Env}{scope:Scope}(hf:∀x∈scope.names,x.2=.free->∃c,env.cells.lookup x.1=some c):
 ∃cl,closureFor scope env=pure cl/\(∀x c,cl.lookup x=some c->env.cells.lookup x=some c)/\∀x∈scope.names,x.2=.free->∃c,cl.lookup x.1=some c:=by
 obtain⟨cl,e1,e2,_,e4⟩:=fT (env:=env) (names:=scope.names) [] hf (λx c e=>by simp at e);refine⟨cl,?_,e2,e4⟩;unfold closureFor;simp only[e1];rfl
noncomputable def ao(X:Cx)(N:List Str)(scope:Scope)(cl:List (Str×Addr))(C:Addr)(s₂:Shared)(H:Hp)(fp:List Addr):Cx:=
 { X with N:=N,s₀:=s₂,H₀:=H,env:=compEnvC scope cl C X.env,outer:=X.stack,stack:=X.stack,ex:=fp,fn:=λ_=>false,pn:=[],xe:=λ_ _=>False }
noncomputable def dn(sub:Jr)(σ:St):St:=sub.map λo=>o.bind λi=>(σ[i]?).bind id
def LcW(J:It)(sub:Jr)(g:TG)(tc:TT)(te:TE)(σ:St)(H1:Hp)(Q:VK):Prop:=∃W:Nat->Nat->List V->St->Hp->Prop,(∃m,W 0 m [] (dn sub σ) H1)/\∀i m ys σ H,W i m ys σ H->
 (J.stop i H/\ys.length<=sizeLine/\∀D,H D=none->Q (.ref D) (upd H D (.lst ys)))\/
 (J.go i H/\ys.length<sizeLine/\∃Nx:List V->St->Hp->Prop,(∀ys' σ' H',Nx ys' σ' H'->∃m',m'<m/\W (i+1) m' ys' σ' H')/\
  ∀x H',J.yld i H x H'->g x σ H' λσ2 H2=>tc σ2 H2 λb H3=>if b=true then te σ2 H3 λy H4=>Nx (ys++[y]) σ2 H4 else Nx ys σ2 H3)
def eK(wi:TI)(sub:Jr)(g:TG)(tc:TT)(te:TE):TE:=λσ H Q=>wi σ H λJ H1=>LcW J sub g tc te σ H1 Q
abbrev uI:TT:=λ_ H Q=>Q true H
section
variable{prog:Program}{w:World}{A:Around}{R:Result->Shared->Prop}{s:Shared}
def nt{f_ target a_:Expr}{ifs:List Expr}{scope:Scope}{pos:Pos}{it acc:Value}{env:Env}(I:Nat->Shared->Prop)
 (turn
  : ∀n s,I n s->wpAny (model prog w) A (pyNext it) (λr s₁=>match r with
  |none=>R (.ok .next) s₁
  |some v=>wpAny (model prog w) A (letOwnedTupleGo target it v) (λ_ s₁'=>wpAny (model prog w) A (assign target env v) (λ_ s₂=>
   wpAny (model prog w) A (forIn ifs true λc r=>if r=true then do let ok <- isTrue c env (eval c env);pure (ForInStep.yield ok) else pure (ForInStep.yield r))
    (λok s₃=>if ok=true then wpAny (model prog w) A (eval f_ env) (λx s₄=>wpAny (model prog w) A (call (.builtin "list.append") [acc,x]) (λ_ s₅=>∃m,m<n/\I m s₅) (λ_ _=>False) s₄) (λ_ _=>False) s₃
     else ∃m,m<n/\I m s₃) (λ_ _=>False) s₂) (λ_ _=>False) s₁') (λ_ _=>False) s₁) (λ_ _=>False) s)
 (n:Nat) (h:I n s):
 codeAny (model prog w) A (.compLoop (.ListComp f_ [⟨target,a_,ifs,0⟩] scope pos) 0 it acc env) R s:=by
 refine codeAny_loop rfl I (λn s hI=>?_) n h;show wpAny _ _ ((compTurn (.ListComp f_ [⟨target,a_,ifs,0⟩] scope pos) 0 it acc env).onRaise (λx=>do noteFrame x env;theTreesLotGoes x)) _ _ s;refine wpAny_noted ?_;rw[compTurn_list];refine Hq (E:=λ_ _=>False) ?_ (λ_ _ q=>q) λ_ _ q=>q.elim;refine t_ (IA (t_ (Hq (turn n s hI) (λr s₁ h₁=>?_) λ_ _ h'=>h')));cases r with
 |none=>exact Em h₁
 |
  some v=>
  refine t_ (Hq h₁ (λ_ s₁' h₁'=>?_) λ_ _ h'=>h');refine t_ (Hq h₁' (λ_ s₂ h₂=>?_) λ_ _ h'=>h');refine t_ (Hq h₂ (λok s₃ h₃=>?_) λ_ _ h'=>h');cases ok with
  |true=>simp only[Ip] at h₃ ⊢;refine t_ (t_ (Hq h₃ (λx s₄ h₄=>?_) λ_ _ h'=>h'));refine t_ (Hq h₄ (λ_ s₅ h₅=>?_) λ_ _ h'=>h');exact Em (Em ⟨rfl,h₅⟩)
  |
   false=>
   simp only[HS,IM] at h₃ ⊢;first
    |exact t_ (Em (Em ⟨rfl,h₃⟩))
    |exact Em ⟨rfl,h₃⟩
end
section
variable{X:Cx}
def PTs(X:Cx)(ifs:List Expr)(t:TT):Prop:=
 ∀
  (pins:Jp) (s:Shared) (σ:St) (H:Hp) (Q:Bool->Hp->Prop),Inv X pins σ H s->t σ H Q->
  wpAny (model X.prog X.w) X.A (forIn ifs true λc r=>if r=true then do let ok <- isTrue c X.env (eval c X.env);pure (ForInStep.yield ok) else pure (ForInStep.yield r)) (TP X pins σ Q) X.xe s
def pk:PTs X [] (λ_ H Q=>Q true H):=λpins s σ H Q I h=>by rw[List.forIn_nil];exact Em ⟨H,I,h⟩
def oX{c:Expr}{tc:TT}(hc:PT X c tc):PTs X [c] tc:=λpins s σ H Q I h=>by rw[List.forIn_cons];simp only[Ip];refine t_ (t_ (thn (hc pins s σ H Q I h) λb s1 q=>Em ?_));dsimp only;rw[List.forIn_nil];exact Em q
structure LcEnd(X:Cx)(pins:Jp)(σ:St)(Q:VK)(D C:Addr)(s4:Shared):Prop where
 ns:∃m,s4.heap.Ns C m
 dc:D<C
 fr:X.env.locals<D
 cell:∀x c,X.env.cells.lookup x=some c->c<D
 pin:∀p∈X.pn++pins,p.1<D
 sz:X.s₀.heap.objs.size<=D
 inv:∃H',H' C=none/\Q (.ref D) H'/\∀h',Heap.SameBut C s4.heap h'->Inv X pins σ H' { s4 with heap:=h' }
def oC{f_ a_ tg:Expr}{ifs:List Expr}{scope:Scope}{pos:Pos}{wi:TI}{g:TG}{tc:TT}{te:TE}{N:List Str}{sub:Jr}{use:Option (Value->Sem Unit)}{R:Jq}{pins:Jp}{s:Shared}{σ:St}{H:Hp}{Q:VK}{fpos:Pos}
 (hc:X.calm=true) (hi:PI X tg a_ wi)
 (hk:scope.kind=.function) (n_:∀x∈scope.names,x.2 ≠ .cell) (b_:∀x∈scope.names,x.2=.local->scope.names.lookup x.1=some .local)
 (l_:∀x∈scope.names,x.2=.free->X.env.kindOf x.1=some .cell\/X.env.kindOf x.1=some .free)
 (o_:sub.length=N.length) (e_:∀(j i:Nat) (x:Str),sub[j]?=some (some i)->N[j]?=some x->X.N[i]?=some x/\scope.names.lookup x=some .free)
 (hg:∀cl C s₂ H fp,PG (ao X N scope cl C s₂ H fp) tg g) (ht:∀cl C s₂ H fp,PTs (ao X N scope cl C s₂ H fp) ifs tc) (he:∀cl C s₂ H fp,PE (ao X N scope cl C s₂ H fp) f_ te)
 (hs:∀x,foldedSetIterable a_ X.env x=pure x) (I:Inv X pins σ H s) (h:eK wi sub g tc te σ H Q)
 (g_:∀D C s4,LcEnd X pins σ Q D C s4->compPost (model X.prog X.w) X.A X.xe use R (.ref D) C (.ok .next) s4):
 wpAny (model X.prog X.w) X.A (comprehension (.ListComp f_ [⟨tg,a_,ifs,0⟩] scope pos) scope X.env fpos (newList []) false (eval a_ X.env) use) R X.xe s:=by
 obtain⟨cl,hclos,hcl,hclf⟩:=lJ (env:=X.env) (scope:=scope) λx hx hf=>I.ok.has x.1 (l_ x hx hf);refine wpAny_comprehension_free rfl hs hclos hk b_ ?_;show wpAny _ _ (eval a_ X.env) _ _ _;refine thn (hi pins s σ H _ I h) λv s1 h1=>thn h1 λitv s2 h2=>?_;obtain⟨it,fp,tn,J,H2,e,I2,T,st2,f2,W,⟨m0,w0⟩,turn⟩:=h2;subst e;refine HY (wpAny_newFunctionEnv n_ (by intro y hy;simp at hy) (λh₁ hns₁ hsb₁=>?_) hk);dsimp only at hns₁ hsb₁ ⊢;generalize hH2:s2.heap.push { cls:=.type "list",dict:=none,data:=.seq ([]:List Value).toArray }=G2 at hns₁ hsb₁ ⊢;have hC:G2.objs.size=s2.heap.objs.size+1:=by rw[<- hH2,Heap.size_push]
 have hDC:s2.heap.objs.size≠G2.objs.size:=by omega
 have below:∀b,b<s2.heap.objs.size->b≠G2.objs.size/\b≠s2.heap.objs.size:=λb hb=>⟨by omega,by omega⟩;have old:∀b o,s2.heap.get? b=some o->h₁.get? b=some o:=λb o e=>hsb₁.extBut b o (below b (C_ e)).1 (w_ _ (hH2 ▸ w_ _ e));have hD₁:h₁.get? s2.heap.objs.size=some { cls:=.type "list",dict:=none,data:=.seq ([]:List Value).toArray }:=hsb₁.extBut _ _ hDC (w_ _ (hH2 ▸ Hl _ rfl));have fresh:∀a,s2.heap.objs.size<=a->s2.heap.get? a=none:=λa ha=>Jb ha;have cellOld:∀x c,cl.lookup x=some c->c<s2.heap.objs.size:=λx c e=>by obtain⟨v,z⟩:=I2.cell x c (hcl x c e);exact z.lt
 have fpOld:∀b∈fp,b<s2.heap.objs.size:=λb hb=>by obtain⟨o,e,_⟩:=T.obj _ _ st2 b hb;exact C_ e
 let Y:Cx:=ao X N scope cl G2.objs.size s2 H2 fp
 have okY:Y.Ok
  := by
  refine⟨I2.ok.mod,?_,I2.ok.glob,I2.ok.blt,?_,λx y c e1 e2=>I2.ok.inj x y c (hcl x c e1) (hcl y c e2),λx hx=>?_,λx c hfn _=>absurd hfn z_,I2.ok.hd,I2.ok.frames,.inl rfl,
   λb hb=>⟨?_,λx c e z=>?_⟩,I2.bs,G6 I2.ok.bsz I2.sz,λb o e hb=>?_,λb hb hf=>?_,I2.stack,I2.stkFree⟩
  .show (relabel scope X.env).kind=.function;exact hk
  .show s2.heap.objs.size<=G2.objs.size;omega
  .have hx':(
    relabel scope X.env).names.lookup x=some .cell\/(relabel scope X.env).names.lookup x=some .free:=hx
   have:∃k,
    (x,k)∈scope.names/\k=.free:=by
    have gen:∀(names:List (Str×NameKind)),(∀y∈names,y.2 ≠ .cell)->∀kk,(kk=NameKind.cell\/kk=NameKind.free)->(names.map λ(n,k)=>if (k==NameKind.free&&X.env.scope.kind == .function&&X.env.kindOf n==some .cell) then (n,NameKind.cell) else (n,k)).lookup x=some kk->∃k,(x,k)∈names/\k=.free:=by
     intro names;induction names with
     |nil=>intro _ kk _ e;simp at e
     |
      cons y r ih=>
      intro hn kk hkk e;obtain⟨n,k⟩:=y;rw[D_,HR] at e;by_cases hkf:k=.free
      .subst hkf;by_cases hxn:x=n
       .exact⟨.free,by rw[hxn];exact G5,rfl⟩
       .have hb:(x==(if (NameKind.free==NameKind.free&&X.env.scope.kind == .function&&X.env.kindOf n==some .cell)=true then (n,NameKind.cell) else (n,NameKind.free)).1)=false:=by split <;> exact Hm.mpr hxn
        rw[hb] at e;obtain⟨k',m,q⟩:=ih (λz hz=>hn z (F_ _ hz)) kk hkk e;exact⟨k',F_ _ m,q⟩
      .have hb0:(k==NameKind.free&&X.env.scope.kind == .function&&X.env.kindOf n==some .cell)=false:=by
        have:(k==NameKind.free)=false:=by simpa using hkf
        rw[this];rfl
       rw[hb0] at e;simp only[HS,IM] at e;cases q:x==n with
       |
        true=>
        rw[q] at e;have e':k=kk:=Hc e;subst e';rcases hkk with z |z
        .exact absurd z (hn (n,k) G5)
        .exact absurd z hkf
       |false=>rw[q] at e;obtain⟨k',m,q⟩:=ih (λz hz=>hn z (F_ _ hz)) kk hkk e;exact⟨k',F_ _ m,q⟩
    rcases hx' with z |z
    .exact gen scope.names n_ _ (.inl rfl) z
    .exact gen scope.names n_ _ (.inr rfl) z
   obtain⟨k,m,q⟩:=this;exact hclf (x,k) m q
  .show b≠G2.objs.size;exact (below b (fpOld b hb)).1
  .exact (f2 b hb).2.2.2.2.1 x c (hcl x c e) z
  .rcases (f2 b hb).2.2.2.1 with z |z
   .exact I2.ok.noex b o e z
   .exact absurd (E_ (C_ e) (G6 I2.ok.bsz z)) (Hz _)
  .have hf':b∈frs X.stack:=hf;rcases Hv.mp (I2.stkSub b hf') with z |z
   .exact (f2 b hb).2.1 z
   .exact (f2 b hb).2.2.1 z
 have startLoc
  : ∃m,h₁.Ns G2.objs.size m/\∀(i:Nat) (x:Str) (v:V),N[i]?=some x->(dn sub σ)[i]?=some (some v)->Vis (relabel scope X.env) x->∃u,RelV v u/\Look Y.env h₁ m x u:=by
  refine⟨_,hns₁,λj x v e1 e2 e3=>?_⟩;unfold dn at e2;rw[Hj] at e2;cases q:sub[j]? with
  |none=>rw[q] at e2;cases e2
  |
   some o=>
   rw[q] at e2;cases o with
   |none=>cases e2
   |
    some i=>
    obtain⟨hNi,hfree⟩:=e_ j i x q e1;have e2':(σ[i]?).bind id=some v:=Hc e2;have e2'':σ[i]?=some (some v):=by
     cases z:σ[i]? with
     |none=>rw[z] at e2';cases e2'
     |some y=>rw[z] at e2';rw[show y=some v from e2']
    obtain⟨m2,hn2,hl2⟩:=I2.loc;have hkx:=l_ (x,.free) (HJ hfree) rfl;obtain⟨u,r,l⟩:=hl2 i x v hNi e2'' (by rcases hkx with z |z;exact .inr (.inl z);exact .inr (.inr z));refine⟨u,r,.inr ⟨?_,?_⟩⟩
    .rcases e3
      with z |z |z
     .exfalso;have gen:∀(names:List (Str×NameKind)),names.lookup x=some .free->(names.map λ(n,k)=>if (k==NameKind.free&&X.env.scope.kind == .function&&X.env.kindOf n==some .cell) then (n,NameKind.cell) else (n,k)).lookup x=some .local->False:=by
       intro names;induction names with
       |nil=>intro e _;simp at e
       |
        cons y r ih=>
        intro e1 e2;obtain⟨n,k⟩:=y;rw[HR] at e1;rw[D_,HR] at e2;by_cases hxn:x=n
        .have hb1:(x==n)=true:=Hw.mpr hxn;rw[hb1] at e1;have:k=.free:=Hc e1;subst this;split at e2
         .rename_i hq;split at e2 <;> cases e2
         .rename_i hq;split at hq <;> (rw[hb1] at hq;cases hq)
        .have hb1:(x==n)=false:=Hm.mpr hxn;rw[hb1] at e1;refine ih e1 ?_;split at e2
         .rename_i hq;split at hq <;> (rw[hb1] at hq;cases hq)
         .exact e2
      exact gen scope.names hfree z
     .exact .inl z
     .exact .inr z
    .obtain⟨c,hc'⟩:=hclf (x,.free) (HJ hfree) rfl;refine⟨c,hc',?_⟩;rcases l with ⟨k,_⟩ |⟨_,c2,ec2,z⟩
     .rcases hkx with z |z <;> (rw[k] at z;cases z)
     .have:=hcl x c hc'
      rw[ec2] at this;cases this;obtain⟨oc,hoc,hd⟩:=z;exact⟨oc,old _ _ hoc,hd⟩
 have pinD:∀{σ':St}{H':Hp}{s':Shared}{pl:Jp}{o:Obj},Inv Y pl σ' H' s'->s'.heap.get? s2.heap.objs.size=some o->(∀v,o.data ≠ .cell v)->H' s2.heap.objs.size=none->Inv Y [(s2.heap.objs.size,o)] σ' H' s':=λ{σ' H' s' pl o} IY e d n=>
  IY.pins_of λp hp=>by
   have e':p=(s2.heap.objs.size,o):=by simpa using hp
   subst e';refine⟨e,n,?_,?_,d⟩
   .show s2.heap.objs.size≠G2.objs.size;omega
   .intro hf;have hf':s2.heap.objs.size∈frs X.stack:=hf;obtain⟨_,o',ho',_⟩:=I2.stack.mem hf';exact absurd (C_ ho') (Hz _)
 have fpY:∀{H':Hp}{pl:Jp},(∀b∈fp,H' b=none)->(∀p∈pl,p.1∉fp)->∀b∈fp,iG Y pl H' b:=λ{H' pl} hn hp b hb=>by
  refine⟨hn b hb,?_,?_,.inl hb,λx c e=>?_,λp hp'=>?_⟩
  .exact (okY.exf b hb).1
  .exact okY.exfs b hb
  .exact (okY.exf b hb).2 x c e
  .intro z;have hp'':p∈pl:=by simpa [Y,ao] using hp'
   exact hp p hp'' (by rw[z];exact hb)
 have hDfp:s2.heap.objs.size∉fp:=λz=>Hz _ (fpOld _ z);have loop
  : ∀s₃:Shared,s₃={ s2 with heap:=h₁,toks:=s2.toks+([]:List (Str×Value)).length }->
  codeAny (model X.prog X.w) X.A (.compLoop (.ListComp f_ [⟨tg,a_,ifs,0⟩] scope pos) 0 (.ref it) (.ref s2.heap.objs.size) (compEnvC scope cl G2.objs.size X.env))
   (compPost (model X.prog X.w) X.A X.xe use R (.ref s2.heap.objs.size) G2.objs.size) s₃:=by
  rintro s₃ rfl;have IY0:Inv Y [(s2.heap.objs.size,{ cls:=.type "list",dict:=none,data:=.seq ([]:List Value).toArray })] (dn sub σ) H2 { s2 with heap:=h₁,toks:=s2.toks+([]:List (Str×Value)).length }:=by
   have J0:Inv Y [] (dn sub σ) H2 { s2 with heap:=h₁,toks:=s2.toks+([]:List (Str×Value)).length }:=by
    refine⟨okY,rfl,I2.bare,Un.kept old,startLoc,λx c e=>?_,I2.hok.fresh (by show s2.heap.objs.size<=G2.objs.size;omega),λx c e=>I2.freeC x c (hcl x c e),λp hp=>absurd (show p∈([]:Jp) from hp) (by simp),I2.hok.kept old,?_⟩
    .obtain⟨v,oc,hoc,hd⟩:=I2.cell x c (hcl x c e);exact⟨v,oc,old _ _ hoc,hd⟩
    .show (dn sub σ).length=N.length;unfold dn;rw[v_];exact o_
   exact pinD J0 hD₁ (λv z=>by cases z) I2.fresh
  refine nt (λn s'=>∃(i:Nat) (ys:List V) (its:List Value) (k:Nat) (σ':St) (H':Hp),Inv Y [(s2.heap.objs.size,{ cls:=.type "list",dict:=none,data:=.seq its.toArray k })] σ' H' s'/\Vals ys its/\tn i s'.heap/\(∀b∈fp,H' b=none)/\W i n ys σ' H') ?_ m0
   ⟨0,[],[],0,dn sub σ,H2,IY0,.nil,T.keep _ _ _ st2 (λb hb o e=>old b o e),λb hb=>(f2 b hb).1,w0⟩
  rintro n s3 ⟨i,ys,its,k,σ3,H3,I3,rv,st3,fr3,w3⟩;have npl:∀(o:Obj),∀p∈[(s2.heap.objs.size,o)],p.1∉fp:=λo p hp=>by
   have e':p=(s2.heap.objs.size,o):=by simpa using hp
   subst e';exact hDfp
  rcases turn i n ys σ3 H3 w3 with ⟨stop,hz,qn⟩ |⟨go,hz,Nx,hNx,step⟩
  .refine Hq (T.done Y rfl rfl rfl hc i _ s3 σ3 H3 (λ_ _=>False) I3 (fpY fr3 (npl _)) st3 stop) (λr s4 ⟨hr,I4⟩=>?_) λ_ _ z=>z;subst hr;obtain⟨m4,hn4,_⟩:=I4.loc;have hCfree:H3 G2.objs.size=none:=I4.free;have hD4:=I4.pin (s2.heap.objs.size,{ cls:=.type "list",dict:=none,data:=.seq its.toArray k }) (Hk _ G5);have un4:Un (frs X.stack) fp H2 H3 s2.heap s4.heap:=I4.base;have ne2:∀b o,s2.heap.get? b=some o->b≠G2.objs.size:=λb o e=>(below b (C_ e)).1;have hDfree:H3 s2.heap.objs.size=none:=hD4.2.1;have sz0:X.s₀.heap.objs.size<=s2.heap.objs.size:=I2.sz;refine g_ s2.heap.objs.size G2.objs.size s4 ⟨⟨m4,hn4⟩,by rw[hC];exact Nat.lt_succ_self _,I2.lt,λx c e=>?_,λp hp=>C_ (I2.pin p hp).1,sz0,upd H3 s2.heap.objs.size (.lst ys),by rw[au (Ne.symm hDC)];exact hCfree,qn _ hDfree,λh' hs'=>?_⟩
   .obtain⟨v,q⟩:=I2.cell x c e;exact q.lt
   have up:∀b o,b≠G2.objs.size->s4.heap.get? b=some o->h'.get? b=some o:=λb o hb e=>hs'.extBut b o hb e;have un5:Un (frs X.stack) fp H2 H3 s2.heap h':=by
    refine⟨λb o e n hb hx=>up b o (ne2 b o e) (un4.keep b o e n hb hx),λb o e n hb hx=>?_,un4.free,λb o e hx=>?_,un4.tups,un4.frzs,un4.tbls⟩
    .obtain⟨sl,q⟩:=un4.slot b o e n hb hx;exact⟨sl,up b _ (ne2 b o e) q⟩
    .obtain⟨o',q⟩:=un4.there b o e hx;exact⟨o',up b _ (ne2 b o e) q⟩
   have hok5:HOk X.prog X.w H3 h':=λb u e=>(I4.hok b u e).stay (λc v hcc q=>up c v (λz=>by
    rcases hcc with zz |zz
    .rw[zz] at z;rw[z,hCfree] at e;cases e
    .rw[z,hCfree] at zz;cases zz) q) (λ_ q=>q) λ_ _ q=>q
   have I5:Inv X pins σ H3 { s4 with heap:=h' }:=I2.call' (s':={ s4 with heap:=h' }) (ch:=fp) I4.os un5 hok5 I4.bare λb hb=>by obtain⟨_,g1,_,g3,g4,g5⟩:=f2 b hb;exact⟨g3,g1,g4,g5⟩
   refine I5.track (o:=.lst ys) hDfree (Jb sz0) (Ji I2.lt) (λx c e z=>?_) (λp hp z=>?_) ?_
   .obtain⟨v,q⟩:=I2.cell x c e;exact absurd q.lt (by rw[z];exact Hz _)
   .exact absurd (C_ (I2.pin p hp).1) (by rw[z];exact Hz _)
   .exact⟨hz,its,k,rv,up _ _ hDC hD4.1⟩
  .refine Hq (T.item Y rfl rfl rfl hc i _ s3 σ3 H3 (λ_ _=>False) I3 (fpY fr3 (npl _)) st3 go) (λr s4 ⟨u,hr,h4⟩=>?_) λ_ _ z=>z;subst hr;refine Hq h4 (λ_ s5 ⟨x,H5,I5,r5,y5,st5,fr5⟩=>?_) λ_ _ z=>z;have I5':=I5.pinned (fpY fr5 (npl _)) (T.obj _ _ st5);refine Hq (hg cl G2.objs.size s2 H2 fp _ s5 σ3 H5 x u _ I5' r5 (step x H5 y5)) (λ_ s6 ⟨σ6,H6,I6,q6⟩=>?_) λ_ _ z=>z;refine Hq (ht cl G2.objs.size s2 H2 fp _ s6 σ6 H6 _ I6 q6) (λok s7 ⟨H7,I7,q7⟩=>?_) λ_ _ z=>z;have back:∀{σ':St}{H':Hp}{s':Shared},Inv Y ([(s2.heap.objs.size,{ cls:=.type "list",dict:=none,data:=.seq its.toArray k })]++gq fp s5.heap) σ' H' s'->tn (i+1) s'.heap/\∀b∈fp,H' b=none:=λ{σ' H' s'} IB=>by refine⟨T.keep _ _ _ st5 λb hb o e=>(IB.pin (b,o) (Hk _ (Hk _ (dG hb e)))).1,λb hb=>?_⟩;obtain⟨o,e,d⟩:=T.obj _ _ st5 b hb;exact (IB.pin (b,o) (Hk _ (Hk _ (dG hb e)))).2.1
   cases ok with
   |false=>rw[if_neg z_] at q7;obtain⟨m',hm,w7⟩:=hNx _ _ _ q7;rw[if_neg z_];obtain⟨t7,f7⟩:=back I7;exact⟨m',hm,i+1,ys,its,k,σ6,H7,I7.unpinned,rv,t7,f7,w7⟩
   |
    true=>
    rw[if_pos rfl] at q7;rw[if_pos rfl];refine Hq (he cl G2.objs.size s2 H2 fp _ s7 σ6 H7 _ I7 q7) (λy s8 ⟨yv,H8,I8,r8,q8⟩=>?_) λ_ _ z=>z;obtain⟨m',hm,w8⟩:=hNx _ _ _ q8;obtain⟨t8,f8⟩:=back I8;have I9:=I8.unpinned;have hD9:=I9.pin (s2.heap.objs.size,{ cls:=.type "list",dict:=none,data:=.seq its.toArray k }) (Hk _ G5);have e9:s8.heap.get? s2.heap.objs.size=some { cls:=.type "list",dict:=none,data:=.seq its.toArray k }:=hD9.1;have hlen:=rv.length;refine call_meets F.slot_list_append ⟨_,e9,rfl⟩ F.entry_list_append (F.args_list_append_2 _ _) (PySem.list_append _ its.toArray k y (by rw[B_];omega)) ⟨e9,?_⟩;have q9:=PySem.IsL.update e9 (λxs=>xs.push y);have ea:its.toArray.push y=(its++[y]).toArray:=by simp
    rw[ea] at q9;have k9:∀b o,b≠s2.heap.objs.size->s8.heap.get? b=some o->(s8.heap.update s2.heap.objs.size (Obj.mapSeq λxs=>xs.push y)).get? b=some o:=λb o hb e=>(IV _ _ (Ne.symm hb)).trans e;have I10:Inv Y [] σ6 H8 { s8 with heap:=s8.heap.update s2.heap.objs.size (Obj.mapSeq λxs=>xs.push y) }:=
     (I9.pins_of (pins':=[]) (λp hp=>nomatch hp)).turned (t':=s8.toks) k9 hD9.2.1 hD9.2.2.1 (.inr (y_ _)) (λx c e z=>absurd (cellOld x c e) (by rw[z];exact Hz _))
      (λp hp=>absurd (show p∈([]:Jp) from hp) (by simp))
    refine⟨m',hm,i+1,ys++[yv],its++[y],_,σ6,H8,pinD I10 q9 (λv z=>by cases z) hD9.2.1,rv.append (.cons r8 .nil),?_,f8,w8⟩;exact T.keep _ _ _ t8 λb hb o e=>k9 b o (λz=>hDfp (by rw[<- z];exact hb)) e
 exact codeAny_compStart_list (loop _ rfl) (T.self _ 0 _ _ _ (T.keep _ _ _ st2 λb hb o e=>old b o e) (loop _ rfl))
def sI{f_ a_ tg:Expr}{ifs:List Expr}{scope:Scope}{pos:Pos}{wi:TI}{g:TG}{tc:TT}{te:TE}{N:List Str}{sub:Jr}
 (hc:X.calm=true) (hi:PI X tg a_ wi)
 (hk:scope.kind=.function) (n_:∀x∈scope.names,x.2 ≠ .cell) (b_:∀x∈scope.names,x.2=.local->scope.names.lookup x.1=some .local)
 (l_:∀x∈scope.names,x.2=.free->X.env.kindOf x.1=some .cell\/X.env.kindOf x.1=some .free)
 (o_:sub.length=N.length) (e_:∀(j i:Nat) (x:Str),sub[j]?=some (some i)->N[j]?=some x->X.N[i]?=some x/\scope.names.lookup x=some .free)
 (hg:∀cl C s₂ H fp,PG (ao X N scope cl C s₂ H fp) tg g) (ht:∀cl C s₂ H fp,PTs (ao X N scope cl C s₂ H fp) ifs tc) (he:∀cl C s₂ H fp,PE (ao X N scope cl C s₂ H fp) f_ te)
 (hs:∀x,foldedSetIterable a_ X.env x=pure x):
 PE X (.ListComp f_ [⟨tg,a_,ifs,0⟩] scope pos) (eK wi sub g tc te):=by
 intro pins s σ H Q I h;rw[eval_ListComp];refine oC hc hi hk n_ b_ l_ o_ e_ hg ht he hs I h λD C s4 e=>?_;obtain⟨m,hm⟩:=e.ns;obtain⟨H',_,q,i⟩:=e.inv;exact⟨m,hm,λh' hs'=>⟨.ref D,H',i h' hs',rfl,q⟩⟩
noncomputable def bH(M:List Str)(names:List (Str×NameKind))(sub:Jr)(N:List Str):Bool:=(sub.zip N).all λp=>match p.1 with
 |none=>true
 |some i=>M[i]?==some p.2&&names.lookup p.2==some .free
def fZ{M:List Str}{names:List (Str×NameKind)}{sub:Jr}{N:List Str}(h:bH M names sub N=true)(j i:Nat)(x:Str)(h1:sub[j]?=some (some i))(h2:N[j]?=some x):
 M[i]?=some x/\names.lookup x=some .free:=by
 unfold bH at h;rw[Hd] at h;have hm:(some i,x)∈sub.zip N:=by refine HH (i:=j) ?_;rw[List.getElem?_zip_eq_some];exact⟨h1,h2⟩
 have q:=h _ hm;simp only[x_,Hw] at q;exact q
noncomputable def cp(kn names:List (Str×NameKind)):Bool:=names.all λx=>x.2 != .free || kn.lookup x.1==some .cell || kn.lookup x.1==some .free
def hX{kn names:List (Str×NameKind)}(h:cp kn names=true):∀x∈names,x.2=.free->kn.lookup x.1=some .cell\/kn.lookup x.1=some .free:=λx hx hf=>by unfold cp at h;rw[Hd] at h;have q:=h x hx;rw[hf] at q;simpa using q
def yf{f_ a_ tg c:Expr}{scope:Scope}{pos:Pos}{wi:TI}{g:TG}{tc:TT}{te:TE}(M:List Str)(kn:List (Str×NameKind))(N:List Str)(sub:Jr)
 (hc:X.calm=true) (hi:PI X tg a_ wi)
 (hg:∀cl C s₂ H fp,PG (ao X N scope cl C s₂ H fp) tg g) (ht:∀cl C s₂ H fp,PT (ao X N scope cl C s₂ H fp) c tc) (he:∀cl C s₂ H fp,PE (ao X N scope cl C s₂ H fp) f_ te)
 (hM:X.N=M) (hkn:X.env.scope.names=kn) (e_:bH M scope.names sub N=true)
 (hk:scope.kind=.function) (n_:∀x∈scope.names,x.2 ≠ .cell) (b_:∀x∈scope.names,x.2=.local->scope.names.lookup x.1=some .local)
 (l_:cp kn scope.names=true)
 (o_:sub.length=N.length) (hs:∀x,foldedSetIterable a_ X.env x=pure x):
 PE X (.ListComp f_ [⟨tg,a_,[c],0⟩] scope pos) (eK wi sub g tc te):=
 sI hc hi hk n_ b_ (by subst hkn;exact hX l_) o_ (by subst hM;exact fZ e_) hg (λcl C s₂ H fp=>oX (ht cl C s₂ H fp)) he hs
def FU{f_ a_ tg:Expr}{scope:Scope}{pos:Pos}{wi:TI}{g:TG}{te:TE}(M:List Str)(kn:List (Str×NameKind))(N:List Str)(sub:Jr)
 (hc:X.calm=true) (hi:PI X tg a_ wi)
 (hg:∀cl C s₂ H fp,PG (ao X N scope cl C s₂ H fp) tg g) (he:∀cl C s₂ H fp,PE (ao X N scope cl C s₂ H fp) f_ te)
 (hM:X.N=M) (hkn:X.env.scope.names=kn) (e_:bH M scope.names sub N=true)
 (hk:scope.kind=.function) (n_:∀x∈scope.names,x.2 ≠ .cell) (b_:∀x∈scope.names,x.2=.local->scope.names.lookup x.1=some .local)
 (l_:cp kn scope.names=true)
 (o_:sub.length=N.length) (hs:∀x,foldedSetIterable a_ X.env x=pure x):
 PE X (.ListComp f_ [⟨tg,a_,[],0⟩] scope pos) (eK wi sub g uI te):=
 sI hc hi hk n_ b_ (by subst hkn;exact hX l_) o_ (by subst hM;exact fZ e_) hg (λcl C s₂ H fp=>pk) he hs
end
open PySem PySem.Spec PyProof.Rows PySem.W PySem.Builtin PySem.Builtin.ObjectAttr PySem.Builtin.Getset_descriptor
structure XCls(K:W.Frag)(C:Addr):Prop where
 cls:(clsIn K C).isSome=true
 ga:findIn K (.ref C) "__getattribute__"=some (some (.builtin "BaseException.__getattribute__"))
 gt:findIn K (.ref C) "__getattr__"=some none
 at_:findIn K (.ref C) "__class__"=some (some (.builtin "object.__class__"))
 gs:specialIn K (.builtin "object.__class__") "__get__"=some (some (.builtin "getset_descriptor.__get__"))
 tk:takesIn K (.builtin "object.__class__")=some true
 mo:mroIn K C (.type "object")=some true
 mb:mroIn K C (.type "BaseException")=some true
section
variable{prog:Program}{w:World}{A:Around}{E:Jq}{K:W.Frag}{x C:Addr}{o:Obj}
def fM(hx:h.get? x=some o)(hc:o.cls=.ref C):Looks M h (typeOf (.ref x)) (.ref C):=hc ▸ (Looks.ld hx).andThen .now
def vy(X:K.In h)(T:XCls K C):Looks M h (find (.ref x) (.ref C) "__class__") (.bind (.builtin "getset_descriptor.__get__") (.builtin "object.__class__")):=by have L1:=looks_findIn (M:=M) X T.at_;have L2:Looks M h (getOf (some (.builtin "object.__class__"))) (some (.builtin "getset_descriptor.__get__")):=looks_specialIn X T.gs;have L3:=looks_takesIn (M:=M) X T.tk;refine L1.andThen (L2.andThen ?_);exact (show Looks M h (dataDescriptor? (some (.builtin "object.__class__")) (some (.builtin "getset_descriptor.__get__"))) (some (.builtin "getset_descriptor.__get__",.builtin "object.__class__")) from L3.andThen .now).andThen (Looks.tag .now)
def lH(X:K.In s.heap)(hx:s.heap.get? x=some o)(hc:o.cls=.ref C)(T:XCls K C)
 (h:R (.ok (.ret (.ref C))) s):codeAny (model prog w) A (.call (.builtin "getset_descriptor.__get__") ⟨[.builtin "object.__class__",.ref x,tp],[]⟩) R s:=by
 obtain⟨hh,g,dr,t,os⟩:=s;have L0:=fM (M:=model prog w) hx hc;have L1:=looks_mroIn (M:=model prog w) X T.mo;refine codeAny_call_builtin KF.slot_gs.plain KF.entry_gs (KF.slot_gs.check _ _ _ _ _ _ _ _ KF.type_class (KF.args_gs _ _ _) ?_);unfold Builtin.«getset_descriptor.__get__» descrGet;rw[dga_obj];refine t_ (Em ?_);unfold descrGetter descrCheckInstance descrNameAndClass isInstance;simp only[KF.owner_class];repeat lk
 refine⟨Code.quiet_builtin _ (by decide),codeAny_builtin KF.entry_class ?_⟩;unfold Builtin.«object.__class__» shownTypeOf;repeat lk
 exact h
def sW(X:K.In s.heap)(hx:s.heap.get? x=some o)(hc:o.cls=.ref C)(T:XCls K C)(hq:Q () s):
 wpAny M A (checkBuiltinCall "BaseException.__getattribute__" ⟨[.ref x,nameV],[]⟩) Q E s:=by
 obtain⟨h,g,dr,t,os⟩:=s;have hk:builtinKind "BaseException.__getattribute__"=some .slot:=by decide
 have hsplit:splitId "BaseException.__getattribute__"=some ("BaseException", "__getattribute__"):=by decide
 have ha:=PySem.F.args_bexc_ga (.ref x) nameV;have L0:=fM (M:=M) hx hc;have LM:=looks_mroIn (M:=M) X T.mb;have LI:Looks M h (isInstance (.ref x) (.type "BaseException")) true:=L0.andThen LM;simp only[checkBuiltinCall,hk,hsplit];refine t_ ?_;refine LI.at ?_;repeat (first |wp_step)
 all_goals exact hq
def BK(X:K.In s.heap)(hx:s.heap.get? x=some o)(hc:o.cls=.ref C)(T:XCls K C)(h:Q (some (.ref C)) { s with toks:=s.toks+1 }):
 wpAny (model prog w) A (getAttr? (.ref x) "__class__") Q E s:=by
 obtain⟨hh,g,d,t,os⟩:=s;have L0:=fM (M:=model prog w) hx hc;have L1:=looks_findIn (M:=model prog w) X T.ga;have L2:=looks_findIn (M:=model prog w) X T.gt;have LF:=vy (M:=model prog w) (x:=x) X T;have f3:=PySem.F.excAttr_ValueError.ga.bind (.ref x);have hx2:(Value.builtin "BaseException.__getattribute__" == Value.builtin "object.__getattribute__")=false:=by decide
 unfold getAttr? getAttrBy? getAttrBy;refine t_ (wpAny_mkText (t_ (wpAny_attempt (HK (t_ (L0.at (t_ (L1.at ?_))))))));dsimp only;rw[if_neg (by rw[hx2];simp)];unfold getAttrByItsOwn hookBefore;rw[if_pos (show onTheHeap (Value.ref C)=true from rfl)];refine t_ (L2.at ?_);unfold callGetattribute;refine t_ (wpAny_attempt (HK ?_));rw[if_neg (by simp)];unfold boundAndCalled;refine t_ (wpAny_of_eq f3 ?_);refine wpAny_call (codeAny_call_builtin PySem.F.excAttr_ValueError.ga.plain PySem.F.entry_bexc_ga (sW X hx hc T ?_));unfold Builtin.«object.__getattribute__»;repeat (first |(refine t_ (L0.at ?_)) |(refine t_ (LF.at ?_)) |wp_step)
 refine lH (s:=⟨hh,g,d,t+1,os⟩) X hx hc T ?_;repeat (first |exact h |wp_step)
def uy(x:Addr)(C:Addr)(h:Heap):Prop:=∃o vs,h.get? x=some o/\o.cls=.ref C/\o.data=.fields vs
def vU(T:XCls K C):KitX K (.ref x) (.ref C) (uy x C) where
 ty:=λM h _ ⟨o,_,hx,hc,_⟩=>fM hx hc
 it:=λM h X _=>by
  obtain⟨cd,p_⟩:=HG.mp T.cls;unfold clsIn at p_;split at p_
  .rename_i c' d' cd' sl' ho;intro A' Q' E' s' k q;unfold isType loadHead;exact t_ (wpAny_loadPart (k _ _ (X _ _ ho)) (Em q))
  .cases p_
 ne:=λh tp dd its n sl X htp=>by
  obtain⟨cd,p_⟩:=HG.mp T.cls;refine Bool.eq_false_iff.mpr λq=>?_;have e:C=tp:=Value.ref.inj (Hw.mp q);subst e;unfold clsIn at p_;split at p_
  .rename_i c' d' cd' sl' ho;have z:=(X _ _ ho).symm.trans htp;cases z
  .cases p_
 ca:=λX ⟨o,_,hx,hc,_⟩ k=>BK X hx hc T k
end
inductive TyX(K:W.Frag)(H:Hp):V->Value->Prop where
 |of {x:V}{t:Value} (h:TyOf K H x t):TyX K H x t
 |exc {a C:Addr} (e:H a=some (.ext (uy a C))) (T:XCls K C):TyX K H (.ref a) (.ref C)
 |sqT {a:Addr}{xs:List V} (h:SqT K H a xs):TyX K H (.ref a) (.type "tuple")
 |sqL {a:Addr}{xs:List V} (h:SqL K H a xs):TyX K H (.ref a) (.type "list")
section
variable{X:Cx}{pins:Jp}{σ:St}{H:Hp}{s:Shared}{c:Value}
def o7(I:Inv X pins σ H s)(rx:RelV x u)(ty:TyX X.K H x t):∃Hh:Heap->Prop,KitX X.K u t Hh/\Hh s.heap/\u ≠ .builtin "__main__.__loader__#opaque":=by
 cases ty with
 |exc ea T=>cases (show u=Value.ref _ from rx);exact⟨_,vU T,(I.hok _ _ ea).1,λz=>nomatch z⟩
 |sqT h=>cases (show u=Value.ref _ from rx);obtain⟨its,rv,⟨o,e,c,_⟩,_⟩:=I.tuple h;exact⟨_,kitx_tuple,⟨o,e,c⟩,λz=>nomatch z⟩
 |sqL h=>cases (show u=Value.ref _ from rx);obtain⟨its,rv,⟨o,n,e,c,_⟩,_⟩:=I.list h;exact⟨_,kitx_list,⟨o,e,c⟩,λz=>nomatch z⟩
 |
  of ty=>
  cases ty with
  |non=>cases (show u=Value.none from rx);exact⟨_,kitx_none,True.intro,λz=>nomatch z⟩
  |bl y=>cases (show u=Value.bool y from rx);exact⟨_,kitx_bool,True.intro,λz=>nomatch z⟩
  |int i=>obtain⟨t,q⟩:=(show ∃t,u=Value.int i t from rx);cases q;exact⟨_,kitx_int,True.intro,λz=>nomatch z⟩
  |str y=>obtain⟨t,q⟩:=(show ∃t,u=Value.str y t from rx);cases q;exact⟨_,kitx_str,True.intro,λz=>nomatch z⟩
  |flt y=>obtain⟨t,q⟩:=(show ∃t,u=Value.float y t from rx);cases q;exact⟨_,kitx_float,True.intro,λz=>nomatch z⟩
  |@lst a xs ea=>cases (show u=Value.ref a from rx);obtain⟨_,_,n,_,h1⟩:=(show ObjOk X.prog X.w H s.heap a (.lst xs) from I.hok a _ ea);exact⟨_,kitx_list,⟨_,h1,rfl⟩,λz=>nomatch z⟩
  |@frz a ob xs ea=>cases (show u=Value.ref a from rx);obtain⟨_,_,_,n,_,h1⟩:=(show ObjOk X.prog X.w H s.heap a (.frz ob (.lst xs)) from I.hok a _ ea);exact⟨_,kitx_list,⟨_,h1,rfl⟩,λz=>nomatch z⟩
  |@tup a xs ea=>cases (show u=Value.ref a from rx);obtain⟨_,_,_,p⟩:=(show ObjOk X.prog X.w H s.heap a (.tup xs) from I.hok a _ ea);obtain⟨o,h1,h2,_⟩:=p;exact⟨_,kitx_tuple,⟨o,h1,h2⟩,λz=>nomatch z⟩
  |@dK a kvs ea=>cases (show u=Value.ref a from rx);obtain⟨_,_,vs,_,p⟩:=(show ObjOk X.prog X.w H s.heap a (.dK kvs) from I.hok a _ ea);obtain⟨o,es,ep,h1,h2,_⟩:=p;exact⟨_,kitx_dict,⟨o,h1,h2.1⟩,λz=>nomatch z⟩
  |@dT a kvs ea=>cases (show u=Value.ref a from rx);obtain⟨_,_,xs,_,o,es,ep,h1,h2,_⟩:=(show ObjOk X.prog X.w H s.heap a (.dT kvs) from I.hok a _ ea);exact⟨_,kitx_dict,⟨o,h1,h2.1⟩,λz=>nomatch z⟩
  |@ins a C dx fs ea cl ha hn htk hm=>cases (show u=Value.ref a from rx);obtain⟨mA,O,_⟩:=yq I.hok ea;obtain⟨od,J,_⟩:=O.look;exact⟨_,kitx_own (cl.get _) cl.hd ha hn htk hm,J,λz=>nomatch z⟩
end
section
variable{X:Cx}
noncomputable def cV:V->Option Value
 |.ref C=>some (.ref C)
 |.ty T=>some (.type T)
 |_=>none
def mQ(h:cV c=some v)(r:RelV c u):u=v:=by
 cases c with
 |ref C=>cases r;exact Hc h
 |ty T=>cases r;exact Hc h
 |_=>cases h
theorem kU:∀{cs:List V}{us vs:List Value},cs.mapM cV=some vs->Vals cs us->us=vs
 |
  [],_,vs,h,.nil=>by
  have h':some ([]:List Value)=some vs:=h;exact Hc h'
 |
  c::cs,_,vs,h,.cons r rr=>by
  rw[Il] at h;cases q:cV c with
  |none=>rw[q] at h;cases h
  |
   some v=>
   rw[q] at h;cases q2:cs.mapM cV with
   |none=>rw[q2] at h;cases h
   |some vs'=>rw[q2] at h;have h':some (v::vs')=some vs:=h;cases h';rw[mQ q r,kU q2 rr]
def wo:CallR X (.builtin "isinstance") (λxs H Q=>∃x c t v b,xs=[x,c]/\TyX X.K H x t/\cV c=some v/\kitOne X.K t v=some b/\Q (.bl b) H):=by intro pins s σ H xs us Q I r h;obtain⟨x,c,t,v,b,rfl,ty,hc,hk,q⟩:=h;obtain⟨u,w',rfl,rx,rc⟩:=xr r;obtain rfl:=mQ hc rc;obtain⟨Hh,Z,p,hne⟩:=o7 I rx ty;exact kia_one Z I.kIn p hk hne λtk=>⟨.bl b,H,I.tok _,rfl,q⟩
end
def ObjOk.there(x:ObjOk P w H h a o):∃u,h.get? a=some u:=by
 cases o with
 |lst xs=>obtain⟨_,_,_,_,e⟩:=x;exact⟨_,e⟩
 |tup xs=>obtain⟨_,_,_,ob,e,_⟩:=x;exact⟨_,e⟩
 |dK kvs=>obtain⟨_,_,_,_,o,_,_,e,_⟩:=x;exact⟨_,e⟩
 |dT kvs=>obtain⟨_,_,_,_,o,_,_,e,_⟩:=x;exact⟨_,e⟩
 |set S n=>obtain⟨o,_,_,_,e,_⟩:=x;exact⟨_,e⟩
 |ins C dx fs=>obtain⟨_,_,_,e,_⟩:=x;exact⟨_,e⟩
 |own y=>exact x
 |xd fs=>obtain⟨_,⟨_,_,_,e,_⟩,_⟩:=x;exact⟨_,e⟩
 |rng lo hi=>obtain⟨_,_,_,e⟩:=x;exact⟨_,e⟩
 |frz ob u=>obtain⟨e,_⟩:=x;exact⟨_,e⟩
 |tbl ps=>exact⟨_,show h.get? a=some _ from x⟩
 |met f y=>exact⟨_,show h.get? a=some _ from x⟩
 |ext φ=>obtain⟨_,e,_⟩:=x;exact e
structure Fly(P:Program)(w:World)(outer:List Env)(H:Hp)(h₀:Heap)(H':Hp)(ea:Addr)(cls:Value)(h:Heap)(B:Heap)(t:Addr):Prop where
 un:Un (frs outer) [] H H' h₀ h
 hok:HOk P w H' h
 fl:Heap.FlyingW B outer ea cls (.ref t) h
 old:∀b o,h₀.get? b=some o->b∉frs outer->∃o',B.get? b=some o'
 trk:∀b o,H' b=some o->∃o',B.get? b=some o'
def CX1(P:Program)(w:World):CXT:=λouter H s E e s'=>∃(ea t:Addr) (cls:Value) (H':Hp) (B:Heap),e=.ref ea/\s'.os=s.os/\AllBare s'.gens/\Fly P w outer H s.heap H' ea cls s'.heap B t/\E cls none H'
def mG(h:env.frame=some L):frs (env::outer)=L::frs outer:=by unfold frs;rw[HQ,h]
section
variable{P:Program}{w:World}{outer:List Env}{H H':Hp}{h₀ h h' B:Heap}{ea t:Addr}{cls:Value}
def Fly.step(F:Fly P w outer H h₀ H' ea cls h B t)(fl':Heap.FlyingW B outer' ea cls (.ref t) h')(up:h.UpToSlots h'):
 Un (frs outer) [] H H' h₀ h'/\HOk P w H' h':=by
 have st:=F.fl.1;have qL:∀b o,(∃o',B.get? b=some o')->h.get? b=some o->h'.get? b=some o:=λb o ⟨o',e⟩ q=>by have z:=st b o' e;rw[q] at z;cases z;exact fl'.1 b _ e
 have frame:∀b o,b∈frs outer->h.get? b=some o->∃sl,h'.get? b=some { o with slots:=sl }:=λb o hb q=>by obtain⟨_,o',ho',hd⟩:=F.fl.2.2.1.mem hb;rw[q] at ho';cases ho';exact up b o q hd
 refine⟨⟨λb o e n hb hx=>qL b o (F.old b o e hb) (F.un.keep b o e n hb hx),λb o e n hb hx=>?_,F.un.free,λb o e hx=>?_,F.un.tups,F.un.frzs,F.un.tbls⟩,λa o e=>?_⟩
 .obtain⟨sl,q⟩:=F.un.slot b o e n hb hx;obtain⟨sl',q'⟩:=frame b _ hb q;exact⟨sl',q'⟩
 .obtain⟨o',q⟩:=F.un.there b o e hx;by_cases hb:b∈frs outer
  .obtain⟨sl,q'⟩:=frame b _ hb q;exact⟨_,q'⟩
  .exact⟨o',qL b o' (F.old b o e hb) q⟩
 .refine (F.hok a o e).stay (λb u hb q=>qL b u ?_ q) (λ_ q=>q) λ_ _ q=>q;rcases hb with z |z
  .rw[z];exact F.trk a o e
  .exact F.trk b _ z
end
structure Cx.Top(X:Cx):Prop where
 ex:X.ex=[]
 stk:X.stack=X.env::X.outer
 fr:X.env.frame=some X.env.locals
section
variable{X:Cx}{pins:Jp}{σ:St}{H:Hp}{s s':Shared}{E:XK}{e:Value}
def rX(T:X.Top)(hA:A.frames=some X.stack)(I:Inv X pins σ H s)(h:CX1 X.prog X.w X.stack H s E e s'):
 wpAny (model X.prog X.w) A (leaving X.env e) (λ_ s''=>CX1 X.prog X.w X.outer X.H₀ X.s₀ E e s'') E' s':=by
 obtain⟨ea,t,cls,H',B,rfl,os,bare,F,q⟩:=h;have F0:=F;rw[T.stk] at F;have hf:=mG (outer:=X.outer) T.fr;refine wpAny_leaves_onW (by rw[hA,T.stk]) T.fr F.fl λh'' fl'' up=>?_;obtain⟨un2,hok2⟩:=F.step fl'' up;have exn:∀b,b∉X.ex:=λb z=>by rw[T.ex] at z;cases z
 have neL:∀b o,X.s₀.heap.get? b=some o->b≠X.env.locals:=λb o e=>Hi (E_ (C_ e) I.ok.above);have notin:∀b o,X.s₀.heap.get? b=some o->b∉frs X.outer->b∉frs (X.env::X.outer):=λb o e hb z=>by
  rw[hf] at z;rcases Hv.mp z with z |z
  .exact neL b o e z
  .exact hb z
 refine⟨ea,t,cls,H',B,rfl,os.trans I.os,bare,⟨⟨λb o e n hb hx=>?_,λb o e n hb hx=>?_,λb o e n hx=>?_,λb o e hx=>?_,λb xs e=>un2.tups b xs (I.base.tups b xs e),λb o xs e=>un2.frzs b o xs (I.base.frzs b o xs e),λb ps e=>?_⟩,hok2,fl'',λb o e hb=>?_,F.trk⟩,q⟩
 .exact un2.keep b o (I.base.keep b o e n hb (exn b)) (I.base.free b o e n (exn b)) (notin b o e hb) (by simp)
 .obtain⟨sl,e1⟩:=I.base.slot b o e n hb (exn b);obtain⟨sl',e2⟩:=un2.slot b _ e1 (I.base.free b o e n (exn b)) (by rw[hf];exact F_ _ hb) (by simp);exact⟨sl',e2⟩
 .obtain⟨o',e1⟩:=I.base.there b o e (exn b);exact un2.free b o' e1 (I.base.free b o e n (exn b)) (by simp)
 .obtain⟨o',e1⟩:=I.base.there b o e (exn b);exact un2.there b o' e1 (by simp)
 .obtain⟨m1,e1⟩:=I.base.tbls b ps e;obtain⟨m2,e2⟩:=un2.tbls b _ e1;exact⟨m1++m2,by rw[e2,Array.append_assoc]⟩
 .obtain⟨o',e1⟩:=I.base.there b o e (exn b);exact F.old b o' e1 (notin b o e hb)
def vm(T:X.Top)(hA:A.frames=some X.stack)(I:Inv X pins σ H s)(hx:Heap.MadeExcOf s.heap h' ea cls args)(q:E cls none H):
 wpAny (model X.prog X.w) A (leaving X.env (.ref ea)) (λ_ s''=>CX1 X.prog X.w X.outer X.H₀ X.s₀ E (.ref ea) s'') E' { s with heap:=h' }:=by
 have hf:=mG (outer:=X.outer) T.fr;have stk:=I.stack;rw[T.stk] at stk;have hin:∀env∈(X.env::X.outer),∀b,env.frame=some b->b∈frs (X.env::X.outer):=λenv he b hb=>List.mem_filterMap.mpr ⟨env,he,hb⟩;refine wpAny_leaves_madeW (base:=W.hideAll s.heap (frs (X.env::X.outer))) (h:=s.heap) (by rw[hA,T.stk]) T.fr (λb o q=>W.of_hideAll _ q) (W.funFrames_hide stk hin) hx λh'' t fl tup tn up=>?_;have inB:∀b o,s.heap.get? b=some o->b∉frs (X.env::X.outer)->(W.hideAll s.heap (frs (X.env::X.outer))).get? b=some o:=λb o e hb=>W.hideAll_get _ e hb;have free:∀b∈frs (X.env::X.outer),H b=none:=λb hb=>I.stkFree b (by rw[T.stk];exact hb);have up2:s.heap.UpToSlots h'':=(Heap.UpToSlots.of_keeps hx.keeps).trans up;have exn:∀b,b∉X.ex:=λb z=>by rw[T.ex] at z;cases z
 have neL:∀b o,X.s₀.heap.get? b=some o->b≠X.env.locals:=λb o e=>Hi (E_ (C_ e) I.ok.above);have notin:∀b o,X.s₀.heap.get? b=some o->b∉frs X.outer->b∉frs (X.env::X.outer):=λb o e hb z=>by
  rw[hf] at z;rcases Hv.mp z with z |z
  .exact neL b o e z
  .exact hb z
 have trk:∀b o,H b=some o->∃o',(W.hideAll s.heap (frs (X.env::X.outer))).get? b=some o':=λb o e=>by obtain⟨u,hu⟩:=(I.hok b o e).there;exact⟨u,inB b u hu λz=>by rw[free b z] at e;cases e⟩
 refine⟨ea,t,cls,H,_,rfl,I.os,I.bare,⟨⟨λb o e n hb hx=>?_,λb o e n hb hx=>?_,λb o e n hx=>?_,λb o e hx=>?_,I.base.tups,I.base.frzs,I.base.tbls⟩,λa o e=>?_,fl,λb o e hb=>?_,trk⟩,q⟩
 .exact fl.1 b o (inB b o (I.base.keep b o e n hb (exn b)) (notin b o e hb))
 .obtain⟨sl,e1⟩:=I.base.slot b o e n hb (exn b);obtain⟨_,o',ho',hd⟩:=I.ok.funs.mem hb;rw[e] at ho';cases ho';obtain⟨sl',e2⟩:=up2 b _ e1 hd;exact⟨sl',e2⟩
 .exact I.base.free b o e n (exn b)
 .obtain⟨o',e1⟩:=I.base.there b o e (exn b);by_cases hb:b∈frs X.outer
  .obtain⟨_,o2,ho2,hd⟩:=I.funs.mem hb;rw[e1] at ho2;cases ho2;obtain⟨sl',e2⟩:=up2 b _ e1 hd;exact⟨_,e2⟩
  .exact⟨o',fl.1 b o' (inB b o' e1 (notin b o e hb))⟩
 .refine (I.hok a o e).stay (λb u hb q=>?_) (λ_ q=>q) λ_ _ q=>q;refine fl.1 b u (inB b u q λz=>?_);rcases hb with y |y
  .rw[y] at z;rw[free a z] at e;cases e
  .rw[free b z] at y;cases y
 .obtain⟨o',e1⟩:=I.base.there b o e (exn b);exact⟨o',inB b o' e1 (notin b o e hb)⟩
end
section
variable{P:Program}{w:World}{K:W.Frag}{mg:Jo}{base:Heap}{N:List Str}{qual:Str}{scope:Scope}{f:Addr}{cd:Value}{A:Around}{outer:List Env}{s:Shared}{H:Hp}{E:XK}
def xg:(cz (CX1 P w) P w K mg base N qual scope f cd A outer s H E).Top:=⟨rfl,rfl,rfl⟩
def F9:ml (CX1 P w) (cz (CX1 P w) P w K mg base N qual scope f cd A outer s H E) E:=λpins σ H s e s' I h=>rX xg I.ok.frames I h
def G1:ml (CX1 P w) X E0:=λpins σ H s e s' I ⟨_,_,_,_,_,_,_,_,_,q⟩=>q.elim
def v7:PassesOwn (model P w) (cz (CX1 P w) P w K mg base N qual scope f cd A outer s H E).A (cz (CX1 P w) P w K mg base N qual scope f cd A outer s H E).env (cz (CX1 P w) P w K mg base N qual scope f cd A outer s H E).xe:=PassesOwn.leaving
def Rz(X:Cx)(E:XK):Prop:=∀(pins:Jp) (σ:St) (H:Hp) (s:Shared) (h':Heap) (ea:Addr) (cls:Value) (args:List Value),Inv X pins σ H s->Heap.MadeExcOf s.heap h' ea cls args->E cls none H->X.xe (.ref ea) { s with heap:=h' }
def rz1:Rz (cz (CX1 P w) P w K mg base N qual scope f cd A outer s H E) E:=λpins σ H s h' ea cls args I hx q=>vm xg I.ok.frames I hx q
def Fun.okR{x qual:Str}{st:Stmt}{f:Addr}{fd:FuncData}{N ps:List Str}{k:Nat}{sp:Sp}(F:Fun K x qual st f fd)(S:FnScope N ps (ak st))(len:∀vs H Q E,sp vs H Q E->vs.length=ps.length)
 (k_:∀(cdv:Value) (A:Around) (outer:List Env) (s:Shared) (H:Hp) (vs:List V) (Q:VK) (E:XK),Room k (A.deeper (envOfC qual (ak st) s.heap.objs.size f cdv))->sp vs H Q E->
  ∃t,PSs (cz (CX1 P w) P w K mg base N qual (ak st) f cdv A outer s H E) (aT st) t/\t { nx:=λ_ H'=>Q .non H',rt:=Q } (cW N vs) H):FnOk P w K mg base (CX1 P w) (k+1) f fd ps sp:=by
 obtain⟨oc,od,kV,doc,pm,an,cdv,ct,osl,rfl,lk,p_⟩:=F.ex;exact w6 lk p_ S len λA outer s H vs Q E hr hsp=>k_ cdv A outer s H vs Q E hr hsp
end
abbrev iK:List Value:=[.type "ValueError",.type "Exception",.type "BaseException",.type "object"]
def rS{K:W.Frag}{h:Heap}{C:Addr}(X:K.In h)(q:W.excIn K C iK "ValueError.__new__"=true):
 ∃bm N nm q' bs hdct sn sub ab col dd k0 k1 k2 k3 k5 mN,h.get? C=some (excClassObj nm q' C N bs bm hdct sn sub ab col dd k0 k1 k2 k3 k5 "ValueError.__new__")/\h.Ns N mN/\mN "__init__"=none/\OwnTail h iK bm:=by
 unfold W.excIn at q;split at q
 .rename_i dd cd sl ho;split at q
  .rename_i C' bm k0 k1 k2 k3 n k5 hm hs;simp only[x_,Hw,Bool.not_eq_true'] at q;obtain⟨⟨⟨⟨⟨rfl,rfl⟩,hdel⟩,ht⟩,hok⟩,hni⟩:=q;obtain⟨nm,bs,mro,ns,qn,hd,sn,sub,ab,col,del⟩:=cd;dsimp only at hm hdel hok hni;subst hm hdel;have o_:sl=#[k0,k1,k2,k3,some (.builtin "ValueError.__new__"),k5]:=by obtain⟨l⟩:=sl;simp only at hs;rw[hs]
   subst o_;exact⟨bm,ns,nm,qn,bs,hd,sn,sub,ab,col,dd,k0,k1,k2,k3,k5,_,X _ _ ho,.of_isNs (W.isNs_of_in X hok),W.nsMap_none_of_in X hok hni,W.tail_of_in X ht⟩
  .cases q
 .cases q
section
variable{X:Cx}{x:Str}{C:Addr}{E:XK}{np cpos pos:Pos}{e₀:Expr}{es:List Expr}{ta:TA}
def Aw(C:Addr)(E:XK)(ta:TA):TS:=λ_ σ H=>ta σ H λvs H1=>vs.length<=sizeLine/\E (.ref C) none H1
def vB(hc:X.calm=true)(hR:Rz X E)(hg:Gl X x)(hm:X.mg x=some (.ref C))(hq:W.excIn X.K C iK "ValueError.__new__"=true)(ha:PA X (e₀::es) ta)
 (he:starEach (e₀::es) X.env=(false,eval e₀ X.env)::starEach es X.env) (j_:(backTo cpos (starEach es X.env)).any (·.1)=false) (hd:(x==("__debug__" : Str))=false):
 PS X (.Raise (some (.Call (.Name x np) (e₀::es) [] cpos)) none pos) (Aw C E ta):=by
 intro pins s σ H D I h;obtain⟨bm,N,nm,q',bs,hdct,sn,sub,ab,col,dd,k0,k1,k2,k3,k5,mN,hC,hN,hni,T⟩:=rS I.ok.mod.kin hq;refine wpAny_Raise_call_subT (C:=C) (nm:=nm) (q:=q') (N:=N) (bs:=bs) (bm:=bm) (hdct:=hdct) (sn:=sn) (sub:=sub) (ab:=ab) (col:=col) (dd:=dd) (k0:=k0) (k1:=k1) (k2:=k2) (k3:=k3) (k5:=k5)
  PySem.F.excBase_ValueError (mN:=mN) (T.hasType PySem.F.excBase_ValueError.hasBase) (I.ok.hd hc) (by rw[he];show (false || (backTo cpos (starEach es X.env)).any (·.1))=false;rw[j_];rfl) hni (o6 I hg hm ⟨rfl,?_⟩ hd)
 have hA:=ha cpos pins s σ H _ I h;rw[he] at hA ⊢;refine Calls.evalArgs_plain (thn hA λus s2 ⟨vs,H2,I2,r2,hz,q2⟩=>⟨rfl,by rw[<- r2.length];exact hz,I2.bk _ _ hC,hN.keeps I2.bk,T.keeps I2.bk,λh' e hm'=>?_⟩);exact hR pins σ H2 s2 h' e _ _ I2 hm' q2
end
abbrev XS:=St->XK
abbrev TEx:=St->Hp->VK->XK->Prop
abbrev TSx:=Ends->XS->St->Hp->Prop
def XP(X:Cx)(pins:Jp)(E:XS)(e:Value)(s':Shared):Prop:=∃σ1 H1 s1,Inv X pins σ1 H1 s1/\CX1 X.prog X.w X.stack H1 s1 (E σ1) e s'
def PEx(X:Cx)(e:Expr)(t:TEx):Prop:=
 ∀(pins:Jp) (s:Shared) (σ:St) (H:Hp) (Q:VK) (E:XS),Inv X pins σ H s->t σ H Q (E σ)->wpAny (model X.prog X.w) X.A (eval e X.env) (EP X pins σ Q) (XP X pins E) s
structure XHand(K:W.Frag)(C:Addr):Prop where
 ty:W.typeIn K (.ref C)=some (.type "type")
 cls:(W.clsIn K C).isSome=true
 mb:W.mroIn K C (.type "BaseException")=some true
mutual
inductive Rep(K:W.Frag)(H:Hp):V->PyData->Prop where
 |non:Rep K H .non .none
 |bl (b:Bool):Rep K H (.bl b) (.bool b)
 |int (i:Int):Rep K H (.int i) (.int i)
 |str (x:Str):Rep K H (.str x) (.str x)
 |tup {a:Addr}{xs:List V}{ds:List PyData} (h:SqT K H a xs) (r:Reps K H xs ds):Rep K H (.ref a) (.tuple ds)
 |lst {a:Addr}{xs:List V}{ds:List PyData} (h:SqL K H a xs) (r:Reps K H xs ds):Rep K H (.ref a) (.list ds)
inductive Reps(K:W.Frag)(H:Hp):List V->List PyData->Prop where
 |nil:Reps K H [] []
 |cons {x:V}{d:PyData}{xs:List V}{ds:List PyData} (r:Rep K H x d) (rr:Reps K H xs ds):Reps K H (x::xs) (d::ds)
end
section
variable{X:Cx}{pins:Jp}{σ:St}{H:Hp}{s:Shared}{K:W.Frag}
def Rep.reads(I:Inv X pins σ H s)(r:Rep X.K H v d)(q:RelV v u):∃as,Reads s.heap u d as:=
 Rep.rec (motive_1:=λv d _=>∀u,RelV v u->∃as,Reads s.heap u d as) (motive_2:=λvs ds _=>∀us,Vals vs us->∃as,ReadsAll s.heap us ds as)
  (λu r=>by cases r;exact⟨_,.none⟩) (λb u r=>by cases r;exact⟨_,.bool b⟩) (λi u r=>by obtain⟨t,rfl⟩:=r;exact⟨_,.int i t⟩) (λx u r=>by obtain⟨t,rfl⟩:=r;exact⟨_,.str x t⟩)
  (λh _ ih u r=>by cases r;obtain⟨its,rv,⟨o,e,c,n,d⟩,_⟩:=I.tuple h;obtain⟨as,q⟩:=ih _ rv;exact⟨as,.tuple e c d (by simpa using q)⟩)
  (λh _ ih u r=>by cases r;obtain⟨its,rv,⟨o,n,e,c,_,d⟩,_⟩:=I.list h;obtain⟨as,q⟩:=ih _ rv;exact⟨_,.list e c d (by simpa using q)⟩)
  (λus r=>by cases r;exact⟨_,.nil⟩)
  (λ_ _ a b us q=>by
   cases q with
   |cons q1 q2=>obtain⟨as,h1⟩:=a _ q1;obtain⟨bs,h2⟩:=b _ q2;exact⟨_,.cons h1 h2⟩) r u q
end
section
variable{X:Cx}
noncomputable def shp(d:PyData):Bool:=d.canLay0&&decide (d.depth<=160)
def gR(h:shp d=true):d.canLay0=true:=(Bool.and_eq_true_iff.mp h).1
def mi{A:Around}{d e:PyData}(h:shp d=true)(hu:A.units+180<cLine):A.units+min d.depth e.depth<cLine:=by have h1:d.depth<=160:=IU (Bool.and_eq_true_iff.mp h).2;have h2:min d.depth e.depth<=d.depth:=Nat.min_le_left _ _;omega
def rE(K:W.Frag):R2:=λx y H Q=>∃dx dy,Rep K H x dx/\Rep K H y dy/\shp dx=true/\shp dy=true/\Q (.bl (PyData.eqv dx dy)) H
def rJ(K:W.Frag):R2:=λx y H Q=>∃dx dy,Rep K H x dx/\Rep K H y dy/\shp dx=true/\shp dy=true/\Q (.bl (!PyData.eqv dx dy)) H
def CU(hu:X.A.units+180<cLine):OpR X (compareOp .Eq) (rE X.K):=by intro pins s σ H x y v u Q I rx ry h;obtain⟨dx,dy,r1,r2,h1,h2,q⟩:=h;obtain⟨as,q1⟩:=r1.reads I rx;obtain⟨bs,q2⟩:=r2.reads I ry;exact SeqAt.compareEq_reads q1 q2 (gR h1) (gR h2) (mi h1 hu) (gH I q rfl)
def AS(hu:X.A.units+180<cLine):OpR X (compareOp .NotEq) (rJ X.K):=by intro pins s σ H x y v u Q I rx ry h;obtain⟨dx,dy,r1,r2,h1,h2,q⟩:=h;obtain⟨as,q1⟩:=r1.reads I rx;obtain⟨bs,q2⟩:=r2.reads I ry;exact SeqAt.compareNe_reads q1 q2 (gR h1) (gR h2) (mi h1 hu) (gH I q rfl)
open PySem.Builtin.Int (intBits)
def CDivB(i j:Int):Prop:=j≠0/\intBits j<=8000
def xa(i j:Int):Prop:=intBits i<=100000/\intBits j<=100000
def uu:OpR X (binaryOp .FloorDiv) (rI CDivB λi j=>.int (i.fdiv j)):=opI λi j _ _ _ _ _ hc q=>floordiv_int hc.1 q (.inl (PyProof.noPylong_of_log2 (by
 have h:=hc.2;have h0:=hc.1;unfold intBits at h;have hb:(j==0)=false:=by simpa using h0
 rw[hb] at h;simp only[HS,IM] at h;omega)))
def yx:OpR X (binaryOp .Mult) (rI xa λi j=>.int (i*j)):=opI λi j _ _ _ _ _ hc q=>mul_int q (PySem.IntMulOk.of_le hc.1 hc.2 (by decide))
def sH(bs:List Bool):((List.range bs.length).all λi=>bs.getD i false)=bs.all id:=by
 rw[Bool.eq_iff_iff,Hd,Hd];constructor
 .intro h x hx;obtain⟨i,hi,rfl⟩:=List.mem_iff_getElem.mp hx
  have:=h i (Im.mpr hi)
  simpa [Hu,hi] using this
 .intro h i hi;have hi':=Im.mp hi
  have:=h bs[i] (List.getElem_mem hi')
  simpa [Hu,hi'] using this
def wt(hc:X.calm=true):CallR X (.builtin "all") (λxs H Q=>∃(a:Addr) (bs:List Bool),xs=[.ref a]/\SqL X.K H a (bs.map V.bl)/\Q (.bl (bs.all id)) H):=by
 intro pins s σ H xs us Q I r h;obtain⟨a,bs,rfl,hq,q⟩:=h;obtain⟨u,rfl,ru⟩:=gJ r;cases ru;obtain⟨its,rv,p,hz⟩:=I.list hq;have hl:=rv.length;rw[v_] at hl;have hlt:a<s.heap.objs.size:=by obtain⟨o,n,e,_⟩:=p;exact C_ e
 refine call_all_walk (wpAny_pyIter_list p.isList ?_);refine⟨s.heap.objs.size,_,_,_,_,_,λi=>bs.getD i false,rfl,Walks.list (A:=X.A.in1) (I.ok.hd hc) s.heap.objs.size a (Hi hlt) its.toArray,⟨⟨_,Hl _ rfl,rfl,rfl⟩,(p.keeps λb o e=>w_ _ e).isList⟩,λi v s' Q' E' hP hQ=>?_,λh' tk hk=>?_⟩
 .have hP':its[i]?=some v:=by simpa using hP
  have hi:i<bs.length:=by rw[hl];exact (u_.mp hP').1
  have hb:(bs.map V.bl)[i]?=some (V.bl bs[i]):=by simp [hi]
  obtain⟨u,hu,ru⟩:=rv.get hb;rw[hP'] at hu;cases hu;cases ru;refine Ik ?_;have e:bs.getD i false=bs[i]:=by simp [Hu,hi]
  show Q' bs[i] s';rw[<- e];exact hQ
 .have e1:its.toArray.size=bs.length:=by rw[B_,hl]
  rw[e1,sH];have hn:H s.heap.objs.size=none:=I.fresh;have I1:Inv X pins σ H { s with heap:=s.heap.push { cls:=.type "list_iterator",dict:=none,data:=.fields #[.ref a,rawInt 0] } }:=I.kept (t':=s.toks) λb o e=>w_ _ e;refine⟨.bl _,H,?_,rfl,q⟩;refine I.kept (t':=tk) λb o e=>?_;have hne:b≠s.heap.objs.size:=Hi (C_ e);exact hk b o (by simpa using hne) (w_ _ e)
end
structure Def(K:W.Frag)(mg:Jo)(x:Str)(st:Stmt):Prop where
 ex:∃f fd,Fun K x x st f fd/\mg x=some (.ref f)
def su{K:W.Frag}{h:Heap}{mg:Jo}{x:Str}{st:Stmt}{f:Addr}{oc:Value}{od an:Option Addr}{osl:Array (Option Value)}{kV doc pm cdv ct:Value}(X:K.In h)(G:h.Ns mainGlobals mg)
 (a:W.nsIn K mainGlobals x=some (some (.ref f))) (l:K.lookup f=some ⟨oc,od,.func (W.fnOf x x (bT st) (aT st) (ak st) .none kV doc pm an cdv ct),osl⟩)
 (c:W.codeIn K cdv x=true) (k:W.keepIn K (.ref f)=true):Def K mg x st:=⟨f,_,A6 l c k,W.mg_of X G a⟩
def Fun.look{K:W.Frag}{x qual:Str}{st:Stmt}{f:Addr}{fd:FuncData}(F:Fun K x qual st f fd):∃oc od osl,K.lookup f=some ⟨oc,od,.func fd,osl⟩:=by obtain⟨oc,od,kV,doc,pm,an,cdv,ct,osl,rfl,lk,p_⟩:=F.ex;exact⟨oc,od,osl,lk⟩
structure Callee(P:Program)(w:World)(K:W.Frag)(mg:Jo)(base:Heap)(x:Str)(k:Nat)(ps:List Str)(sp:Sp):Prop where
 ex:∃f fd,FnOk P w K mg base (CX1 P w) k f fd ps sp/\mg x=some (.ref f)/\W.keepIn K (.ref f)=true/\Binds K fd ps []/\∃oc od osl,K.lookup f=some ⟨oc,od,.func fd,osl⟩
section
variable{P:Program}{w:World}{K:W.Frag}{mg:Jo}{base:Heap}{x:Str}{st:Stmt}{k:Nat}{ps N:List Str}{sp:Sp}
def Callee.imp(C:Callee P w K mg base x k ps sp)(h:∀vs H Q E,sp' vs H Q E->sp vs H Q E):Callee P w K mg base x k ps sp':=by obtain⟨f,fd,F,r⟩:=C.ex;exact⟨f,fd,F.imp h,r⟩
def Def.okR(D:Def K mg x st)(S:FnScope N ps (ak st))
 (hb:∀(kV doc pm:Value) (an:Option Addr) (cdv ct:Value) (us:List Value),us.length=ps.length->bindArgs (W.fnOf x x (bT st) (aT st) (ak st) .none kV doc pm an cdv ct) ⟨us,[]⟩=pure (ps.zip us))
 (len:∀vs H Q E,sp vs H Q E->vs.length=ps.length)
 (k_:∀(f:Addr) (cdv:Value) (A:Around) (outer:List Env) (s:Shared) (H:Hp) (vs:List V) (Q:VK) (E:XK),Room k (A.deeper (envOfC x (ak st) s.heap.objs.size f cdv))->sp vs H Q E->
  ∃t,PSs (cz (CX1 P w) P w K mg base N x (ak st) f cdv A outer s H E) (aT st) t/\t { nx:=λ_ H'=>Q .non H',rt:=Q } (cW N vs) H):Callee P w K mg base x (k+1) ps sp:=by
 obtain⟨f,fd,F,m⟩:=D.ex;exact⟨f,fd,F.okR S len (k_ f),m,F.kp,F.binds hb,F.look⟩
end
section
variable{X:Cx}{K:W.Frag}
def allK(h:X.K=K)(hc:X.calm=true):CallR X (.builtin "all") (λxs H Q=>∃(a:Addr) (bs:List Bool),xs=[.ref a]/\SqL K H a (bs.map V.bl)/\Q (.bl (bs.all id)) H):=by subst h;exact wt hc
def Room.u180(r:Room k A):A.units+180<cLine:=by have:=r.un;omega
def eqDK(h:X.K=K)(hu:X.A.units+180<cLine):OpR X (compareOp .Eq) (rE K):=by subst h;exact CU hu
def neDK(h:X.K=K)(hu:X.A.units+180<cLine):OpR X (compareOp .NotEq) (rJ K):=by subst h;exact AS hu
end
section
variable{X:Cx}
def uf{f_ a_ tg:Expr}{ifs:List Expr}{scope:Scope}{pos:Pos}{wi:TI}{g:TG}{tc:TT}{te:TE}{N:List Str}{sub:Jr}{iT:Nat}{xT:Str}{px spos:Pos}
 (hc:X.calm=true) (hN:X.N.Nodup) (hix:X.N[iT]?=some xT) (hxl:Loc X.env.scope xT) (hi:PI X tg a_ wi)
 (hk:scope.kind=.function) (n_:∀x∈scope.names,x.2 ≠ .cell) (b_:∀x∈scope.names,x.2=.local->scope.names.lookup x.1=some .local)
 (l_:∀x∈scope.names,x.2=.free->X.env.kindOf x.1=some .cell\/X.env.kindOf x.1=some .free)
 (o_:sub.length=N.length) (e_:∀(j i:Nat) (x:Str),sub[j]?=some (some i)->N[j]?=some x->X.N[i]?=some x/\scope.names.lookup x=some .free)
 (hg:∀cl C s₂ H fp,PG (ao X N scope cl C s₂ H fp) tg g) (ht:∀cl C s₂ H fp,PTs (ao X N scope cl C s₂ H fp) ifs tc) (he:∀cl C s₂ H fp,PE (ao X N scope cl C s₂ H fp) f_ te)
 (hsw:swapsWith (.ListComp f_ [⟨tg,a_,ifs,0⟩] scope pos) (some (.Name xT px)) spos.line X.env=pure true)
 (hs:∀x,foldedSetIterable a_ X.env x=pure x) (hf:X.fn xT=true\/X.env.scope.names.lookup xT=some .local):
 PS X (.Assign [.Name xT px] (.ListComp f_ [⟨tg,a_,ifs,0⟩] scope pos) spos) (mB (eK wi sub g tc te) (ja iT)):=by
 intro pins s σ H D0 I h;rw[exec_Assign_Name_used _ _ _ _ hsw];refine t_ (IA (t_ ?_));show wpAny _ X.A (do let _ <- comprehension (.ListComp f_ [⟨tg,a_,ifs,0⟩] scope pos) scope X.env _ (newList []) false (eval a_ X.env) (some (assign (.Name xT px) X.env))) _ _ s;refine t_ (Hq (oC (use:=some (assign (.Name xT px) X.env)) (R:=λ_ s'=>SP X pins D0 .next s') hc hi hk n_ b_ l_ o_ e_ hg ht he hs I h λD C s4 e=>?_) (λ_ s' hq=>Em (Em hq)) λ_ _ e=>e);obtain⟨m,hm⟩:=e.ns;obtain⟨H',hC,q,i⟩:=e.inv;have dc:=e.dc;have fr:=e.fr;refine wpAny_assign_Name (kN (v:=.ref D) (i s4.heap ⟨rfl,λ_ _=>rfl⟩) hN hix hxl rfl (λs7 I7 ⟨a7,sb7,ha7⟩=>?_) hf);have ha:a7<D:=by
  rcases ha7 with z |z
  .rw[z];exact fr
  .exact e.cell xT a7 z
 refine⟨m,hm.sameBut sb7 (Ji (Jh ha dc)),λh8 hs8=>⟨_,_,I7.turned (it:=C) (t':=s7.toks) (λb o hb e=>hs8.extBut b o hb e) hC (Ji (Jh fr dc)) (.inr (G6 e.sz (Jg dc))) (λx c q=>Hi (Jh (e.cell x c q) dc)) (λp hp=>Hi (Jh (e.pin p hp) dc)),q⟩⟩
def GH{f_ a_ tg:Expr}{scope:Scope}{pos px spos:Pos}{wi:TI}{g:TG}{te:TE}{iT:Nat}{xT:Str}(M:List Str)(kn:List (Str×NameKind))(N:List Str)(sub:Jr)
 (hc:X.calm=true) (hN:X.N.Nodup) (hix:X.N[iT]?=some xT) (hxl:Loc X.env.scope xT) (hi:PI X tg a_ wi)
 (hg:∀cl C s₂ H fp,PG (ao X N scope cl C s₂ H fp) tg g) (he:∀cl C s₂ H fp,PE (ao X N scope cl C s₂ H fp) f_ te)
 (hsw:swapsWith (.ListComp f_ [⟨tg,a_,[],0⟩] scope pos) (some (.Name xT px)) spos.line X.env=pure true)
 (hM:X.N=M) (hkn:X.env.scope.names=kn) (e_:bH M scope.names sub N=true)
 (hk:scope.kind=.function) (n_:∀x∈scope.names,x.2 ≠ .cell) (b_:∀x∈scope.names,x.2=.local->scope.names.lookup x.1=some .local)
 (l_:cp kn scope.names=true)
 (o_:sub.length=N.length) (hs:∀x,foldedSetIterable a_ X.env x=pure x) (hf:X.fn xT=true\/X.env.scope.names.lookup xT=some .local):
 PS X (.Assign [.Name xT px] (.ListComp f_ [⟨tg,a_,[],0⟩] scope pos) spos) (mB (eK wi sub g uI te) (ja iT)):=
 uf hc hN hix hxl hi hk n_ b_ (by subst hkn;exact hX l_) o_ (by subst hM;exact fZ e_) hg (λcl C s₂ H fp=>pk) he hsw hs hf
end
end L2
namespace Fr
noncomputable def dv(a b:Int):Int:=if b<0 then -((Int.gcd a b:Nat):Int) else ((Int.gcd a b:Nat):Int)
def T(a b:Int):Int:=a.fdiv (dv a b)
def B(a b:Int):Int:=b.fdiv (dv a b)
def mF(hb:b≠0):0<Int.gcd a b:=Int.gcd_pos_of_ne_zero_right a hb
def dv_ne(hb:b≠0):dv a b≠0:=by
 have:=mF (a:=a) hb
 unfold dv;split <;> omega
def wH(a b:Int):dv a b ∣ a:=by
 have h:((Int.gcd a b:Nat):Int) ∣ a:=Int.gcd_dvd_left a b;unfold dv;split
 .exact Int.neg_dvd.mpr h
 .exact h
def vv(a b:Int):dv a b ∣ b:=by
 have h:((Int.gcd a b:Nat):Int) ∣ b:=Int.gcd_dvd_right a b;unfold dv;split
 .exact Int.neg_dvd.mpr h
 .exact h
def oM{a d q:Int}(hd:d≠0)(h:a=d*q):a.fdiv d=q:=by rw[h,II];exact Int.mul_fdiv_cancel q hd
def T_mul(hb:b≠0):T a b*dv a b=a:=by obtain⟨q,h⟩:=wH a b;have:T a b=q:=oM (dv_ne hb) h;rw[this,II];exact h.symm
def B_mul(hb:b≠0):B a b*dv a b=b:=by obtain⟨q,h⟩:=vv a b;have:B a b=q:=oM (dv_ne hb) h;rw[this,II];exact h.symm
def B_pos(hb:b≠0):0<B a b:=by
 have h:=B_mul (a:=a) hb;have hg:=mF (a:=a) hb;generalize hx:B a b=x at h ⊢;unfold dv at h;split at h
 .rename_i hneg;have h2:x*((Int.gcd a b:Nat):Int)=-b:=by rw[Int.mul_neg] at h;omega
  rcases Int.lt_or_le 0 x with z |z
  .exact z
  .have:x*((Int.gcd a b:Nat):Int)<=0:=Int.mul_nonpos_of_nonpos_of_nonneg z (by omega);omega
 .rename_i hpos;rcases Int.lt_or_le 0 x with z |z
  .exact z
  .have:x*((Int.gcd a b:Nat):Int)<=0:=Int.mul_nonpos_of_nonpos_of_nonneg z (by omega);omega
def cross(hb:b≠0):T a b*b=a*B a b:=by have h1:=T_mul (a:=a) hb;have h2:=B_mul (a:=a) hb;generalize T a b=x at *;generalize B a b=y at *;generalize dv a b=d at *;rw[<- h2,<- h1];rw[<- HP,IJ]
def dv_abs(a b:Int):(dv a b).natAbs=Int.gcd a b:=by unfold dv;split <;> simp
def low(hb:b≠0):Int.gcd (T a b) (B a b)=1:=by
 have h1:=T_mul (a:=a) hb;have h2:=B_mul (a:=a) hb;have hg:=mF (a:=a) hb;have e1:a.natAbs=(T a b).natAbs*Int.gcd a b:=by rw[<- dv_abs a b,<- H0,h1]
 have e2:b.natAbs=(B a b).natAbs*Int.gcd a b:=by rw[<- dv_abs a b,<- H0,h2]
 have e3:Int.gcd a b=Nat.gcd ((T a b).natAbs*Int.gcd a b) ((B a b).natAbs*Int.gcd a b):=by rw[<- e1,<- e2];rfl
 rw[Nat.gcd_mul_right] at e3;show Nat.gcd (T a b).natAbs (B a b).natAbs=1;generalize Nat.gcd (T a b).natAbs (B a b).natAbs=k at *;generalize Int.gcd a b=g at *;have:(1:Nat)*g=k*g:=by omega
 exact (Nat.eq_of_mul_eq_mul_right hg this).symm
def uniq(hy:0<y)(hy':0<y')(h:Int.gcd x y=1)(h':Int.gcd x' y'=1)(e:x*y'=x'*y):x=x'/\y=y':=by
 have c1:Nat.Coprime y.natAbs x.natAbs:=by rw[Nat.coprime_comm];exact h
 have c2:Nat.Coprime y'.natAbs x'.natAbs:=by rw[Nat.coprime_comm];exact h'
 have e1:x.natAbs*y'.natAbs=x'.natAbs*y.natAbs:=by rw[<- H0,<- H0,e]
 have d1:y.natAbs ∣ y'.natAbs:=c1.dvd_of_dvd_mul_left (by rw[e1];exact Nat.dvd_mul_left _ _);have d2:y'.natAbs ∣ y.natAbs:=c2.dvd_of_dvd_mul_left (by rw[<- e1];exact Nat.dvd_mul_left _ _);have ey:y.natAbs=y'.natAbs:=Nat.dvd_antisymm d1 d2;have ey':y=y':=by omega
 subst ey';exact⟨Iv (by omega) e,rfl⟩
def qL(hb:b≠0)(hd:d≠0)(e:a*d=c*b):T a b=T c d/\B a b=B c d:=by
 refine uniq (B_pos hb) (B_pos hd) (low hb) (low hd) ?_;have h1:=cross (a:=a) hb;have h2:=cross (a:=c) hd;have hbd:b*d≠0:=ID hb hd;refine Iv hbd ?_
 calc T a b*B c d*(b*d)=(T a b*b)*(B c d*d):=by rw[HP,Ig (B c d) b d,<- HP]
  _=(a*B a b)*(B c d*d):=by rw[h1]
  _=(a*d)*(B c d*B a b):=by rw[HP a,HP a,Ig (B a b),Ig d,II (B a b) d]
  _=(c*b)*(B c d*B a b):=by rw[e]
  _=(c*B c d)*(B a b*b):=by rw[HP c,HP c,Ig b,II b (B a b)]
  _=(T c d*d)*(B a b*b):=by rw[<- h2]
  _=T c d*B a b*(b*d):=by rw[HP,HP,Ig d,II d b]
def self(hb:0<b)(h:Int.gcd a b=1):T a b=a/\B a b=b:=
 uniq (B_pos (by omega)) hb (low (by omega)) h (cross (by omega))
def euc(m n:Nat):Nat.gcd n (m % n)=Nat.gcd m n:=by rw[Nat.gcd_comm,<- Nat.gcd_rec,Nat.gcd_comm]
end Fr
set_option maxHeartbeats 1000000
namespace L2
open PySem PySem.Spec PyProof.Rows
def SqB(K:W.Frag)(b:Bool)(H:Hp)(a:Addr)(xs:List V):Prop:=match b with
 |true=>SqL K H a xs
 |false=>SqT K H a xs
noncomputable def IteE(K:W.Frag)(b:Bool)(a:Addr):It:=
 ⟨λi H=>∃xs x,SqB K b H a xs/\xs[i]?=some x,λi H x H'=>∃p u,x=.ref p/\H p=none/\H'=upd H p (.tup [.int (i:Nat),u])/\∀xs,SqB K b H a xs->xs[i]?=some u,λi H=>∃xs,SqB K b H a xs/\xs.length=i⟩
noncomputable def ItZ(K:W.Frag)(b c:Bool)(a d:Addr):It:=
 ⟨λi H=>∃xs ys x y,SqB K b H a xs/\SqB K c H d ys/\xs[i]?=some x/\ys[i]?=some y,
  λi H x H'=>∃p u v,x=.ref p/\H p=none/\H'=upd H p (.tup [u,v])/\(∀xs,SqB K b H a xs->xs[i]?=some u)/\∀ys,SqB K c H d ys->ys[i]?=some v,
  λi H=>∃xs ys,SqB K b H a xs/\SqB K c H d ys/\(xs[i]?=none\/ys[i]?=none)⟩
inductive D where
 |non |bl (b:Bool) |int (i:Int) |str (x:Str) |ty (n:String) |glb (x:Str) |exc (x:Str) |tup (xs:List D) |ref (n:Nat) |kl (xs:List D)
 deriving Inhabited
inductive Ob where
 |lst (xs:List D) |fz (xs:List D) |set (xs:List Int) |dct (kvs:List (Key×D)) |any
 deriving Inhabited
abbrev AH:=List Ob
abbrev AE:=List (Option D)
inductive R(α:Type) where
 |ok (a:α) (h:AH) |exc (c:Str) (h:AH) |stuck
inductive SR where
 |nx (ae:AE) (h:AH) |rt (d:D) (h:AH) |bk (ae:AE) (h:AH) |ct (ae:AE) (h:AH) |exc (c:Str) (ae:AE) (h:AH) |stuck
abbrev ME:=AE->AH->R D
abbrev MT:=AE->AH->R Bool
abbrev MA:=AE->AH->R (List D)
abbrev MS:=AE->AH->SR
abbrev Fn:=List D->AH->R D
noncomputable def R.bind{α β:Type}(r:R α)(f:α->AH->R β):R β:=match r with
 |.ok a h=>f a h
 |.exc c h=>.exc c h
 |.stuck=>.stuck
section
variable(K:W.Frag)(mg:Jo)
mutual
inductive RelD(ρ:List Addr)(H:Hp):D->V->Prop where
 |non:RelD ρ H .non .non
 |bl (b:Bool):RelD ρ H (.bl b) (.bl b)
 |int (i:Int):RelD ρ H (.int i) (.int i)
 |str (x:Str):RelD ρ H (.str x) (.str x)
 |ty (n:String):RelD ρ H (.ty n) (.ty n)
 |glb {x:Str}{a:Addr} (m:mg x=some (.ref a)):RelD ρ H (.glb x) (.ref a)
 |exc {x:Str}{a C:Addr} (m:mg x=some (.ref C)) (e:H a=some (.ext (uy a C))):RelD ρ H (.exc x) (.ref a)
 |tup {p:Addr}{vs:List V}{ds:List D} (h:SqT K H p vs) (r:RelDs ρ H ds vs):RelD ρ H (.tup ds) (.ref p)
 |ref {n:Nat}{a:Addr} (e:ρ[n]?=some a):RelD ρ H (.ref n) (.ref a)
 |kl {a:Addr}{vs:List V}{ds:List D} (h:∃(o:Obj) (its:Array Value) (n:Nat),K.lookup a=some o/\o.cls=.type "list" /\ o.dict=none/\o.data=.seq its n/\its.size<=sizeLine/\Vals vs its.toList) (r:RelDs ρ H ds vs):RelD ρ H (.kl ds) (.ref a)
inductive RelDs(ρ:List Addr)(H:Hp):List D->List V->Prop where
 |nil:RelDs ρ H [] []
 |cons {d:D}{v:V}{ds:List D}{vs:List V} (r:RelD ρ H d v) (rr:RelDs ρ H ds vs):RelDs ρ H (d::ds) (v::vs)
end
structure Le(ρ:List Addr)(H:Hp)(ρ':List Addr)(H':Hp):Prop where
 pre:∀(n:Nat) (a:Addr),ρ[n]?=some a->ρ'[n]?=some a
 tup:∀b xs,H b=some (.tup xs)->H' b=some (.tup xs)
 frz:∀b o u,H b=some (.frz o u)->H' b=some (.frz o u)
 ext:∀b φ,H b=some (.ext φ)->H' b=some (.ext φ)
def ObR(ρ:List Addr)(H:Hp)(a:Addr):Ob->Prop
 |.lst ds=>∃vs,H a=some (.lst vs)/\RelDs K mg ρ H ds vs
 |.fz ds=>∃o vs,H a=some (.frz o (.lst vs))/\RelDs K mg ρ H ds vs
 |.set xs=>xs.Nodup/\H a=some (.set (λi=>decide (i∈xs)) xs.length)
 |.dct kvs=>∃ws,H a=some (.dK ws)/\ws.map (·.1)=kvs.map (·.1)/\RelDs K mg ρ H (kvs.map (·.2)) (ws.map (·.2))
 |.any=>∃o,H a=some o
def fK(c:Addr)(q:Str):Heap->Prop:=λh=>h.CodeRec (.ref c) q
noncomputable def iF:List Str:=["by_falling_weights", "least_around"]
def LamT(P:Addr)(q:Str):Prop:=∃(x:Str) (f:Addr) (oc:Value) (od:Option Addr) (fd:FuncData) (sl:Array (Option Value)) (c:Addr),x∈iF/\(∀y∈iF,y≠x->mg y=none)/\mg x=some (.ref f)/\K.lookup f=some ⟨oc,od,.func fd,sl⟩/\fd.code=.ref c/\W.codeHdIn K c P=true/\q=fd.qualname ++ ".<locals>." ++ "<lambda>"
def TbP(ρ:List Addr)(H:Hp)(P:Addr)(q:Str):Prop:=P∉ρ/\∃ps:Array Value,H P=some (.tbl ps)/\TriplesOk ps.toList/\∀pos cv,codeAmong pos ps.toList=some cv->∃c,cv=.ref c/\H c=some (.ext (fK c q))
def bmP(o:Obj):Prop:=o.cls=.type "module" /\ o.dict=some builtinsNs/\o.data=.plain
def BMok(H:Hp):Prop:=∃b o,mg "__builtins__"=some (.ref b)/\b≠builtinsNs/\b≠mainGlobals/\bmP o/\(K.lookup b=some o\/∃u,H b=some (.frz o u))
structure Wd(ρ:List Addr)(h:AH)(H:Hp):Prop where
 len:ρ.length=h.length
 nd:ρ.Nodup
 tb:∀P q,LamT K mg P q->TbP ρ H P q/\BMok K mg H
 ob:∀(n:Nat) (a:Addr) (o:Ob),ρ[n]?=some a->h[n]?=some o->ObR K mg ρ H a o
structure RelE(ρ:List Addr)(H:Hp)(ae:AE)(σ:St):Prop where
 len:ae.length=σ.length
 at_:∀(i:Nat) (d:D),ae[i]?=some (some d)->∃v,σ[i]?=some (some v)/\RelD K mg ρ H d v
def PostG{α:Type}(ρ:List Addr)(H:Hp)(E:XK)(k:α->AH->List Addr->Hp->Prop):R α->Prop
 |.ok a h=>∀ρ' H',Le ρ H ρ' H'->Wd K mg ρ' h H'->k a h ρ' H'
 |.exc c h=>∀ρ' H' C,Le ρ H ρ' H'->Wd K mg ρ' h H'->mg c=some (.ref C)->E (.ref C) none H'
 |.stuck=>False
abbrev bY(ρ:List Addr)(H:Hp)(Q:VK)(E:XK)(r:R D):Prop:=PostG K mg ρ H E (λd _ ρ' H'=>∀v,RelD K mg ρ' H' d v->Q v H') r
abbrev xn(ρ:List Addr)(H:Hp)(Q:Bool->Hp->Prop)(E:XK)(r:R Bool):Prop:=PostG K mg ρ H E (λb _ ρ' H'=>Q b H') r
abbrev xk(ρ:List Addr)(H:Hp)(Q:List V->Hp->Prop)(E:XK)(r:R (List D)):Prop:=PostG K mg ρ H E (λd _ ρ' H'=>∀vs,RelDs K mg ρ' H' d vs->Q vs H') r
def PostS(ρ:List Addr)(H:Hp)(D:Ends)(ES:St->XK):SR->Prop
 |.nx ae h=>∀ρ' H' σ',Le ρ H ρ' H'->Wd K mg ρ' h H'->RelE K mg ρ' H' ae σ'->D.nx σ' H'
 |.bk ae h=>∀ρ' H' σ',Le ρ H ρ' H'->Wd K mg ρ' h H'->RelE K mg ρ' H' ae σ'->D.bk σ' H'
 |.ct ae h=>∀ρ' H' σ',Le ρ H ρ' H'->Wd K mg ρ' h H'->RelE K mg ρ' H' ae σ'->D.ct σ' H'
 |.rt d h=>∀ρ' H' v,Le ρ H ρ' H'->Wd K mg ρ' h H'->RelD K mg ρ' H' d v->D.rt v H'
 |.exc c ae h=>∀ρ' H' σ' C,Le ρ H ρ' H'->Wd K mg ρ' h H'->RelE K mg ρ' H' ae σ'->mg c=some (.ref C)->ES σ' (.ref C) none H'
 |.stuck=>False
def rdE(ES:St->XK)(F:ME):TE:=λσ H Q=>∃ρ h ae,Wd K mg ρ h H/\RelE K mg ρ H ae σ/\bY K mg ρ H Q (ES σ) (F ae h)
def rdT(ES:St->XK)(F:MT):TT:=λσ H Q=>∃ρ h ae,Wd K mg ρ h H/\RelE K mg ρ H ae σ/\xn K mg ρ H Q (ES σ) (F ae h)
def rdA(ES:St->XK)(F:MA):TA:=λσ H Q=>∃ρ h ae,Wd K mg ρ h H/\RelE K mg ρ H ae σ/\xk K mg ρ H Q (ES σ) (F ae h)
def rdS(ES:St->XK)(F:MS):TS:=λD σ H=>∃ρ h ae,Wd K mg ρ h H/\RelE K mg ρ H ae σ/\PostS K mg ρ H D ES (F ae h)
def spD(n:Nat)(S:Fn):Sp:=λvs H Q E=>∃ρ h ds,Wd K mg ρ h H/\RelDs K mg ρ H ds vs/\ds.length=n/\bY K mg ρ H Q E (S ds h)
end
def rdE.el{K:W.Frag}{mg:Jo}{ES:St->XK}{F:ME}{σ:St}{H:Hp}{Q:VK}{C:Prop}(q:rdE K mg ES F σ H Q)(k:∀ρ h ae,Wd K mg ρ h H->RelE K mg ρ H ae σ->bY K mg ρ H Q (ES σ) (F ae h)->C):C:=by obtain⟨ρ,h,ae,w,re,p⟩:=q;exact k ρ h ae w re p
def rdT.el{K:W.Frag}{mg:Jo}{ES:St->XK}{F:MT}{σ:St}{H:Hp}{Q:Bool->Hp->Prop}{C:Prop}(q:rdT K mg ES F σ H Q)(k:∀ρ h ae,Wd K mg ρ h H->RelE K mg ρ H ae σ->xn K mg ρ H Q (ES σ) (F ae h)->C):C:=by obtain⟨ρ,h,ae,w,re,p⟩:=q;exact k ρ h ae w re p
def rdA.el{K:W.Frag}{mg:Jo}{ES:St->XK}{F:MA}{σ:St}{H:Hp}{Q:List V->Hp->Prop}{C:Prop}(q:rdA K mg ES F σ H Q)(k:∀ρ h ae,Wd K mg ρ h H->RelE K mg ρ H ae σ->xk K mg ρ H Q (ES σ) (F ae h)->C):C:=by obtain⟨ρ,h,ae,w,re,p⟩:=q;exact k ρ h ae w re p
def rdS.el{K:W.Frag}{mg:Jo}{ES:St->XK}{F:MS}{σ:St}{H:Hp}{De:Ends}{C:Prop}(q:rdS K mg ES F De σ H)(k:∀ρ h ae,Wd K mg ρ h H->RelE K mg ρ H ae σ->PostS K mg ρ H De ES (F ae h)->C):C:=by obtain⟨ρ,h,ae,w,re,p⟩:=q;exact k ρ h ae w re p
section
variable{K:W.Frag}{mg:Jo}{ρ ρ' ρ1:List Addr}{H H' H1:Hp}{h:AH}{ae:AE}{σ:St}
def Le.refl:Le ρ H ρ H:=⟨λ_ _ e=>e,λ_ _ e=>e,λ_ _ _ e=>e,λ_ _ e=>e⟩
def Le.trans(a:Le ρ H ρ1 H1)(b:Le ρ1 H1 ρ' H'):Le ρ H ρ' H':=
 ⟨λn x e=>b.pre n x (a.pre n x e),λx y e=>b.tup x y (a.tup x y e),λx y z e=>b.frz x y z (a.frz x y z e),λx y e=>b.ext x y (a.ext x y e)⟩
def Le.sqT(l:Le ρ H ρ' H')(q:SqT K H a xs):SqT K H' a xs:=by
 rcases q with (q |⟨o,q⟩) |q
 .exact .inl (.inl (l.tup _ _ q))
 .exact .inl (.inr ⟨o,l.frz _ _ _ q⟩)
 .exact .inr q
def RelD.mono(l:Le ρ H ρ' H')(r:RelD K mg ρ H d v):RelD K mg ρ' H' d v:=
 RelD.rec (motive_1:=λd v _=>RelD K mg ρ' H' d v) (motive_2:=λds vs _=>RelDs K mg ρ' H' ds vs) .non (λb=>.bl b) (λi=>.int i) (λx=>.str x) (λn=>.ty n) (λm=>.glb m) (λm e=>.exc m (l.ext _ _ e)) (λh _ ih=>.tup (l.sqT h) ih) (λe=>.ref (l.pre _ _ e)) (λh _ ih=>.kl h ih) .nil (λ_ _ a b=>.cons a b) r
def RelDs.ind{M:List D->List V->Prop}(h0:M [] [])(h1:∀{d v ds vs},RelD K mg ρ H d v->RelDs K mg ρ H ds vs->M ds vs->M (d::ds) (v::vs)){ds:List D}{vs:List V}(r:RelDs K mg ρ H ds vs):M ds vs:=by
 induction ds generalizing vs with
 |nil=>cases r;exact h0
 |
  cons d ds ih=>
  cases r with
  |cons r rr=>exact h1 r rr (ih rr)
def RelDs.mono(l:Le ρ H ρ' H'){ds:List D}{vs:List V}(r:RelDs K mg ρ H ds vs):RelDs K mg ρ' H' ds vs:=r.ind .nil λr _ ih=>.cons (r.mono l) ih
def RelDs.len{ds:List D}{vs:List V}(r:RelDs K mg ρ H ds vs):ds.length=vs.length:=r.ind (M:=λds vs=>ds.length=vs.length) rfl λ_ _ ih=>HI (· + 1) ih
def RelDs.getD{ds:List D}{vs:List V}{i:Nat}{d:D}(r:RelDs K mg ρ H ds vs)(e:ds[i]?=some d):∃v,vs[i]?=some v/\RelD K mg ρ H d v:=
 r.ind (M:=λds vs=>∀i,ds[i]?=some d->∃v,vs[i]?=some v/\RelD K mg ρ H d v) (λ_ e=>by rw[List.getElem?_nil] at e;cases e) (λr _ ih i e=>match i,e with
  |0,e=>by cases e;exact⟨_,rfl,r⟩
  |i+1,e=>ih i e) i e
def RelDs.append{ds es:List D}{vs ws:List V}(r:RelDs K mg ρ H ds vs)(q:RelDs K mg ρ H es ws):RelDs K mg ρ H (ds++es) (vs++ws):=r.ind (M:=λds vs=>RelDs K mg ρ H (ds++es) (vs++ws)) q λr _ ih=>.cons r ih
def RelDs.take{ds:List D}{vs:List V}(n:Nat)(r:RelDs K mg ρ H ds vs):RelDs K mg ρ H (ds.take n) (vs.take n):=
 r.ind (M:=λds vs=>∀n:Nat,RelDs K mg ρ H (ds.take n) (vs.take n)) (λn=>by rw[Iz,Iz];exact .nil) (λr _ ih n=>by cases n with |zero=>exact .nil |succ n=>exact .cons r (ih n)) n
def RelDs.drop{ds:List D}{vs:List V}(n:Nat)(r:RelDs K mg ρ H ds vs):RelDs K mg ρ H (ds.drop n) (vs.drop n):=
 r.ind (M:=λds vs=>∀n:Nat,RelDs K mg ρ H (ds.drop n) (vs.drop n)) (λn=>by rw[Iy,Iy];exact .nil) (λr rr ih n=>by cases n with |zero=>exact .cons r rr |succ n=>exact ih n) n
def RelDs.set{d:D}{v:V}(r:RelD K mg ρ H d v){ds:List D}{vs:List V}(i:Nat)(q:RelDs K mg ρ H ds vs):RelDs K mg ρ H (ds.set i d) (vs.set i v):=
 q.ind (M:=λds vs=>∀i:Nat,RelDs K mg ρ H (ds.set i d) (vs.set i v)) (λ_=>.nil) (λq qq ih i=>by cases i with |zero=>exact .cons r qq |succ i=>exact .cons q (ih i)) i
def RelDs.bls:∀{ns:List Bool}{vs:List V},RelDs K mg ρ H (ns.map D.bl) vs->vs=ns.map V.bl:=by
 intro ns;induction ns with
 |nil=>intro vs r;cases r;rfl
 |
  cons n ns ih=>
  intro vs r;cases r with
  |cons r rr=>cases r;rw[ih rr];rfl
def RelE.mono(l:Le ρ H ρ' H')(r:RelE K mg ρ H ae σ):RelE K mg ρ' H' ae σ:=⟨r.len,λi d e=>by obtain⟨v,h1,h2⟩:=r.at_ i d e;exact⟨v,h1,h2.mono l⟩⟩
def RelE.set(i:Nat)(r:RelE K mg ρ H ae σ)(q:RelD K mg ρ H d v):RelE K mg ρ H (ae.set i (some d)) (σ.set i (some v)):=⟨by rw[G7,G7];exact r.len,λj d' e=>by
 rw[IT] at e ⊢;by_cases hij:i=j
 .rw[if_pos hij] at e ⊢;by_cases hi:i<ae.length
  .rw[if_pos hi] at e;cases e;rw[if_pos (by rw[<- r.len];exact hi)];exact⟨v,rfl,q⟩
  .rw[if_neg hi] at e;cases e
 .rw[if_neg hij] at e ⊢;exact r.at_ j d' e⟩
def ObR.mono(l:Le ρ H ρ' H')(e:H' a=H a)(q:ObR K mg ρ H a o):ObR K mg ρ' H' a o:=by
 cases o with
 |lst ds=>obtain⟨vs,h1,h2⟩:=q;exact⟨vs,e.trans h1,h2.mono l⟩
 |fz ds=>obtain⟨o,vs,h1,h2⟩:=q;exact⟨o,vs,e.trans h1,h2.mono l⟩
 |set xs=>exact⟨q.1,e.trans q.2⟩
 |dct kvs=>obtain⟨ws,h1,h2,h3⟩:=q;exact⟨ws,e.trans h1,h2,h3.mono l⟩
 |any=>obtain⟨o,h1⟩:=q;exact⟨o,e.trans h1⟩
def ObR.there(q:ObR K mg ρ H a o):∃u,H a=some u:=by
 cases o with
 |lst ds=>obtain⟨vs,h1,_⟩:=q;exact⟨_,h1⟩
 |fz ds=>obtain⟨o,vs,h1,_⟩:=q;exact⟨_,h1⟩
 |set xs=>exact⟨_,q.2⟩
 |dct kvs=>obtain⟨ws,h1,_⟩:=q;exact⟨_,h1⟩
 |any=>exact q
def Wd.fresh(w:Wd K mg ρ h H)(hp:H p=none):p∉ρ:=λhm=>by
 obtain⟨n,hn⟩:=List.getElem?_of_mem hm;have hl:n<h.length:=by rw[<- w.len];exact (u_.mp hn).1
 obtain⟨u,hu⟩:=(w.ob n p h[n] hn (A_ hl)).there;rw[hp] at hu;cases hu
def TbP.up{P:Addr}{q:Str}(t:TbP ρ H P q)(hp:H p=none):TbP ρ (upd H p u) P q:=by obtain⟨a,ps,b,c,d⟩:=t;refine⟨a,ps,by rw[au (aD b hp)];exact b,c,λpos cv e=>?_⟩;obtain⟨x,e1,e2⟩:=d pos cv e;exact⟨x,e1,by rw[au (aD e2 hp)];exact e2⟩
def TbP.rho{P:Addr}{q:Str}(t:TbP ρ H P q)(h:P∉ρ'):TbP ρ' H P q:=⟨h,t.2⟩
def TbP.more{P:Addr}{q:Str}(t:TbP ρ H P q)(hp:H p=none):TbP (ρ++[p]) (upd H p u) P q:=by
 obtain⟨ps,b,_⟩:=t.2;refine (t.up hp).rho λz=>?_;rcases IG.mp z with z |z
 .exact t.1 z
 .rw[HM] at z;subst z;rw[hp] at b;cases b
def TbP.wr{P:Addr}{q:Str}{a:Addr}{o u:HO}(t:TbP ρ H P q)(ha:a∈ρ)(e:H a=some u)(hu:∀φ,u ≠ .ext φ):TbP ρ (upd H a o) P q:=by
 obtain⟨z,ps,b,c,d⟩:=t;refine⟨z,ps,by rw[au (λw=>z (by rw[w];exact ha))];exact b,c,λpos cv y=>?_⟩;obtain⟨x,e1,e2⟩:=d pos cv y;refine⟨x,e1,?_⟩;rw[au]
 .exact e2
 .intro w;subst w;rw[e] at e2;exact hu _ (Hc e2)
def bS(hp:H p=none):Le ρ H ρ (upd H p o):=
 ⟨λ_ _ e=>e,λb xs e=>by rw[au (aD e hp)];exact e,λb xs u e=>by rw[au (aD e hp)];exact e,λb xs e=>by rw[au (aD e hp)];exact e⟩
def BMok.le(b:BMok K mg H)(l:Le ρ H ρ' H'):BMok K mg H':=by
 obtain⟨x,o,h1,h2,h3,h4,h5⟩:=b;refine⟨x,o,h1,h2,h3,h4,?_⟩;rcases h5 with z |⟨u,z⟩
 .exact .inl z
 .exact .inr ⟨u,l.frz _ _ _ z⟩
def ko:Le ρ H (ρ++m) H:=
 ⟨λn a e=>by rw[G_ (u_.mp e).1];exact e,λ_ _ e=>e,λ_ _ _ e=>e,λ_ _ e=>e⟩
def Wd.alloc(w:Wd K mg ρ h H)(hp:H p=none)(hn:ObR K mg (ρ++[p]) (upd H p u) p o):Wd K mg (ρ++[p]) (h++[o]) (upd H p u):=by
 refine⟨by rw[G8,G8,w.len];rfl,?_,λP q l=>⟨(w.tb P q l).1.more hp,(w.tb P q l).2.le (ρ:=ρ) (bS hp)⟩,λn a ob e1 e2=>?_⟩
 .rw[List.nodup_append];exact⟨w.nd,by simp,λa ha b hb=>by rw[HM] at hb;subst hb;intro z;subst z;exact w.fresh hp ha⟩
 .by_cases hl:n<ρ.length
  .rw[G_ hl] at e1;rw[G_ (by rw[<- w.len];exact hl)] at e2;have q:=w.ob n a ob e1 e2;obtain⟨v,hv⟩:=q.there;exact q.mono ((bS hp).trans ko) (au (aD hv hp))
  .have h1:n=ρ.length:=by
    have:=(u_.mp e1).1
    rw[G8] at this;simp at this;omega
   subst h1;rw[Hg (y_ _),Io] at e1;rw[w.len,Hg (y_ _),Io] at e2;simp at e1 e2;subst e1 e2;exact hn
def Wd.tuple(w:Wd K mg ρ h H)(hp:H p=none):Wd K mg ρ h (upd H p u):=
 ⟨w.len,w.nd,λP q l=>⟨(w.tb P q l).1.up hp,(w.tb P q l).2.le (ρ:=ρ) (bS hp)⟩,λn a ob e1 e2=>by have q:=w.ob n a ob e1 e2;obtain⟨v,hv⟩:=q.there;exact q.mono (bS hp) (au (aD hv hp))⟩
def hZ(e:H a=some u)(hu:(∀xs,u ≠ .tup xs)/\(∀x y,u ≠ .frz x y)/\∀φ,u ≠ .ext φ):Le ρ H ρ (upd H a o):=by refine⟨λ_ _ e=>e,λb xs q=>?_,λb x y q=>?_,λb φ q=>?_⟩ <;> rw[au] <;> (try exact q) <;> (intro z;subst z;rw[e] at q;have:=Hc q;first |exact hu.1 _ this |exact hu.2.1 _ _ this |exact hu.2.2 _ this)
def Wd.write{n:Nat}{a:Addr}{o u:HO}{ob:Ob}(w:Wd K mg ρ h H)(ea:ρ[n]?=some a)(e:H a=some u)(hu:(∀xs,u ≠ .tup xs)/\(∀x y,u ≠ .frz x y)/\∀φ,u ≠ .ext φ)
 (hn:ObR K mg ρ (upd H a o) a ob):Wd K mg ρ (h.set n ob) (upd H a o):=by
 refine⟨by rw[G7];exact w.len,w.nd,λP q l=>⟨(w.tb P q l).1.wr (HH ea) e hu.2.2,(w.tb P q l).2.le (ρ:=ρ) (hZ e hu)⟩,λm b ob' e1 e2=>?_⟩;rw[IT] at e2;by_cases hm:n=m
 .subst hm;rw[ea] at e1;cases e1;rw[if_pos rfl] at e2;split at e2
  .cases e2;exact hn
  .cases e2
 .rw[if_neg hm] at e2;have q:=w.ob m b ob' e1 e2;refine q.mono (hZ e hu) (au λz=>hm ?_);subst z;have h1:=(u_.mp e1);have h2:=(u_.mp ea);exact (List.getElem_inj (h₀:=h2.1) (h₁:=h1.1) w.nd).mp (h2.2.trans h1.2.symm)
def lW:(∀xs,HO.lst vs ≠ .tup xs)/\(∀x y,HO.lst vs ≠ .frz x y)/\∀φ,HO.lst vs ≠ .ext φ:=⟨λ_ z=>(nomatch z),λ_ _ z=>(nomatch z),λ_ z=>(nomatch z)⟩
def pW:(∀xs,HO.dK ws ≠ .tup xs)/\(∀x y,HO.dK ws ≠ .frz x y)/\∀φ,HO.dK ws ≠ .ext φ:=⟨λ_ z=>(nomatch z),λ_ _ z=>(nomatch z),λ_ z=>(nomatch z)⟩
def PostG.mono(l:Le ρ H ρ' H')(p:PostG K mg ρ H E k r):PostG K mg ρ' H' E k r:=by
 cases r with
 |ok d h=>exact λρ2 H2 l2=>p ρ2 H2 (l.trans l2)
 |exc c h=>exact λρ2 H2 C l2=>p ρ2 H2 C (l.trans l2)
 |stuck=>exact p
def PostG.imp(p:PostG K mg ρ H E k r)(i:∀a h1 ρ' H',Le ρ H ρ' H'->Wd K mg ρ' h1 H'->k a h1 ρ' H'->k' a h1 ρ' H'):PostG K mg ρ H E k' r:=by
 cases r with
 |ok d h=>exact λρ2 H2 l2 w2=>i _ _ _ _ l2 w2 (p ρ2 H2 l2 w2)
 |exc c h=>exact p
 |stuck=>exact p
def PostG.bind(p:PostG K mg ρ H E k (r.bind f)):PostG K mg ρ H E (λa h1 ρ' H'=>PostG K mg ρ' H' E k (f a h1)) r:=by
 cases r with
 |ok d h=>exact λρ2 H2 l2 w2=>PostG.mono l2 p
 |exc c h=>exact p
 |stuck=>exact p
def PostS.mono(l:Le ρ H ρ' H')(p:PostS K mg ρ H De ES r):PostS K mg ρ' H' De ES r:=by
 cases r with
 |nx ae h=>exact λρ2 H2 σ l2=>p ρ2 H2 σ (l.trans l2)
 |bk ae h=>exact λρ2 H2 σ l2=>p ρ2 H2 σ (l.trans l2)
 |ct ae h=>exact λρ2 H2 σ l2=>p ρ2 H2 σ (l.trans l2)
 |rt d h=>exact λρ2 H2 v l2=>p ρ2 H2 v (l.trans l2)
 |exc c ae h=>exact λρ2 H2 σ C l2=>p ρ2 H2 σ C (l.trans l2)
 |stuck=>exact p
end
section
variable{X:Cx}{e:Expr}{es:List Expr}{st:Stmt}{sts:List Stmt}
def PE.imp(h:PE X e t)(k:∀σ H Q,t' σ H Q->t σ H Q):PE X e t':=λpins s σ H Q I w=>h pins s σ H Q I (k σ H Q w)
def PT.imp(h:PT X e t)(k:∀σ H Q,t' σ H Q->t σ H Q):PT X e t':=λpins s σ H Q I w=>h pins s σ H Q I (k σ H Q w)
def PW.imp(h:PW X e t)(k:∀σ H Q,t' σ H Q->t σ H Q):PW X e t':=λwh pins s σ H Q I w=>h wh pins s σ H Q I (k σ H Q w)
def PA.imp(h:PA X es t)(k:∀σ H Q,t' σ H Q->t σ H Q):PA X es t':=λpos pins s σ H Q I w=>h pos pins s σ H Q I (k σ H Q w)
def PS.imp(h:PS X st t)(k:∀D σ H,t' D σ H->t D σ H):PS X st t':=λpins s σ H D I w=>h pins s σ H D I (k D σ H w)
def PSs.imp(h:PSs X sts t)(k:∀D σ H,t' D σ H->t D σ H):PSs X sts t':=λpins s σ H D I w=>h pins s σ H D I (k D σ H w)
def PG.imp(h:PG X e t)(k:∀v σ H Q,t' v σ H Q->t v σ H Q):PG X e t':=λpins s σ H v u Q I r w=>h pins s σ H v u Q I r (k v σ H Q w)
def PGs.imp(h:PGs X es t)(k:∀v σ H Q,t' v σ H Q->t v σ H Q):PGs X es t':=λpins s σ H v u Q I r w=>h pins s σ H v u Q I r (k v σ H Q w)
def PO.imp(h:PO X o t)(k:∀σ H Q,t' σ H Q->t σ H Q):PO X o t':=λpins s σ H Q I w=>h pins s σ H Q I (k σ H Q w)
end
section
variable(K:W.Frag)(mg:Jo)(X:Cx)(ES:St->XK)
def DE(e:Expr)(F:ME):Prop:=PE X e (rdE K mg ES F)
def DT(e:Expr)(F:MT):Prop:=PT X e (rdT K mg ES F)
def DW(e:Expr)(F:MT):Prop:=PW X e (rdT K mg ES F)
def DA(es:List Expr)(F:MA):Prop:=PA X es (rdA K mg ES F)
def DS(st:Stmt)(F:MS):Prop:=PS X st (rdS K mg ES F)
def DSs(st:List Stmt)(F:MS):Prop:=PSs X st (rdS K mg ES F)
end
def OpD(K:W.Frag)(mg:Jo)(r:R2)(g:D->D->AH->R D):Prop:=∀ρ h H dx dy x y Q E,Wd K mg ρ h H->RelD K mg ρ H dx x->RelD K mg ρ H dy y->bY K mg ρ H Q E (g dx dy h)->r x y H Q
def UnD(K:W.Frag)(mg:Jo)(r:V->Hp->VK->Prop)(g:D->AH->R D):Prop:=∀ρ h H dx x Q E,Wd K mg ρ h H->RelD K mg ρ H dx x->bY K mg ρ H Q E (g dx h)->r x H Q
def bK(K:W.Frag)(mg:Jo)(r:List V->Hp->VK->Prop)(g:Fn):Prop:=∀ρ h H ds vs Q E,Wd K mg ρ h H->RelDs K mg ρ H ds vs->bY K mg ρ H Q E (g ds h)->r vs H Q
noncomputable def cw(i:Nat):ME:=λae h=>match ae[i]? with
 |some (some d)=>.ok d h
 |_=>.stuck
noncomputable def eC(d:D):ME:=λ_ h=>.ok d h
noncomputable def eOp(g:D->D->AH->R D)(F G:ME):ME:=λae h=>(F ae h).bind λx h1=>(G ae h1).bind λy h2=>g x y h2
noncomputable def eUn(g:D->AH->R D)(F:ME):ME:=λae h=>(F ae h).bind g
noncomputable def j8:MA:=λ_ h=>.ok [] h
noncomputable def g6(F:ME)(G:MA):MA:=λae h=>(F ae h).bind λx h1=>(G ae h1).bind λxs h2=>.ok (x::xs) h2
noncomputable def eFn(g:Fn)(A:MA):ME:=λae h=>(A ae h).bind g
noncomputable def jG(ds:List D)(h:AH):R D:=if ds.length<=16777216 then .ok (.tup ds) h else .stuck
noncomputable def cm(ds:List D)(h:AH):R D:=if ds.length<=16777216 then .ok (.ref h.length) (h++[.lst ds]) else .stuck
noncomputable def asB(d:D)(h:AH):R Bool:=match d with
 |.bl b=>.ok b h
 |_=>.stuck
noncomputable def uk(F G:ME):ME:=λae h=>(F ae h).bind λx h1=>(asB x h1).bind λb h2=>if b=true then G ae h2 else .ok (.bl false) h2
noncomputable def wQ(F:ME):ME:=λae h=>(F ae h).bind λx h1=>(asB x h1).bind λb h2=>.ok (.bl (!b)) h2
noncomputable def tOf(F:ME):MT:=λae h=>(F ae h).bind asB
noncomputable def tAn(c d:MT):MT:=λae h=>(c ae h).bind λb h1=>if b=true then d ae h1 else .ok false h1
noncomputable def tO(c d:MT):MT:=λae h=>(c ae h).bind λb h1=>if b=true then .ok true h1 else d ae h1
noncomputable def tNo(c:MT):MT:=λae h=>(c ae h).bind λb h1=>.ok (!b) h1
section
variable{K:W.Frag}{mg:Jo}{ρ:List Addr}{H:Hp}{h:AH}
def cP(w:Wd K mg ρ h H)(rs:RelDs K mg ρ H ds vs)(hp:H p=none)(q:bY K mg ρ H Q E (.ok (.ref h.length) (h++[.lst ds]))):Q (.ref p) (upd H p (.lst vs)):=by have l:Le ρ H (ρ++[p]) (upd H p (.lst vs)):=(bS hp).trans ko;refine q (ρ++[p]) _ l (w.alloc hp ⟨vs,aP,rs.mono l⟩) _ (.ref ?_);rw[<- w.len,Hg (y_ _),Io];rfl
def iE(w:Wd K mg ρ h H)(rs:RelDs K mg ρ H ds vs)(hp:H p=none)(q:bY K mg ρ H Q E (.ok (.tup ds) h)):Q (.ref p) (upd H p (.tup vs)):=
 q ρ _ (bS hp) (w.tuple hp) _ (.tup (SqT.of aP) (rs.mono (bS hp)))
def ax(w:Wd K mg ρ h H)(r:RelD K mg ρ H d v)(q:bY K mg ρ H Q E (.ok d h)):Q v H:=q ρ H Le.refl w v r
end
section
variable{K:W.Frag}{mg:Jo}{X:Cx}{ES:St->XK}{e a b:Expr}{es:List Expr}{F G:ME}{A:MA}{cf cg:MT}{pos:Pos}
def Cc(i:Nat)(hN:X.N[i]?=some x)(hv:Vis X.env.scope x)(hd:(x==("__debug__" : Str))=false)
 (p_:(x==("__classdict__" : Str))=false):DE K mg X ES (.Name x pos) (cw i):=PE.imp (D8 hN hv hd p_) λσ H Q q_=>q_.el λρ h ae w re p=>by
 unfold cw at p;split at p
 .rename_i d ed;obtain⟨v,e1,r⟩:=re.at_ i d ed;exact⟨v,e1,ax w r p⟩
 .exact p.elim
def ng(hp:PE X e (tC v))(r:∀ρ H,RelD K mg ρ H d v):DE K mg X ES e (eC d):=PE.imp hp λσ H Q q_=>q_.el λρ h ae w re p=>ax w (r ρ H) p
def Ax:DE K mg X ES (.Constant (.int i) j pos) (eC (.int i)):=ng B5 λ_ _=>.int i
def F2:DE K mg X ES (.Constant (.bool i) j pos) (eC (.bl i)):=ng Fm λ_ _=>.bl i
def CC:DE K mg X ES (.Constant .none j pos) (eC .non):=ng Cv λ_ _=>.non
def B9:DE K mg X ES (.Constant (.str x) j pos) (eC (.str x)):=ng sk λ_ _=>.str x
structure GC(K:W.Frag)(mg:Jo)(x:Str)(d:D):Prop where
 ex:∃u v,mg x=some u/\RelV v u/\∀ρ H,RelD K mg ρ H d v
def Ge(hg:Gl X x)(hm:mg x=none)(hv:bootBuiltins x=some (.type n))(he:X.mg=mg)(hn:x ≠ "__name__")(hd:(x==("__debug__" : Str))=false):DE K mg X ES (.Name x pos) (eC (.ty n)):=by subst he;exact ng (xQ hg hm hv (v:=.ty n) rfl hn hd) λ_ _=>.ty n
def lX(hd:OpD K mg r g)(σ:St)(H:Hp)(Q:VK)(q:rdE K mg ES (eOp g F G) σ H Q):tOp r (rdE K mg ES F) (rdE K mg ES G) σ H Q:=by obtain⟨ρ,h,ae,w,re,p⟩:=q;exact⟨ρ,h,ae,w,re,p.bind.imp λdx h1 ρ1 H1 l1 w1 p1 x rx=>⟨ρ1,h1,ae,w1,re.mono l1,p1.bind.imp λdy h2 ρ2 H2 l2 w2 p2 y ry=>hd ρ2 h2 H2 dx dy x y Q _ w2 (rx.mono l2) ry p2⟩⟩
def Gq(ho:OpR X (binaryOp op) r)(hd:OpD K mg r g)(ha:DE K mg X ES a F)(hb:DE K mg X ES b G):DE K mg X ES (.BinOp a op b pos) (eOp g F G):=PE.imp (Fb ho ha hb) (lX hd)
def E4(hr:IxR X r)(hd:OpD K mg r g)(ha:DE K mg X ES a F)(hb:DE K mg X ES b G)(hs:kh b):DE K mg X ES (.Subscript a b pos) (eOp g F G):=PE.imp (FD hr ha hb hs) (lX hd)
def B8(ho:OpR X (compareOp op) r)(hd:OpD K mg r g)(ha:DE K mg X ES a F)(hb:DE K mg X ES b G)(hm:behindInMarks op b=false):DE K mg X ES (.Compare a [op] [b] pos) (eOp g F G):=PE.imp (zV ho ha hb hm) (lX hd)
def oI(σ:St)(H:Hp)(Q:Bool->Hp->Prop)(q:rdT K mg ES (tOf F) σ H Q):rdE K mg ES F σ H λx H'=>∃k,x=.bl k/\Q k H':=by
 obtain⟨ρ,h,ae,w,re,p⟩:=q;refine⟨ρ,h,ae,w,re,p.bind.imp λd h1 ρ1 H1 l1 w1 p1 x rx=>?_⟩;unfold asB at p1;split at p1
 .cases rx;exact⟨_,rfl,p1 ρ1 H1 Le.refl w1⟩
 .exact p1.elim
def Ar(ho:OpR X (compareOp op) r)(hd:OpD K mg r g)(ha:DE K mg X ES a F)(hb:DE K mg X ES b G)(hm:behindInMarks op b=false):DT K mg X ES (.Compare a [op] [b] pos) (tOf (eOp g F G)):=
 PT.imp (Ak ho ha hb hm) λσ H Q q=>lX hd σ H _ (oI σ H Q q)
def Cs(ha:DE K mg X ES a F)(he:∀s_,isTrue a X.env s_=(do let v <- s_;standAt a.pos;holding [v] (truthy v))):DT K mg X ES a (tOf F):=
 PT.imp (Dh ha he) λσ H Q q=>oI σ H Q q
def Cj(ha:DT K mg X ES a cf):DT K mg X ES (.UnaryOp .Not a pos) (tNo cf):=PT.imp (CF ha) λσ H Q q_=>q_.el λρ h ae w re p=>
 ⟨ρ,h,ae,w,re,p.bind.imp λb h1 ρ1 H1 l1 w1 p1=>p1 ρ1 H1 Le.refl w1⟩
def zM(ha:DT K mg X ES a cf):DW K mg X ES (.BoolOp .And [a] pos) cf:=yG ha
def Dg(ha:DT K mg X ES a cf):DW K mg X ES (.BoolOp .Or [a] pos) cf:=BZ ha
def AJ(ha:DT K mg X ES a cf)(hb:DW K mg X ES (.BoolOp .And (b::es) pos) cg):DW K mg X ES (.BoolOp .And (a::b::es) pos) (tAn cf cg):=PW.imp (AW ha hb) λσ H Q q_=>q_.el λρ h ae w re p=>
 ⟨ρ,h,ae,w,re,p.bind.imp λb h1 ρ1 H1 l1 w1 p1=>by
  cases b with
  |true=>exact⟨ρ1,h1,ae,w1,re.mono l1,p1⟩
  |false=>exact p1 ρ1 H1 Le.refl w1⟩
def Gn(ha:DT K mg X ES a cf)(hb:DW K mg X ES (.BoolOp .Or (b::es) pos) cg):DW K mg X ES (.BoolOp .Or (a::b::es) pos) (tO cf cg):=PW.imp (Gm ha hb) λσ H Q q_=>q_.el λρ h ae w re p=>
 ⟨ρ,h,ae,w,re,p.bind.imp λb h1 ρ1 H1 l1 w1 p1=>by
  cases b with
  |true=>exact p1 ρ1 H1 Le.refl w1
  |false=>exact⟨ρ1,h1,ae,w1,re.mono l1,p1⟩⟩
def DW.dt(h:DW K mg X ES a cf):DT K mg X ES a cf:=PW.pt h
def DD{op}(h:DE K mg X ES a F):DE K mg X ES (.BoolOp op [a] pos) F:=Ef h
def BN(ha:DE K mg X ES a F)(hb:DE K mg X ES (.BoolOp .And (b::es) pos) G):DE K mg X ES (.BoolOp .And (a::b::es) pos) (uk F G):=PE.imp (DQ ha hb) λσ H Q q_=>q_.el λρ h ae w re p=>by
 refine⟨ρ,h,ae,w,re,p.bind.imp λd h1 ρ1 H1 l1 w1 p1 x rx=>?_⟩;unfold asB at p1;split at p1
 .rename_i b';cases rx;refine⟨b',rfl,?_⟩;cases b' with
  |true=>exact⟨ρ1,h1,ae,w1,re.mono l1,p1⟩
  |false=>exact p1 ρ1 H1 Le.refl w1 _ (.bl false)
 .exact p1.elim
def Ap(ha:DE K mg X ES a F):DE K mg X ES (.UnaryOp .Not a pos) (wQ F):=PE.imp (D7 ha) λσ H Q q_=>q_.el λρ h ae w re p=>by
 refine⟨ρ,h,ae,w,re,p.bind.imp λd h1 ρ1 H1 l1 w1 p1 x rx=>?_⟩;unfold asB at p1;split at p1
 .cases rx;exact⟨_,rfl,p1 ρ1 H1 Le.refl w1 _ (.bl _)⟩
 .exact p1.elim
def GO(ho:UnR X (unaryOp op) r)(hd:UnD K mg r g)(ha:DE K mg X ES a F):DE K mg X ES (.UnaryOp op a pos) (eUn g F):=PE.imp (Fs ho ha) λσ H Q q_=>q_.el λρ h ae w re p=>
 ⟨ρ,h,ae,w,re,p.bind.imp λd h1 ρ1 H1 l1 w1 p1 x rx=>hd ρ1 h1 H1 d x Q _ w1 rx p1⟩
def se:DA K mg X ES [] j8:=PA.imp A7 λσ H Q q_=>q_.el λρ h ae w re p=>p ρ H Le.refl w _ .nil
def o3(ha:DE K mg X ES e F)(hr:DA K mg X ES es A)(hs:starEach (e::es) X.env=(false,eval e X.env)::starEach es X.env):DA K mg X ES (e::es) (g6 F A):=PA.imp (yu ha hr hs) λσ H Q q_=>q_.el λρ h ae w re p=>
 ⟨ρ,h,ae,w,re,p.bind.imp λd h1 ρ1 H1 l1 w1 p1 x rx=>⟨ρ1,h1,ae,w1,re.mono l1,p1.bind.imp λds h2 ρ2 H2 l2 w2 p2 vs rs=>p2 ρ2 H2 Le.refl w2 _ (.cons (rx.mono l2) rs)⟩⟩
def Av{x1}(h:DA K mg X ES es A):DE K mg X ES (.Tuple es x1 pos) (eFn jG A):=PE.imp (Ci h) λσ H Q q_=>q_.el λρ h ae w re p=>
 ⟨ρ,
  h,ae,w,re,p.bind.imp λds h1 ρ1 H1 l1 w1 p1 vs rs=>by
  unfold jG at p1;split at p1
  .rename_i hl;exact⟨by rw[<- rs.len];exact hl,λq hq=>iE w1 rs hq p1⟩
  .exact p1.elim⟩
def BL(h:DA K mg X ES es A):DE K mg X ES (.List es pos) (eFn cm A):=PE.imp (D5 h) λσ H Q q_=>q_.el λρ h ae w re p=>
 ⟨ρ,
  h,ae,w,re,p.bind.imp λds h1 ρ1 H1 l1 w1 p1 vs rs=>by
  unfold cm at p1;split at p1
  .rename_i hl;exact⟨by rw[<- rs.len];exact hl,λq hq=>cP w1 rs hq p1⟩
  .exact p1.elim⟩
def xC(hd:bK K mg r g)(σ:St)(H:Hp)(Q:VK)(q:rdE K mg ES (eFn g A) σ H Q):tCB r (rdA K mg ES A) σ H Q:=by obtain⟨ρ,h,ae,w,re,p⟩:=q;exact⟨ρ,h,ae,w,re,p.bind.imp λds h1 ρ1 H1 l1 w1 p1 vs rs=>hd ρ1 h1 H1 ds vs Q _ w1 rs p1⟩
def wK{id:String}{r:List V->Hp->VK->Prop}{g:Fn}{x:Str}{p:Pos}(hc:CallR X (.builtin id) r)(hd:bK K mg r g)(hg:Gl X x)(hm:mg x=none)(hv:bootBuiltins x=some (.builtin id))(ha:DA K mg X ES (e::es) A)(hk:X.mg=mg)(hn:x ≠ "__name__")(hdb:(x==("__debug__" : Str))=false)
 (he:starEach (e::es) X.env=(false,eval e X.env)::starEach es X.env) (hpl:(backTo pos (starEach es X.env)).any (·.1)=false):DE K mg X ES (.Call (.Name x p) (e::es) [] pos) (eFn g A):=by
 subst hk;exact PE.imp (vT hc hg hm hv ha hn hdb he hpl) (xC hd)
def rZ(hc:CallR X (.type T) r)(hd:bK K mg r g)(hg:Gl X x)(hm:mg x=none)(hv:bootBuiltins x=some (.type T))(ha:DA K mg X ES (e::es) A)(hk:X.mg=mg)(hn:x ≠ "__name__")(hdb:(x==("__debug__" : Str))=false)
 (he:starEach (e::es) X.env=(false,eval e X.env)::starEach es X.env) (hpl:(backTo pos (starEach es X.env)).any (·.1)=false):DE K mg X ES (.Call (.Name x p) (e::es) [] pos) (eFn g A):=by
 subst hk;exact PE.imp (sg hc hg hm hv ha hn hdb he hpl) (xC hd)
end
noncomputable def SR.then(r:SR)(f:AE->AH->SR):SR:=match r with
 |.nx ae h=>f ae h
 |.rt d h=>.rt d h
 |.bk ae h=>.bk ae h
 |.ct ae h=>.ct ae h
 |.exc c ae h=>.exc c ae h
 |.stuck=>.stuck
noncomputable def R.toS{α:Type}(r:R α)(ae:AE)(f:α->AH->SR):SR:=match r with
 |.ok a h=>f a h
 |.exc c h=>.exc c ae h
 |.stuck=>.stuck
noncomputable def sNx:MS:=λae h=>.nx ae h
noncomputable def wm(F G:MS):MS:=λae h=>(F ae h).then G
noncomputable def ux(F:ME):MS:=λae h=>(F ae h).toS ae λd h1=>.rt d h1
noncomputable def pH(F:ME):MS:=λae h=>(F ae h).toS ae λ_ h1=>.nx ae h1
noncomputable def sIf(c:MT)(F G:MS):MS:=λae h=>(c ae h).toS ae λb h1=>if b=true then F ae h1 else G ae h1
abbrev MG:=D->AE->AH->R AE
abbrev MGs:=List D->AE->AH->R AE
noncomputable def eA(F:ME)(g:MG):MS:=λae h=>(F ae h).toS ae λd h1=>(g d ae h1).toS ae λd_ h2=>.nx d_ h2
noncomputable def gN(i:Nat):MG:=λd ae h=>.ok (ae.set i (some d)) h
noncomputable def gsN:MGs:=λds ae h=>match ds with
 | []=>.ok ae h
 |_=>.stuck
noncomputable def gsC(g:MG)(u:MGs):MGs:=λds ae h=>match ds with
 |d::r=>(g d ae h).bind λd_ h'=>u r d_ h'
 | []=>.stuck
noncomputable def gT(u:MGs):MG:=λd ae h=>match d with
 |.tup ds=>u ds ae h
 |_=>.stuck
noncomputable def gS(F G:ME)(w:D->D->D->AH->R Unit):MG:=λv ae h=>(F ae h).bind λo h1=>(G ae h1).bind λi h2=>(w o i v h2).bind λ_ h3=>.ok ae h3
noncomputable def vD(i j:Nat)(A:MA):MS:=λae h=>(A ae h).toS ae λds h1=>match ds with
 | [d,e]=>.nx ((ae.set i (some d)).set j (some e)) h1
 |_=>.stuck
noncomputable def mq(c:Str)(A:MA):MS:=λae h=>(A ae h).toS ae λds h1=>if ds.length<=16777216 then .exc c ae h1 else .stuck
section
variable(K:W.Frag)(mg:Jo)
def rdG(ES:St->XK)(g:MG):TG:=λv σ H Q=>∃ρ h ae d,Wd K mg ρ h H/\RelE K mg ρ H ae σ/\RelD K mg ρ H d v/\PostG K mg ρ H (ES σ) (λd_ _ ρ' H'=>∀σ',RelE K mg ρ' H' d_ σ'->Q σ' H') (g d ae h)
def rdGs(ES:St->XK)(g:MGs):TGs:=λvs σ H Q=>∃ρ h ae ds,Wd K mg ρ h H/\RelE K mg ρ H ae σ/\RelDs K mg ρ H ds vs/\PostG K mg ρ H (ES σ) (λd_ _ ρ' H'=>∀σ',RelE K mg ρ' H' d_ σ'->Q σ' H') (g ds ae h)
def DG(X:Cx)(ES:St->XK)(e:Expr)(g:MG):Prop:=PG X e (rdG K mg ES g)
def DGs(X:Cx)(ES:St->XK)(es:List Expr)(g:MGs):Prop:=PGs X es (rdGs K mg ES g)
def g0(X:Cx)(ES:St->XK):Prop:=∀(pins:Jp) (σ:St) (H:Hp) (s:Shared) (e:Value) (s':Shared),Inv X pins σ H s->CX1 X.prog X.w X.stack H s (ES σ) e s'->X.xe e s'
end
def rdG.el{K:W.Frag}{mg:Jo}{ES:St->XK}{g:MG}{v:V}{σ:St}{H:Hp}{Q:St->Hp->Prop}{C:Prop}(q:rdG K mg ES g v σ H Q)(k:∀ρ h ae d,Wd K mg ρ h H->RelE K mg ρ H ae σ->RelD K mg ρ H d v->PostG K mg ρ H (ES σ) (λd_ _ ρ' H'=>∀σ',RelE K mg ρ' H' d_ σ'->Q σ' H') (g d ae h)->C):C:=by obtain⟨ρ,h,ae,d,w,re,rd,p⟩:=q;exact k ρ h ae d w re rd p
def rdGs.el{K:W.Frag}{mg:Jo}{ES:St->XK}{g:MGs}{v:List V}{σ:St}{H:Hp}{Q:St->Hp->Prop}{C:Prop}(q:rdGs K mg ES g v σ H Q)(k:∀ρ h ae d,Wd K mg ρ h H->RelE K mg ρ H ae σ->RelDs K mg ρ H d v->PostG K mg ρ H (ES σ) (λd_ _ ρ' H'=>∀σ',RelE K mg ρ' H' d_ σ'->Q σ' H') (g d ae h)->C):C:=by obtain⟨ρ,h,ae,d,w,re,rd,p⟩:=q;exact k ρ h ae d w re rd p
section
variable{K:W.Frag}{mg:Jo}{ES:St->XK}{ρ:List Addr}{H:Hp}{h:AH}{ae:AE}{σ:St}{De:Ends}
def bF(p:PostS K mg ρ H De ES (r.toS ae f))(re:RelE K mg ρ H ae σ)
 (i:∀a h1 ρ1 H1,Le ρ H ρ1 H1->Wd K mg ρ1 h1 H1->RelE K mg ρ1 H1 ae σ->PostS K mg ρ1 H1 De ES (f a h1)->k a h1 ρ1 H1):PostG K mg ρ H (ES σ) k r:=by
 cases r with
 |ok a h1=>exact λρ1 H1 l1 w1=>i a h1 ρ1 H1 l1 w1 (re.mono l1) (PostS.mono l1 p)
 |exc c h1=>exact λρ1 H1 C l1 w1 m=>p ρ1 H1 σ C l1 w1 (re.mono l1) m
 |stuck=>exact p
def eN(p:PostS K mg ρ H De ES (.nx d_ h))(w:Wd K mg ρ h H)(re:RelE K mg ρ H d_ σ):De.nx σ H:=p ρ H σ Le.refl w re
def uE(p:PostS K mg ρ H De ES (r.then f))(i:∀i_ h1 ρ1 H1 σ1,Le ρ H ρ1 H1->Wd K mg ρ1 h1 H1->RelE K mg ρ1 H1 i_ σ1->PostS K mg ρ1 H1 De ES (f i_ h1)->N σ1 H1):PostS K mg ρ H { De with nx:=N } ES r:=by
 cases r with
 |nx i_ h1=>exact λρ1 H1 σ1 l1 w1 re1=>i i_ h1 ρ1 H1 σ1 l1 w1 re1 (PostS.mono l1 p)
 |rt d h1=>exact p
 |bk i_ h1=>exact p
 |ct i_ h1=>exact p
 |exc c i_ h1=>exact p
 |stuck=>exact p
end
section
variable{K:W.Frag}{mg:Jo}{X:Cx}{ES:St->XK}{e a b c o i:Expr}{es:List Expr}{st:Stmt}{sts sts':List Stmt}{F:ME}{A:MA}{cf:MT}{U V':MS}{g:MG}{gs:MGs}{pos:Pos}
def zj:DSs K mg X ES [] sNx:=PSs.imp zm λD σ H q_=>q_.el λρ h ae w re p=>eN p w re
def xV(h1:DS K mg X ES st U):DSs K mg X ES [st] U:=zJ h1
def vE(h1:DS K mg X ES st U)(h2:DSs K mg X ES sts V'):DSs K mg X ES (st::sts) (wm U V'):=PSs.imp (uM h1 h2) λD σ H q_=>q_.el λρ h ae w re p=>
 ⟨ρ,h,ae,w,re,uE p λi_ h1 ρ1 H1 σ1 l1 w1 re1 p1=>⟨ρ1,h1,i_,w1,re1,p1⟩⟩
def CK(he:DE K mg X ES e F):DS K mg X ES (.Return (some e) pos) (ux F):=PS.imp (Cb he) λD σ H q_=>q_.el λρ h ae w re p=>
 ⟨ρ,h,ae,w,re,bF p re λd h1 ρ1 H1 l1 w1 re1 p1 v rv=>p1 ρ1 H1 v Le.refl w1 rv⟩
def zK(he:DE K mg X ES e F)(hs:swapsWith e none pos.line X.env=pure false):DS K mg X ES (.Expr e pos) (pH F):=PS.imp (yV he hs) λD σ H q_=>q_.el λρ h ae w re p=>
 ⟨ρ,h,ae,w,re,bF p re λd h1 ρ1 H1 l1 w1 re1 p1 v rv=>eN p1 w1 re1⟩
def F7(hc:DT K mg X ES c cf)(ha:DSs K mg X ES sts U)(hb:DSs K mg X ES sts' V'):DS K mg X ES (.If c sts sts' pos) (sIf cf U V'):=PS.imp (EY hc ha hb) λD σ H q_=>q_.el λρ h ae w re p=>
 ⟨ρ,h,ae,w,re,bF p re λb h1 ρ1 H1 l1 w1 re1 p1=>by
  cases b with
  |true=>exact⟨ρ1,h1,ae,w1,re1,p1⟩
  |false=>exact⟨ρ1,h1,ae,w1,re1,p1⟩⟩
def ze{i:Nat}{x:Str}(hN:X.N.Nodup)(hi:X.N[i]?=some x)(hx:Loc X.env.scope x)(hf:X.fn x=true\/X.env.scope.names.lookup x=some .local):DG K mg X ES (.Name x pos) (gN i):=
 PG.imp (z9 hN hi hx hf) λv σ H Q q_=>q_.el λρ h ae d w re rd p=>p ρ H Le.refl w _ (re.set i rd)
def zk:DGs K mg X ES [] gsN:=PGs.imp x8 λvs σ H Q q_=>q_.el λρ h ae ds w re rd p=>by
 cases rd with
 |nil=>exact⟨rfl,p ρ H Le.refl w _ re⟩
 |cons r rr=>exact p.elim
def wG(h1:DG K mg X (λ_=>E0) e g)(h2:DGs K mg X (λ_=>E0) es gs)
 (hs:(assignEach (e::es) X.env).map (·.2)=assign e X.env::(assignEach es X.env).map (·.2)):DGs K mg X (λ_=>E0) (e::es) (gsC g gs):=PGs.imp (wO h1 h2 hs) λvs σ H Q q_=>q_.el λρ h ae ds w re rd p=>by
 cases rd with
 |nil=>exact p.elim
 |cons r rr=>exact⟨_,_,rfl,ρ,h,ae,_,w,re,r,p.bind.imp λi_ h1 ρ1 H1 l1 w1 p1 σ1 re1=>⟨ρ1,h1,i_,_,w1,re1,rr.mono l1,p1⟩⟩
def Bw{k n:Nat}(hK:X.K=K)(hc:X.calm=true)(h:DGs K mg X (λ_=>E0) es gs)
 (hn:(assignEach es X.env).length=n) (hst:(assignEach es X.env).findIdx? (·.1)=none):DG K mg X (λ_=>E0) (.Tuple es k pos) (gT λds ae h=>if ds.length=n then gs ds ae h else .stuck):=by
 subst hK;refine PG.imp (tR hc h hn hst) λv σ H Q q_=>q_.el λρ h ae d w re rd p=>?_;unfold gT at p;cases rd with
 |
  tup q rs=>
  dsimp only at p;split at p
  .rename_i hl;exact⟨_,_,rfl,q,by rw[<- rs.len];exact hl,ρ,h,ae,_,w,re,rs,p⟩
  .exact p.elim
 |_=>exact p.elim
noncomputable def noX{α:Type}(r:R α):R α:=match r with
 |.exc _ _=>.stuck
 |.ok a h=>.ok a h
 |.stuck=>.stuck
def DG.weak(hg:DG K mg X (λ_=>E0) e g):DG K mg X ES e (λd ae h=>noX (g d ae h)):=PG.imp hg λv σ H Q q_=>q_.el λρ h ae d w re rd p=>by
 refine⟨ρ,h,ae,d,w,re,rd,?_⟩;try dsimp only at p
 cases q:g d ae h with
 |ok a h1=>rw[q] at p;exact p
 |exc c h1=>rw[q] at p;exact p.elim
 |stuck=>rw[q] at p;exact p.elim
def kD(K:W.Frag)(mg:Jo)(r:qG)(f:D->D->D->AH->R Unit):Prop:=∀ρ h H do_ di dv o i v (Q:Hp->Prop) E,Wd K mg ρ h H->RelD K mg ρ H do_ o->RelD K mg ρ H di i->RelD K mg ρ H dv v->PostG K mg ρ H E (λ_ _ _ H'=>Q H') (f do_ di dv h)->r o i v H Q
def tI(he:DE K mg X ES e F)(hg:DG K mg X ES a g)(hs:swapsWithSole [a] e pos.line X.env=pure false)(hw:swappedStores [a] e X.env=pure none)
 (h1:(assignEach [a] X.env).map (·.2)=[assign a X.env]):DS K mg X ES (.Assign [a] e pos) (eA F g):=PS.imp (DN he hg hs hw h1) λD σ H q_=>q_.el λρ h ae w re p=>
 ⟨ρ,h,ae,w,re,bF p re λd h1 ρ1 H1 l1 w1 re1 p1 v rv=>⟨ρ1,h1,ae,d,w1,re1,rv,bF p1 re1 λae2 h2 ρ2 H2 l2 w2 re2 p2 σ' re'=>eN p2 w2 re'⟩⟩
def AF{i:Nat}{x:Str}{r_:Pos}(hN:X.N.Nodup)(hi:X.N[i]?=some x)(hx:Loc X.env.scope x)(he:DE K mg X ES e F)(hs:swapsWith e (some (.Name x r_)) pos.line X.env=pure false)(hf:X.fn x=true\/X.env.scope.names.lookup x=some .local):
 DS K mg X ES (.Assign [.Name x r_] e pos) (eA F (gN i)):=PS.imp (Dr hN hi hx he hs hf) λD σ H q_=>q_.el λρ h ae w re p=>
 ⟨ρ,h,ae,w,re,bF p re λd h1 ρ1 H1 l1 w1 re1 p1 v rv=>eN p1 w1 (re1.set i rv)⟩
def CT{i j:Nat}{x y:Str}{px py pt:Pos}{kt k2 pt2}(hc:X.calm=true)(hN:X.N.Nodup)(hi:X.N[i]?=some x)(hj:X.N[j]?=some y)(hij:i≠j)
 (hx:X.env.scope.names.lookup x=some .local) (hy:X.env.scope.names.lookup y=some .local) (ha:DA K mg X ES [a,b] A)
 (hw:swappedStores [.Tuple [.Name x px,.Name y py] kt pt] (.Tuple [a,b] k2 pt2) X.env=pure (some [x,y]))
 (hs:swapsWithSole [.Tuple [.Name x px,.Name y py] kt pt] (.Tuple [a,b] k2 pt2) pos.line X.env=pure false):
 DS K mg X ES (.Assign [.Tuple [.Name x px,.Name y py] kt pt] (.Tuple [a,b] k2 pt2) pos) (vD i j A):=PS.imp (CY hc hN hi hj hij hx hy ha hw hs) λD σ H q_=>q_.el λρ h ae w re p=>
 ⟨ρ,h,ae,w,re,bF p re λds h1 ρ1 H1 l1 w1 re1 p1 vs rs=>by
  split at p1
  .cases rs with
   |
    cons r1 rs=>
    cases rs with
    |cons r2 rs=>cases rs;exact⟨_,_,rfl,eN p1 w1 ((re1.set i r1).set j r2)⟩
  .exact p1.elim⟩
def vZ(hc:X.calm=true)(hR:Rz X E)(hg:Gl X x)(hm:mg x=some (.ref C))(hq:W.excIn X.K C iK "ValueError.__new__"=true)(ha:DA K mg X (λ_=>E) (e::es) A)(hk:X.mg=mg)
 (he:starEach (e::es) X.env=(false,eval e X.env)::starEach es X.env) (j_:(backTo cpos (starEach es X.env)).any (·.1)=false) (hd:(x==("__debug__" : Str))=false):
 DS K mg X (λ_=>E) (.Raise (some (.Call (.Name x np) (e::es) [] cpos)) none pos) (mq x A):=by
 subst hk;exact
  PS.imp (vB hc hR hg hm hq ha he j_ hd) λD σ H q_=>q_.el λρ h ae w re p=>
  ⟨ρ,
   h,ae,w,re,bF p re λds h1 ρ1 H1 l1 w1 re1 p1 vs rs=>by
   split at p1
   .rename_i hl;exact⟨by rw[<- rs.len];exact hl,p1 ρ1 H1 σ C Le.refl w1 re1 hm⟩
   .exact p1.elim⟩
def yY(C:Callee X.prog X.w X.K X.mg X.base x k ps (spD K mg n S))(hr:Room k X.A)(hg:Gl X x)(hx:g0 X ES)(ha:DA K mg X ES (e::es) A)
 (hdb:(x==("__debug__" : Str))=false) (he:starEach (e::es) X.env=(false,eval e X.env)::starEach es X.env) (hpl:(backTo pos (starEach es X.env)).any (·.1)=false):
 DE K mg X ES (.Call (.Name x p) (e::es) [] pos) (eFn (λds h=>if ds.length=n then S ds h else .stuck) A):=by
 obtain⟨f,fd,F',m,kp,bb,_⟩:=C.ex;intro pins s σ H Q I hh;refine IP (o6 I hg m ?_ hdb);have rd:rdA K mg ES A σ H (λvs H1=>spD K mg n S vs H1 Q (ES σ)):=by
  obtain⟨ρ,h,ae,w,re,p⟩:=hh;refine⟨ρ,h,ae,w,re,p.bind.imp λds h1 ρ1 H1 l1 w1 p1 vs rs=>?_⟩;split at p1
  .rename_i hl;exact⟨ρ1,h1,ds,w1,rs,hl,p1⟩
  .exact p1.elim
 refine W.callWith_K (h₀:=X.base) I.ok.mod.kin kp (Hq (ha pos pins s σ H _ I rd) (λus s1 ⟨vs,H1,I1,r,q⟩=>⟨I1.kIn,?_⟩) λ_ _ z=>z) he hpl;have hl:(us++[]).length=ps.length:=by rw[IE,<- r.length];exact F'.len _ _ _ _ q
 refine wpAny_call (codeAny_mono (F'.run X.A X.stack s1 H1 ⟨us,[]⟩ us vs Q (ES σ) hr I1.env0 (by simpa using bb s1 us I1.kIn hl) r q) λr s' hq=>?_);cases r with
 |error ex=>exact hx pins σ H1 s1 ex s' I1 hq
 |
  ok fl=>
  cases fl with
  |ret u=>exact I1.after hq
  |next=>exact False.elim hq
  |brk=>exact False.elim hq
  |cont=>exact False.elim hq
noncomputable def fnD(n:Nat)(F:MS):Fn:=λds h=>match F (ds.map some++List.replicate (n-ds.length) none) h with
 |.nx _ h'=>.ok .non h'
 |.rt d h'=>.ok d h'
 |.exc c _ h'=>.exc c h'
 |_=>.stuck
def oi(hp:ml (CX1 X.prog X.w) X E):g0 X (λ_=>E):=λpins σ H s e s' I h=>hp pins σ H s e s' I h
def um:g0 X (λ_=>E0):=λpins σ H s e s' I h=>G1 pins σ H s e s' I h
end
section
variable{P:Program}{w:World}{K:W.Frag}{mg:Jo}{base:Heap}{x:Str}{st:Stmt}{k:Nat}{ps N:List Str}{F:MS}
def jj(rs:RelDs K mg ρ H ds vs):RelE K mg ρ H (ds.map some++List.replicate (N.length-ds.length) none) (cW N vs):=by
 unfold cW;refine⟨by rw[G8,G8,v_,v_,HF,HF,rs.len],λi d e=>?_⟩;by_cases hi:i<ds.length
 .rw[G_ (by rw[v_];exact hi),Hj] at e;have e':ds[i]?=some d:=by
   cases q:ds[i]? with
   |none=>rw[q] at e;cases e
   |some z=>rw[q] at e;cases e;rfl
  obtain⟨v,h1,h2⟩:=rs.getD e';refine⟨v,?_,h2⟩;rw[G_ (by rw[v_,<- rs.len];exact hi),Hj,h1];rfl
 .rw[Hg (by rw[v_];omega),HC] at e;split at e <;> cases e
def Def.okD(D:Def K mg x st)(S:FnScope N ps (ak st))
 (hb:∀(kV doc pm:Value) (an:Option Addr) (cdv ct:Value) (us:List Value),us.length=ps.length->bindArgs (W.fnOf x x (bT st) (aT st) (ak st) .none kV doc pm an cdv ct) ⟨us,[]⟩=pure (ps.zip us))
 (k_:∀(f:Addr) (cdv:Value) (A:Around) (outer:List Env) (s:Shared) (H:Hp) (E:XK),Room k (A.deeper (envOfC x (ak st) s.heap.objs.size f cdv))->
  DSs K mg (cz (CX1 P w) P w K mg base N x (ak st) f cdv A outer s H E) (λ_=>E) (aT st) F):Callee P w K mg base x (k+1) ps (spD K mg ps.length (fnD N.length F)):=by
 refine D.okR S hb (λvs H Q E ⟨ρ,h,ds,w,rs,hl,p⟩=>by rw[<- rs.len];exact hl) λf cdv A outer s H vs Q E hr ⟨ρ,h,ds,w',rs,hl,p⟩=>?_;refine⟨_,k_ f cdv A outer s H E hr,ρ,h,_,w',jj rs,?_⟩;unfold fnD at p;split at p
 .rename_i e;rw[e];exact λρ1 H1 σ1 l1 w1 re1=>p ρ1 H1 l1 w1 _ .non
 .rename_i e;rw[e];exact λρ1 H1 v l1 w1 rv=>p ρ1 H1 l1 w1 v rv
 .rename_i e;rw[e];exact λρ1 H1 σ1 C l1 w1 re1 m=>p ρ1 H1 C l1 w1 m
 .exact p.elim
end
noncomputable def aJ(h:AH)(n:Nat):Option (List D):=match h[n]? with
 |some (.lst xs)=>some xs
 |some (.fz xs)=>some xs
 |_=>none
noncomputable def fj(h:AH):D->Option (List D)
 |.tup xs=>some xs
 |.ref n=>aJ h n
 |.kl xs=>some xs
 |_=>none
section
variable{K:W.Frag}{mg:Jo}{ρ:List Addr}{H:Hp}{h:AH}
def bq(w:Wd K mg ρ h H)(ea:ρ[n]?=some a)(e:aJ h n=some xs):∃vs,SqL K H a vs/\RelDs K mg ρ H xs vs:=by
 unfold aJ at e;split at e
 .rename_i ys eo;cases e;obtain⟨vs,h1,h2⟩:=w.ob n a _ ea eo;exact⟨vs,SqL.of h1,h2⟩
 .rename_i ys eo;cases e;obtain⟨o,vs,h1,h2⟩:=w.ob n a _ ea eo;exact⟨vs,.inl (.inr ⟨o,h1⟩),h2⟩
 .cases e
def eU(w:Wd K mg ρ h H)(r:RelD K mg ρ H d v)(e:fj h d=some xs):∃p vs,v=.ref p/\(SqL K H p vs\/SqT K H p vs)/\RelDs K mg ρ H xs vs:=by
 cases r with
 |tup q rs=>have e':some _=some xs:=e;cases e';exact⟨_,_,rfl,.inr q,rs⟩
 |ref ea=>obtain⟨vs,h1,h2⟩:=bq w ea e;exact⟨_,vs,rfl,.inl h1,h2⟩
 |kl q rs=>have e':some _=some xs:=e;cases e';exact⟨_,_,rfl,.inl (.inr q),rs⟩
 |_=>cases e
end
noncomputable def g2(f:Int->Int->R D)(x y:D):R D:=match x,y with
 |.int i,.int j=>f i j
 |_,_=>.stuck
noncomputable def gI(f:Int->Int->D):D->D->AH->R D:=λx y h=>match x,y with
 |.int i,.int j=>.ok (f i j) h
 |_,_=>.stuck
open Classical in
def gIc(C:Int->Int->Prop)(f:Int->Int->D):D->D->AH->R D:=λx y h=>match x,y with
 |.int i,.int j=>if C i j then .ok (f i j) h else .stuck
 |_,_=>.stuck
section
variable{K:W.Frag}{mg:Jo}
def gy(hr:∀i j ρ H,RelD K mg ρ H (g i j) (f i j)):OpD K mg (rI0 f) (gI g):=λρ h H dx dy x y Q E w rx ry p=>by
 unfold gI at p;split at p
 .cases rx;cases ry;exact⟨_,_,rfl,rfl,ax w (hr _ _ ρ H) p⟩
 .exact p.elim
def lQ(hr:∀i j ρ H,RelD K mg ρ H (g i j) (f i j)):OpD K mg (rI C f) (gIc C g):=λρ h H dx dy x y Q E w rx ry p=>by
 unfold gIc at p;split at p
 .cases rx;cases ry;split at p
  .rename_i hc;exact⟨_,_,rfl,rfl,hc,ax w (hr _ _ ρ H) p⟩
  .exact p.elim
 .exact p.elim
noncomputable def gOr(g g':D->D->AH->R D):D->D->AH->R D:=λx y h=>match g x y h with
 |.stuck=>g' x y h
 |r=>r
def OpD.or(a:OpD K mg r g)(b:OpD K mg r' g'):OpD K mg (λx y H Q=>r x y H Q\/r' x y H Q) (gOr g g'):=λρ h H dx dy x y Q E w rx ry p=>by
 unfold gOr at p;split at p
 .exact .inr (b ρ h H dx dy x y Q E w rx ry p)
 .exact .inl (a ρ h H dx dy x y Q E w rx ry p)
end
noncomputable def iJ:D->D->AH->R D:=λx y h=>match x,y with
 |.ref n,.ref m=>match h[n]?,h[m]? with
  |some (.lst xs),some (.lst ys)=>if xs.length+ys.length<=16777216 then .ok (.ref h.length) (h++[.lst (xs++ys)]) else .stuck
  |_,_=>.stuck
 |.tup xs,.tup ys=>if xs.length+ys.length<=16777216 then .ok (.tup (xs++ys)) h else .stuck
 |_,_=>.stuck
noncomputable def gIx:D->D->AH->R D:=λx y h=>match fj h x,y with
 |some xs,.int i=>match atI xs i with
  |some d=>.ok d h
  |none=>.stuck
 |_,_=>.stuck
section
variable{K:W.Frag}{mg:Jo}{X:Cx}
def gQ(K:W.Frag):R2:=λx y H Q=>∃a b ys,x=.ref a/\y=.ref b/\SqT K H a []/\SqT K H b ys/\Q (.ref b) H
def zQ:OpR X (binaryOp .Add) (gQ X.K):=by
 intro pins s σ H x y v u Q I rx ry h;obtain⟨a,b,ys,rfl,rfl,ha,hb,q⟩:=h;cases rx;cases ry;obtain⟨its,r1,p1,_⟩:=I.tuple ha;obtain⟨its2,r2,p2,_⟩:=I.tuple hb;have e:its=[]:=r1.nil_iff.mpr rfl;subst e;obtain⟨⟨cls,dd,data,sl⟩,ho,hc,n,hd⟩:=id p1;obtain⟨⟨cls2,dd2,data2,sl2⟩,ho2,hc2,n2,hd2⟩:=id p2;simp only at hc hd hc2 hd2;subst hc hd hc2 hd2;exact concat_meets ⟨_,ho,rfl⟩ ⟨_,ho2,rfl⟩ noFill_tuple_add seq_tuple_add IX IQ (IL _ _)
  (tuple_addW0 _ _ _ _ n n2 dd dd2 sl sl2 rfl) ⟨ho,ho2,⟨.ref b,H,I,rfl,q⟩⟩
def yc:OpD K mg (λx y H Q=>jV x y H Q\/(hE K x y H Q\/gQ K x y H Q)) iJ:=λρ h H dx dy x y Q E w rx ry p=>by
 unfold iJ at p;split at p
 .cases
   rx with
  |
   ref ea=>
   cases ry with
   |
    ref eb=>
    split at p
    .rename_i xs ys e1 e2;split at p
     .rename_i hl;obtain⟨vs,q1,r1⟩:=w.ob _ _ _ ea e1;obtain⟨ws,q2,r2⟩:=w.ob _ _ _ eb e2;exact .inl ⟨_,_,vs,ws,rfl,rfl,q1,q2,by rw[<- r1.len,<- r2.len];exact hl,λp' hp=>cP w (r1.append r2) hp p⟩
     .exact p.elim
    .exact p.elim
 .cases
   rx with
  |
   tup q1 r1=>
   cases ry with
   |
    tup q2 r2=>
    split at p
    .rename_i hl;cases r1 with
     |nil=>exact .inr (.inr ⟨_,_,_,rfl,rfl,q1,q2,ax w (.tup q2 r2) p⟩)
     |cons r0 r1=>refine .inr (.inl ⟨_,_,_,_,rfl,rfl,q1,q2,(λz=>nomatch z),by rw[<- (RelDs.cons r0 r1).len,<- r2.len];exact hl,λz=>?_,λ_ p' hp=>iE w ((RelDs.cons r0 r1).append r2) hp p⟩);subst z;cases r2;rw[IE] at p;exact ax w (.tup q1 (.cons r0 r1)) p
    .exact p.elim
 .exact p.elim
def zU(r:RelDs K mg ρ H xs vs)(e:atI xs i=some d):∃v,atI vs i=some v/\RelD K mg ρ H d v:=by
 unfold atI at e ⊢;rw[<- r.len];cases q:ixN xs.length i with
 |none=>rw[q] at e;cases e
 |some j=>rw[q] at e;exact r.getD e
def CQ:OpD K mg (λx y H Q=>rh K x y H Q\/qM K x y H Q) gIx:=λρ h H dx dy x y Q E w rx ry p=>by
 unfold gIx at p;split at p
 .rename_i xs i e1;split at p
  .rename_i d e2;cases ry;obtain⟨pa,vs,rfl,hq,rs⟩:=eU w rx e1;obtain⟨v,e3,rv⟩:=zU rs e2;rcases hq with hq |hq
   .exact .inl ⟨_,_,_,_,rfl,rfl,hq,e3,ax w rv p⟩
   .exact .inr ⟨_,_,_,_,rfl,rfl,hq,e3,ax w rv p⟩
  .exact p.elim
 .exact p.elim
def ixK(h:X.K=K):IxR X (λx y H Q=>rh K x y H Q\/qM K x y H Q):=by subst h;exact Aj.or Ct
def catK(h:X.K=K):OpR X (binaryOp .Add) (λx y H Q=>jV x y H Q\/(hE K x y H Q\/gQ K x y H Q)):=by subst h;exact D4.or (xK.or zQ)
end
noncomputable def cJ:Nat->AH->D->Option PyData
 |0,_,_=>none
 |_+1,_,.non=>some .none
 |_+1,_,.bl b=>some (.bool b)
 |_+1,_,.int i=>some (.int i)
 |_+1,_,.str x=>some (.str x)
 |k+1,h,.tup xs=>(xs.mapM (cJ k h)).map .tuple
 |k+1,h,.ref n=>match aJ h n with
  |some xs=>(xs.mapM (cJ k h)).map .list
  |none=>none
 |_+1,_,_=>none
def kY{K:W.Frag}{mg:Jo}{ρ:List Addr}{H:Hp}{f:D->Option PyData}(hf:∀d v pd,RelD K mg ρ H d v->f d=some pd->Rep K H v pd):∀{xs:List D}{vs:List V}{ps:List PyData},RelDs K mg ρ H xs vs->xs.mapM f=some ps->Reps K H vs ps:=by
 intro xs;induction xs with
 |nil=>intro vs ps r e;cases r;have e':some []=some _:=e;cases e';exact .nil
 |
  cons x xs ih=>
  intro vs ps r e;cases r with
  |
   cons r rr=>
   rw[Il] at e;cases q:f x with
   |none=>rw[q] at e;cases e
   |
    some pd=>
    rw[q] at e;cases q2:xs.mapM f with
    |none=>rw[q2] at e;cases e
    |some pds=>rw[q2] at e;have e':some (pd::pds)=some ps:=e;cases e';exact .cons (hf _ _ _ r q) (ih rr q2)
theorem fX{K:W.Frag}{mg:Jo}{ρ:List Addr}{H:Hp}{h:AH}(w:Wd K mg ρ h H):∀(k:Nat) {d:D}{v:V}{pd:PyData},RelD K mg ρ H d v->cJ k h d=some pd->Rep K H v pd
 |0,_,_,_,_,e=>by cases e
 |
  k+1,d,v,pd,r,e=>by
  cases r with
  |non=>have e':some _=some pd:=e;cases e';exact .non
  |bl b=>have e':some _=some pd:=e;cases e';exact .bl b
  |int b=>have e':some _=some pd:=e;cases e';exact .int b
  |str b=>have e':some _=some pd:=e;cases e';exact .str b
  |
   tup q rs=>
   rename_i ds;have e':(ds.mapM (cJ k h)).map PyData.tuple=some pd:=e;cases q2:ds.mapM (cJ k h) with
   |none=>rw[q2] at e';cases e'
   |some ps=>rw[q2] at e';cases e';exact .tup q (kY (λd v pd r e=>fX w k r e) rs q2)
  |
   ref ea=>
   rename_i n a;unfold cJ at e;split at e
   .rename_i xs e1;obtain⟨vs,h1,h2⟩:=bq w ea e1;cases q2:xs.mapM (cJ k h) with
    |none=>rw[q2] at e;cases e
    |some ps=>rw[q2] at e;cases e;exact .lst h1 (kY (λd v pd r e=>fX w k r e) h2 q2)
   .cases e
  |_=>cases e
noncomputable def nE(h:AH)(x y:D):Option Bool:=match cJ 164 h x,cJ 164 h y with
 |some a,some b=>if shp a=true/\shp b=true then some (PyData.eqv a b) else none
 |_,_=>none
def gEq(neg:Bool):D->D->AH->R D:=λx y h=>match nE h x y with
 |some b=>.ok (.bl (if neg then !b else b)) h
 |none=>.stuck
section
variable{K:W.Frag}{mg:Jo}
def o8(w:Wd K mg ρ h H)(rx:RelD K mg ρ H dx x)(ry:RelD K mg ρ H dy y)(e:nE h dx dy=some b):
 ∃a c,Rep K H x a/\Rep K H y c/\shp a=true/\shp c=true/\PyData.eqv a c=b:=by
 unfold nE at e;split at e
 .rename_i a c e1 e2;split at e
  .rename_i hs;cases e;exact⟨a,c,fX w 164 rx e1,fX w 164 ry e2,hs.1,hs.2,rfl⟩
  .cases e
 .cases e
def Bz:OpD K mg (rE K) (gEq false):=λρ h H dx dy x y Q E w rx ry p=>by
 unfold gEq at p;split at p
 .rename_i b e;obtain⟨a,c,h1,h2,h3,h4,rfl⟩:=o8 w rx ry e;exact⟨a,c,h1,h2,h3,h4,ax w (.bl _) p⟩
 .exact p.elim
def C8:OpD K mg (rJ K) (gEq true):=λρ h H dx dy x y Q E w rx ry p=>by
 unfold gEq at p;split at p
 .rename_i b e;obtain⟨a,c,h1,h2,h3,h4,rfl⟩:=o8 w rx ry e;exact⟨a,c,h1,h2,h3,h4,ax w (.bl _) p⟩
 .exact p.elim
end
section
variable{K:W.Frag}{mg:Jo}{ρ:List Addr}{H:Hp}
def nC(neg:Bool):D->D->AH->R D:=λx y h=>match x,y with
 |.non,.non=>.ok (.bl (!neg)) h
 |_,.non=>.ok (.bl neg) h
 |_,_=>.stuck
def xW:OpD K mg (λx y H Q=>y=.non/\Q (.bl (decide (x=.non))) H) (nC false):=λρ h H dx dy x y Q E w rx ry p=>by
 unfold nC at p;split at p
 .cases rx;cases ry;exact⟨rfl,ax w (.bl _) p⟩
 .rename_i hne;cases ry;refine⟨rfl,?_⟩;have e:decide (x=V.non)=false:=by rw[IS];rintro rfl;cases rx;exact hne rfl
  rw[e];exact ax w (.bl _) p
 .exact p.elim
end
noncomputable def Itd(lo:Int)(n:Nat):It:=⟨λj _=>j<n,λj G v G'=>G'=G/\v=.int (lo-j),λj _=>n<=j⟩
inductive AIt where
 |lst (n:Nat) (xs:List D) |tup (xs:List D) |rng (lo:Int) (k:Nat) |rgd (lo:Int) (k:Nat) |enm (s:AIt) |zip (s t:AIt)
noncomputable def eV:Nat->List D->List D
 |_,[]=>[]
 |i,d::ds=>.tup [.int (i:Nat),d]::eV (i+1) ds
noncomputable def AIt.items:AIt->List D
 |.lst _ xs=>xs
 |.tup xs=>xs
 |.rng lo k=>(List.range k).map λi=>D.int (lo+(i:Nat))
 |.rgd lo k=>(List.range k).map λi=>D.int (lo-(i:Nat))
 |.enm s=>eV 0 s.items
 |.zip s t=>List.zipWith (λx y=>.tup [x,y]) s.items t.items
def AIt.guard:AIt->AH->Prop
 |.lst n xs,h=>aJ h n=some xs
 |.enm s,h=>s.guard h
 |.zip s t,h=>s.guard h/\t.guard h
 |_,_=>True
def SrcR(K:W.Frag)(mg:Jo)(ρ:List Addr)(H:Hp):AIt->Bool->Addr->Prop
 |.lst n _,true,a=>ρ[n]?=some a
 |.tup xs,false,p=>∃vs,SqT K H p vs/\RelDs K mg ρ H xs vs
 |_,_,_=>False
def ItR(K:W.Frag)(mg:Jo)(ρ:List Addr)(H:Hp):AIt->It->Prop
 |.lst n _,J=>∃a,ρ[n]?=some a/\J=Itl K a
 |.tup xs,J=>∃p vs,SqT K H p vs/\RelDs K mg ρ H xs vs/\J=Itt K p
 |.rng lo k,J=>J=Itr lo k
 |.rgd lo k,J=>J=Itd lo k
 |.enm s,J=>∃b a,SrcR K mg ρ H s b a/\J=IteE K b a
 |.zip s t,J=>∃b c a d,SrcR K mg ρ H s b a/\SrcR K mg ρ H t c d/\J=ItZ K b c a d
theorem ni:∀{ds:List D}{k i:Nat}{e:D},(eV k ds)[i]?=some e->∃d,ds[i]?=some d/\e=.tup [.int ((k+i:Nat):Int),d]
 | [],_,_,_,q=>by simp [eV] at q
 |d::ds,k,0,e,q=>⟨d,rfl,by simpa [eV] using q.symm⟩
 |
  d::ds,k,i+1,e,q=>by
  obtain⟨d',q1,q2⟩:=ni (ds:=ds) (k:=k+1) (i:=i) (e:=e) (by simpa [eV] using q);refine⟨d',by simpa using q1,?_⟩;rw[q2];congr 4;omega
theorem nH:∀(ds:List D) (k:Nat),(eV k ds).length=ds.length
 | [],_=>rfl
 |_::ds,k=>by show (eV (k+1) ds).length+1=ds.length+1;rw[nH ds]
section
variable{K:W.Frag}{mg:Jo}{ρ ρ1:List Addr}{H H1:Hp}{h1:AH}
def SrcR.at_(r:SrcR K mg ρ H s b a)(l:Le ρ H ρ1 H1)(w:Wd K mg ρ1 h1 H1)(g:s.guard h1):∃vs,SqB K b H1 a vs/\RelDs K mg ρ1 H1 s.items vs:=by
 cases s with
 |
  lst n xs=>
  cases b with
  |true=>exact bq w (l.pre _ _ r) g
  |false=>exact r.elim
 |
  tup xs=>
  cases b with
  |true=>exact r.elim
  |false=>obtain⟨vs,q,rs⟩:=r;exact⟨vs,l.sqT q,rs.mono l⟩
 |rng _ _=>cases b <;> exact r.elim
 |rgd _ _=>cases b <;> exact r.elim
 |enm _=>cases b <;> exact r.elim
 |zip _ _=>cases b <;> exact r.elim
def ItR.nums{f:Nat->Int}{k:Nat}(w:Wd K mg ρ1 h1 H1):(∀(i:Nat) (d:D),((List.range k).map λi=>D.int (f i))[i]?=some d->i<k/\∀x H',(H'=H1/\x=V.int (f i))->Le ρ1 H1 ρ1 H'/\Wd K mg ρ1 h1 H'/\RelD K mg ρ1 H' d x)/\k<=((List.range k).map λi=>D.int (f i)).length:=by
 refine⟨λi d e=>?_,by simp⟩;rw[Hj] at e;cases q:(List.range k)[i]? with
 |none=>rw[q] at e;cases e
 |some j=>rw[q] at e;have hj:=u_.mp q;have e2:=hj.2;rw[List.getElem_range] at e2;subst e2;cases e;refine⟨by simpa using hj.1,λx H' ⟨e1,e2⟩=>?_⟩;subst e1 e2;exact⟨Le.refl,w,.int _⟩
def ItR.step(hJ:ItR K mg ρ H it J)(l:Le ρ H ρ1 H1)(w:Wd K mg ρ1 h1 H1)(g:it.guard h1):
 (∀(i:Nat) (d:D),it.items[i]?=some d->J.go i H1/\∀x H',J.yld i H1 x H'->Le ρ1 H1 ρ1 H'/\Wd K mg ρ1 h1 H'/\RelD K mg ρ1 H' d x)/\J.stop it.items.length H1:=by
 cases it with
 |
  lst n xs=>
  obtain⟨a,ea,rfl⟩:=hJ;obtain⟨vs,q,rs⟩:=bq w (l.pre _ _ ea) g;refine⟨λi d e=>?_,vs,q,by rw[<- rs.len];exact y_ _⟩;obtain⟨v,ev,rv⟩:=rs.getD e;refine⟨⟨vs,v,q,ev⟩,λx H' ⟨e1,y⟩=>?_⟩;subst e1
  have:=(y vs q).symm.trans ev
  cases this;exact⟨Le.refl,w,rv⟩
 |
  tup xs=>
  obtain⟨p,vs,q,rs,rfl⟩:=hJ;have q1:=l.sqT q;have rs1:=rs.mono l;refine⟨λi d e=>?_,vs,q1,by rw[<- rs1.len];exact y_ _⟩;obtain⟨v,ev,rv⟩:=rs1.getD e;refine⟨⟨vs,v,q1,ev⟩,λx H' ⟨e1,y⟩=>?_⟩;subst e1
  have:=(y vs q1).symm.trans ev
  cases this;exact⟨Le.refl,w,rv⟩
 |rng lo k=>cases hJ;exact ItR.nums w
 |rgd lo k=>cases hJ;exact ItR.nums w
 |
  enm s=>
  obtain⟨b,a,r,rfl⟩:=hJ;obtain⟨vs,q,rs⟩:=r.at_ l w g;refine⟨λi d e=>?_,vs,q,by show vs.length=(eV 0 s.items).length;rw[nH,rs.len]⟩;obtain⟨d',q1,rfl⟩:=ni (show (eV 0 s.items)[i]?=some d from e);obtain⟨v,ev,rv⟩:=rs.getD q1;refine⟨⟨vs,v,q,ev⟩,λx H' ⟨p,u,e1,hp,e2,hu⟩=>?_⟩;subst e1 e2
  have:=(hu vs q).symm.trans ev
  cases this;rw[Nat.zero_add];exact⟨bS hp,w.tuple hp,.tup (SqT.of aP) (.cons (.int _) (.cons (rv.mono (bS hp)) .nil))⟩
 |
  zip s t=>
  obtain⟨b,c,a,d,r1,r2,rfl⟩:=hJ;obtain⟨vs,q,rs⟩:=r1.at_ l w g.1;obtain⟨us,q',rs'⟩:=r2.at_ l w g.2;refine⟨λi e ei=>?_,vs,us,q,q',?_⟩
  .have ei':(List.zipWith (λx y=>D.tup [x,y]) s.items t.items)[i]?=some e:=ei;rw[HU] at ei';cases k1:s.items[i]? with
   |none=>rw[k1] at ei';cases ei'
   |
    some d1=>
    cases k2:t.items[i]? with
    |none=>rw[k1,k2] at ei';cases ei'
    |
     some d2=>
     rw[k1,k2] at ei';cases ei';obtain⟨v,ev,rv⟩:=rs.getD k1;obtain⟨v',ev',rv'⟩:=rs'.getD k2;refine⟨⟨vs,us,v,v',q,q',ev,ev'⟩,λx H' ⟨p,u,u',e1,hp,e2,hu,hu'⟩=>?_⟩;subst e1 e2
     have:=(hu vs q).symm.trans ev
     cases this
     have:=(hu' us q').symm.trans ev'
     cases this;exact⟨bS hp,w.tuple hp,.tup (SqT.of aP) (.cons (rv.mono (bS hp)) (.cons (rv'.mono (bS hp)) .nil))⟩
  .have hl:(AIt.zip s t).items.length=min s.items.length t.items.length:=Ib ..;rw[hl,rs.len,rs'.len];rcases Nat.le_total vs.length us.length with z |z
   .left;rw[Nat.min_eq_left z];exact List.getElem?_eq_none (y_ _)
   .right;rw[Nat.min_eq_right z];exact List.getElem?_eq_none (y_ _)
end
noncomputable def SR.loop(r:SR)(f:AE->AH->SR):SR:=match r with
 |.nx ae h=>f ae h
 |.ct ae h=>f ae h
 |.bk ae h=>.nx ae h
 |.rt d h=>.rt d h
 |.exc c ae h=>.exc c ae h
 |.stuck=>.stuck
open Classical in
def fD(G:AH->Prop)(g:MG)(B:MS):List D->MS
 | [],ae,h=>if G h then .nx ae h else .stuck
 |d::ds,ae,h=>if G h then (g d ae h).toS ae λi_ h1=>(B i_ h1).loop (fD G g B ds) else .stuck
abbrev MI:=AE->AH->R AIt
def vc(I:MI)(g:MG)(B:MS):MS:=λae h=>(I ae h).toS ae λit h1=>fD it.guard g B it.items ae h1
open Classical in
def lcL(G:AH->Prop)(g:MG)(c:MT)(F:ME):List D->List D->AE->AH->R (List D)
 | [],acc,_,h=>if G h then .ok acc h else .stuck
 |d::ds,acc,ae,h=>if G h/\acc.length<16777216 then (g d ae h).bind λi_ h1=>(c i_ h1).bind λb h2=>if b=true then (F i_ h2).bind λy h3=>lcL G g c F ds (acc++[y]) i_ h3 else lcL G g c F ds acc i_ h2 else .stuck
noncomputable def gh(sub:Jr)(ae:AE):AE:=sub.map λo=>o.bind λi=>(ae[i]?).bind id
def eLC(I:MI)(sub:Jr)(g:MG)(c:MT)(F:ME):ME:=λae h=>(I ae h).bind λit h1=>(noX (lcL it.guard g c F it.items [] (gh sub ae) h1)).bind cm
noncomputable def tY:MT:=λ_ h=>.ok true h
section
variable(K:W.Frag)(mg:Jo)
def rdI(ES:St->XK)(F:MI):TI:=λσ H R'=>∃ρ h ae,Wd K mg ρ h H/\RelE K mg ρ H ae σ/\PostG K mg ρ H (ES σ) (λit _ ρ' H'=>∀J,ItR K mg ρ' H' it J->R' J H') (F ae h)
def DI(X:Cx)(ES:St->XK)(tg a_:Expr)(F:MI):Prop:=PI X tg a_ (rdI K mg ES F)
end
noncomputable def vL(F:ME):MI:=λae h=>(F ae h).bind λd h1=>match d with
 |.tup xs=>.ok (.tup xs) h1
 |.ref n=>match aJ h1 n with
  |some xs=>.ok (.lst n xs) h1
  |none=>.stuck
 |_=>.stuck
noncomputable def vn(A:MA):MI:=λae h=>(A ae h).bind λds h1=>match ds with
 | [.int j]=>if -(2^62)<=j/\j<2^62 then .ok (.rng 0 j.toNat) h1 else .stuck
 |_=>.stuck
def gO(d:D)(h:AH):Option AIt:=match d with
 |.tup xs=>some (.tup xs)
 |.ref n=>(aJ h n).map (.lst n)
 |_=>none
section
variable{K:W.Frag}{mg:Jo}{X:Cx}{ES:St->XK}{tg a_ e a b c f_:Expr}{F:ME}{A:MA}{I:MI}{g:MG}{cf:MT}{U:MS}{sts:List Stmt}{pos:Pos}
def PI.imp(h:PI X tg a_ t)(k:∀σ H Q,t' σ H Q->t σ H Q):PI X tg a_ t':=λpins s σ H Q I w=>h pins s σ H Q I (k σ H Q w)
def DK(hl:PE X l tl):PI X tg l (λσ H R=>tl σ H λx H1=>(∃a,x=.ref a/\(∃xs,SqL X.K H1 a xs)/\R (Itl X.K a) H1)\/(∃a,x=.ref a/\(∃xs,SqT X.K H1 a xs)/\R (Itt X.K a) H1)):=by
 intro pins s σ H R I h;refine thn (hl pins s σ H _ I h) λv s1 ⟨x,H1,I1,r1,q1⟩=>?_;rcases q1 with ⟨a,e,⟨xs,hq⟩,q⟩ |⟨a,e,⟨xs,hq⟩,q⟩
 .subst e;cases r1;obtain⟨its,rv,p,hz⟩:=I1.list hq;refine wpAny_pyIter_list p.isList ?_;refine⟨s1.heap.objs.size,[s1.heap.objs.size],_,_,H1,rfl,I1.kept (t':=s1.toks) λb o e=>w_ _ e,tF a _,⟨_,Hl _ rfl,rfl,rfl⟩,λb hb=>?_,q⟩;have e:b=s1.heap.objs.size:=by simpa using hb
  subst e;exact I1.fpOk (y_ _) (I1.hok.fresh (y_ _))
 .subst e;cases r1;obtain⟨its,rv,p,hz⟩:=I1.tuple hq;refine wpAny_pyIter_tuple (show s1.heap.IsTuple a its.toArray from p) ?_;refine⟨s1.heap.objs.size,[s1.heap.objs.size],_,_,H1,rfl,I1.kept (t':=s1.toks) λb o e=>w_ _ e,qF a _,⟨_,Hl _ rfl,rfl,rfl⟩,λb hb=>?_,q⟩;have e:b=s1.heap.objs.size:=by simpa using hb
  subst e;exact I1.fpOk (y_ _) (I1.hok.fresh (y_ _))
def Bm(hK:X.K=K)(he:DE K mg X ES e F):DI K mg X ES tg e (vL F):=by
 subst hK;refine PI.imp (DK he) λσ H R ⟨ρ,h,ae,w,re,p⟩=>⟨ρ,h,ae,w,re,p.bind.imp λd h1 ρ1 H1 l1 w1 p1 v rv=>?_⟩;cases rv with
 |tup q rs=>exact .inr ⟨_,rfl,⟨_,q⟩,p1 ρ1 H1 Le.refl w1 _ ⟨_,_,q,rs,rfl⟩⟩
 |
  ref ea=>
  dsimp only at p1;split at p1
  .rename_i xs e1;obtain⟨vs,q,rs⟩:=bq w1 ea e1;exact .inl ⟨_,rfl,⟨_,q⟩,p1 ρ1 H1 Le.refl w1 _ ⟨_,ea,rfl⟩⟩
  .exact p1.elim
 |_=>exact p1.elim
def sJ(hg:Gl X "range")(hm:mg "range"=none)(ha:DA K mg X ES [a] A)(hk:X.mg=mg)(hs:starEach [a] X.env=[(false,eval a X.env)]):DI K mg X ES tg (.Call (.Name "range" p) [a] [] pos) (vn A):=by
 subst hk;refine PI.imp (sf hg hm ha hs) λσ H R ⟨ρ,h,ae,w,re,p⟩=>⟨ρ,h,ae,w,re,p.bind.imp λds h1 ρ1 H1 l1 w1 p1 vs rs=>?_⟩;split at p1
 .cases rs with
  |
   cons r rs=>
   cases r;cases rs;split at p1
   .rename_i hb;exact⟨_,rfl,hb.1,hb.2,p1 ρ1 H1 Le.refl w1 _ rfl⟩
   .exact p1.elim
 .exact p1.elim
def mh(p:PostS K mg ρ H De ES (r.loop f))(i:∀i_ h1 ρ1 H1 σ1,Le ρ H ρ1 H1->Wd K mg ρ1 h1 H1->RelE K mg ρ1 H1 i_ σ1->PostS K mg ρ1 H1 De ES (f i_ h1)->N σ1 H1):
 PostS K mg ρ H { De with nx:=N,ct:=N,bk:=De.nx } ES r:=by
 cases r with
 |nx i_ h1=>exact λρ1 H1 σ1 l1 w1 re1=>i i_ h1 ρ1 H1 σ1 l1 w1 re1 (PostS.mono l1 p)
 |rt d h1=>exact p
 |bk i_ h1=>exact p
 |ct i_ h1=>exact λρ1 H1 σ1 l1 w1 re1=>i i_ h1 ρ1 H1 σ1 l1 w1 re1 (PostS.mono l1 p)
 |exc c i_ h1=>exact p
 |stuck=>exact p
def CS(hp:PassesOwn (model X.prog X.w) X.A X.env X.xe)(hc:X.calm=true)(hi:DI K mg X ES tg a_ I)(hg:DG K mg X ES tg g)(hb:DSs K mg X ES sts U)
 (hs:∀x,foldedSetIterable a_ X.env x=pure x):DS K mg X ES (.For tg a_ sts [] pos) (vc I g U):=by
 refine PS.imp (Dt hp hc hi hg hb hs) λDe σ H q_=>q_.el λρ h ae w re p=>⟨ρ,h,ae,w,re,bF p re λit h1 ρ1 H1 l1 w1 re1 p1 J hJ=>?_⟩;refine⟨λi m σ2 H2=>m=it.items.length-i/\i<=it.items.length/\∃ρ2 h2 ae2,Le ρ1 H1 ρ2 H2/\Wd K mg ρ2 h2 H2/\RelE K mg ρ2 H2 ae2 σ2/\PostS K mg ρ2 H2 De ES (fD it.guard g U (it.items.drop i) ae2 h2),⟨_,rfl,Ho _,ρ1,h1,ae,Le.refl,w1,re1,p1⟩,?_⟩;rintro i m σ2 H2 ⟨rfl,hi',ρ2,h2,ae2,l2,w2,re2,p2⟩;by_cases hlt:i<it.items.length
 .have hd:it.items.drop i=it.items[i]::it.items.drop (i+1):=List.drop_eq_getElem_cons hlt;rw[hd] at p2;unfold fD at p2;split at p2
  .rename_i hG;obtain⟨st,_⟩:=hJ.step l2 w2 hG;obtain⟨go,yl⟩:=st i it.items[i] (A_ hlt);refine .inr ⟨go,λσ' H'=>∃ρ3 h3 ae3,Le ρ1 H1 ρ3 H'/\Wd K mg ρ3 h3 H'/\RelE K mg ρ3 H' ae3 σ'/\PostS K mg ρ3 H' De ES (fD it.guard g U (it.items.drop (i+1)) ae3 h3),
    λσ' H' ⟨ρ3,h3,ae3,q⟩=>⟨_,by omega,rfl,hlt,ρ3,h3,ae3,q⟩,λx H' hy=>?_⟩
   obtain⟨ly,wy,rx⟩:=yl x H' hy;refine⟨ρ2,h2,ae2,_,wy,re2.mono ly,rx,bF (PostS.mono ly p2) (re2.mono ly) λae3 h3 ρ3 H3 l3 w3 re3 p3 σ' re'=>⟨ρ3,h3,ae3,w3,re',mh p3 λae4 h4 ρ4 H4 σ4 l4 w4 re4 p4=>⟨ρ4,h4,ae4,((l2.trans ly).trans l3).trans l4,w4,re4,p4⟩⟩⟩
  .exact p2.elim
 .have hi2:i=it.items.length:=by omega
  subst hi2;rw[List.drop_length] at p2;unfold fD at p2;split at p2
  .rename_i hG;exact .inl ⟨(hJ.step l2 w2 hG).2,eN p2 w2 re2⟩
  .exact p2.elim
def wF(re:RelE K mg ρ H ae σ)(sub:Jr):RelE K mg ρ H (gh sub ae) (dn sub σ):=by
 unfold gh dn;refine⟨by rw[v_,v_],λj d e=>?_⟩;rw[Hj] at e ⊢;cases q:sub[j]? with
 |none=>rw[q] at e;cases e
 |
  some o=>
  rw[q] at e;cases o with
  |none=>cases e
  |
   some i=>
   have e':(ae[i]?).bind id=some d:=Hc e;cases q2:ae[i]? with
   |none=>rw[q2] at e';cases e'
   |some z=>rw[q2] at e';have e3:z=some d:=e';subst e3;obtain⟨v,h1,h2⟩:=re.at_ i d q2;refine⟨v,?_,h2⟩;show some ((σ[i]?).bind id)=some (some v);rw[h1];rfl
def iY(p:PostG K mg ρ H E k ((noX (r.bind f)).bind m)):
 PostG K mg ρ H E0 (λa h1 ρ' H'=>PostG K mg ρ' H' E k ((noX (f a h1)).bind m)) r:=by
 cases r with
 |ok a h1=>exact λρ1 H1 l1 w1=>PostG.mono l1 p
 |exc c h1=>exact p.elim
 |stuck=>exact p.elim
def l0(σ:St)(H:Hp)(Q:VK)(q:rdE K mg ES (eLC I sub g cf F) σ H Q):eK (rdI K mg ES I) sub (rdG K mg (λ_=>E0) g) (rdT K mg (λ_=>E0) cf) (rdE K mg (λ_=>E0) F) σ H Q:=by
 obtain⟨ρ,h,ae,w,re,p⟩:=q;refine⟨ρ,h,ae,w,re,p.bind.imp λit h1 ρ1 H1 l1 w1 p1 J hJ=>?_⟩;have re1:=wF (re.mono l1) sub;refine⟨λi m ys σ2 H2=>m=it.items.length-i/\i<=it.items.length/\∃ρ2 h2 ae2 acc,Le ρ1 H1 ρ2 H2/\Wd K mg ρ2 h2 H2/\RelE K mg ρ2 H2 ae2 σ2/\RelDs K mg ρ2 H2 acc ys/\
  PostG K mg ρ2 H2 (ES σ) (λd _ ρ' H'=>∀v,RelD K mg ρ' H' d v->Q v H') ((noX (lcL it.guard g cf F (it.items.drop i) acc ae2 h2)).bind cm),
  ⟨_,rfl,Ho _,ρ1,h1,gh sub ae,[],Le.refl,w1,re1,.nil,p1⟩,?_⟩
 rintro i m ys σ2 H2 ⟨rfl,hi',ρ2,h2,ae2,acc,l2,w2,re2,rs,p2⟩;by_cases hlt:i<it.items.length
 .have hd:it.items.drop i=it.items[i]::it.items.drop (i+1):=List.drop_eq_getElem_cons hlt;rw[hd] at p2;unfold lcL at p2;split at p2
  .rename_i hG;obtain⟨st,_⟩:=hJ.step l2 w2 hG.1;obtain⟨go,yl⟩:=st i it.items[i] (A_ hlt);refine .inr ⟨go,by rw[<- rs.len];exact hG.2,λys' σ' H'=>∃ρ3 h3 ae3 acc3,Le ρ1 H1 ρ3 H'/\Wd K mg ρ3 h3 H'/\RelE K mg ρ3 H' ae3 σ'/\RelDs K mg ρ3 H' acc3 ys'/\
    PostG K mg ρ3 H' (ES σ) (λd _ ρ' H'=>∀v,RelD K mg ρ' H' d v->Q v H') ((noX (lcL it.guard g cf F (it.items.drop (i+1)) acc3 ae3 h3)).bind cm),
    λys' σ' H' ⟨ρ3,h3,ae3,acc3,q⟩=>⟨_,by omega,rfl,hlt,ρ3,h3,ae3,acc3,q⟩,λx H' hy=>?_⟩
   obtain⟨ly,wy,rx⟩:=yl x H' hy;refine⟨ρ2,h2,ae2,_,wy,re2.mono ly,rx,(iY (PostG.mono ly p2)).imp λae3 h3 ρ3 H3 l3 w3 p3 σ3 re3=>⟨ρ3,h3,ae3,w3,re3,(iY p3).imp λb h4 ρ4 H4 l4 w4 p4=>?_⟩⟩;cases b with
   |true=>exact⟨ρ4,h4,ae3,w4,re3.mono l4,(iY p4).imp λy h5 ρ5 H5 l5 w5 p5 v rv=>⟨ρ5,h5,ae3,acc++[y],(((l2.trans ly).trans l3).trans l4).trans l5,w5,(re3.mono l4).mono l5,((((rs.mono ly).mono l3).mono l4).mono l5).append (.cons rv .nil),p5⟩⟩
   |false=>exact⟨ρ4,h4,ae3,acc,((l2.trans ly).trans l3).trans l4,w4,re3.mono l4,((rs.mono ly).mono l3).mono l4,p4⟩
  .exact p2.elim
 .have hi2:i=it.items.length:=by omega
  subst hi2;rw[List.drop_length] at p2;unfold lcL at p2;split at p2
  .rename_i hG;refine .inl ⟨(hJ.step l2 w2 hG).2,?_⟩;have p3:PostG K mg ρ2 H2 (ES σ) (λd _ ρ' H'=>∀v,RelD K mg ρ' H' d v->Q v H') (cm acc h2):=p2;unfold cm at p3;split at p3
   .rename_i hl;exact⟨by rw[<- rs.len];exact hl,λq hq=>cP w2 rs hq p3⟩
   .exact p3.elim
  .exact p2.elim
def EK(M:List Str)(kn:List (Str×NameKind))(N:List Str)(sub:Jr)
 (hc:X.calm=true) (hi:DI K mg X ES tg a_ I)
 (hg:∀cl C s₂ H fp,DG K mg (ao X N scope cl C s₂ H fp) (λ_=>E0) tg g) (he:∀cl C s₂ H fp,DE K mg (ao X N scope cl C s₂ H fp) (λ_=>E0) f_ F)
 (hM:X.N=M) (hkn:X.env.scope.names=kn) (e_:bH M scope.names sub N=true)
 (hk:scope.kind=.function) (n_:∀x∈scope.names,x.2 ≠ .cell) (b_:∀x∈scope.names,x.2=.local->scope.names.lookup x.1=some .local)
 (l_:cp kn scope.names=true)
 (o_:sub.length=N.length) (hs:∀x,foldedSetIterable a_ X.env x=pure x):
 DE K mg X ES (.ListComp f_ [⟨tg,a_,[],0⟩] scope pos) (eLC I sub g tY F):=
 PE.imp (FU M kn N sub hc hi hg he hM hkn e_ hk n_ b_ l_ o_ hs) λσ H Q q=>by
  have:=l0 (cf:=tY) σ H Q q
  obtain⟨ρ,h,ae,w,re,p⟩:=this;refine⟨ρ,h,ae,w,re,p.imp λit h1 ρ1 H1 l1 w1 k J hJ=>?_⟩;obtain⟨W,w0,tn⟩:=k J hJ;refine⟨W,w0,λi m ys σ2 H2 hW=>?_⟩;rcases tn i m ys σ2 H2 hW with z |⟨go,hl,Nx,hN,st⟩
  .exact .inl z
  .refine .inr ⟨go,hl,Nx,hN,λx H' hy=>?_⟩;obtain⟨ρ3,h3,ae3,d3,w3,re3,rd3,p3⟩:=st x H' hy;refine⟨ρ3,h3,ae3,d3,w3,re3,rd3,p3.imp λae4 h4 ρ4 H4 l4 w4 k4 σ4 re4=>?_⟩;obtain⟨ρ5,h5,ae5,w5,re5,p5⟩:=k4 σ4 re4;exact p5 ρ5 _ Le.refl w5
def yO(M:List Str)(kn:List (Str×NameKind))(N:List Str)(sub:Jr)
 (hc:X.calm=true) (hi:DI K mg X ES tg a_ I)
 (hg:∀cl C s₂ H fp,DG K mg (ao X N scope cl C s₂ H fp) (λ_=>E0) tg g) (ht:∀cl C s₂ H fp,DT K mg (ao X N scope cl C s₂ H fp) (λ_=>E0) c cf) (he:∀cl C s₂ H fp,DE K mg (ao X N scope cl C s₂ H fp) (λ_=>E0) f_ F)
 (hM:X.N=M) (hkn:X.env.scope.names=kn) (e_:bH M scope.names sub N=true)
 (hk:scope.kind=.function) (n_:∀x∈scope.names,x.2 ≠ .cell) (b_:∀x∈scope.names,x.2=.local->scope.names.lookup x.1=some .local)
 (l_:cp kn scope.names=true)
 (o_:sub.length=N.length) (hs:∀x,foldedSetIterable a_ X.env x=pure x):
 DE K mg X ES (.ListComp f_ [⟨tg,a_,[c],0⟩] scope pos) (eLC I sub g cf F):=
 PE.imp (yf M kn N sub hc hi hg ht he hM hkn e_ hk n_ b_ l_ o_ hs) λσ H Q q=>l0 σ H Q q
def BC(σ:St)(H:Hp)(Q:VK)(q:rdE K mg ES (eLC I sub g tY F) σ H Q):eK (rdI K mg ES I) sub (rdG K mg (λ_=>E0) g) uI (rdE K mg (λ_=>E0) F) σ H Q:=by
 have:=l0 (cf:=tY) σ H Q q
 obtain⟨ρ,h,ae,w,re,p⟩:=this;refine⟨ρ,h,ae,w,re,p.imp λit h1 ρ1 H1 l1 w1 k J hJ=>?_⟩;obtain⟨W,w0,tn⟩:=k J hJ;refine⟨W,w0,λi m ys σ2 H2 hW=>?_⟩;rcases tn i m ys σ2 H2 hW with z |⟨go,hl,Nx,hN,st⟩
 .exact .inl z
 .refine .inr ⟨go,hl,Nx,hN,λx H' hy=>?_⟩;obtain⟨ρ3,h3,ae3,d3,w3,re3,rd3,p3⟩:=st x H' hy;refine⟨ρ3,h3,ae3,d3,w3,re3,rd3,p3.imp λae4 h4 ρ4 H4 l4 w4 k4 σ4 re4=>?_⟩;obtain⟨ρ5,h5,ae5,w5,re5,p5⟩:=k4 σ4 re4;exact p5 ρ5 _ Le.refl w5
def oB(ht:∀σ H Q,rdE K mg ES F σ H Q->t σ H Q)(De:Ends)(σ:St)(H:Hp)(q:rdS K mg ES (eA F (gN i)) De σ H):mB t (ja i) De σ H:=by obtain⟨ρ,h,ae,w,re,p⟩:=q;exact ht σ H _ ⟨ρ,h,ae,w,re,bF p re λd h1 ρ1 H1 l1 w1 re1 p1 v rv=>eN p1 w1 (re1.set i rv)⟩
def EB(M:List Str)(kn:List (Str×NameKind))(N:List Str)(sub:Jr)
 (hc:X.calm=true) (hN:X.N.Nodup) (hix:X.N[iT]?=some xT) (hxl:Loc X.env.scope xT) (hi:DI K mg X ES tg a_ I)
 (hg:∀cl C s₂ H fp,DG K mg (ao X N scope cl C s₂ H fp) (λ_=>E0) tg g) (he:∀cl C s₂ H fp,DE K mg (ao X N scope cl C s₂ H fp) (λ_=>E0) f_ F)
 (hsw:swapsWith (.ListComp f_ [⟨tg,a_,[],0⟩] scope pos) (some (.Name xT px)) spos.line X.env=pure true)
 (hM:X.N=M) (hkn:X.env.scope.names=kn) (e_:bH M scope.names sub N=true)
 (hk:scope.kind=.function) (n_:∀x∈scope.names,x.2 ≠ .cell) (b_:∀x∈scope.names,x.2=.local->scope.names.lookup x.1=some .local)
 (l_:cp kn scope.names=true)
 (o_:sub.length=N.length) (hs:∀x,foldedSetIterable a_ X.env x=pure x) (hf:X.fn xT=true\/X.env.scope.names.lookup xT=some .local):
 DS K mg X ES (.Assign [.Name xT px] (.ListComp f_ [⟨tg,a_,[],0⟩] scope pos) spos) (eA (eLC I sub g tY F) (gN iT)):=
 PS.imp (GH M kn N sub hc hN hix hxl hi hg he hsw hM hkn e_ hk n_ b_ l_ o_ hs hf) (oB BC)
def zg(M:List Str)(kn:List (Str×NameKind))(N:List Str)(sub:Jr)
 (hc:X.calm=true) (hN:X.N.Nodup) (hix:X.N[iT]?=some xT) (hxl:Loc X.env.scope xT) (hi:DI K mg X ES tg a_ I)
 (hg:∀cl C s₂ H fp,DG K mg (ao X N scope cl C s₂ H fp) (λ_=>E0) tg g) (ht:∀cl C s₂ H fp,DT K mg (ao X N scope cl C s₂ H fp) (λ_=>E0) c cf) (he:∀cl C s₂ H fp,DE K mg (ao X N scope cl C s₂ H fp) (λ_=>E0) f_ F)
 (hsw:swapsWith (.ListComp f_ [⟨tg,a_,[c],0⟩] scope pos) (some (.Name xT px)) spos.line X.env=pure true)
 (hM:X.N=M) (hkn:X.env.scope.names=kn) (e_:bH M scope.names sub N=true)
 (hk:scope.kind=.function) (n_:∀x∈scope.names,x.2 ≠ .cell) (b_:∀x∈scope.names,x.2=.local->scope.names.lookup x.1=some .local)
 (l_:cp kn scope.names=true)
 (o_:sub.length=N.length) (hs:∀x,foldedSetIterable a_ X.env x=pure x) (hf:X.fn xT=true\/X.env.scope.names.lookup xT=some .local):
 DS K mg X ES (.Assign [.Name xT px] (.ListComp f_ [⟨tg,a_,[c],0⟩] scope pos) spos) (eA (eLC I sub g cf F) (gN iT)):=
 PS.imp (uf hc hN hix hxl hi hk n_ b_ (by subst hkn;exact hX l_) o_ (by subst hM;exact fZ e_) hg (λcl C s₂ H fp=>oX (ht cl C s₂ H fp)) he hsw hs hf) (oB l0)
end
noncomputable def whN(c:MT)(B:MS):Nat->MS
 |0,_,_=>.stuck
 |k+1,ae,h=>(c ae h).toS ae λb h1=>if b=true then (B ae h1).loop (whN c B k) else .nx ae h1
open Classical in
def sWh(c:MT)(B:MS):MS:=λae h=>if q:∃k,whN c B k ae h ≠ .stuck then whN c B q.choose ae h else .stuck
theorem iH:∀{k:Nat}{ae:AE}{h:AH},whN c B k ae h ≠ .stuck->whN c B (k+1) ae h=whN c B k ae h
 |0,_,_,q=>absurd rfl q
 |
  k+1,ae,h,q=>by
  have e1:whN c B (k+2) ae h=(c ae h).toS ae λb h1=>if b=true then (B ae h1).loop (whN c B (k+1)) else .nx ae h1:=rfl
  have e2:whN c B (k+1) ae h=(c ae h).toS ae λb h1=>if b=true then (B ae h1).loop (whN c B k) else .nx ae h1:=rfl
  rw[e2] at q;rw[e1,e2];cases r:c ae h with
  |exc _ _=>rfl
  |stuck=>rfl
  |
   ok b h1=>
   rw[r] at q;cases b with
   |false=>rfl
   |
    true=>
    have q':(B ae h1).loop (whN c B k) ≠ .stuck:=q;show (B ae h1).loop (whN c B (k+1))=(B ae h1).loop (whN c B k);cases s:B ae h1 with
    |nx a2 h2=>rw[s] at q';exact iH q'
    |ct a2 h2=>rw[s] at q';exact iH q'
    |_=>rfl
def sS(q:whN c B k ae h ≠ .stuck)(hj:k<=j):whN c B j ae h=whN c B k ae h:=by
 induction hj with
 |refl=>rfl
 |step _ ih=>rw[iH (by rw[ih];exact q),ih]
def ud(q:whN c B k ae h ≠ .stuck):sWh c B ae h=whN c B k ae h:=by
 have hq:∃k,whN c B k ae h ≠ .stuck:=⟨k,q⟩;unfold sWh;rw[dif_pos hq];rcases Nat.le_total hq.choose k with z |z
 .exact (sS hq.choose_spec z).symm
 .exact sS q z
section
variable{K:W.Frag}{mg:Jo}{X:Cx}{ES:St->XK}{c:Expr}{cf:MT}{U:MS}{sts:List Stmt}{pos:Pos}
def uC(hp:PassesOwn (model X.prog X.w) X.A X.env X.xe)(hc:DT K mg X ES c cf)(hb:DSs K mg X ES sts U):DS K mg X ES (.While c sts [] pos) (sWh cf U):=by
 refine PS.imp (uA hp hc hb) λDe σ H q_=>q_.el λρ h ae w re p=>?_;have hx:∃k,whN cf U k ae h ≠ .stuck:=IC λz=>by unfold sWh at p;rw[dif_neg z] at p;exact p.elim
 obtain⟨k,hk⟩:=hx;rw[ud hk] at p;refine⟨λm σ2 H2=>∃ρ2 h2 ae2,Wd K mg ρ2 h2 H2/\RelE K mg ρ2 H2 ae2 σ2/\PostS K mg ρ2 H2 De ES (whN cf U m ae2 h2),⟨k,ρ,h,ae,w,re,p⟩,?_⟩;rintro m σ2 H2 ⟨ρ2,h2,ae2,w2,re2,p2⟩;cases m with
 |zero=>exact p2.elim
 |
  succ m=>
  refine⟨ρ2,h2,ae2,w2,re2,bF p2 re2 λb h3 ρ3 H3 l3 w3 re3 p3=>?_⟩;cases b with
  |true=>exact⟨λσ' H'=>∃ρ4 h4 ae4,Wd K mg ρ4 h4 H'/\RelE K mg ρ4 H' ae4 σ'/\PostS K mg ρ4 H' De ES (whN cf U m ae4 h4),λσ' H' q=>⟨m,Nat.lt_succ_self _,q⟩,ρ3,h3,ae2,w3,re3,mh p3 λae4 h4 ρ4 H4 σ4 l4 w4 re4 p4=>⟨ρ4,h4,ae4,w4,re4,p4⟩⟩
  |false=>exact eN p3 w3 re3
end
noncomputable def nN:Fn:=λds h=>match ds with
 | [d]=>match fj h d with
  |some xs=>.ok (.int xs.length) h
  |none=>match d with
   |.str z=>if z.length<=16777216 then .ok (.int z.length) h else .stuck
   |_=>.stuck
 |_=>.stuck
noncomputable def pG:Fn:=λds h=>match ds with
 | [.int i]=>.ok (.int (if i<0 then -i else i)) h
 |_=>.stuck
noncomputable def eF:List D->Option (List Bool)
 | []=>some []
 |.bl b::r=>(eF r).map (b :: ·)
 |_=>none
theorem l6:∀{ds:List D}{bs:List Bool},eF ds=some bs->ds=bs.map D.bl
 | [],bs,e=>by cases e;rfl
 |
  .bl b::r,bs,e=>by
  have e':(eF r).map (b :: ·)=some bs:=e;cases q:eF r with
  |none=>rw[q] at e';cases e'
  |some z=>rw[q] at e';cases e';rw[l6 q];rfl
noncomputable def mS:Fn:=λds h=>match ds with
 | [.ref n]=>match (aJ h n).bind eF with
  |some bs=>.ok (.bl (bs.all id)) h
  |none=>.stuck
 |_=>.stuck
def jO:Fn:=λds h=>match ds with
 | [d]=>match fj h d with
  |some xs=>.ok (.ref h.length) (h++[.lst xs])
  |none=>.stuck
 |_=>.stuck
section
variable{K:W.Frag}{mg:Jo}{X:Cx}
def Dy:bK K mg (λxs H Q=>(∃p ys,xs=[.ref p]/\(SqL K H p ys\/SqT K H p ys)/\Q (.int ys.length) H)\/(∃z,xs=[.str z]/\z.length<=sizeLine/\Q (.int z.length) H)) nN:=λρ h H ds vs Q E w rs p=>by
 unfold nN at p;split at p
 .cases
   rs with
  |
   cons r rs=>
   cases rs;split at p
   .rename_i xs e;obtain⟨pa,vs,rfl,hq,rs⟩:=eU w r e;exact .inl ⟨_,_,rfl,hq,by rw[<- rs.len];exact ax w (.int _) p⟩
   .split at p
    .cases r;split at p
     .rename_i hl;exact .inr ⟨_,rfl,hl,ax w (.int _) p⟩
     .exact p.elim
    .exact p.elim
 .exact p.elim
def Fc(h:X.K=K):CallR X (.builtin "len") (λxs H Q=>(∃p ys,xs=[.ref p]/\(SqL K H p ys\/SqT K H p ys)/\Q (.int ys.length) H)\/(∃z,xs=[.str z]/\z.length<=sizeLine/\Q (.int z.length) H)):=by subst h;exact mW.or nF
def BW:bK K mg (λxs H Q=>∃i,xs=[.int i]/\Q (.int (if i<0 then -i else i)) H) pG:=λρ h H ds vs Q E w rs p=>by
 unfold pG at p;split at p
 .cases rs with
  |cons r rs=>cases r;cases rs;exact⟨_,rfl,ax w (.int _) p⟩
 .exact p.elim
def AI:bK K mg (λxs H Q=>∃(a:Addr) (bs:List Bool),xs=[.ref a]/\SqL K H a (bs.map V.bl)/\Q (.bl (bs.all id)) H) mS:=λρ h H ds vs Q E w rs p=>by
 unfold mS at p;split at p
 .cases
   rs with
  |
   cons r rs=>
   cases r with
   |
    ref ea=>
    cases rs;split at p
    .rename_i bs e;obtain⟨xs,q,e2⟩:=Hy.mp e
     .obtain⟨vs,h1,h2⟩:=bq w ea q;rw[l6 e2] at h2;rw[h2.bls] at h1;exact⟨_,bs,rfl,h1,ax w (.bl _) p⟩
    .exact p.elim
 .exact p.elim
def yg:bK K mg (λxs H Q=>∃p ys,xs=[.ref p]/\(SqL K H p ys\/SqT K H p ys)/\∀l,H l=none->Q (.ref l) (upd H l (.lst ys))) jO:=λρ h H ds vs Q E w rs p=>by
 unfold jO at p;split at p
 .cases rs with
  |
   cons r rs=>
   cases rs;split at p
   .rename_i xs e;obtain⟨pa,vs,rfl,hq,rs⟩:=eU w r e;exact⟨_,_,rfl,hq,λl hl=>cP w rs hl p⟩
   .exact p.elim
 .exact p.elim
def r9(h:X.K=K):CallR X (.type "list") (λxs H Q=>∃p ys,xs=[.ref p]/\(SqL K H p ys\/SqT K H p ys)/\∀l,H l=none->Q (.ref l) (upd H l (.lst ys))):=by subst h;exact nh
end
inductive Cl where
 |b (n:String) |o (x:Str)
 deriving DecidableEq
noncomputable def tyD(h:AH):D->Option Cl
 |.non=>some (.b "NoneType")
 |.bl _=>some (.b "bool")
 |.int _=>some (.b "int")
 |.str _=>some (.b "str")
 |.tup _=>some (.b "tuple")
 |.exc x=>some (.o x)
 |.ref n=>match h[n]? with
  |some (.lst _)=>some (.b "list")
  |some (.fz _)=>some (.b "list")
  |some (.dct _)=>some (.b "dict")
  |_=>none
 |_=>none
noncomputable def clD:D->Option Cl
 |.ty n=>some (.b n)
 |.glb x=>some (.o x)
 |_=>none
def ClV(mg:Jo):Cl->Value->Prop
 |.b n,v=>v=.type n
 |.o x,v=>∃a,v=.ref a/\mg x=some (.ref a)
abbrev fN:=List (Cl×Cl×Bool)
structure KitsOk(K:W.Frag)(mg:Jo)(kt:fN):Prop where
 one:∀p∈kt,∀t v,ClV mg p.1 t->ClV mg p.2.1 v->W.kitOne K t v=some p.2.2
 xc:∀p∈kt,∀x C,p.1=.o x->mg x=some (.ref C)->XCls K C
noncomputable def kit(kt:fN)(t c:Cl):Option Bool:=(kt.find? λp=>decide (p.1=t)&&decide (p.2.1=c)).map (·.2.2)
noncomputable def de(kt:fN)(t:Cl):List Cl->Option Bool
 | []=>some false
 |c::r=>match kit kt t c with
  |some true=>some true
  |some false=>de kt t r
  |none=>none
noncomputable def nJ(kt:fN):Fn:=λds h=>match ds with
 | [d,c]=>match tyD h d with
  |some t=>match c with
   |.tup cs=>match cs.mapM clD with
    |some (c0::cr)=>match de kt t (c0::cr),kit kt t c0 with
     |some b,some _=>.ok (.bl b) h
     |_,_=>.stuck
    |_=>.stuck
   |c=>match clD c with
    |some cl=>match kit kt t cl with
     |some b=>.ok (.bl b) h
     |none=>.stuck
    |none=>.stuck
  |none=>.stuck
 |_=>.stuck
def jX(e:kit kt t c=some b):(t,c,b)∈kt:=by
 unfold kit at e;cases q:kt.find? (λp=>decide (p.1=t)&&decide (p.2.1=c)) with
 |none=>rw[q] at e;cases e
 |some p=>rw[q] at e;have h1:=List.find?_some q;have h2:=List.mem_of_find?_eq_some q;simp only[x_,HD] at h1;obtain⟨p1,p2,p3⟩:=p;have e3:p3=b:=Hc e;obtain⟨rfl,rfl⟩:=h1;subst e3;exact h2
section
variable{K:W.Frag}{mg:Jo}{X:Cx}{ρ:List Addr}{H:Hp}{h:AH}
def oJ(ok:KitsOk K mg kt)(w:Wd K mg ρ h H)(r:RelD K mg ρ H d v)(e:tyD h d=some t)(k:kit kt t c=some b):∃tv,TyX K H v tv/\ClV mg t tv:=by
 cases r with
 |non=>cases e;exact⟨_,.of .non,rfl⟩
 |bl=>cases e;exact⟨_,.of (.bl _),rfl⟩
 |int=>cases e;exact⟨_,.of (.int _),rfl⟩
 |str=>cases e;exact⟨_,.of (.str _),rfl⟩
 |tup q rs=>cases e;exact⟨_,.sqT q,rfl⟩
 |exc m ex=>cases e;exact⟨_,.exc ex (ok.xc _ (jX k) _ _ rfl m),_,rfl,m⟩
 |
  ref ea=>
  unfold tyD at e;dsimp only at e;split at e
  .rename_i e1;cases e;obtain⟨vs,h1,h2⟩:=w.ob _ _ _ ea e1;exact⟨_,.of (.lst h1),rfl⟩
  .rename_i e1;cases e;obtain⟨o,vs,h1,h2⟩:=w.ob _ _ _ ea e1;exact⟨_,.of (.frz h1),rfl⟩
  .rename_i e1;cases e;obtain⟨ws,h1,_⟩:=w.ob _ _ _ ea e1;exact⟨_,.of (.dK h1),rfl⟩
  .cases e
 |_=>cases e
def o9(r:RelD K mg ρ H d v)(e:clD d=some c):∃cv,cV v=some cv/\ClV mg c cv:=by
 cases r with
 |ty n=>cases e;exact⟨_,rfl,rfl⟩
 |glb m=>cases e;exact⟨_,rfl,_,rfl,m⟩
 |_=>cases e
def v9:∀{ds:List D}{vs:List V}{cs:List Cl},RelDs K mg ρ H ds vs->ds.mapM clD=some cs->∃cvs,vs.mapM cV=some cvs/\Paired (ClV mg) cs cvs:=by
 intro ds;induction ds with
 |nil=>intro vs cs r e;cases r;have e':some ([]:List Cl)=some cs:=e;cases e';exact⟨[],rfl,.nil⟩
 |
  cons d ds ih=>
  intro vs cs r e;cases r with
  |
   cons r rr=>
   rw[Il] at e;cases q:clD d with
   |none=>rw[q] at e;cases e
   |
    some c=>
    rw[q] at e;cases q2:ds.mapM clD with
    |none=>rw[q2] at e;cases e
    |some cs'=>rw[q2] at e;have e':some (c::cs')=some cs:=e;cases e';obtain⟨cv,h1,h2⟩:=o9 r q;obtain⟨cvs,h3,h4⟩:=ih rr q2;refine⟨cv::cvs,?_,.cons h2 h4⟩;rw[Il,h1,h3];rfl
def sO(ok:KitsOk K mg kt)(ht:ClV mg t tv):∀{cs:List Cl}{cvs:List Value}{b:Bool},Paired (ClV mg) cs cvs->de kt t cs=some b->W.kitAny K tv cvs=some b:=by
 intro cs;induction cs with
 |nil=>intro cvs b r e;cases r;cases e;rfl
 |
  cons c cs ih=>
  intro cvs b r e;cases r with
  |
   cons r rr=>
   unfold de at e;unfold W.kitAny;cases q:kit kt t c with
   |none=>rw[q] at e;cases e
   |
    some z=>
    rw[q] at e;rw[ok.one _ (jX q) _ _ ht r];cases z with
    |true=>exact e
    |false=>exact ih rr e
def ug:CallR X (.builtin "isinstance") (λxs H Q=>∃x tp cs t vs b,xs=[x,.ref tp]/\SqT X.K H tp cs/\TyX X.K H x t/\cs.mapM cV=some vs/\W.kitAny X.K t vs=some b/\Q (.bl b) H):=by intro pins s σ H xs us Q I r h;obtain⟨x,tp,cs,t,vs,b,rfl,ht,ty,hc,hk,q⟩:=h;obtain⟨u,w',rfl,rx,rc⟩:=xr r;cases rc;obtain⟨its,rv,⟨o,e,c,n,d⟩,_⟩:=I.tuple ht;obtain rfl:=kU hc rv;obtain⟨Hh,Z,p,hne⟩:=o7 I rx ty;obtain⟨oc,od,odt,osl⟩:=o;have c':oc=.type "tuple":=c;have d':odt=.seq its.toArray n:=d;subst c' d';exact W.kia_tup Z I.kIn p e hk hne λtk=>⟨.bl b,H,I.tok _,rfl,q⟩
def EI(hK:X.K=K):CallR X (.builtin "isinstance") (λxs H Q=>(∃x c t v b,xs=[x,c]/\TyX K H x t/\cV c=some v/\W.kitOne K t v=some b/\Q (.bl b) H)\/
 (∃x tp cs t vs b,xs=[x,.ref tp]/\SqT K H tp cs/\TyX K H x t/\cs.mapM cV=some vs/\W.kitAny K t vs=some b/\Q (.bl b) H)):=by subst hK;exact wo.or ug
def Eg(ok:KitsOk K mg kt):bK K mg (λxs H Q=>(∃x c t v b,xs=[x,c]/\TyX K H x t/\cV c=some v/\W.kitOne K t v=some b/\Q (.bl b) H)\/
 (∃x tp cs t vs b,xs=[x,.ref tp]/\SqT K H tp cs/\TyX K H x t/\cs.mapM cV=some vs/\W.kitAny K t vs=some b/\Q (.bl b) H)) (nJ kt):=λρ h H ds vs Q E w rs p=>by
 unfold nJ at p;split at p
 .cases
   rs with
  |
   cons r rs=>
   cases rs with
   |
    cons r2 rs=>
    cases rs;split at p
    .rename_i t e1;split at p
     .split
       at p
      .rename_i cs c0 cr e2;split at p
       .rename_i b b' e3 e4;cases r2 with
        |tup q rs2=>obtain⟨tv,h1,h2⟩:=oJ ok w r e1 e4;obtain⟨cvs,h3,h4⟩:=v9 rs2 e2;exact .inr ⟨_,_,_,tv,cvs,b,rfl,q,h1,h3,sO ok h2 h4 e3,ax w (.bl _) p⟩
       .exact p.elim
      .exact p.elim
     .split at p
      .rename_i cl e2;split at p
       .rename_i b e3;obtain⟨tv,h1,h2⟩:=oJ ok w r e1 e3;obtain⟨cv,h3,h4⟩:=o9 r2 e2;exact .inl ⟨_,_,tv,cv,b,rfl,h1,h3,ok.one _ (jX e3) _ _ h2 h4,ax w (.bl _) p⟩
       .exact p.elim
      .exact p.elim
    .exact p.elim
 .exact p.elim
end
def MtD(K:W.Frag)(mg:Jo)(r:V->List V->Hp->VK->Prop)(g:D->List D->AH->R D):Prop:=∀ρ h H dx ds x vs Q E,Wd K mg ρ h H->RelD K mg ρ H dx x->RelDs K mg ρ H ds vs->bY K mg ρ H Q E (g dx ds h)->r x vs H Q
noncomputable def jk(h:AH):D->Bool
 |.ref n=>(aJ h n).isSome
 |_=>false
def eM(g:D->List D->AH->R D)(F:ME)(A:MA):ME:=λae h=>(F ae h).bind λx h1=>if jk h1 x=true then (A ae h1).bind λds h2=>g x ds h2 else .stuck
section
variable{K:W.Frag}{mg:Jo}{X:Cx}{ES:St->XK}{o e:Expr}{es:List Expr}{F:ME}{A:MA}
def ue(w:Wd K mg ρ h H)(r:RelD K mg ρ H d v)(q:jk h d=true):tyV K "list" v H:=by
 cases r with
 |ref ea=>obtain⟨xs,e⟩:=HG.mp q;obtain⟨vs,h1,_⟩:=bq w ea e;exact .inl ⟨rfl,vs,h1⟩
 |_=>cases q
def de_m{name:Str}{id:String}{apos cpos:Pos}{r:V->List V->Hp->VK->Prop}{g:D->List D->AH->R D}(hK:X.K=K)(slot:Slot "list" name id)(hty:typeOf (.builtin id)=pure (.type "method_descriptor"))(hm:MtM X id r)(hd:MtD K mg r g)(ho:DE K mg X ES o F)(ha:DA K mg X ES (e::es) A)
 (hbase:attributeBase o name X.env (eval o X.env)=eval o X.env)
 (hfew:((backTo cpos (starEach (e::es) X.env)).all (λx=>!x.1)&&(backToKw cpos (keywordEach [] X.env)).all (λx=>x.1.isSome)
  && decide ((e::es).length+([]:List Keyword).length+(if ([]:List Keyword).isEmpty then 0 else 1)<30))=true)
 (hline:(apos.endLine==cpos.line)=true) (hs:starEach (e::es) X.env=(false,eval e X.env)::starEach es X.env) (j_:(backTo cpos (starEach es X.env)).any (·.1)=false):
 DE K mg X ES (.Call (.Attribute o name apos) (e::es) [] cpos) (eM g F A):=by
 subst hK;refine PE.imp (EJ PySem.F.plainAttrs_list slot hty hm ho ha hbase hfew hline hs j_) λσ H Q q_=>q_.el λρ h ae w re p=>⟨ρ,h,ae,w,re,p.bind.imp λdx h1 ρ1 H1 l1 w1 p1 x rx=>?_⟩;split at p1
 .rename_i hl;exact⟨ue w1 rx hl,ρ1,h1,ae,w1,re.mono l1,p1.bind.imp λds h2 ρ2 H2 l2 w2 p2 vs rs=>hd ρ2 h2 H2 dx ds x vs Q _ w2 (rx.mono l2) rs p2⟩
 .exact p1.elim
end
noncomputable def jl(h:AH)(d:D)(f:Nat->List D->R D):R D:=match d with
 |.ref n=>match h[n]? with
  |some (.lst xs)=>f n xs
  |_=>.stuck
 |_=>.stuck
def g8:D->List D->AH->R D:=λx ds h=>jl h x λn xs=>match ds with
 | [d]=>if xs.length<16777216 then .ok .non (h.set n (.lst (xs++[d]))) else .stuck
 |_=>.stuck
section
variable{K:W.Frag}{mg:Jo}{ρ:List Addr}{H:Hp}{h:AH}
def sG(w:Wd K mg ρ h H)(r:RelD K mg ρ H d v)(p:bY K mg ρ H Q E (jl h d f)):
 ∃n xs a vs,d=.ref n/\h[n]?=some (.lst xs)/\ρ[n]?=some a/\v=.ref a/\H a=some (.lst vs)/\RelDs K mg ρ H xs vs/\bY K mg ρ H Q E (f n xs):=by
 unfold jl at p;split at p
 .cases r with
  |
   ref ea=>
   split at p
   .rename_i n xs e;obtain⟨vs,h1,h2⟩:=w.ob _ _ _ ea e;exact⟨_,_,_,vs,rfl,e,ea,rfl,h1,h2,p⟩
   .exact p.elim
 .exact p.elim
def va(w:Wd K mg ρ h H)(ea:ρ[n]?=some a)(e:H a=some (.lst vs))(rs:RelDs K mg ρ H ys ws)(rd:RelD K mg ρ H d v)(p:bY K mg ρ H Q E (.ok d (h.set n (.lst ys)))):Q v (upd H a (.lst ws)):=by have l:Le ρ H ρ (upd H a (.lst ws)):=hZ e lW;exact p ρ _ l (w.write ea e lW ⟨ws,aP,rs.mono l⟩) v (rd.mono l)
def sm:MtD K mg kf g8:=λρ h H dx ds x vs Q E w rx rs p=>by
 obtain⟨n,xs,a,us,rfl,e,ea,rfl,h1,h2,p⟩:=sG w rx p;split at p
 .cases rs with
  |
   cons r rs=>
   cases rs;split at p
   .rename_i hl;exact⟨a,us,_,rfl,rfl,h1,by rw[<- h2.len];exact hl,va w ea h1 (h2.append (.cons r .nil)) .non p⟩
   .exact p.elim
 .exact p.elim
end
noncomputable def wL(o i v:D)(h:AH):R Unit:=match o,i with
 |.ref n,.int k=>match h[n]? with
  |some (.lst xs)=>match ixN xs.length k with
   |some j=>.ok () (h.set n (.lst (xs.set j v)))
   |none=>.stuck
  |_=>.stuck
 |_,_=>.stuck
section
variable{K:W.Frag}{mg:Jo}{X:Cx}{ES:St->XK}{o i:Expr}{F G:ME}{pos:Pos}
def yF:kD K mg pY wL:=λρ h H do_ di dv o i v Q E w ro ri rv p=>by
 unfold wL at p;split at p
 .cases
   ro with
  |
   ref ea=>
   cases ri;split at p
   .rename_i n k xs e;split at p
    .rename_i j ej;obtain⟨vs,h1,h2⟩:=w.ob _ _ _ ea e;have l:Le ρ H ρ (upd H _ (.lst (vs.set j v))):=hZ h1 lW;exact⟨_,vs,_,j,rfl,rfl,h1,by rw[<- h2.len];exact ej,p ρ _ l (w.write ea h1 lW ⟨_,aP,(h2.set rv j).mono l⟩)⟩
    .exact p.elim
   .exact p.elim
 .exact p.elim
def Cy(ho:DE K mg X ES o F)(hi:DE K mg X ES i G)(hs:mz X t)(hd:kD K mg t f)
 (ha:∀v,assign (.Subscript o i pos) X.env v=(do
  let ov <- holding [v] (eval o X.env)
  let iv <- holding [v,ov] (eval i X.env)
  standAt pos
  holding [v,ov,iv] (setItem ov iv v)
  release [v,ov,iv] [])):DG K mg X ES (.Subscript o i pos) (gS F G f):=
 PG.imp (DL ho hi hs ha) λv σ H Q q_=>q_.el λρ h ae d w re rd p=>
  ⟨ρ,h,ae,w,re,p.bind.imp λdo_ h1 ρ1 H1 l1 w1 p1 o' ro=>⟨ρ1,h1,ae,w1,re.mono l1,p1.bind.imp λdi h2 ρ2 H2 l2 w2 p2 i' ri=>
   hd ρ2 h2 H2 do_ di d o' i' v _ _ w2 (ro.mono l2) ri ((rd.mono l1).mono l2) (p2.bind.imp λ_ h3 ρ3 H3 l3 w3 p3=>p3 ρ3 H3 Le.refl w3 σ (((re.mono l1).mono l2).mono l3))⟩⟩
end
noncomputable def cutD(xs:List D)(lo hi:Option Int):List D:=(xs.drop (HT.sIx xs.length 0 lo)).take (HT.sIx xs.length xs.length hi-HT.sIx xs.length 0 lo)
abbrev MO:=AE->AH->R (Option Int)
noncomputable def pZ:MO:=λ_ h=>.ok none h
noncomputable def qh(F:ME):MO:=λae h=>(F ae h).bind λd h1=>match d with
 |.int i=>.ok (some i) h1
 |_=>.stuck
noncomputable def gSl(x:D)(lo hi:Option Int)(h:AH):R D:=match x with
 |.tup xs=>if HT.sIx xs.length 0 lo=0/\HT.sIx xs.length xs.length hi=xs.length then .stuck else .ok (.tup (cutD xs lo hi)) h
 |.ref n=>match aJ h n with
  |some xs=>.ok (.ref h.length) (h++[.lst (cutD xs lo hi)])
  |none=>.stuck
 |.kl xs=>.ok (.ref h.length) (h++[.lst (cutD xs lo hi)])
 |_=>.stuck
noncomputable def eSl(F:ME)(L U:MO):ME:=λae h=>(F ae h).bind λx h1=>(L ae h1).bind λlo h2=>(U ae h2).bind λhi h3=>gSl x lo hi h3
section
variable{K:W.Frag}{mg:Jo}{X:Cx}{ES:St->XK}{e:Expr}{F:ME}{L U:MO}{lo hi:Option Expr}{pos p2:Pos}
def rdO(K:W.Frag)(mg:Jo)(ES:St->XK)(F:MO):TO:=λσ H Q=>∃ρ h ae,Wd K mg ρ h H/\RelE K mg ρ H ae σ/\PostG K mg ρ H (ES σ) (λo _ ρ' H'=>Q o H') (F ae h)
def DO(K:W.Frag)(mg:Jo)(X:Cx)(ES:St->XK)(e:Option Expr)(F:MO):Prop:=PO X e (rdO K mg ES F)
def zZ:DO K mg X ES none pZ:=PO.imp yd λσ H Q ⟨ρ,h,ae,w,re,p⟩=>p ρ H Le.refl w
def yL(he:DE K mg X ES e F):DO K mg X ES (some e) (qh F):=PO.imp (zL he) λσ H Q ⟨ρ,h,ae,w,re,p⟩=>⟨ρ,h,ae,w,re,p.bind.imp λd h1 ρ1 H1 l1 w1 p1 v rv=>by
 split at p1
 .cases rv;exact⟨_,rfl,p1 ρ1 H1 Le.refl w1⟩
 .exact p1.elim⟩
def kq(r:RelDs K mg ρ H xs vs)(lo hi:Option Int):RelDs K mg ρ H (cutD xs lo hi) (gB vs lo hi):=by unfold cutD gB;rw[<- r.len];exact (r.drop _).take _
def slK(h:X.K=K):SlR X (λx lo hi H Q=>rSlL K x lo hi H Q\/rSlT K x lo hi H Q):=by subst h;exact Ad.or Bp
def vt(hK:X.K=K)(he:DE K mg X ES e F)(hl:DO K mg X ES lo L)(hu:DO K mg X ES hi U):DE K mg X ES (.Subscript e (.Slice lo hi none p2) pos) (eSl F L U):=
 PE.imp (
  vV (slK hK) he hl hu) λσ H Q q_=>q_.el λρ h ae w re p=>⟨ρ,h,ae,w,re,p.bind.imp λd h1 ρ1 H1 l1 w1 p1 x rx=>⟨ρ1,h1,ae,w1,re.mono l1,p1.bind.imp λlo h2 ρ2 H2 l2 w2 p2=>⟨ρ2,h2,ae,w2,(re.mono l1).mono l2,p2.bind.imp λhi h3 ρ3 H3 l3 w3 p3=>by
  have rx3:=(rx.mono l2).mono l3;unfold gSl at p3;split at p3
  .split at p3
   .exact p3.elim
   .rename_i hn;cases rx3 with
    |tup q rs=>exact .inr ⟨_,_,rfl,q,by rw[<- rs.len];exact hn,λl hl=>iE w3 (kq rs lo hi) hl p3⟩
  .split at p3
   .rename_i xs e1;cases rx3 with
    |ref ea=>obtain⟨vs,q,rs⟩:=bq w3 ea e1;exact .inl ⟨_,_,rfl,q,λl hl=>cP w3 (kq rs lo hi) hl p3⟩
   .exact p3.elim
  .cases rx3 with
   |kl q rs=>exact .inl ⟨_,_,rfl,.inr q,λl hl=>cP w3 (kq rs lo hi) hl p3⟩
  .exact p3.elim⟩⟩⟩
end
structure Script(h:AH)(d:D)(ns:List Int):Prop where
 form:(∃n,d=.ref n/\h[n]?=some (.fz (ns.map D.int)))\/d=.kl (ns.map D.int)
theorem fO{K:W.Frag}{mg:Jo}{ρ:List Addr}{H:Hp}:∀(ns:List Int),RelDs K mg ρ H (ns.map D.int) (ns.map V.int)
 | []=>.nil
 |_::r=>.cons (.int _) (fO r)
noncomputable def pR:D->D->AH->R D:=gOr (gI λi j=>.int (i+j)) iJ
noncomputable def vd:D->D->AH->R D:=gI λi j=>.int (i-j)
def CMulA(i j:Int):Prop:=xa i j\/CMul i j
def uZ:D->D->AH->R D:=gIc CMulA λi j=>.int (i*j)
def vb:D->D->AH->R D:=gIc CDivB λi j=>.int (i.fdiv j)
def vY:D->D->AH->R D:=gIc (λ_ j=>j≠0) λi j=>.int (i.fmod j)
def vX:D->D->AH->R D:=gIc j5 λi j=>.int (i^j.toNat)
noncomputable def gLt:D->D->AH->R D:=gI λi j=>.bl (decide (i<j))
noncomputable def gGt:D->D->AH->R D:=gI λi j=>.bl (decide (j<i))
noncomputable def gGe:D->D->AH->R D:=gI λi j=>.bl (decide (j<=i))
noncomputable def pK:D->AH->R D:=λx h=>match x with
 |.int i=>.ok (.int (-i)) h
 |_=>.stuck
noncomputable def qy(n:Nat)(S:Fn)(A:MA):ME:=eFn (λds h=>if ds.length=n then S ds h else .stuck) A
section
variable{K:W.Frag}{mg:Jo}{X:Cx}
def BU(h:X.K=K):OpR X (binaryOp .Add) (λx y H Q=>rI0 (λi j=>.int (i+j)) x y H Q\/(jV x y H Q\/(hE K x y H Q\/gQ K x y H Q))):=A1.or (catK h)
def Eb:OpD K mg (λx y H Q=>rI0 (λi j=>.int (i+j)) x y H Q\/(jV x y H Q\/(hE K x y H Q\/gQ K x y H Q))) pR:=(gy λ_ _ _ _=>.int _).or yc
def Cr:OpD K mg (rI0 λi j=>.int (i-j)) vd:=gy λ_ _ _ _=>.int _
def Eh:OpR X (binaryOp .Mult) (rI CMulA λi j=>.int (i*j)):=by
 intro pins s σ H x y v u Q I rx ry h;obtain⟨i,j,e1,e2,hc,q⟩:=h;rcases hc with hc |hc
 .exact yx pins s σ H x y v u Q I rx ry ⟨i,j,e1,e2,hc,q⟩
 .exact Bs pins s σ H x y v u Q I rx ry ⟨i,j,e1,e2,hc,q⟩
def Bk:OpD K mg (rI CMulA λi j=>.int (i*j)) uZ:=lQ λ_ _ _ _=>.int _
def Dc:OpD K mg (rI CDivB λi j=>.int (i.fdiv j)) vb:=lQ λ_ _ _ _=>.int _
def C5:OpD K mg (rI (λ_ j=>j≠0) λi j=>.int (i.fmod j)) vY:=lQ λ_ _ _ _=>.int _
def Du:OpD K mg (rI j5 λi j=>.int (i^j.toNat)) vX:=lQ λ_ _ _ _=>.int _
def FL:OpD K mg (rI0 λi j=>.bl (decide (i<j))) gLt:=gy λ_ _ _ _=>.bl _
def EH:OpD K mg (rI0 λi j=>.bl (decide (j<i))) gGt:=gy λ_ _ _ _=>.bl _
def Gg:OpD K mg (rI0 λi j=>.bl (decide (j<=i))) gGe:=gy λ_ _ _ _=>.bl _
def Cu:UnD K mg (rU λi=>.int (-i)) pK:=λρ h H dx x Q E w rx p=>by
 unfold pK at p;split at p
 .cases rx;exact⟨_,rfl,ax w (.int _) p⟩
 .exact p.elim
variable{ES:St->XK}{e:Expr}{es:List Expr}{A:MA}{pos:Pos}
def wB(C:Callee X.prog X.w X.K X.mg X.base x k ps (spD K mg n S))(hr:Room k X.A)(hg:Gl X x)(hx:g0 X ES)(ha:DA K mg X ES (e::es) A)
 (hdb:(x==("__debug__" : Str))=false) (he:starEach (e::es) X.env=(false,eval e X.env)::starEach es X.env) (hpl:(backTo pos (starEach es X.env)).any (·.1)=false):
 DE K mg X ES (.Call (.Name x p) (e::es) [] pos) (qy n S A):=yY C hr hg hx ha hdb he hpl
end
section
variable{h:AH}
@[simp] theorem dO(a:α)(h:AH)(f:α->AH->R β):(R.ok a h).bind f=f a h:=rfl
end
def kQ(h1:pd.canLay0=true)(h2:pd.depth<=160):shp pd=true:=by unfold shp;rw[h1,Hf h2];rfl
def Sm(n:Nat)(x:Int):Prop:=x.natAbs<2^n
def Sm.mono(h:Sm n x)(l:n<=m):Sm m x:=E_ h (Nat.pow_le_pow_right (by omega) l)
def Sm.mul(h:Sm n x)(k:Sm m y):Sm (n+m) (x*y):=by unfold Sm at *;rw[H0,Nat.pow_add];exact Nat.mul_lt_mul'' h k
def Sm.add'(h:Sm n x)(k:Sm n y):Sm (n+1) (x+y):=by
 unfold Sm at *;have h3:2^(n+1)=2^n+2^n:=by rw[Nat.pow_succ];omega
 have h4:(x+y).natAbs<=x.natAbs+y.natAbs:=Int.natAbs_add_le x y;omega
def Sm.bits(h:Sm n x):Builtin.Int.intBits x<=n:=intBits_le_iff.mpr h
def Sm.of_le(h:Sm n y)(l:x.natAbs<=y.natAbs):Sm n x:=Nat.lt_of_le_of_lt l h
def CMulA.of(h:Sm n x)(k:Sm m y)(hn:n<=100000)(hm:m<=100000):CMulA x y:=.inl ⟨G6 h.bits hn,G6 k.bits hm⟩
def CMulA.left(h:-(2^64)<x)(k:x<2^64):CMulA x y:=.inr (.inl ⟨h,k⟩)
def CMulA.right(h:-(2^64)<y)(k:y<2^64):CMulA x y:=.inr (.inr ⟨h,k⟩)
def CDivB.of(h0:y≠0)(h:Sm 8000 y):CDivB x y:=⟨h0,h.bits⟩
structure Sz(n:Nat)(q:Rat):Prop where
 top:Sm n q.num
 bot:Sm n (q.den:Int)
def Sz.mono(h:Sz n q)(l:n<=m):Sz m q:=⟨h.top.mono l,h.bot.mono l⟩
def sN{a b:Int}(hb:b≠0):((a:Rat)/(b:Rat)).num*b=a*((a:Rat)/(b:Rat)).den:=by
 have h2:=Rat.num_divInt_den ((a:Rat)/(b:Rat));have h3:Rat.divInt ((a:Rat)/(b:Rat)).num (((a:Rat)/(b:Rat)).den:Int)=Rat.divInt a b:=by rw[h2,Rat.divInt_eq_div]
 exact (Rat.divInt_eq_divInt_iff (by have:=((a:Rat)/(b:Rat)).den_nz;omega) hb).mp h3
def oP(q:Rat):Int.gcd q.num q.den=1:=by
 have:=q.reduced
 exact this
def ji(hb:b≠0):Fr.T a b=((a:Rat)/(b:Rat)).num/\Fr.B a b=(((a:Rat)/(b:Rat)).den:Int):=by
 refine Fr.uniq (Fr.B_pos hb) (by have:=((a:Rat)/(b:Rat)).den_pos;omega) (Fr.low hb) (oP _) ?_;have h1:=Fr.cross (a:=a) hb;have h2:=sN (a:=a) hb;generalize ((a:Rat)/(b:Rat)).num=n at *;generalize (((a:Rat)/(b:Rat)).den:Int)=d at *;generalize Fr.T a b=x at *;generalize Fr.B a b=y at *;have h3:(x*d)*b=(n*y)*b:=by
  calc x*d*b=(x*b)*d:=by rw[IJ]
   _=a*y*d:=by rw[h1]
   _=(a*d)*y:=by rw[IJ]
   _=n*b*y:=by rw[h2]
   _=n*y*b:=by rw[IJ]
 exact Iv hb h3
def qS{a b:Int}(hb:b≠0):((a:Rat)/(b:Rat)).num.natAbs<=a.natAbs:=by
 have h:=(ji (a:=a) hb).1;rw[<- h];have h1:=Fr.T_mul (a:=a) hb;have h2:=Fr.dv_ne (a:=a) hb;have h3:(Fr.T a b).natAbs*(Fr.dv a b).natAbs=a.natAbs:=by rw[<- H0,h1]
 have h4:1<=(Fr.dv a b).natAbs:=by omega
 calc (Fr.T a b).natAbs=(Fr.T a b).natAbs*1:=by omega
  _<=(Fr.T a b).natAbs*(Fr.dv a b).natAbs:=Nat.mul_le_mul_left _ h4
  _=a.natAbs:=h3
def p9{a b:Int}(hb:b≠0):((((a:Rat)/(b:Rat)).den:Int)).natAbs<=b.natAbs:=by
 have h:=(ji (a:=a) hb).2;rw[<- h];have h1:=Fr.B_mul (a:=a) hb;have h2:=Fr.dv_ne (a:=a) hb;have h3:(Fr.B a b).natAbs*(Fr.dv a b).natAbs=b.natAbs:=by rw[<- H0,h1]
 have h4:1<=(Fr.dv a b).natAbs:=by omega
 calc (Fr.B a b).natAbs=(Fr.B a b).natAbs*1:=by omega
  _<=(Fr.B a b).natAbs*(Fr.dv a b).natAbs:=Nat.mul_le_mul_left _ h4
  _=b.natAbs:=h3
def Sz.div(hb:b≠0)(ha:Sm n a)(hb':Sm m b)(k:Nat)(h1:n<=k)(h2:m<=k):Sz k ((a:Rat)/(b:Rat)):=
 ⟨(ha.of_le (qS hb)).mono h1,(hb'.of_le (p9 hb)).mono h2⟩
def bZ(q:Rat):(q.den:Int)≠0:=by have:=q.den_nz;omega
def dN(q:Rat):q=(q.num:Rat)/((q.den:Int):Rat):=by
 have:=Rat.num_divInt_den q
 rw[Rat.divInt_eq_div] at this;exact this.symm
def jD{b:Int}(h:b≠0):(b:Rat)≠0:=by intro z;exact h (by exact_mod_cast z)
def jY(p q:Rat):p+q=((p.num*q.den+q.num*p.den:Int):Rat)/((p.den*q.den:Int):Rat):=by
 have h1:=jD (bZ p);have h2:=jD (bZ q)
 conv=>lhs;rw[dN p,dN q]
 simp only[Rat.intCast_add,Rat.intCast_mul];grind
def ki(p q:Rat):p*q=((p.num*q.num:Int):Rat)/((p.den*q.den:Int):Rat):=by
 have h1:=jD (bZ p);have h2:=jD (bZ q)
 conv=>lhs;rw[dN p,dN q]
 simp only[Rat.intCast_mul];grind
def Sz.add(hp:Sz n p)(hq:Sz m q):Sz (n+m+1) (p+q):=by rw[jY];have h1:=(hp.top.mul hq.bot);have h2:=(hq.top.mul hp.bot);exact Sz.div (by have:=bZ p;have:=bZ q;exact ID ‹_› ‹_›) (h1.add' (by rw[Nat.add_comm n m];exact h2)) (hp.bot.mul hq.bot) _ (by omega) (by omega)
def Sz.mul(hp:Sz n p)(hq:Sz m q):Sz (n+m) (p*q):=by rw[ki];exact Sz.div (by have:=bZ p;have:=bZ q;exact ID ‹_› ‹_›) (hp.top.mul hq.top) (hp.bot.mul hq.bot) _ (by omega) (by omega)
def Ah{q:Rat}:0<q.num ↔ 0<q:=by
 have h1:=Rat.num_nonneg (q:=q);have h2:=Rat.num_eq_zero (q:=q);constructor
 .intro h;refine Rat.lt_of_le_of_ne (h1.mp (by omega)) λz=>?_
  have:=h2.mpr z.symm
  omega
 .intro h;have h3:=h1.mpr (Rat.le_of_lt h);have h4:q.num≠0:=λz=>(Rat.ne_of_lt h) (h2.mp z).symm;omega
def sx(p q:Rat):p<q ↔ p.num*q.den<q.num*p.den:=Rat.lt_iff p q
def C6{K:W.Frag}{h:Heap}{mg:Jo}{x:Str}{a:Addr}{dd:Option Addr}{its:Array Value}{n:Nat}{sl:Array (Option Value)}{vs:List V}{ds:List D}(X:K.In h)(G:h.Ns mainGlobals mg)(e:W.nsIn K mainGlobals x=some (some (.ref a)))
 (l:K.lookup a=some ⟨.type "tuple",dd,.seq its n,sl⟩) (hs:its.size<=sizeLine) (hv:Vals vs its.toList) (hr:∀ρ H,RelDs K mg ρ H ds vs):GC K mg x (.tup ds):=
 ⟨_,.ref a,W.mg_of X G e,rfl,λρ H=>.tup (.inr ⟨_,its,n,l,rfl,rfl,hs,hv⟩) (hr ρ H)⟩
def vo{P:Program}{w:World}{H:Hp}(h:Heap)(hb:sysModules<h.objs.size):ObjOk P w H (h.push { cls:=.type "dict",data:=.dict #[] }) h.objs.size (.dK []):=
 ⟨Ho _,Hm.mpr (Ne.symm (Hi hb)),[],.nil,Heap.DictOf.new h⟩
def Inv.big{X:Cx}{pins:Jp}{σ:St}{H:Hp}{s:Shared}(I:Inv X pins σ H s):sysModules<s.heap.objs.size:=by have h:mainGlobals<s.heap.objs.size:=(I.mod.glob.keeps I.bk).lt;exact Jh (by decide) h
variable{K:W.Frag}{mg:Jo}
section
variable{κ:Type}[DecidableEq κ]
noncomputable def cI(kvs:List (κ×V))(k:κ):Option V:=(kvs.find? λkv=>decide (kv.1=k)).map (·.2)
noncomputable def bD(kvs:List (κ×V))(k:κ)(v:V):List (κ×V):=
 if (kvs.any λkv=>decide (kv.1=k))=true then kvs.map (λkv=>if kv.1=k then (kv.1,v) else kv) else kvs++[(k,v)]
def i6{p:κ×V}{r:List (κ×V)}{k:κ}(e:p.1=k):cI (p::r) k=some p.2:=by simp [cI,HN,e]
def i5{p:κ×V}{r:List (κ×V)}{k:κ}(e:¬ p.1=k):cI (p::r) k=cI r k:=by simp [cI,HN,e]
theorem iV(k:κ):∀kvs:List (κ×V),(kvs.any λkv=>decide (kv.1=k))=(cI kvs k).isSome
 | []=>rfl
 |
  p::r=>by
  rw[IZ];by_cases e:p.1=k
  .simp only[i6 e,Hf e,Bool.true_or,Option.isSome_some]
  .rw[i5 e,He e,Bool.false_or];exact iV k r
def eT(kvs:List (κ×V))(k:κ)(v:V):(bD kvs k v).length<=kvs.length+1:=by
 unfold bD;split
 .rw[v_];omega
 .rw[G8,Hr,HV];omega
def ur{kvs:List (κ×V)}{k:κ}(v:V)(h:cI kvs k=none):bD kvs k v=kvs++[(k,v)]:=by unfold bD;rw[iV,h];exact if_neg (by decide)
def RelO.isSome_eq(r:RelO o u):o.isSome=u.isSome:=by
 cases o with
 |none=>cases u with
  |none=>rfl
  |some _=>exact (show False from r).elim
 |some _=>cases u with
  |none=>exact (show False from r).elim
  |some _=>rfl
def KV.val(r:KV kvs vs)(k:κ):RelO (cI kvs k) (valueAt vs k):=by
 unfold KV at r;induction r with
 |nil=>exact True.intro
 |
  @cons p q ps qs h t ih=>
  obtain⟨h1,h2⟩:=h;by_cases e:p.1=k
  .have e':q.1=k:=h1.symm.trans e;have b:valueAt (q::qs) k=some q.2:=by simp [valueAt,HN,e']
   rw[i6 e,b];exact h2
  .have e':¬ q.1=k:=λz=>e (h1.trans z);have b:valueAt (q::qs) k=valueAt qs k:=by simp [valueAt,HN,e']
   rw[i5 e,b];exact ih
def KV.any(r:KV kvs vs)(k:κ):(kvs.any λkv=>decide (kv.1=k))=vs.any λkv=>decide (kv.1=k):=by
 unfold KV at r;induction r with
 |nil=>rfl
 |cons h t ih=>rw[IZ,IZ,ih,h.1]
def KV.repl(r:KV kvs vs)(k:κ)(ry:RelV y u):
 KV (kvs.map λkv=>if kv.1=k then (kv.1,y) else kv) (vs.map λkv=>if kv.1=k then (kv.1,u) else kv):=by
 unfold KV at r ⊢;induction r with
 |nil=>exact .nil
 |
  @cons p q ps qs h t ih=>
  rw[D_,D_];refine .cons ?_ ih;obtain⟨h1,h2⟩:=h;by_cases e:p.1=k
  .rw[if_pos e,if_pos (h1.symm.trans e)];exact⟨h1,ry⟩
  .rw[if_neg e,if_neg (λz=>e (h1.trans z))];exact⟨h1,h2⟩
def KV.put(r:KV kvs vs)(k:κ)(ry:RelV y u):KV (bD kvs k y) (stored vs k u):=by
 unfold bD stored;rw[r.any k];by_cases e:(vs.any λkv=>decide (kv.1=k))=true
 .rw[if_pos e,if_pos e];exact r.repl k ry
 .rw[if_neg e,if_neg e];exact Paired.snoc r ⟨rfl,ry⟩
def KV.length(r:KV kvs vs):kvs.length=vs.length:=Paired.length r
end
def lN(r:RelV (kV k) u):(a8 P w).is k u=true:=by
 cases k with
 |inl i=>obtain⟨t,e⟩:=(show ∃t,u=Value.int i t from r);subst e;exact oo P w i t
 |inr x=>obtain⟨t,e⟩:=(show ∃t,u=Value.str x t from r);subst e;exact oq P w x t
theorem lB:∀{ks:List Key}{us:List Value},Vals (ks.map kV) us->ItemsAre (a8 P w) ks us
 | [],_,r=>by rw[IK] at r;cases r;exact .nil
 |
  k::ks,_,r=>by
  rw[D_] at r;cases r with
  |cons h t=>exact .cons (lN h) (lB t)
abbrev KT(H:Hp):List (List Key×V)->List (List Key×Addr×Value)->Prop:=Paired λp q=>p.1=q.1/\H q.2.1=some (.tup (p.1.map kV))/\RelV p.2 q.2.2
def KT.val(r:KT H kvs xs)(k:List Key):RelO (cI kvs k) ((atKey xs k).map (·.2)):=by
 induction r with
 |nil=>exact True.intro
 |
  @cons p q ps qs h t ih=>
  obtain⟨h1,_,h2⟩:=h;by_cases e:p.1=k
  .have e':q.1=k:=h1.symm.trans e;have b:atKey (q::qs) k=some q.2:=by simp [atKey,HN,e']
   rw[i6 e,b];exact h2
  .have e':¬ q.1=k:=λz=>e (h1.trans z);have b:atKey (q::qs) k=atKey qs k:=by simp [atKey,HN,e']
   rw[i5 e,b];exact ih
def KT.repl(r:KT H kvs xs)(k:List Key)(ry:RelV y u):
 KT H (kvs.map λkv=>if kv.1=k then (kv.1,y) else kv) (xs.map (putAt k u)):=by
 induction r with
 |nil=>exact .nil
 |
  @cons p q ps qs h t ih=>
  rw[D_,D_];refine .cons ?_ ih;obtain⟨h1,h2,h3⟩:=h;unfold putAt;by_cases e:p.1=k
  .rw[if_pos e,if_pos (h1.symm.trans e)];exact⟨h1,h2,ry⟩
  .rw[if_neg e,if_neg (λz=>e (h1.trans z))];exact⟨h1,h2,h3⟩
def KT.put(r:KT H kvs xs)(k:List Key)(hb:H b=some (.tup (k.map kV)))(ry:RelV y u):
 KT H (bD kvs k y) (storedH xs k b u):=by
 have e:(kvs.any λkv=>decide (kv.1=k))=(atKey xs k).isSome:=by rw[iV,(r.val k).isSome_eq,Option.isSome_map]
 unfold bD storedH;rw[e];by_cases q:(atKey xs k).isSome=true
 .rw[if_pos q,if_pos q];exact r.repl k ry
 .rw[if_neg q,if_neg q];exact Paired.snoc r ⟨rfl,hb,ry⟩
def KT.keeps(r:KT H kvs xs)(ht:∀b ys,H b=some (.tup ys)->H' b=some (.tup ys)):KT H' kvs xs:=
 Paired.mapP r λ_ _ z=>⟨z.1,ht _ _ z.2.1,z.2.2⟩
section
variable{P:Program}{w:World}{H:Hp}{h:Heap}{a:Addr}
def wW(ok:HOk P w H h)(e:Rd H a u):ObjOk P w H h a u:=e.ok ok
def rH(ok:HOk P w H h)(e:Rd H a (.dK kvs)):kvs.length<=sizeLine/\(a==sysModules)=false/\∃vs,KV kvs vs/\h.DictOf (a8 P w) a vs:=
 show ObjOk P w H h a (.dK kvs) from wW ok e
def wZ(ok:HOk P w H h)(e:H a=some (.dK kvs)):kvs.length<=sizeLine/\(a==sysModules)=false/\∃vs,KV kvs vs/\h.DictOf (a8 P w) a vs:=rH ok (.inl e)
def nT(ok:HOk P w H h)(e:H a=some (.tup (ks.map kV))):(tupleKind (a8 P w)).is h ks a:=by obtain⟨_,its,r,o,h1,h2,n,h3⟩:=(show ObjOk P w H h a (.tup (ks.map kV)) from ok a _ e);exact⟨o,its.toArray,n,h1,h2,h3,by simpa using lB r⟩
def qu(ok:HOk P w H h)(e:Rd H a (.dT kvs)):kvs.length<=sizeLine/\(a==sysModules)=false/\
 ∃xs,KT H kvs xs/\h.DictOfH (tupleKind (a8 P w)) a xs:=by
 obtain⟨z,y,xs,r,o,es,ep,h1,h2,h3,h4,h5⟩:=(show ObjOk P w H h a (.dT kvs) from wW ok e);refine⟨z,y,xs,r,o,es,ep,h1,h2,h3,h4,λx hx=>?_,h5⟩;have all:∀{l:List (List Key×V)}{m:List (List Key×Addr×Value)},KT H l m->∀x∈m,(tupleKind (a8 P w)).is h x.1 x.2.1:=by
  intro l m q;induction q with
  |nil=>intro x hx;exact nomatch hx
  |
   @cons p q ps qs hq t ih=>
   intro x hx;rcases Hv.mp hx with e |hx
   .subst e;exact nT ok (by rw[<- hq.1];exact hq.2.1)
   .exact ih x hx
 exact all r x hx
def E7(ok:HOk P w H h)(e:H a=some (.dT kvs)):kvs.length<=sizeLine/\(a==sysModules)=false/\
 ∃xs,KT H kvs xs/\h.DictOfH (tupleKind (a8 P w)) a xs:=qu ok (.inl e)
end
def DGet(H:Hp)(a:Addr)(y:V)(r:Option V):Prop:=
 (∃kvs k,Rd H a (.dK kvs)/\y=kV k/\r=cI kvs k)\/∃kvs k b,Rd H a (.dT kvs)/\y=.ref b/\H b=some (.tup (k.map kV))/\r=cI kvs k
def DPut(H:Hp)(a:Addr)(y v:V)(H':Hp):Prop:=
 (∃kvs k,H a=some (.dK kvs)/\y=kV k/\kvs.length<sizeLine/\H'=upd H a (.dK (bD kvs k v)))\/
 ∃kvs k b,H a=some (.dT kvs)/\y=.ref b/\H b=some (.tup (k.map kV))/\kvs.length<sizeLine/\H'=upd H a (.dT (bD kvs k v))
def DGet.k{H:Hp}{a:Addr}{kvs:List (Key×V)}{k:Key}(e:H a=some (.dK kvs)):DGet H a (kV k) (cI kvs k):=.inl ⟨kvs,k,.inl e,rfl,rfl⟩
def DPut.k{H:Hp}{a:Addr}{kvs:List (Key×V)}{k:Key}{v:V}(e:H a=some (.dK kvs))(hl:kvs.length<sizeLine):DPut H a (kV k) v (upd H a (.dK (bD kvs k v))):=.inl ⟨kvs,k,e,rfl,hl,rfl⟩
section
variable{X:Cx}{pins:Jp}{σ:St}{H:Hp}{s:Shared}{a:Addr}{y v:V}{u r:Value}{o:Option V}{A:Around}{E:Jq}
def rQ(hu:A.units+1<cLine)(I:Inv X pins σ H s)(g:DGet H a y (some v))(ry:RelV y u)(h:∀w' s',Inv X pins σ H s'->RelV v w'->Q w' s'):
 wpAny (model X.prog X.w) A (getItem (.ref a) u) Q E s:=by
 rcases g with ⟨kvs,k,e,ey,l⟩ |⟨kvs,k,b,e,ey,eb,l⟩
 .subst ey;obtain⟨z,hd,vs,rel,dd⟩:=rH I.hok e;obtain⟨w',hw,rw'⟩:=RelO.some_of (v:=v) (o:=valueAt vs k) (by rw[l];exact rel.val k);exact wpAny_getItem_of (lN ry) dd.mapOf hw (h w' _ (I.tok _) rw')
 .subst ey;cases (show u=Value.ref b from ry);obtain⟨z,hd,xs,rel,dd⟩:=qu I.hok e;obtain⟨w',hw,rw'⟩:=RelO.some_of (v:=v) (o:=(atKey xs k).map (·.2)) (by rw[l];exact rel.val k);obtain⟨p,hp,hp2⟩:=G9.mp hw;refine wpAny_getItem_heap (tupleKind_room_in1 hu) (nT I.hok eb) dd hp ?_;rw[hp2];exact h w' _ (I.tok _) rw'
def j6(I:Inv X pins σ H s)(mu:Mut (H a))(hs:Heap.SameBut a s.heap h')(he:∃q,h'.get? a=some q)(new:ObjOk X.prog X.w (upd H a ob) h' a ob):
 Inv X pins σ (upd H a ob) { s with heap:=h',toks:=t' }:=
 I.write (x:=a) (e:=a) mu (.inl rfl) (λb q hb z=>(hs.2 b hb).trans z) he new
def sY(z:kvs.length<=sizeLine)(hd:(a==sysModules)=false)(rel:KV kvs vs)(dd:h'.DictOf (a8 P w) a vs):
 ObjOk P w H' h' a (.dK kvs):=⟨z,hd,vs,rel,dd⟩
def sX(hu:A.units+1<cLine)(I:Inv X pins σ H s)(g:DPut H a y v H')(ry:RelV y u)(rv:RelV v r)(h:∀s',Inv X pins σ H' s'->Q () s'):
 wpAny (model X.prog X.w) A (setItem (.ref a) u r) Q E s:=by
 rcases g with ⟨kvs,k,e,ey,l,eH⟩ |⟨kvs,k,b,e,ey,eb,l,eH⟩
 .subst ey eH;obtain⟨z,hd,vs,rel,dd⟩:=wZ I.hok e;have hz:vs.length<=sizeLine:=by rw[<- rel.length];exact z
  have hl:(bD kvs k v).length<=sizeLine:=by have:=eT kvs k v;omega
  refine wpAny_setItem_pairs (hsz:=hz) (lN ry) dd λh' dd' hs=>h _ ?_;have he:∃q,h'.get? a=some q:=let ⟨q,_,_,hq,_⟩:=dd';⟨q,hq⟩;exact j6 I (by rw[e];exact True.intro) hs he (sY hl hd (rel.put k rv) dd')
 .subst ey eH;cases (show u=Value.ref b from ry);obtain⟨z,hd,xs,rel,dd⟩:=E7 I.hok e;have hz:xs.length<=sizeLine:=by rw[<- Paired.length rel];exact z
  have hl:(bD kvs k v).length<=sizeLine:=by have:=eT kvs k v;omega
  refine wpAny_setItem_heap (hsz:=hz) (tupleKind_room_in1 hu) (nT I.hok eb) dd λh' dd' hs=>h _ ?_;obtain⟨q,es,ep,hq,h2,h3,h4,_,h5⟩:=dd';refine j6 I (by rw[e];exact True.intro) hs ⟨q,hq⟩ ⟨hl,hd,_,(rel.put k eb rv).keeps λc ys ec=>?_,q,es,ep,hq,h2,h3,h4,h5⟩;rw[au (FX ec e (λz=>nomatch z))];exact ec
end
def rp(i:Expr):Prop:=∀ov iv,subscripted i false ov iv=operate [ov,iv] (getItem ov iv)
def Ai{prog:Program}{w:World}{A:Around}{E:Jq}{s:Shared}{env:Env}{value m_:Expr}{pos:Pos}{T id:String}{Q:Jq}
 (hl:typeLookup (.type T) "__getitem__"=pure (some (.builtin id))) (hs:rp m_)
 (h:wpAny (model prog w) A (eval value env) (λo s₁=>wpAny (model prog w) A (eval m_ env) (λi s₂=>s₂.TypeIs o T/\wpAny (model prog w) A (getItem o i) Q E s₂) E s₁) E s):
 wpAny (model prog w) A (eval (.Subscript value m_ pos) env) Q E s:=by
 refine Subscript_ (Hq h (λo s₁ h₁=>Hq h₁ (λi s₂ h₂=>?_) λ_ _ x=>x) λ_ _ x=>x);obtain⟨hT,h₂⟩:=h₂;unfold subscriptTail;refine t_ ?_;rw[getitemInPython_of_ne hT.not_modules];refine t_ (wpAny_specialOf hT hl ?_);have g_:wpAny (model prog w) A (subscripted m_ false o i) (λr s₃=>wpAny (model prog w) A (letTemporaryGo value o r >>= λ_=>pure r) Q E s₃) E s₂:=by rw[hs o i];exact wpAny_operating (Hq h₂ (λr s₃ h₃=>t_ (wpAny_letTemporaryGo (Em h₃))) λ_ _ x=>x)
 first
  |exact Em (t_ g_)
  |exact t_ (Em (t_ g_))
  |exact t_ g_
def oA(I:Inv X pins σ H s)(g:DGet H a y o):s.TypeIs (.ref a) "dict":=by
 rcases g with ⟨kvs,k,e,_,_⟩ |⟨kvs,k,b,e,_,_,_⟩
 .obtain⟨_,_,vs,_,dd⟩:=rH I.hok e;exact dd.typeIs
 .obtain⟨_,_,xs,_,dd⟩:=qu I.hok e;exact dd.typeIs
def FT(td ty:TE):TE:=λσ H Q=>td σ H λx H1=>ty σ H1 λy H2=>∃a v,x=.ref a/\DGet H2 a y (some v)/\Q v H2
section
variable{X:Cx}{o i:Expr}{pos:Pos}{td ty:TE}
def yp(hu:X.A.units+1<cLine)(ho:PE X o td)(hi:PE X i ty)(hs:rp i):PE X (.Subscript o i pos) (FT td ty):=by intro pins s σ H Q I h;refine Ai PySem.F.slot_dict_getitem.lookup hs (thn (ho pins s σ H _ I h) λu s1 ⟨x,H1,I1,rx,q1⟩=>thn (hi pins s1 σ H1 _ I1 q1) λiv s2 ⟨y,H2,I2,ry,a,v,ex,g,q2⟩=>?_);subst ex;obtain rfl:u=Value.ref a:=rx;exact⟨oA I2 g,rQ hu I2 g ry λw' s3 I3 rw'=>⟨v,H2,I3,rw',q2⟩⟩
end
def jH:List (TE×TE)->St->Hp->(List (V×V)->Hp->Prop)->Prop
 | [],_,H,Q=>Q [] H
 |(tk,tv)::r,σ,H,Q=>tk σ H λx H1=>tv σ H1 λy H2=>jH r σ H2 λps H3=>Q ((x,y)::ps) H3
abbrev VV:List (V×V)->List (Value×Value)->Prop:=Paired λp q=>RelV p.1 q.1/\RelV p.2 q.2
def PPs(X:Cx)(pos:Pos)(keys:List (Option Expr))(values:List Expr)(trs:List (TE×TE)):Prop:=
 ∀
  (pins:Jp) (s:Shared) (σ:St) (H:Hp) (Q:List (V×V)->Hp->Prop),Inv X pins σ H s->jH trs σ H Q->
  wpAny (model X.prog X.w) X.A (evalPairs (pairTrees keys values X.env pos)) (λvs s'=>∃ps H',Inv X pins σ H' s'/\VV ps vs/\Q ps H') X.xe s
def yZ:PPs X pos [] [] []:=λpins s σ H Q I h=>pairTrees_nil_walk ⟨[],H,I,.nil,h⟩
def uO(hk:PE X k tk)(hv:PE X v tv)(hr:PPs X pos ks vs trs):
 PPs X pos (some k::ks) (v::vs) ((tk,tv)::trs):=λpins s σ H Q I h=>
 pairTrees_cons_walk (thn (hk pins s σ H _ I h) λu s1 ⟨x,H1,I1,rx,q1⟩=>thn (hv pins s1 σ H1 _ I1 q1) λw2 s2 ⟨y,H2,I2,ry,q2⟩=>
  thn (hr pins s2 σ H2 _ I2 q2) λws s3 ⟨ps,H3,I3,rel,q3⟩=>⟨(x,y)::ps,H3,I3,.cons ⟨rx,ry⟩ rel,q3⟩)
def ee(kvs more:List (Key×V)):List (Key×V):=more.foldl (λacc kv=>bD acc kv.1 kv.2) kvs
def KV.merge:∀{more:List (Key×V)}{rs:List (Key×Value)}{kvs:List (Key×V)}{vs:List (Key×Value)},KV more rs->KV kvs vs->KV (ee kvs more) (merged vs rs):=by
 intro more rs kvs vs r;unfold KV at r;induction r generalizing kvs vs with
 |nil=>intro q;exact q
 |
  @cons p q ps qs h t ih=>
  intro r0;have e:KV (bD kvs p.1 p.2) (stored vs q.1 q.2):=by
   have:=r0.put p.1 h.2
   rw[<- h.1];exact this
  exact ih e
theorem gj:∀(more kvs:List (Key×V)),(ee kvs more).length<=kvs.length+more.length
 | [],kvs=>by show kvs.length<=kvs.length+0;omega
 |
  p::r,kvs=>by
  have h1:=gj r (bD kvs p.1 p.2);have h2:=eT kvs p.1 p.2;show (ee (bD kvs p.1 p.2) r).length<=_;rw[Hr];omega
theorem jB:∀{kvs:List (Key×V)}{ws:List (Value×Value)},VV (kvs.map λkv=>(kV kv.1,kv.2)) ws->∃rs,Carries (a8 P w) ws rs/\KV kvs rs
 | [],_,r=>by rw[IK] at r;cases r;exact⟨[],True.intro,.nil⟩
 |
  p::kvs,_,r=>by
  rw[D_] at r;cases r with
  |@cons a b as bs h t=>obtain⟨rs,c,q⟩:=jB (P:=P) (w:=w) t;obtain⟨b1,b2⟩:=b;exact⟨(p.1,b2)::rs,⟨lN h.1,rfl,c⟩,.cons ⟨rfl,h.2⟩ q⟩
def Gy(trs:List (TE×TE)):TE:=λσ H Q=>∀p,H p=none->jH trs σ (upd H p (.dK [])) λps H2=>H2 p=some (.dK [])/\∃kvs:List (Key×V),ps=kvs.map (λkv=>(kV kv.1,kv.2))/\kvs.length<=15/\Q (.ref p) (upd H2 p (.dK (ee [] kvs)))
def yw(h:PPs X pos keys values trs)(hall:keys.all (·.isSome)=true)(hl:keys.length=values.length)(h0:keys≠[])
 (h15:keys.length<=15):PE X (.Dict keys values pos) (Gy trs):=by
 intro pins s σ H Q I q;have hn:=I.hok.fresh (y_ s.heap.objs.size);have I1:=I.laid (a:=s.heap.objs.size) (o:=.dK []) (h':=s.heap.push { cls:=.type "dict",data:=.dict #[] }) (t':=s.toks) (λ_ _ q=>w_ _ q) (y_ _) (vo s.heap I.big);refine wpAny_Dict_walk (knd:=a8 X.prog X.w) hall hl h0 h15 (thn (h pins _ σ _ _ I1 (q _ hn)) λws s2 ⟨ps,H2,I2,rel,e,kvs,ep,lk,q2⟩=>?_);subst ep;obtain⟨rs,c,rk⟩:=jB (P:=X.prog) (w:=X.w) rel;obtain⟨z,hd,vs0,r0,dd⟩:=wZ I2.hok e;cases r0;refine⟨rs,c,dd,λh' dd' hs=>⟨.ref s.heap.objs.size,_,?_,rfl,q2⟩⟩;have hz:(ee [] kvs).length<=sizeLine:=by have h1:=gj kvs [];rw[HV] at h1;rw[sizeLine_eq];omega
 have he:∃q,h'.get? s.heap.objs.size=some q:=let ⟨q,_,_,hq,_⟩:=dd';⟨q,hq⟩;exact j6 I2 (by rw[e];exact True.intro) hs he (sY hz hd (rk.merge .nil) dd')
section
variable[DecidableEq κ]
noncomputable def lkD(kvs:List (κ×α))(k:κ):Option α:=(kvs.find? λkv=>decide (kv.1=k)).map (·.2)
noncomputable def gc(kvs:List (κ×α))(k:κ)(v:α):List (κ×α):=if (kvs.any λkv=>decide (kv.1=k))=true then kvs.map λkv=>if kv.1=k then (kv.1,v) else kv else kvs++[(k,v)]
end
section
variable{K:W.Frag}{mg:Jo}{ρ:List Addr}{H:Hp}
def yt:∀{kvs:List (Key×D)}{ws:List (Key×V)},ws.map (·.1)=kvs.map (·.1)->RelDs K mg ρ H (kvs.map (·.2)) (ws.map (·.2))->lkD kvs k=some d->∃v,cI ws k=some v/\RelD K mg ρ H d v:=by
 intro kvs;induction kvs with
 |nil=>intro ws e r q;cases q
 |
  cons p kvs ih=>
  intro ws e r q;cases ws with
  |nil=>cases e
  |
   cons w ws=>
   obtain⟨k1,d1⟩:=p;obtain⟨k2,v2⟩:=w;rw[D_,D_] at e;injection e with e1 e2;dsimp only at e1;subst e1;cases r with
   |
    cons r rr=>
    unfold lkD at q;unfold cI;rw[HN] at q ⊢;dsimp only at q ⊢;by_cases hk:k2=k
    .rw[Hf hk] at q ⊢;cases q;exact⟨v2,rfl,r⟩
    .rw[He hk] at q ⊢;exact ih e2 rr q
def mP[DecidableEq κ]:∀{kvs:List (κ×α)}{ws:List (κ×β)},ws.map (·.1)=kvs.map (·.1)->(ws.any λkv=>decide (kv.1=k))=kvs.any λkv=>decide (kv.1=k):=by
 intro kvs;induction kvs with
 |
  nil=>
  intro ws e;cases ws with
  |nil=>rfl
  |cons _ _=>cases e
 |
  cons p kvs ih=>
  intro ws e;cases ws with
  |nil=>cases e
  |cons w ws=>rw[D_,D_] at e;injection e with e1 e2;rw[IZ,IZ,ih e2,e1]
def wg{k:Key}{d:D}{v:V}(rd:RelD K mg ρ H d v){kvs:List (Key×D)}{ws:List (Key×V)}(e:ws.map (·.1)=kvs.map (·.1))(r:RelDs K mg ρ H (kvs.map (·.2)) (ws.map (·.2))):(bD ws k v).map (·.1)=(gc kvs k d).map (·.1)/\RelDs K mg ρ H ((gc kvs k d).map (·.2)) ((bD ws k v).map (·.2)):=by
 unfold bD gc;rw[mP e];by_cases hc:(kvs.any λkv=>decide (kv.1=k))=true
 .rw[if_pos hc,if_pos hc];clear hc;induction kvs generalizing ws with
  |
   nil=>
   cases ws with
   |nil=>exact⟨rfl,.nil⟩
   |cons _ _=>cases e
  |
   cons p kvs ih=>
   cases ws with
   |nil=>cases e
   |
    cons w ws=>
    obtain⟨k1,d1⟩:=p;obtain⟨k2,v2⟩:=w;rw[D_,D_] at e;injection e with e1 e2;dsimp only at e1;subst e1;cases r with
    |
     cons r rr=>
     obtain⟨h1,h2⟩:=ih e2 rr;simp only[D_];by_cases hk:k2=k
     .rw[if_pos hk,if_pos hk];exact⟨by rw[h1],.cons rd h2⟩
     .rw[if_neg hk,if_neg hk];exact⟨by rw[h1],.cons r h2⟩
 .rw[if_neg hc,if_neg hc,Ic,Ic,Ic,Ic,e];exact⟨rfl,r.append (.cons rd .nil)⟩
def me:D->D->AH->R D:=λx y h=>match x with
 |.ref n=>(match y with
  |.str k=>(match h[n]? with
   |some (.dct kvs)=>(match lkD kvs (.inr k) with
    |some d=>.ok d h
    |none=>.stuck)
   |_=>.stuck)
  |_=>.stuck)
 |_=>.stuck
def wD(o i v:D)(h:AH):R Unit:=match o with
 |.ref n=>(match i with
  |.str k=>(match h[n]? with
   |some (.dct kvs)=>if kvs.length<16777216 then .ok () (h.set n (.dct (gc kvs (.inr k) v))) else .stuck
   |_=>.stuck)
  |_=>.stuck)
 |_=>.stuck
def rA:qG:=λo i v H Q=>∃a H4,o=.ref a/\DPut H a i v H4/\Q H4
variable{X:Cx}{ES:St->XK}{a b:Expr}{F G:ME}{pos:Pos}
def wI(hu:X.A.units+1<cLine):mz X rA:=λpins s σ H o i v ov iv u Q I ro ri rv ⟨a,H4,eo,g,q⟩=>by subst eo;obtain rfl:ov=Value.ref a:=ro;exact sX hu I g ri rv λs4 I4=>⟨H4,I4,q⟩
def zv:kD K mg rA wD:=λρ h H do_ di dv o i v Q E w ro ri rv p=>by
 unfold wD at p;split at p
 .split
   at p
  .split
    at p
   .rename_i n k _ kvs e;split at p
    .rename_i hl;cases ro with
     |
      ref ea=>
      cases ri;obtain⟨ws,h1,h2,h3⟩:=w.ob _ _ _ ea e;have hlen:ws.length=kvs.length:=by have:=HI List.length h2;simpa using this
      have l:Le ρ H ρ (upd H _ (.dK (bD ws (.inr k) v))):=hZ h1 pW;obtain⟨k1,k2⟩:=wg (k:=.inr k) rv h2 h3;exact⟨_,_,rfl,DPut.k (k:=.inr k) h1 (by rw[hlen];exact hl),p ρ _ l (w.write ea h1 pW ⟨_,aP,k1,k2.mono l⟩)⟩
    .exact p.elim
   .exact p.elim
  .exact p.elim
 .exact p.elim
def xX(hu:X.A.units+1<cLine)(ha:DE K mg X ES a F)(hb:DE K mg X ES b G)(hs:rp b):DE K mg X ES (.Subscript a b pos) (eOp me F G):=PE.imp (yp hu ha hb hs) λσ H Q q_=>q_.el λρ h ae w re p=>⟨ρ,h,ae,w,re,p.bind.imp λdx h1 ρ1 H1 l1 w1 p1 x rx=>⟨ρ1,h1,ae,w1,re.mono l1,p1.bind.imp λdy h2 ρ2 H2 l2 w2 p2 y ry=>by
 have rx2:=rx.mono l2;unfold me at p2;split at p2
 .split
   at p2
  .split
    at p2
   .rename_i n k _ kvs e;split at p2
    .rename_i d q;cases rx2 with
     |ref ea=>cases ry;obtain⟨ws,k1,k2,k3⟩:=w2.ob _ _ _ ea e;obtain⟨v,q1,rv⟩:=yt k2 k3 q;refine⟨_,v,rfl,?_,ax w2 rv p2⟩;rw[<- q1];exact DGet.k (k:=.inr k) k1
    .exact p2.elim
   .exact p2.elim
  .exact p2.elim
 .exact p2.elim⟩⟩
def jN(ks:List Str)(A:MA):ME:=λae h=>(A ae (h++[.dct []])).bind λds h2=>match h2[h.length]? with
 |some (.dct [])=>if ks.length=ds.length then .ok (.ref h.length) (h2.set h.length (.dct ((ks.map Sum.inr).zip ds))) else .stuck
 |_=>.stuck
def aL:List (Str×ME)->MA
 | []=>j8
 |p::r=>g6 p.2 (aL r)
def tps(K:W.Frag)(mg:Jo)(ES:St->XK)(prs:List (Str×ME)):List (TE×TE):=prs.map λp=>(tC (.str p.1),rdE K mg ES p.2)
theorem nB:∀(prs:List (Str×ME)) {ρ:List Addr}{h:AH}{ae:AE}{H:Hp}{Q:List (V×V)->Hp->Prop},Wd K mg ρ h H->RelE K mg ρ H ae σ->PostG K mg ρ H (ES σ) (λds _ ρ' H'=>∀vs,RelDs K mg ρ' H' ds vs->Q ((prs.map λp=>V.str p.1).zip vs) H') (aL prs ae h)->jH (tps K mg ES prs) σ H Q
 | [],ρ,h,ae,H,Q,w,re,p=>p ρ H Le.refl w [] .nil
 |pr::r,ρ,h,ae,H,Q,w,re,p=>⟨ρ,h,ae,w,re,(PostG.bind p).imp λd h1 ρ1 H1 l1 w1 p1 y ry=>nB r w1 (re.mono l1) ((PostG.bind p1).imp λds h2 ρ2 H2 l2 w2 p2 vs rs=>p2 ρ2 H2 Le.refl w2 (y::vs) (.cons (ry.mono l2) rs))⟩
theorem mJ:∀(more acc:List (Key×V)),((acc++more).map (·.1)).Nodup->ee acc more=acc++more
 | [],acc,_=>(IE _).symm
 |
  (k,v)::more,acc,h=>by
  show ee (bD acc k v) more=_;have hk:cI acc k=none:=by unfold cI;rw[Option.map_eq_none_iff,List.find?_eq_none];intro p hp z;have z:=IU z;rw[Ic,List.nodup_append] at h;exact h.2.2 p.1 (List.mem_map_of_mem hp) k (G5 ..) z
  rw[ur v hk,mJ more (acc++[(k,v)]) (by rw[Ii];exact h),Ii];rfl
def zt:PPs X pos [] [] (tps K mg ES []):=yZ
def uJ(hv:DE K mg X ES v F)(hr:PPs X pos ks vs (tps K mg ES prs)):PPs X pos (some (.Constant (.str k) j kp)::ks) (v::vs) (tps K mg ES ((k,F)::prs)):=uO sk hv hr
theorem mR:∀(ks:List Str) (vs:List V),(ks.map V.str).zip vs=((ks.map Sum.inr).zip vs).map λkv:Key×V=>(kV kv.1,kv.2)
 | [],_=>rfl
 |_::_,[]=>rfl
 |
  k::ks,v::vs=>by
  show (V.str k,v)::(ks.map V.str).zip vs=_;rw[mR ks vs];rfl
def yE(hp:PPs X pos keys values (tps K mg ES prs))(hall:keys.all (·.isSome)=true)(hl:keys.length=values.length)(h0:keys≠[])(h15:keys.length<=15)(hn:(prs.map (·.1)).Nodup)(hp15:prs.length<=15):DE K mg X ES (.Dict keys values pos) (jN (prs.map (·.1)) (aL prs)):=PE.imp (yw hp hall hl h0 h15) λσ H Q q_=>q_.el λρ h ae w re p=>λpp hpp=>by
 have l:Le ρ H (ρ++[pp]) (upd H pp (.dK [])):=(bS hpp).trans ko;have w1:=w.alloc hpp (o:=.dct []) (u:=.dK []) ⟨[],aP,rfl,.nil⟩;refine nB prs w1 (re.mono l) ((PostG.mono l (PostG.bind p)).imp λds h2 ρ2 H2 l2 w2 p2 vs rs=>?_);split at p2
 .rename_i e;split at p2
  .rename_i hlen;have ea:ρ2[h.length]?=some pp:=l2.pre _ _ (by rw[<- w.len,Hg (y_ _),Io];rfl);obtain⟨ws,k1,k2,_⟩:=w2.ob _ _ _ ea e;have:ws=[]:=by cases ws with |nil=>rfl |cons _ _=>cases k2
   subst this;have hlv:vs.length=prs.length:=by rw[<- rs.len,<- hlen,v_]
   refine⟨k1,((prs.map (·.1)).map Sum.inr).zip vs,?_,?_,?_⟩
   .rw[<- mR,H_];rfl
   .rw[Jd,v_,v_];omega
   .have hz:(((prs.map (·.1)).map Sum.inr).zip vs:List (Key×V)).map (·.1)=(prs.map (·.1)).map Sum.inr:=H9 (by rw[v_,v_];omega);rw[mJ _ [] (by rw[HA,hz];exact List.Pairwise.map _ (λa b hab z=>hab (Sum.inr.inj z)) hn),HA];have l3:Le ρ2 H2 ρ2 (upd H2 pp (.dK (((prs.map (·.1)).map Sum.inr).zip vs))):=hZ k1 pW;refine p2 ρ2 _ l3 (w2.write ea k1 pW ⟨_,aP,?_,?_⟩) _ (.ref ea)
    .rw[hz,H9 (by rw[v_];omega)]
    .rw[List.map_snd_zip (by rw[v_];omega),List.map_snd_zip (by rw[v_,v_];omega)];exact rs.mono l3
  .exact p2.elim
 .exact p2.elim
end
open PySem PySem.Spec PySem.Calls PyProof.Rows
section
variable{X:Cx}{K:W.Frag}{mg:Jo}{es:List Expr}{gs:MGs}{pos:Pos}
def gUnp(K:W.Frag)(n:Nat)(t:TGs):TG:=λv σ H Q=>∃a xs,v=.ref a/\(SqT K H a xs\/SqL K H a xs)/\xs.length=n/\t xs σ H Q
def CG{k:Nat}{t:TGs}{n:Nat}(hc:X.calm=true)(h:PGs X es t)
 (hn:(assignEach es X.env).length=n) (hst:(assignEach es X.env).findIdx? (·.1)=none):PG X (.Tuple es k pos) (gUnp X.K n t):=by
 intro pins s σ H v u Q I r hw;obtain⟨a,xs,e1,hq,hl,hw⟩:=hw;rcases hq with hq |hq
 .exact tR hc h hn hst pins s σ H v u Q I r ⟨a,xs,e1,hq,hl,hw⟩
 .subst e1;cases r;obtain⟨its,rv,⟨o,m,ho,oc,od,os⟩,hz⟩:=I.list hq;have ht:s.heap.IsList a its.toArray:=⟨o,ho,oc,m,os⟩;rw[assign_Tuple];refine t_ (IA ?_);unfold unpack;rw[hst,hn,show n=its.toArray.size by simp [<- hl,rv.length]];refine t_ (HK (W.kun_itemsOf (I.ok.hd hc) ht λh' hx=>?_));have I1:Inv X pins σ H { s with heap:=h' }:=I.kept (t':=s.toks) λb o e=>hx b o (Hi (C_ e)) e;exact h pins _ σ H xs _ Q I1 (by simpa using rv) hw
noncomputable def gU(u:MGs):MG:=λd ae h=>match d with
 |.tup ds=>u ds ae h
 |.ref p=>match aJ h p with
  |some ds=>u ds ae h
  |none=>.stuck
 |_=>.stuck
def Ck{k n:Nat}(hK:X.K=K)(hc:X.calm=true)(h:DGs K mg X (λ_=>E0) es gs)
 (hn:(assignEach es X.env).length=n) (hst:(assignEach es X.env).findIdx? (·.1)=none):DG K mg X (λ_=>E0) (.Tuple es k pos) (gU λds ae h=>if ds.length=n then gs ds ae h else .stuck):=by
 subst hK;refine PG.imp (CG hc h hn hst) λv σ H Q q_=>q_.el λρ h ae d w re rd p=>?_;unfold gU at p;cases rd with
 |
  tup q rs=>
  dsimp only at p;split at p
  .rename_i hl;exact⟨_,_,rfl,.inl q,by rw[<- rs.len];exact hl,ρ,h,ae,_,w,re,rs,p⟩
  .exact p.elim
 |
  ref ea=>
  dsimp only at p;split at p
  .rename_i ds q;obtain⟨vs,h1,h2⟩:=bq w ea q;split at p
   .rename_i hl;exact⟨_,_,rfl,.inr h1,by rw[<- h2.len];exact hl,ρ,h,ae,_,w,re,h2,p⟩
   .exact p.elim
  .exact p.elim
 |_=>exact p.elim
end
section
variable{K:W.Frag}{mg:Jo}
def lg{ρ:List Addr}{h:AH}{H:Hp}(w:Wd K mg ρ h H){n:Nat}{a:Addr}{xs:List D}(ea:ρ[n]?=some a)(e:h[n]?=some (.lst xs)):∃vs,H a=some (.lst vs)/\RelDs K mg ρ H xs vs:=by obtain⟨vs,h1,h2⟩:=w.ob _ _ _ ea e;exact⟨vs,h1,h2⟩
end
section
variable{X:Cx}{K:W.Frag}{mg:Jo}
def mY:D->D->AH->R D:=λx y h=>match x,y with
 |
  .str z,.int i=>if z.length<=16777216 then match atI z.cps.toList i with
   |some c=>.ok (.str ⟨#[c]⟩) h
   |none=>.stuck
  else .stuck
 |_,_=>.stuck
def zh:OpD K mg vk mY:=λρ h H dx dy x y Q E w rx ry p=>by
 unfold mY at p;split at p
 .cases rx;cases ry;split at p
  .rename_i hz;split at p
   .rename_i c e;exact⟨_,_,c,rfl,rfl,hz,e,ax w (.str _) p⟩
   .exact p.elim
  .exact p.elim
 .exact p.elim
def qU:R2:=λx y H Q=>∃z i,x=.str z/\y=.int i/\z.length<=16/\0<=i/\i<=1000/\Q (.str (Txt.mul z i)) H
def yC:OpR X (binaryOp .Mult) qU:=by intro pins s σ H x y v u Q I rx ry h;obtain⟨z,i,rfl,rfl,hz,h0,h1,q⟩:=h;obtain⟨t,rfl⟩:=rx;obtain⟨t',rfl⟩:=ry;exact W.KXi.mul rfl hz (by omega) (by omega) λt'' k _ _=>⟨.str (Txt.mul z i),H,I.tok _,⟨_,rfl⟩,q⟩
def jM:D->D->AH->R D:=λx y h=>match x,y with
 |.str z,.int i=>if z.length<=16/\0<=i/\i<=1000 then .ok (.str (Txt.mul z i)) h else .stuck
 |_,_=>.stuck
def we:OpD K mg qU jM:=λρ h H dx dy x y Q E w rx ry p=>by
 unfold jM at p;split at p
 .cases rx;cases ry;split at p
  .rename_i hz;exact⟨_,_,rfl,rfl,hz.1,hz.2.1,hz.2.2,ax w (.str _) p⟩
  .exact p.elim
 .exact p.elim
end
def wj:R2:=λx y H Q=>∃a b xs,x=.ref a/\y=.ref b/\H a=some (.lst xs)/\H b=some (.lst [])/\Q (.bl (!xs.isEmpty)) H
section
variable{K:W.Frag}{mg:Jo}{X:Cx}
def A8(hu:X.A.units+1<cLine):OpR X (compareOp .NotEq) wj:=by
 intro pins s σ H x y v u Q I rx ry ⟨a,b,xs,e1,e2,hA,hB,q⟩;subst e1 e2;obtain rfl:v=Value.ref a:=rx;obtain rfl:u=Value.ref b:=ry;obtain⟨_,its,n,rv,hl,e⟩:=I.lstM hA;obtain⟨_,its2,n2,rv2,hl2,e2⟩:=I.lstM hB;cases rv2;have la:s.heap.IsList a its.toArray:=⟨_,e,rfl,_,rfl⟩;have lb:s.heap.IsList b ([]:List Value).toArray:=⟨_,e2,rfl,_,rfl⟩;have len:=rv.length;cases xs with
 |nil=>cases rv;exact SeqAt.RcNeAt.lists (e:=λ_=>true) la lb rfl (by omega) (λj h1 h2=>absurd h1 (HW _)) _ _ _ _ (gH I q rfl)
 |
  cons z zs=>
  cases its with
  |nil=>cases rv
  |cons i is=>exact SeqAt.RcNeAt.lists_lengths la lb rfl (by omega) _ _ _ _ (gH I q rfl)
def m8:D->D->AH->R D:=λx y h=>match x,y with
 |.ref a,.ref b=>match h[a]?,h[b]? with
  |some (.lst xs),some (.lst [])=>.ok (.bl (!xs.isEmpty)) h
  |_,_=>.stuck
 |_,_=>.stuck
def y9:OpD K mg wj m8:=λρ h H dx dy x y Q E w rx ry p=>by
 unfold m8 at p;split at p
 .cases
   rx with
  |
   ref ea=>
   cases ry with
   |
    ref eb=>
    split at p
    .rename_i xs q1 q2;obtain⟨vs,g1,g2⟩:=lg w ea q1;obtain⟨ys,g3,g4⟩:=lg w eb q2;cases g4;refine⟨_,_,vs,rfl,rfl,g1,g3,?_⟩;rw[show vs.isEmpty=xs.isEmpty from by cases g2 <;> rfl];exact ax w (.bl _) p
    .exact p.elim
 .exact p.elim
end
open PySem PySem.W PyProof.Rows
abbrev Ask:=Nat->Nat->(Bool->Shared->Prop)->Shared->Prop
variable{lt:Nat->Nat->Bool}{N:Nat}{cmp:Ask}{s:Shared}
def xD(H:Hp):Prop:=∀b,H b=none\/(∃o xs,H b=some (.frz o xs))\/H b=some (.tbl #[])
structure TabsOk(K:W.Frag)(ts:List Addr)(h:Heap):Prop where
 at_:∀P∈ts,h.get? P=some (W.tabObj #[])
 no:∀P∈ts,K.lookup P=none
 cd:∀P∈ts,∃c,W.codeHdIn K c P=true
def spT(K:W.Frag)(mg:Jo)(ts:List Addr):Sp:=λvs H Q _=>∃(a:Addr) (ns:List Int),vs=[.ref a]/\xD H/\SqL K H a (ns.map V.int)/\ns.length<=63/\(∀P∈ts,H P=some (.tbl #[]))/\BMok K mg H/\∀H',Q (.bl true) H'
def ER{Pr:Program}{w:World}{K:W.Frag}{mg mb:Jo}{k:Nat}{fa a:Addr}{fd:FuncData}{x:Str}{s1:Shared}{vs:List Value}{ns:List Int}{ts:List Addr}
 (KX:K.In s1.heap) (hns:s1.heap.Ns mainGlobals mg) (hb:s1.heap.Ns builtinsNs mb) (hbb:∀y:Str,y ≠ "__name__"->mb y=bootBuiltins y) (hlim:s1.heap.NoLimit) (hg:s1.gens=#[]) (TO:TabsOk K ts s1.heap) (hbm:∃bm ob,mg "__builtins__"=some (.ref bm)/\bm≠builtinsNs/\s1.heap.get? bm=some ob/\ob.cls=.type "module" /\ ob.dict=some builtinsNs/\ob.data=.plain)
 (ha:s1.heap.get? a=some { cls:=.type "list",data:=.seq vs.toArray }) (hi:IntsAre vs ns) (hl:ns.length<=63) (hr:Room k callerA)
 (F:∀base:Heap,K.In base->base.Ns mainGlobals mg->FnOk Pr w K mg base (CX1 Pr w) k fa fd [x] (spT K mg ts)) (hbind:∀(s:Shared) (u:Value),BindsTo s fd ⟨[u],[]⟩ [(x,u)]):
 codeAny (model Pr w) callerA (.call (.ref fa) ⟨[.ref a],[]⟩) (λr s'=>r=.ok (.ret (.bool true))/\OldK s1.heap s'.heap/\s'.os=s1.os/\AllBare s'.gens) s1:=by
 have rv:=gC hi;have hz:ns.length<=sizeLine:=G6 hl (by decide);have ant:a∉ts:=λz=>by
  have:=TO.at_ a z
  rw[ha] at this;cases this
 obtain⟨bm,ob,b1,b2,b3,b4,b5,b6⟩:=hbm;have bmG:bm≠mainGlobals:=λz=>by obtain⟨o,es,ep,e,dd,_⟩:=hns;rw[z,e] at b3;cases b3;rw[dd] at b6;cases b6
 have bmt:bm∉ts:=λz=>by
  have:=TO.at_ bm z
  rw[b3] at this;cases this;cases b6
 have bma:bm≠a:=λz=>by rw[z,ha] at b3;cases b3;cases b6
 have go
  : ∀Hs:Option HO,(Hs=none\/∃o xs,Hs=some (.frz o (.lst xs)))->(∀u,Hs=some u->ObjOk Pr w (λ_=>none) s1.heap a u)->(Hs≠none->K.lookup a=none)->(∀H:Hp,H a=Hs->SqL K H a (ns.map V.int))->
  codeAny (model Pr w) callerA (.call (.ref fa) ⟨[.ref a],[]⟩) (λr s'=>r=.ok (.ret (.bool true))/\OldK s1.heap s'.heap/\s'.os=s1.os/\AllBare s'.gens) s1:=by
  intro Hs h1 h2 h3 h4;obtain⟨H,eH⟩:∃H:Hp,H=λb=>if b=a then Hs else if b∈ts then some (.tbl #[]) else if b=bm/\K.lookup bm=none then some (.frz ob (.ext λ_=>True)) else none:=⟨_,rfl⟩
  have Ha:H a=Hs:=by rw[eH];exact if_pos rfl
  have Ht:∀P∈ts,H P=some (.tbl #[]):=λP hP=>by rw[eH];show (if P=a then _ else _)=_;rw[if_neg (λz=>ant (by rw[<- z];exact hP)),if_pos hP]
  have Hb:K.lookup bm=none->H bm=some (.frz ob (.ext λ_=>True)):=λq=>by rw[eH];show (if bm=a then _ else _)=_;rw[if_neg bma,if_neg bmt,if_pos ⟨rfl,q⟩]
  have Hn
   : ∀b,H b≠none->(b=a/\Hs≠none)\/b∈ts\/(b=bm/\K.lookup bm=none):=λb n=>by
   by_cases q:b=a
   .exact .inl ⟨q,by rw[<- Ha,<- q];exact n⟩
   .by_cases q2:b∈ts
    .exact .inr (.inl q2)
    .by_cases q3:b=bm/\K.lookup bm=none
     .exact .inr (.inr q3)
     .refine absurd ?_ n;rw[eH];show (if b=a then _ else _)=_;rw[if_neg q,if_neg q2,if_neg q3]
  have hO:xD H:=λb=>by
   by_cases n:H b=none
   .exact .inl n
   .rcases Hn b n with ⟨e,n2⟩ |e |⟨e,y⟩
    .rw[e,Ha];rcases h1 with z |⟨o,xs,z⟩
     .exact absurd z n2
     .exact .inr (.inl ⟨_,_,z⟩)
    .exact .inr (.inr (Ht b e))
    .rw[e];exact .inr (.inl ⟨_,_,Hb y⟩)
  have hok:HOk Pr w H s1.heap:=λb u e=>by
   rcases Hn b (by rw[e];simp) with ⟨z,n2⟩ |z |⟨z,y⟩
   .subst z;rw[Ha] at e;have q:=h2 u e;rcases h1 with y |⟨o,xs,y⟩
    .exact absurd y n2
    .rw[e] at y;cases y;exact q
   .have y:=Ht b z;rw[e] at y;cases y;exact TO.at_ b z
   .subst z;rw[Hb y] at e;cases e;exact⟨b3,trivial,⟨ob,b3⟩,λ_ _ _ _=>trivial⟩
  have keep:∀{b:Addr}{o:Obj},s1.heap.get? b=some o->H b=none->(da s1.heap H).get? b=some o:=λe n=>mE e n;have noD:∀{b:Addr}{o:Obj}{es:Array DictEntry}{ep:Nat},s1.heap.get? b=some o->o.data=.dict es ep->H b=none:=λ{b o es ep} e dd=>by
   by_cases n:H b=none
   .exact n
   .rcases Hn b n with ⟨z,_⟩ |z |⟨z,_⟩
    .subst z;rw[ha] at e;cases e;cases dd
    .rw[TO.at_ b z] at e;cases e;cases dd
    .subst z;rw[b3] at e;cases e;rw[b6] at dd;cases dd
  have nsK:∀{b:Addr}{m:Jo},s1.heap.Ns b m->(da s1.heap H).Ns b m:=λ{b m} ⟨o,es,ep,e,dd,r⟩=>⟨o,es,ep,keep e (noD e dd),dd,r⟩;have kb:K.In (da s1.heap H):=λb o e=>keep (KX b o e) (by
   by_cases n:H b=none
   .exact n
   .rcases Hn b n with ⟨z,y⟩ |z |⟨z,y⟩
    .subst z
     have:=h3 y
     rw[e] at this;cases this
    .have:=TO.no b z
     rw[e] at this;cases this
    .subst z;rw[e] at y;cases y)
  have hM:Mod K mg (da s1.heap H):=⟨kb,nsK hns,⟨mb,nsK hb,hbb⟩,let ⟨mc,q1,q2⟩:=hlim;⟨mc,nsK q1,q2⟩⟩;have e0:Env0 Pr w K mg (da s1.heap H) callerA [] s1 H:=⟨rfl,hM,λb o e=>oG e,Nat.le_of_eq (lF _ _),trivial,λb z=>absurd (show b∈([]:List Addr) from z) (by simp),hok,.of_eq hg⟩;refine codeAny_mono ((F _ kb (nsK hns)).run callerA [] s1 H ⟨[.ref a],[]⟩ [.ref a] [.ref a] (λv _=>v=.bl true) (λ_ _ _=>False) hr e0 (hbind s1 (.ref a)) (.cons rfl .nil) ⟨a,ns,rfl,hO,h4 H Ha,hl,Ht,?bm,λ_=>rfl⟩) λr s' h=>?_
  case bm=>
   refine⟨bm,ob,b1,b2,bmG,⟨b4,b5,b6⟩,?_⟩;cases q:K.lookup bm with
   |none=>exact .inr ⟨_,Hb q⟩
   |
    some o=>
    have:=KX bm o q
    rw[b3] at this;cases this;exact .inl rfl
  cases r with
  |error e=>obtain⟨_,_,_,_,_,_,_,z⟩:=h;exact z.2.2.elim
  |
   ok fl=>
   cases fl with
   |next=>exact False.elim h
   |brk=>exact False.elim h
   |cont=>exact False.elim h
   |
    ret u=>
    obtain⟨v,H',os,bare,un,hok',r',q⟩:=h;have q':v=.bl true:=q;subst q';obtain rfl:u=Value.bool true:=r';refine⟨rfl,⟨λb o e=>?_,λb o e=>?_⟩,os,bare⟩
    .by_cases n:H b=none
     .exact .inl (un.keep b o e n (λz=>absurd (show b∈([]:List Addr) from z) (by simp)) (by simp))
     .have fz:∀ob xs,H b=some (.frz ob xs)->asItWas s1.heap s'.heap b o:=λob xs y=>by have y2:=un.frzs b ob _ y;obtain⟨e1,_⟩:=hok b _ y;obtain⟨e2,_⟩:=hok' b _ y2;rw[e] at e1;cases e1;exact .inl e2
      rcases Hn b n with ⟨z,n2⟩ |z |⟨z,y⟩
      .rcases h1 with y |⟨ob,xs,y⟩
       .exact absurd y n2
       .exact fz _ _ (by rw[z,Ha];exact y)
      .obtain⟨more,y⟩:=un.tbls b #[] (Ht b z);obtain⟨c,hc⟩:=TO.cd b z;have tab:=(W.codeHd_of_K KX hc).tab (TO.at_ b z);have e2:=TO.at_ b z;rw[e] at e2;cases e2;exact .inr (.inl ⟨tab.isCodeTable,rfl,#[],more,rfl,hok' b _ y⟩)
      .exact fz _ _ (by rw[z];exact Hb y)
    .exact un.there b o e (by simp)
 cases hk:K.lookup a with
 |some o=>have e:=KX a o hk;rw[ha] at e;cases e;exact go none (.inl rfl) (λu z=>nomatch z) (λz=>absurd rfl z) λH _=>.inr ⟨_,vs.toArray,_,hk,rfl,rfl,rfl,by rw[B_,hi.length];exact hz,by simpa using rv⟩
 |none=>exact go (some (.frz { cls:=.type "list",data:=.seq vs.toArray } (.lst (ns.map V.int)))) (.inr ⟨_,_,rfl⟩) (λu z=>by cases z;exact⟨ha,by rw[v_];exact hz,vs,_,rv,ha⟩) (λ_=>hk) λH e=>.inl (.inr ⟨_,e⟩)
def t5{Pr:Program}{w:World}{K:W.Frag}{mg:Jo}{base:Heap}{x y:Str}{k:Nat}{S:Fn}{ts:List Addr}(C:Callee Pr w K mg base x k [y] (spD K mg 1 S))(hT:∀P q,LamT K mg P q->P∈ts)
 (hS:∀(d:D) (h:AH) (ns:List Int),ns.length<=63->Script h d ns->∃h',S [d] h=.ok (.bl true) h'):Callee Pr w K mg base x k [y] (spT K mg ts):=by
 refine C.imp λvs H Q E ⟨a,ns,e,hO,hq,hl,ht,hB,q⟩=>?_;subst e;have tb:∀ρ:List Addr,(∀P∈ts,P∉ρ)->∀P q,LamT K mg P q->TbP ρ H P q/\BMok K mg H:=λρ n P q l=>⟨⟨n P (hT P q l),#[],ht P (hT P q l),trivial,λpos cv z=>by cases z⟩,hB⟩;rcases hq with (hq |⟨o,hq⟩) |hq
 .rcases hO a with z |⟨o,xs,z⟩ |z <;> rw[hq] at z <;> cases z
 .obtain⟨h',e⟩:=hS (.ref 0) [.fz (ns.map D.int)] ns hl ⟨.inl ⟨0,rfl,rfl⟩⟩;refine⟨[a],[.fz (ns.map D.int)],[.ref 0],⟨rfl,by simp,tb _ λP hP z=>?_,λn b ob e1 e2=>?_⟩,.cons (.ref rfl) .nil,rfl,?_⟩
  .rw[HM] at z;subst z
   have:=ht P hP
   rw[hq] at this;cases this
  .cases n with
   |zero=>cases e1;cases e2;exact⟨o,_,hq,fO ns⟩
   |succ n=>simp at e1
  .rw[e];exact λρ' H' l' w' v rv=>by cases rv;exact q H'
 .obtain⟨h',e⟩:=hS (.kl (ns.map D.int)) [] ns hl ⟨.inr rfl⟩;refine⟨[],[],[.kl (ns.map D.int)],⟨rfl,by simp,tb _ λP hP z=>absurd z (by simp),λn b ob e1 e2=>by simp at e1⟩,.cons (.kl hq (fO ns)) .nil,rfl,?_⟩;rw[e];exact λρ' H' l' w' v rv=>by cases rv;exact q H'
def walk_lawT{l:W.OpenLaw}{q:Program}{loose:List Str}{XP:(Str->Option Value)->Heap->Prop}{YP:World->Heap->Prop}{d:DefRec}{K:Params->W.Frag}{x:Str}{k:Nat}{ts:List Addr}(hn:l.most=some 63)(hdf:d.params.defaults=[])(hr:Room k callerA)
 (hY:∀(w:World) (h:Heap),YP w h->(K w.params).In h/\TabsOk (K w.params) ts h)
 (F:∀(w:World) (mg:Jo) (h:Heap),(K w.params).In h->h.Ns mainGlobals mg->∀base:Heap,(K w.params).In base->base.Ns mainGlobals mg->Callee l.prog w (K w.params) mg base d.name k [x] (spT (K w.params) mg ts))
 (Dd:∀(w:World) (mg:Jo) (h:Heap),(K w.params).In h->h.Ns mainGlobals mg->∃st,Def (K w.params) mg d.name st/\∀(kV doc pm:Value) (an:Option Addr) (cdv ct:Value) (us:List Value),us.length=1->bindArgs (W.fnOf d.name d.name (bT st) (aT st) (ak st) .none kV doc pm an cdv ct) ⟨us,[]⟩=pure ([x].zip us)):
 W.WalkO q loose XP YP l.row.toRowW d [] (λf vs=>PySem.call f vs):=by
 refine Att.attach_call hn hdf λw s0 s1 mg mb fa o pm cd doc a vs ns G Y ho hd p_ hmg hobj hints hlen hg=>?_;obtain⟨KX,TO⟩:=hY w _ Y;obtain⟨st,De,hbind⟩:=Dd w mg _ KX G.T.g;obtain⟨f,fd,Ff,m⟩:=De.ex;have e:=hmg.symm.trans m;cases e;obtain⟨oc,od,kV,doc',pm',an,cdv,ct,osl,rfl,lk,hcd'⟩:=Ff.ex;refine ER KX G.T.g G.T.b G.T.builtins G.T.nolimit hg TO G.T.bmain hobj hints hlen hr (λbase kb nb=>?_) (λs u=>.of_eq (hbind kV doc' pm' an cdv ct [u] rfl));obtain⟨f',fd',F',m',kp',b',oc',od',osl',lk'⟩:=(F w mg _ KX G.T.g base kb nb).ex;rw[m] at m';cases m';rw[lk] at lk';cases lk';exact F'
noncomputable def lexP(x y:Int×Int):Bool:=decide (x.1<y.1\/(x.1=y.1/\x.2<y.2))
def ltP(ks:List (Int×Int))(i j:Nat):Bool:=lexP (ks.getD i (0,0)) (ks.getD j (0,0))
set_option maxHeartbeats 4000000
section
variable{prog:Program}{w:World}{A:Around}{E:Jq}{s:Shared}
def uW{a kS:Addr}{st:SortSt}{out ks:List Value}{e e1:Nat}{P:PySem.Fin->Shared->Prop}(hk:s.heap.get? kS=some (seqObj "list" (List.toArray ks) e))(ha:s.heap.get? a=some (seqObj "list" #[] e1))(hne:kS≠a)(hout:(arrOf st).map (λp:Keyed=>p.2)=List.toArray out)(hf:failedOf st=none)(hz:out.length<64)(hkz:ks.length<64)
 (h:∀h' c,(∀b o,b≠kS->b≠a->s.heap.get? b=some o->h'.get? b=some o)->h'.get? a=some (seqObj "list" out.toArray c)->P (.done (.ret .none)) { s with heap:=h' }):wpAny (model prog w) A (ksk_tail a false e1 (.ref kS) st) P E s:=by
 have u1:=Ia s.heap kS (Obj.mapSeq λ_=>(#[]:Array Value));have a1:=(u1.2 a hne.symm).trans ha;have u2:=Ia (s.heap.update kS (Obj.mapSeq λ_=>(#[]:Array Value))) a (Obj.mapSeq λ_=>(arrOf st).map (·.2));obtain⟨c,hc⟩:∃c,((s.heap.update kS (Obj.mapSeq λ_=>(#[]:Array Value))).update a (Obj.mapSeq λ_=>(arrOf st).map (·.2))).get? a=some (seqObj "list" ((arrOf st).map (·.2)) c):=⟨_,get?_update_seq a1 λ_=>(arrOf st).map (·.2)⟩;have zs:((arrOf st).map (·.2)).size<64:=by rw[hout];exact hz
 have big:sizeLine=16777216:=rfl;unfold ksk_tail;try dsimp only
 refine t_ <| Jn hk rfl ?_ (by rw[B_];omega) (Ho _);refine t_ <| wpAny_letGo ?_;refine t_ <| seqEpoch_at a1 rfl ?_;refine t_ <| Jn a1 rfl ?_ (Ho _) (by show ((arrOf st).map (·.2)).size<=_;omega);rw[hf];simp only[bne_self_eq_false,HS,IM];exact Em (h _ c (λb o n1 n2 z=>(u2.2 b n2).trans ((u1.2 b n1).trans z)) (hc.trans (by rw[hout])))
end
section
variable{X:Cx}{pins:Jp}{σ:St}{H:Hp}{s:Shared}{h':Heap}
def Inv.tabled{P c':Addr}{q:Str}{ps more:Array Value}{t':Nat}(I:Inv X pins σ H s)(hP:H P=some (.tbl ps))(hx:Heap.ExtBut P s.heap h')(hc:s.heap.objs.size<=c')(hrec:h'.CodeRec (.ref c') q)(htab:h'.get? P=some (tabObj (ps++more))):
 Inv X pins σ (upd (upd H P (.tbl (ps++more))) c' (.ext (fK c' q))) { s with heap:=h',toks:=t' }:=by
 have hcn:H c'=none:=I.hok.fresh hc;have nPc:P≠c':=aD hP hcn;have at_:∀b,b≠P->b≠c'->upd (upd H P (.tbl (ps++more))) c' (.ext (fK c' q)) b=H b:=λb n1 n2=>by rw[au n2,au n1]
 have atP:upd (upd H P (.tbl (ps++more))) c' (.ext (fK c' q)) P=some (.tbl (ps++more)):=by rw[au nPc,aP]
 have nP:∀b,H b=none->b≠P:=λb n z=>by rw[z,hP] at n;cases n
 have ol:∀b o,s.heap.get? b=some o->b≠c':=λb o e=>Hi (E_ (C_ e) hc);have tr:∀b u,H b=some u->b≠c':=λb u e=>aD e hcn;refine I.un ⟨λb o e n _ _=>hx b o (nP b n) e,λb o e n _ _=>⟨o.slots,hx b o (nP b n) e⟩,λb o e n _=>by rw[at_ b (nP b n) (ol b o e)];exact n,λb o e _=>?_,λb ys e=>?_,λb o u e=>?_,λb qs e=>?_⟩ λb u e=>?_
 .by_cases z:b=P
  .exact⟨_,by rw[z];exact htab⟩
  .exact⟨o,hx b o z e⟩
 .rw[at_ b (λz=>by rw[z,hP] at e;cases e) (tr b _ e)];exact e
 .rw[at_ b (λz=>by rw[z,hP] at e;cases e) (tr b _ e)];exact e
 .by_cases z:b=P
  .subst z;rw[hP] at e;cases e;exact⟨more,atP⟩
  .exact⟨#[],by rw[at_ b z (tr b _ e),e];simp⟩
 .by_cases z:b=c'
  .subst z;rw[aP] at e;cases e;obtain⟨c,o,vs,t,e1,e2,e3⟩:=hrec;cases e1;refine⟨⟨_,o,vs,t,rfl,e2,e3⟩,⟨o,e2⟩,λh1 h2 q1 k=>?_⟩;obtain⟨c,o,vs,t,e1,e2,e3⟩:=q1;cases e1;exact⟨_,o,vs,t,rfl,k o e2,e3⟩
  .by_cases y:b=P
   .subst y;rw[atP] at e;cases e;exact htab
   .rw[at_ b y z] at e;refine (I.hok b u e).stay (λc v hc' r=>hx c v ?_ r) (λc r=>?_) λc ys r=>?_
    .rcases hc' with rfl |r
     .exact y
     .intro z';rw[z',hP] at r;cases r
    .rw[at_ c (λz'=>by rw[z',hP] at r;cases r) (tr c _ r)];exact r
    .rw[at_ c (λz'=>by rw[z',hP] at r;cases r) (tr c _ r)];exact r
end
section
variable{P:Addr}
def Grown(H H2:Hp)(P:Addr)(q:Str)(ps:Array Value)(pos:Pos):Prop:=H2=H\/∃c',H c'=none/\codeAmong pos ps.toList=none/\H2=upd (upd H P (.tbl (ps++#[rawInt pos.line,rawInt pos.col,.ref c']))) c' (.ext (fK c' q))
end
section
variable{K:W.Frag}{mg:Jo}{ρ:List Addr}{H H2:Hp}{h:AH}
def LamT.one{P P':Addr}{q q':Str}(a:LamT K mg P q)(b:LamT K mg P' q'):q=q':=by
 obtain⟨x,f,oc,od,fd,sl,c,a1,a2,a3,a4,a5,a6,rfl⟩:=a;obtain⟨y,f',oc',od',fd',sl',c',b1,b2,b3,b4,b5,b6,rfl⟩:=b;have e:x=y:=by
  by_cases z:x=y
  .exact z
  .have:=a2 y b1 λw=>z w.symm
   rw[b3] at this;cases this
 subst e;rw[a3] at b3;cases b3;rw[a4] at b4;cases b4;rfl
def qw{pos:Pos}{a b:Int}{c cv:Value}(l:List Value)(h:TriplesOk l)(e:codeAmong pos (l++[rawInt a,rawInt b,c])=some cv):codeAmong pos l=some cv\/cv=c:=by
 fun_induction TriplesOk l with
 |
  case1=>
  simp only[HA,codeAmong,rawInt] at e;split at e
  .cases e;exact .inr rfl
  .cases e
 |
  case2 a' t b' u x aw ih=>
  simp only[List.cons_append,codeAmong] at e ⊢;split at e
  .rename_i z;rw[if_pos z];exact .inl e
  .rename_i z;rw[if_neg z];exact ih h e
 |case3 l h1 h2=>exact h.elim
def Grown.ok{P:Addr}{q:Str}{ps:Array Value}{pos:Pos}(g:Grown H H2 P q ps pos)(w:Wd K mg ρ h H)(hT:LamT K mg P q)(hP:H P=some (.tbl ps)):Wd K mg ρ h H2/\Le ρ H ρ H2:=by
 rcases g with rfl |⟨c',hc,am,rfl⟩
 .exact⟨w,Le.refl⟩
 .have nPc:P≠c':=aD hP hc;have at_:∀b,b≠P->b≠c'->upd (upd H P (.tbl (ps++#[rawInt pos.line,rawInt pos.col,.ref c']))) c' (.ext (fK c' q)) b=H b:=λb n1 n2=>by rw[au n2,au n1]
  have atP:upd (upd H P (.tbl (ps++#[rawInt pos.line,rawInt pos.col,.ref c']))) c' (.ext (fK c' q)) P=some (.tbl (ps++#[rawInt pos.line,rawInt pos.col,.ref c'])):=by rw[au nPc,aP]
  have nP:∀b u,H b=some u->(∀qs,u ≠ .tbl qs)->b≠P:=λb u e n z=>by rw[z,hP] at e;cases e;exact n _ rfl
  have nc:∀b u,H b=some u->b≠c':=λb u e=>aD e hc;have l:Le ρ H ρ (upd (upd H P (.tbl (ps++#[rawInt pos.line,rawInt pos.col,.ref c']))) c' (.ext (fK c' q))):=⟨λ_ _ e=>e,λb xs e=>by rw[at_ b (nP b _ e λ_ z=>nomatch z) (nc b _ e)];exact e,λb o u e=>by rw[at_ b (nP b _ e λ_ z=>nomatch z) (nc b _ e)];exact e,λb φ e=>by rw[at_ b (nP b _ e λ_ z=>nomatch z) (nc b _ e)];exact e⟩;refine⟨⟨w.len,w.nd,λP' q' l'=>?_,λn b ob e1 e2=>?_⟩,l⟩
  .obtain⟨⟨t1,ps',t2,t3,t4⟩,bm⟩:=w.tb P' q' l';refine⟨⟨t1,?_⟩,bm.le l⟩;have eq:=hT.one l';by_cases z:P'=P
   .subst z;rw[hP] at t2;cases t2;refine⟨_,atP,?_,λr_ cv e=>?_⟩
    .rw[Array.toList_append];exact TriplesOk_snoc _ _ _ _ t3
    .rw[Array.toList_append] at e;rcases qw _ t3 e with z |rfl
     .obtain⟨c,e1,e2⟩:=t4 r_ cv z;exact⟨c,e1,l.ext _ _ e2⟩
     .exact⟨c',rfl,by rw[aP,eq]⟩
   .exact⟨ps',by rw[at_ P' z (nc P' _ t2)];exact t2,t3,λr_ cv e=>by obtain⟨c,e1,e2⟩:=t4 r_ cv e;exact⟨c,e1,l.ext _ _ e2⟩⟩
  .have o:=w.ob n b ob e1 e2;have nb:b≠P:=λz=>(w.tb P q hT).1.1 (by rw[<- z];exact HH e1);obtain⟨u,hu⟩:=o.there;exact o.mono l (at_ b nb (nc b _ hu))
end
section
variable{K:W.Frag}{mg:Jo}
def lsD(h:AH):D->Option (List D)
 |.ref n=>aJ h n
 |.kl xs=>some xs
 |_=>none
def ye{ρ:List Addr}{H:Hp}{h:AH}{d:D}{v:V}{xs:List D}(w:Wd K mg ρ h H)(r:RelD K mg ρ H d v)(e:lsD h d=some xs):∃p vs,v=.ref p/\SqL K H p vs/\RelDs K mg ρ H xs vs:=by
 cases r with
 |ref ea=>obtain⟨vs,h1,h2⟩:=bq w ea e;exact⟨_,vs,rfl,h1,h2⟩
 |kl q rs=>have e':some _=some xs:=e;cases e';exact⟨_,_,rfl,.inr q,rs⟩
 |_=>cases e
end
def ltS(x y:Str):Bool:=decide (x.cps.toList<y.cps.toList)
def zH{x y:Str}(h:x.cps.toList=y.cps.toList):x=y:=by cases x;cases y;exact HI _ (Array.toList_inj.mp h)
def sV{x y z:Str}(h1:ltS x y=true)(h2:ltS y z=true):ltS x z=true:=by unfold ltS at *;rw[HD] at *;exact List.lt_trans h1 h2
def d7{x y:Str}(h1:ltS x y=true):ltS y x=false:=by unfold ltS at *;rw[HD] at h1;rw[IS];exact λz=>List.lt_irrefl _ (List.lt_trans h1 z)
def g9{x y:Str}(h1:ltS x y=false)(h2:ltS y x=false):x=y:=by unfold ltS at *;rw[IS] at *;exact zH (List.le_antisymm (List.not_lt.mp h2) (List.not_lt.mp h1))
def aH(l:List (Str×α)):List (Str×α):=l.mergeSort λp q=>!ltS q.1 p.1
def bI(l:List (Str×α)):(aH l).Perm l:=List.mergeSort_perm ..
def ff(l:List (Str×α)):(aH l).Pairwise λp q=>ltS q.1 p.1=false:=by
 refine List.Pairwise.imp (λh=>by simpa using h) (List.pairwise_mergeSort (le:=λp q:Str×α=>!ltS q.1 p.1) (λa b c h1 h2=>?_) (λa b=>?_) l)
 .simp only[Bool.not_eq_true'] at *;cases h:ltS c.1 a.1 with
  |false=>rfl
  |
   true=>
   by_cases z:ltS a.1 b.1=true
   .rw[sV h z] at h2;cases h2
   .have:=g9 (by simpa using z) h1
    rw[this,h2] at h;cases h
 .cases h:ltS b.1 a.1 with
  |false=>simp
  |true=>simp [d7 h]
def fE{a b:List (Str×α)}(nd:(b.map (·.1)).Nodup)(p:a.Perm b)(ha:a.Pairwise λp q=>ltS q.1 p.1=false):a=aH b:=by
 have st:∀{l:List (Str×α)},(l.map (·.1)).Nodup->l.Pairwise (λp q=>ltS q.1 p.1=false)->l.Pairwise λp q=>ltS p.1 q.1=true:=λ{l} nd h=>by
  have nd':=Ij.mp nd;refine (List.pairwise_and_iff.mpr ⟨nd',h⟩).imp λ{x y} ⟨n,z⟩=>?_;cases e:ltS x.1 y.1 with
  |true=>rfl
  |false=>exact absurd (g9 e z) n
 exact List.Perm.eq_of_pairwise (le:=λp q=>ltS p.1 q.1=true) (λx y _ _ h1 h2=>by rw[d7 h1] at h2;cases h2) (st ((p.map _).nodup_iff.mpr nd) ha) (st (((bI b).map _).nodup_iff.mpr nd) (ff b)) (p.trans (bI b).symm)
inductive All2(R:α->β->Prop):List (Str×α)->List (Str×β)->Prop
 |nil:All2 R [] []
 |cons {x:Str}{a:α}{b:β}{l:List (Str×α)}{m:List (Str×β)}:R a b->All2 R l m->All2 R ((x,a)::l) ((x,b)::m)
def All2.keys{R:α->β->Prop}{l:List (Str×α)}{m:List (Str×β)}(h:All2 R l m):l.map (·.1)=m.map (·.1):=by
 induction h with
 |nil=>rfl
 |cons _ _ ih=>rw[D_,D_,ih]
def All2.lift{R:α->β->Prop}{m m':List (Str×β)}(p:m.Perm m'):∀{l:List (Str×α)},All2 R l m'->∃l',l'.Perm l/\All2 R l' m:=by
 induction p with
 |nil=>intro l h;exact⟨l,.refl _,h⟩
 |
  cons x _ ih=>
  intro l h;cases h with
  |cons r h=>obtain⟨l',p,h'⟩:=ih h;exact⟨_,p.cons _,.cons r h'⟩
 |
  swap x y m=>
  intro l h;cases h with
  |
   cons r h=>
   cases h with
   |cons r2 h=>exact⟨_,.swap ..,.cons r2 (.cons r h)⟩
 |trans _ _ ih1 ih2=>intro l h;obtain⟨l1,p1,h1⟩:=ih2 h;obtain⟨l2,p2,h2⟩:=ih1 h1;exact⟨l2,p2.trans p1,h2⟩
def All2.srt{R:α->β->Prop}{l:List (Str×α)}{m:List (Str×β)}(nd:(m.map (·.1)).Nodup)(h:All2 R l m):All2 R (aH l) (aH m):=by
 obtain⟨l',p,h'⟩:=h.lift (bI m);have up:l'.Pairwise λp q=>ltS q.1 p.1=false:=by
  have:=ff m
  have e:=h'.keys;have q:(l'.map (·.1)).Pairwise λx y=>ltS y x=false:=by rw[e];exact Ij.mpr this
  exact Ij.mp q
 rw[<- fE (by rw[h.keys];exact nd) p up];exact h'
section
variable{prog:Program}{w:World}{A:Around}{E:Jq}{s:Shared}
def wJ{β:Type}{vs ks:List Value}{xs:List Str}{k:Unit×SortSt->Sem β}{P:β->Shared->Prop}(S:StrsAre ks xs)(hkl:ks.length=vs.length)(h64:vs.length<64)(nd:xs.Nodup)(h:∀st',(arrOf st').map (λp:Keyed=>p.2)=List.toArray ((aH (xs.zip vs)).map (·.2))->failedOf st'=none->wpAny (model prog w) A (k ((),st')) P E s):
 wpAny (model prog w) A (let f:=λκ=>(if vs.toArray.size<2 then pure () else sortRuns').run (SortSt.mk' κ (ks.toArray.zip vs.toArray) #[] 7 none) >>= k;if vs.toArray.size<2 then pure general' >>= f else keyKind' ks.toArray >>= f) P E s:=by
 dsimp only;have xl:xs.length=vs.length:=by rw[<- S.strs,v_,hkl]
 have ndz:((xs.zip vs).map (·.1)).Nodup:=by rw[H9 (by omega)];exact nd
 have ez:(ks.zip vs).map (λp:Keyed=>(strOf p.1,p.2))=xs.zip vs:=by rw[<- S.strs,List.zip_map_left];exact List.map_congr_left λ⟨x,y⟩ _=>rfl
 have g_:∀st':SortSt,(arrOf st').toList.Perm (ks.zip vs)->((arrOf st').toList.map λp:Keyed=>(strOf p.1,p.2)).Pairwise (λp q=>ltS q.1 p.1=false)->failedOf st'=none->wpAny (model prog w) A (k ((),st')) P E s:=λst' hp up hf=>by have e:=fE ndz (a:=(arrOf st').toList.map λp:Keyed=>(strOf p.1,p.2)) (by rw[<- ez];exact hp.map _) up;refine h st' ?_ hf;rw[<- e,H_];apply Array.toList_inj.mp;rw[Array.toList_map];rfl
 by_cases h2:vs.toArray.size<2
 .rw[if_pos h2,if_pos h2];rw[B_] at h2;refine t_ <| Em ?_;rw[StateT.run_pure];refine t_ <| Em (g_ _ ?_ ?_ rfl)
  .show (ks.toArray.zip vs.toArray).toList.Perm _;rw[ksk_zip]
  .show (((ks.toArray.zip vs.toArray).toList.map λp:Keyed=>(strOf p.1,p.2))).Pairwise _;rw[ksk_zip,Jl,ez,HZ];intro i j hi hj hij;rw[Jd] at hj;omega
 .rw[if_neg h2,if_neg h2];rw[B_] at h2;have kk:keyKind' ks.toArray=pure oneType':=by
   match ks,S,hkl with
   | [],_,hkl=>simp at hkl;omega
   | [_],_,hkl=>simp at hkl;omega
   |v₁::v₂::aw,S,_=>exact keyKind_strs S
  rw[kk];refine t_ <| Em ?_;have zs:(ks.toArray.zip vs.toArray).size=vs.length:=by simp [hkl]
  have kO:KeysOf strKind (ks.toArray.zip vs.toArray):=λp hp=>by rw[ksk_zip,Jl] at hp;obtain⟨x,t,e⟩:=S.all p.1 (IH hp).1;exact⟨x.cps.toList,by rw[e]⟩
  refine t_ <| Hq (wpS_sortRunsK (κ:=strKind) strKind_oneLt (a₀:=ks.toArray.zip vs.toArray) (st:=SortSt.mk' oneType' (ks.toArray.zip vs.toArray) #[] 7 none) (Q:=λ_ st'=>(arrOf st').Perm (ks.toArray.zip vs.toArray)/\failedOf st'=none/\SortedToK strKind (arrOf st') (ks.toArray.zip vs.toArray).size) kO ⟨Array.Perm.refl _,rfl,rfl,rfl⟩ (by omega) (by omega) λst' a1 a2 a3=>⟨a1,a2,a3⟩) ?_ λ_ _ e=>e;rintro⟨⟨⟩,st'⟩ s' ⟨rfl,hp,hf,hs⟩;have hl:(arrOf st').toList.Perm (ks.zip vs):=by
   have:=Array.perm_iff_toList_perm.mp hp
   rw[ksk_zip,Jl] at this;exact this
  refine g_ st' hl ?_ hf;rw[HZ];intro i j hi hj hij;have hi':i<(arrOf st').size:=by simpa using hi
  have hj':j<(arrOf st').size:=by simpa using hj
  have h1:=hs i j (Jg hij) (by rw[<- hp.size_eq];exact hj');have m:∀q (hq:q<(arrOf st').size),∃x t,(arrOf st')[q].1=.str x t:=λq hq=>S.all _ (IH (hl.mem_iff.mp (show ((arrOf st')[q].1,(arrOf st')[q].2)∈_ from by have:=Array.getElem_mem hq;simp only[Array.mem_toList_iff];exact this))).1;obtain⟨x,t,ex⟩:=m i hi';obtain⟨y,u,ey⟩:=m j hj';rw[KK_str hi' (x:=x) (t:=t) (q:=(arrOf st')[i].2) (Prod.ext ex rfl),KK_str hj' (x:=y) (t:=u) (q:=(arrOf st')[j].2) (Prod.ext ey rfl)] at h1;change decide (y.cps.toList<x.cps.toList)=false at h1;simp only[Ir,Array.getElem_toList];rw[show strOf (arrOf st')[i].1=x by rw[ex];rfl,show strOf (arrOf st')[j].1=y by rw[ey];rfl];exact h1
theorem lA{x:Str}{t:Tok}:∀{vs:List Value}{ss:List Str},StrsAre vs ss->StrsAre (vs++[.str x t]) (ss++[x])
 |_,_,.nil=>.cons x t .nil
 |_,_,.cons y u h=>.cons y u (lA h)
def tV{a:Addr}{f:Value}{vs:List Value}{n:Nat}{xs:List Str}{P:PySem.Fin->Shared->Prop}(ho:s.heap.get? a=some (seqObj "list" vs.toArray n))(h64:vs.length<64)(hx:xs.length=vs.length)(nd:xs.Nodup)
 (hc:∀(i:Nat) (v:Value) (x:Str) (h':Heap) (tk:Nat),vs[i]?=some v->xs[i]?=some x->(∀b o,b≠a->s.heap.get? b=some o->h'.get? b=some o)->wpAny (model prog w) A (call f [v]) (λk s2=>∃h2 tk2 t,s2={ s with heap:=h2,toks:=tk2 }/\(∀b o,h'.get? b=some o->h2.get? b=some o)/\k=.str x t) (λ_ _=>False) { s with heap:=h',toks:=tk })
 (h:∀h' c tk,(∀b o,b≠a->s.heap.get? b=some o->h'.get? b=some o)->h'.get? a=some (seqObj "list" ((aH (xs.zip vs)).map (·.2)).toArray c)->P (.done (.ret .none)) { s with heap:=h',toks:=tk }):
 wpAny (model prog w) A (ksk_tree a f false) P E s:=by
 have lt:=C_ ho;have u1:=Ia s.heap a (Obj.mapSeq λ_=>(#[]:Array Value));obtain⟨e1,a1⟩:∃e1,(s.heap.update a (Obj.mapSeq λ_=>(#[]:Array Value))).get? a=some (seqObj "list" #[] e1):=⟨_,get?_update_seq ho λ_=>#[]⟩;have big:sizeLine=16777216:=rfl;unfold ksk_tree;refine t_ <| listItems_at ho rfl ?_;refine t_ <| Jn ho rfl ?_ (by rw[B_];omega) (Ho _);refine t_ <| seqEpoch_at a1 rfl ?_;refine t_ <| wpAny_newTuple ?_ (by show vs.length<=_;omega);refine t_ <| wpAny_newList ?_ (Ho _);refine HK ?_;obtain⟨h3,e3⟩:∃h3,h3=((s.heap.update a (Obj.mapSeq λ_=>(#[]:Array Value))).push (seqObj "tuple" vs.toArray 0)).push (seqObj "list" #[] 0):=⟨_,rfl⟩;obtain⟨kS,ek⟩:∃kS,kS=((s.heap.update a (Obj.mapSeq λ_=>(#[]:Array Value))).push (seqObj "tuple" vs.toArray 0)).objs.size:=⟨_,rfl⟩;have hk0:h3.get? kS=some (seqObj "list" #[] 0):=by rw[e3,ek];exact Hl _ rfl
 have ha0:h3.get? a=some (seqObj "list" #[] e1):=by rw[e3];exact w_ _ (w_ _ a1)
 have hlt:a<kS:=by rw[ek,size_push',Heap.size_update];exact Nat.lt_succ_of_lt lt
 have k0:∀b o,b≠a->s.heap.get? b=some o->b≠kS/\h3.get? b=some o:=λb o n z=>⟨λy=>by
  have:=C_ z
  rw[y,ek,size_push',Heap.size_update] at this;exact Hz _ (Nat.lt_of_succ_lt this),by rw[e3];exact w_ _ (w_ _ ((u1.2 b n).trans z))⟩
 show wpAny (model prog w) A (ksk_rest a f false vs.toArray e1 (.ref ((s.heap.update a (Obj.mapSeq λ_=>(#[]:Array Value))).push (seqObj "tuple" vs.toArray 0)).objs.size)) P E { s with heap:=((s.heap.update a (Obj.mapSeq λ_=>(#[]:Array Value))).push (seqObj "tuple" vs.toArray 0)).push (seqObj "list" #[] 0) };rw[<- e3,<- ek];clear e3 ek;unfold ksk_rest;refine t_ <| wpAny_rule ?_;rw[List.forIn_toArray];refine t_ <| ksk_fold (λi s'=>∃h' tk ks e,s'={ s with heap:=h',toks:=tk }/\(∀b o,b≠kS->h3.get? b=some o->h'.get? b=some o)/\h'.get? kS=some (seqObj "list" (List.toArray ks) e)/\StrsAre ks (xs.take i)/\i<=vs.length) vs 0 _ ⟨h3,s.toks,[],0,rfl,λb o _ z=>z,hk0,by rw[List.take_zero];exact .nil,Ho _⟩ (λj v s' hv I=>?_) λs' I=>?_
 .rw[Nat.zero_add] at I ⊢;obtain⟨h',tk,ks,e,rfl,k,hk,T,hi⟩:=I;have hj:j<vs.length:=(u_.mp hv).1;have ex:xs[j]?=some (xs[j]'(by omega)):=A_ (by omega);have tl:=HI List.length T.strs;rw[I0,v_] at tl;refine t_ <| wpAny_attempt <| Hq (hc j v _ h' tk hv ex λb o n z=>k b o (k0 b o n z).1 (k0 b o n z).2) (λkv s2 hq=>?_) λ_ _ z=>z.elim;obtain⟨h2,tk2,t,rfl,k2,rfl⟩:=hq;have hk2:=k2 kS _ hk;have u2:=Ia h2 kS (Obj.mapSeq (·.push (Value.str (xs[j]'(by omega)) t)));obtain⟨c2,hc2⟩:∃c2,(h2.update kS (Obj.mapSeq (·.push (Value.str (xs[j]'(by omega)) t)))).get? kS=some (seqObj "list" (List.toArray (ks++[Value.str (xs[j]'(by omega)) t])) c2):=⟨_,by rw[<- List.push_toArray];exact get?_update_seq hk2 (·.push _)⟩;try dsimp only
  refine t_ <| Jn hk2 rfl ?_ (by rw[B_];omega) (by rw[Array.size_push,B_];omega);refine Em ⟨rfl,_,tk2,ks++[_],c2,rfl,λb o n z=>(u2.2 b n).trans (k2 b o (k b o n z)),hc2,?_,by omega⟩;rw[List.take_succ,ex];exact lA T
 .rw[Nat.zero_add] at I;obtain⟨h',tk,ks,e,rfl,k,hk,T,hi⟩:=I;rw[Ie (by omega)] at T;have hkl:ks.length=vs.length:=by rw[<- hx,<- T.strs,v_]
  try dsimp only
  refine t_ <| listItems_at hk rfl ?_;unfold ksk_end;try dsimp only
  refine wJ (s:={ s with heap:=h',toks:=tk }) T hkl h64 nd λst' out hf=>?_;exact uW hk (k a _ (Hi hlt) ha0) (Ji hlt) out hf (by rw[v_,(bI _).length_eq,Jd];omega) (by omega) λh2 c k2 z=>h h2 c tk (λb o n y=>k2 b o (k0 b o n y).1 n (k b o (k0 b o n y).1 (k0 b o n y).2)) z
abbrev cC(p:Pos):Arguments:=⟨[],[⟨"row",none,p⟩],none,[],[],none,[]⟩
abbrev bt:Scope:={ kind:=.function,names:=[("row",.local)],isGenerator:=false,isCoroutine:=false,more:=[] }
abbrev cj(p1 p2 p3:Pos)(k0:Nat):Expr:=.Subscript (.Name "row" p1) (.Constant (.int 0) k0 p2) p3
def yD{f c' a:Addr}{q:Str}{pm ctv:Value}{its:List Value}{x:Str}{t:Tok}{p0 p1 p2 p3:Pos}{k0:Nat}
 (hroom:A.depth<recursionLimit) (ho:s.heap.get? f=some (kla_obj "<lambda>" q (cC p0) (cj p1 p2 p3 k0) bt [] pm c' ctv)) (p_:s.heap.CodeRec (.ref c') q) (hlim:s.heap.NoLimit) (ht:IsTup s.heap a (Value.str x t::its).toArray):
 wpAny (model prog w) A (call (.ref f) [.ref a]) (λk s2=>∃h2 tk2 t,s2={ s with heap:=h2,toks:=tk2 }/\(∀b o,s.heap.get? b=some o->h2.get? b=some o)/\k=.str x t) E s:=by
 refine wpAny_call ?_;refine kla_callFunE hroom ho rfl rfl rfl rfl p_ ?_;rw[show bindArgs (kla_fn "<lambda>" q (cC p0) (cj p1 p2 p3 k0) bt [] pm (.ref c') ctv) ⟨[Value.ref a],[]⟩=(pure [(("row" : Str),Value.ref a)]:Sem (List (Str×Value))) from by with_unfolding_all rfl];refine Em (wpAny_newFunctionEnv (show ∀x∈bt.names,x.2 ≠ .cell by decide) (by intro y hy;rw[HM] at hy;subst hy;rfl) (λh1 hns hsb=>⟨hlim.fresh _ hsb,?_⟩) rfl);show codeAny _ _ (.expr (cj p1 p2 p3 k0) (envX q bt s.heap.objs.size f (.ref c') [])) _ _;have k1:∀b o,s.heap.get? b=some o->h1.get? b=some o:=λb o e=>hsb.extBut b o (Hi (C_ e)) (w_ _ e);have ht1:IsTup h1 a (Value.str x t::its).toArray:=by obtain⟨o,e,d⟩:=ht;exact⟨o,k1 _ _ e,d⟩
 refine kla_codeExpr ?_;refine Subscript_ ?_;refine wpAny_Name (wpAny_loadName_local rfl rfl hns rfl ?_) (by decide);refine wpAny_Constant_int ?_;refine item_tupleL ht1 (by decide) (by decide) (j:=0) (by show seqIndex? 0 (its.length+1)=some 0;unfold seqIndex?;simp) rfl ?_;exact⟨_,_,t,rfl,k1,rfl⟩
def oy{l f:Addr}{vs:List Value}{xs:List Str}{Q:Jq}(hl:s.heap.IsList l vs.toArray)(h64:vs.length<64)(hx:xs.length=vs.length)(nd:xs.Nodup)
 (hc:∀(i:Nat) (v:Value) (x:Str) (h':Heap) (tk:Nat),vs[i]?=some v->xs[i]?=some x->(∀b o,s.heap.get? b=some o->h'.get? b=some o)->wpAny (model prog w) A.in1.in1 (call (.ref f) [v]) (λk s2=>∃h2 tk2 t,s2={ s with heap:=h2,toks:=tk2 }/\(∀b o,h'.get? b=some o->h2.get? b=some o)/\k=.str x t) (λ_ _=>False) { s with heap:=h',toks:=tk })
 (h:∀(h':Heap) (D:Addr) (c tk:Nat),s.heap.objs.size<=D->(∀b o,s.heap.get? b=some o->h'.get? b=some o)->h'.get? D=some (seqObj "list" ((aH (xs.zip vs)).map (·.2)).toArray c)->Q (.ref D) { s with heap:=h',toks:=tk }):
 wpAny (model prog w) A (call (.builtin "sorted") [.ref l] [(Str.ofString "key",.ref f)]) Q E s:=by
 refine call_function_entry_kw kind_sorted plain_sorted entry_sorted (ksk_s1 _ _) ?_;unfold Builtin.«sorted»;refine t_ (m:=checkCount "sorted" 1 1 _) <| Em ?_;have big:sizeLine=16777216:=rfl;refine t_ <| collect_list hl ?_ (by omega);have k1:∀b o,s.heap.get? b=some o->((s.heap.push (seqObj "list" #[] 0)).update s.heap.objs.size (Obj.mapSeq (·++vs.toArray))).get? b=some o:=λb o e=>((Ia (s.heap.push (seqObj "list" #[] 0)) s.heap.objs.size (Obj.mapSeq (·++vs.toArray))).2 b (Hi (C_ e))).trans (w_ _ e);have sz:s.heap.objs.size<=((s.heap.push (seqObj "list" #[] 0)).update s.heap.objs.size (Obj.mapSeq (·++vs.toArray))).objs.size:=by rw[Heap.size_update,size_push'];exact Nat.le_succ _
 generalize (s.heap.push (seqObj "list" #[] 0)).update s.heap.objs.size (Obj.mapSeq (·++vs.toArray))=h1 at k1 sz ⊢;refine t_ <| wpAny_newList ?_ (by omega);have hoL:(h1.push (seqObj "list" vs.toArray 0)).get? h1.objs.size=some (seqObj "list" vs.toArray 0):=Hl _ rfl;have kL:∀b o,s.heap.get? b=some o->b≠h1.objs.size/\(h1.push (seqObj "list" vs.toArray 0)).get? b=some o:=λb o e=>⟨Hi (C_ (k1 b o e)),w_ _ (k1 b o e)⟩;refine t_ <| HK <| wpAny_call_entry_kw slot_list_sort ⟨_,hoL,rfl⟩ entry_list_sort ?body (ksk_l1 _ _)
 case body=>
  show wpAny (model prog w) A.in1.in1 (Builtin.«list.sort» ⟨[.ref h1.objs.size],[(Str.ofString "key",.ref f)]⟩) _ _ { s with heap:=h1.push (seqObj "list" vs.toArray 0) };rw[ksk_t1];refine tV (s:={ s with heap:=h1.push (seqObj "list" vs.toArray 0) }) (xs:=xs) hoL h64 hx nd (λi v x h' tk e1 e2 k=>?_) λh' c tk k z=>?_
  .exact hc i v x h' tk e1 e2 λb o e=>k b o (kL b o e).1 (kL b o e).2
  .exact⟨_,rfl,Em ⟨_,rfl,h h' h1.objs.size c tk sz (λb o e=>k b o (kL b o e).1 (kL b o e).2) z⟩⟩
end
def RowsV(K:W.Frag)(H:Hp):List V->List Str->Prop
 | [],[]=>True
 |v::vs,x::xs=>(∃p aw,v=.ref p/\SqT K H p (.str x::aw))/\RowsV K H vs xs
 |_,_=>False
theorem RowsV.len{K:W.Frag}{H:Hp}:∀{vs:List V}{xs:List Str},RowsV K H vs xs->vs.length=xs.length
 | [],[],_=>rfl
 | [],_::_,t=>t.elim
 |_::_,[],t=>t.elim
 |_::_,_::_,t=>by rw[Hr,Hr,t.2.len]
theorem RowsV.get{K:W.Frag}{H:Hp}:∀{vs:List V}{xs:List Str}{i:Nat}{x:Str},RowsV K H vs xs->xs[i]?=some x->∃p aw,vs[i]?=some (.ref p)/\SqT K H p (.str x::aw)
 | [],[],_,_,_,e=>nomatch e
 | [],_::_,_,_,t,_=>t.elim
 |_::_,[],_,_,t,_=>t.elim
 |
  _::_,_::_,0,_,t,e=>by
  obtain⟨p,aw,rfl,q⟩:=t.1;cases e;exact⟨p,aw,rfl,q⟩
 |_::vs,_::xs,i+1,x,t,e=>RowsV.get (vs:=vs) (xs:=xs) (i:=i) t.2 e
theorem kG:∀{xs:List Str}{us:List V}{its:List Value},us.length=xs.length->Vals us its->All2 RelV (xs.zip us) (xs.zip its)
 | [],[],_,_,r=>by cases r;exact .nil
 |
  x::xs,u::us,_,h,r=>by
  cases r with
  |cons r rr=>exact .cons r (kG (by simpa using h) rr)
def uj:∀{l:List (Str×V)}{m:List (Str×Value)},All2 RelV l m->Vals (l.map (·.2)) (m.map (·.2)):=λh=>by
 induction h with
 |nil=>exact .nil
 |cons r _ ih=>exact .cons r ih
section
variable{X:Cx}{ta:TA}{c P:Addr}{a:Expr}{q1 q7 q8 q9 p0 p1 p2 p3:Pos}{k0:Nat}
def EF(K:W.Frag)(mg:Jo)(P:Addr)(q:Str)(pos:Pos):List V->Hp->VK->Prop:=λvs H Q=>∃(b:Addr) (us:List V) (xs:List Str) (ps:Array Value),vs=[.ref b]/\SqL K H b us/\RowsV K H us xs/\xs.Nodup/\us.length<64/\H P=some (.tbl ps)/\TriplesOk ps.toList/\(∀ps' cv,codeAmong ps' ps.toList=some cv->∃c,cv=.ref c/\H c=some (.ext (fK c q)))/\BMok K mg H/\
 ∀H2 l,Grown H H2 P q ps pos->H2 l=none->Q (.ref l) (upd H2 l (.lst ((aH (xs.zip us)).map (·.2))))
def EL(K:W.Frag)(mg:Jo)(P:Addr)(q:Str)(pos:Pos)(ta:TA):TE:=λσ H Q=>ta σ H λvs H1=>EF K mg P q pos vs H1 Q
def zI(hdp:X.A.depth<recursionLimit)(hl:Gl X "sorted")(hml:X.mg "sorted"=none)(ha:PA X [a] ta)(p_:X.env.code=.ref c)(hh:codeHdIn X.K c P=true)(hs:starEach [a] X.env=[(false,eval a X.env)]):
 PE X (.Call (.Name "sorted" q1) [a] [⟨some "key",.Lambda (cC p0) (cj p1 p2 p3 k0) bt q7,q8⟩] q9) (EL X.K X.mg P (X.env.qual ++ "<lambda>") q7 ta):=by
 intro pins s σ H Q I h;refine IP (gE I hl hml (show bootBuiltins "sorted"=some (.builtin "sorted") from rfl) ?_ (by decide) (by decide));refine callWith_kw ?_ (by rw[hs];rfl) (by rw[hs];rfl) rfl rfl;refine thn (ha q9 pins s σ H _ I h) λus0 s1 ⟨vs,H1,I1,r1,z1⟩=>?_;obtain⟨b,us,xs,ps,e,hq,tv,nd,hz,hP,htr,hcs,hB,q⟩:=z1;subst e;cases r1 with
 |
  cons r rr=>
  cases rr;cases r;obtain⟨its,rv,pl,hz2⟩:=I1.list hq;have l1:=tv.len;have l2:=rv.length;have clo:closureFor bt X.env=(pure []:Sem (List (Str×Addr))):=by simp [closureFor]
  have tabP:s1.heap.get? P=some { cls:=.none,data:=.fields ps }:=I1.hok P _ hP;have nP:∀{b:Addr}{o:Obj},s1.heap.get? b=some o->o.cls ≠ .none->b≠P:=λ{b o} e n z=>by rw[z,tabP] at e;cases e;exact n rfl
  have g_:∀(H2:Hp) (s3:Shared) (f c':Addr) (pm ctv:Value),Grown H1 H2 P (X.env.qual ++ "<lambda>") ps q7->Inv X pins σ H2 s3->(∀b o,b≠P->s1.heap.get? b=some o->s3.heap.get? b=some o)->s3.heap.get? f=some (kla_obj "<lambda>" (X.env.qual ++ "<lambda>") (cC p0) (cj p1 p2 p3 k0) bt [] pm c' ctv)->s3.heap.CodeRec (.ref c') (X.env.qual ++ "<lambda>")->
   wpAny (model X.prog X.w) X.A (call (.builtin "sorted") [.ref b] [(Str.ofString "key",.ref f)]) (EP X pins σ Q) X.xe s3:=by
   intro H2 s3 f c' pm ctv G3 I3 k3 hf hrec;have hl3:s3.heap.IsList b its.toArray:=by obtain⟨o,e1,e2⟩:=pl.isList;exact⟨o,k3 _ _ (nP e1 (by rw[e2.1];intro z;cases z)) e1,e2⟩
   refine oy (vs:=its) (xs:=xs) hl3 (by omega) (by omega) nd (λi v x h' tk e1 e2 k=>?_) λh' D c tk sz k z=>?_
   .obtain⟨p,aw,ep,sq⟩:=tv.get e2;obtain⟨u,eu,ru⟩:=rv.get ep;rw[e1] at eu;cases eu;cases ru;obtain⟨ti,rt,pt,_⟩:=I1.tuple sq;cases rt with
    |cons rx rt=>obtain⟨t,rfl⟩:=rx;have kp:∀{its:Array Value},IsTup s1.heap p its->IsTup h' p its:=λ⟨o,e1,e2⟩=>⟨o,k _ _ (k3 _ _ (nP e1 (by rw[e2.1];intro z;cases z)) e1),e2⟩;exact yD (s:={ s3 with heap:=h',toks:=tk }) hdp (k _ _ hf) (by obtain⟨c2,o,vs,tq,e1,e2,e3⟩:=hrec;exact⟨c2,o,vs,tq,e1,k _ _ e2,e3⟩) (I3.nolimit.keeps k) (kp pt)
   .have big:sizeLine=16777216:=rfl;have ln:((aH (xs.zip us)).map (·.2)).length<=sizeLine:=by rw[v_,(bI _).length_eq,Jd];omega
    have vz:Vals ((aH (xs.zip us)).map (·.2)) ((aH (xs.zip its)).map (·.2)):=uj ((kG l1 rv).srt (by rw[H9 (by omega)];exact nd));exact⟨.ref D,_,I3.laid (t':=tk) k sz (show ObjOk X.prog X.w _ h' _ (.lst _) from ⟨ln,_,c,vz,z⟩),rfl,q H2 D G3 (I3.hok.fresh sz)⟩
  have glb:s1.heap.Ns mainGlobals X.mg:=I1.mod.glob.keeps I1.bk;have gP:mainGlobals≠P:=λz=>by obtain⟨o,es,ep,e,d,_⟩:=glb;rw[z,tabP] at e;cases e;cases d
  have bAt:s1.heap.BuiltinsAt X.mg P:=by
   obtain⟨bm,o,y1,y2,y3,⟨y4,y5,y6⟩,y7⟩:=hB;have y8:s1.heap.get? bm=some o:=by
    rcases y7 with z |⟨u,z⟩
    .exact I1.kIn bm o z
    .exact (I1.hok bm _ z).1
   exact⟨bm,o,y1,y2,y3,(λz=>by rw[z,tabP] at y8;cases y8;cases y6),y8,y4,y5,y6⟩
  have CH:=codeHd_of_K I1.kIn hh;have lam:wpAny (model X.prog X.w) X.A (eval (.Lambda (cC p0) (cj p1 p2 p3 k0) bt q7) X.env) (λv s3=>∃f,v=.ref f/\wpAny (model X.prog X.w) X.A (call (.builtin "sorted") [.ref b] [(Str.ofString "key",.ref f)]) (EP X pins σ Q) X.xe s3) X.xe s1:=by
   refine kla_eval rfl ?_;cases am:codeAmong q7 ps.toList with
   |
    none=>
    refine kla_makeFunction (mg:=X.mg) clo I.ok.glob glb p_ CH tabP htr am gP bAt λc' ctv h' tk hx hge hlt hrec htb=>?_;have hrec':(h'.push (kla_obj "<lambda>" (X.env.qual ++ "<lambda>") (cC p0) (cj p1 p2 p3 k0) bt [] ((X.mg "__name__").getD .none) c' ctv)).CodeRec (.ref c') (X.env.qual ++ "<lambda>"):=by obtain⟨c2,o,vs,tq,e1,e2,e3⟩:=hrec;exact⟨c2,o,vs,tq,e1,w_ _ e2,e3⟩
    exact⟨_,rfl,g_ _ _ _ c' _ ctv (.inr ⟨c',I1.hok.fresh hge,am,rfl⟩) (I1.tabled (t':=tk) hP (λb o n e=>w_ _ (hx b o n e)) hge hrec' (w_ _ htb)) (λb o n e=>w_ _ (hx b o n e)) (Hl _ rfl) hrec'⟩
   |some cv=>obtain⟨c',rfl,hc'⟩:=hcs q7 cv am;refine kla_makeFunctionHit (mg:=X.mg) clo I.ok.glob glb p_ CH tabP htr am bAt λctv h' tk k hsz=>?_;obtain⟨c2,o,vs,tq,e1,e2,e3⟩:s1.heap.CodeRec (.ref c') (X.env.qual ++ "<lambda>"):=(I1.hok c' _ hc').1;exact⟨_,rfl,g_ _ _ _ c' _ ctv (.inl rfl) (I1.kept (t':=tk) λb o e=>w_ _ (k b o e)) (λb o n e=>w_ _ (k b o e)) (Hl _ rfl) ⟨c2,o,vs,tq,e1,w_ _ (k _ _ e2),e3⟩⟩
  show wpAny _ _ (do
   let v <- (do let v <- eval (.Lambda (cC p0) (cj p1 p2 p3 k0) bt q7) X.env;standAt q9;pure v)
   return v::(<- holding [v] (evalAll []))) _ _ _
  refine t_ <| t_ <| Hq lam (λv s3 hv3=>?_) λ_ _ z=>z;obtain⟨f,rfl,hv3⟩:=hv3;exact t_ (IA (Em (t_ (HK (Em (Em hv3))))))
end
def eQ:List D->Option (List Str)
 | []=>some []
 |.tup (.str x::_)::ds=>(eQ ds).map (x :: ·)
 |_::_=>none
section
variable{X:Cx}{K:W.Frag}{mg:Jo}{ES:St->XK}{a:Expr}{F:ME}{c P:Addr}{q1 q7 q8 q9 p0 p1 p2 p3:Pos}{k0:Nat}
theorem kX{ρ:List Addr}{H:Hp}:∀{ds:List D}{vs:List V}{ks:List Str},RelDs K mg ρ H ds vs->eQ ds=some ks->RowsV K H vs ks
 | [],_,_,r,e=>by cases r;cases e;trivial
 |
  d::ds,_,ks,r,e=>by
  cases r with
  |
   cons r rr=>
   unfold eQ at e;split at e
   .rename_i z;exact (nomatch z)
   .rename_i x aw ds' z;cases z;obtain⟨ms,e1,rfl⟩:=G9.mp e;refine⟨?_,kX rr e1⟩;cases r with
    |
     tup q rs=>
     cases rs with
     |cons r1 rs=>cases r1;exact⟨_,_,rfl,q⟩
   .cases e
theorem gx:∀{ds:List D}{ks:List Str},eQ ds=some ks->ks.length=ds.length
 | [],_,e=>by cases e;rfl
 |
  d::ds,ks,e=>by
  unfold eQ at e;split at e
  .rename_i z;exact (nomatch z)
  .rename_i z;cases z;obtain⟨ms,e1,rfl⟩:=G9.mp e;rw[Hr,Hr,gx e1]
  .cases e
theorem nr{ρ:List Addr}{H:Hp}:∀{xs:List Str}{ds:List D}{us:List V},ds.length=xs.length->RelDs K mg ρ H ds us->All2 (RelD K mg ρ H) (xs.zip ds) (xs.zip us)
 | [],[],_,_,r=>by cases r;exact .nil
 |
  x::xs,d::ds,_,h,r=>by
  cases r with
  |cons r rr=>exact .cons r (nr (by simpa using h) rr)
def vx{ρ:List Addr}{H:Hp}:∀{l:List (Str×D)}{m:List (Str×V)},All2 (RelD K mg ρ H) l m->RelDs K mg ρ H (l.map (·.2)) (m.map (·.2)):=λh=>by
 induction h with
 |nil=>exact .nil
 |cons r _ ih=>exact .cons r ih
def gZ:Fn:=λds h=>match ds with
 | [d]=>match lsD h d with
  |some xs=>match eQ xs with
   |some ks=>if ks.Nodup/\ks.length<64 then .ok (.ref h.length) (h++[.lst ((aH (ks.zip xs)).map (·.2))]) else .stuck
   |none=>.stuck
  |none=>.stuck
 |_=>.stuck
def yh(hdp:X.A.depth<recursionLimit)(hl:Gl X "sorted")(hml:X.mg "sorted"=none)(ha:DE K mg X ES a F)(p_:X.env.code=.ref c)(hh:W.codeHdIn K c P=true)(hT:LamT K mg P (X.env.qual ++ "<lambda>"))(hs:starEach [a] X.env=[(false,eval a X.env)])(hK:X.K=K)(hk:X.mg=mg):
 DE K mg X ES (.Call (.Name "sorted" q1) [a] [⟨some "key",.Lambda (cC p0) (cj p1 p2 p3 k0) bt q7,q8⟩] q9) (eFn gZ (g6 F j8)):=by
 subst hK hk;refine PE.imp (zI hdp hl hml (o3 ha se hs) p_ hh hs) λσ H Q q_=>q_.el λρ h ae w re p=>⟨ρ,h,ae,w,re,?_⟩;unfold eFn at p;unfold g6 j8 at p ⊢;cases hF:F ae h with
 |stuck=>rw[hF] at p;exact p.elim
 |exc c h1=>rw[hF] at p;exact p
 |
  ok x h1=>
  rw[hF] at p;intro ρ1 H1 l1 w1 vs rs;have p3:bY X.K X.mg ρ1 H1 Q (ES σ) (gZ [x] h1):=PostG.mono l1 p;unfold gZ at p3;cases rs with
  |
   cons rx rr=>
   cases rr;dsimp only at p3;split at p3
   .rename_i xs e1;split at p3
    .rename_i ks e2;split at p3
     .rename_i hj;obtain⟨b,us,rfl,hq,rs'⟩:=ye w1 rx e1;obtain⟨⟨t1,ps,t2,t3,t4⟩,bm⟩:=w1.tb P _ hT;have rw':=kX rs' e2;have ln:=gx e2;refine⟨b,us,ks,ps,rfl,hq,rw',hj.1,by rw[rw'.len];exact hj.2,t2,t3,t4,bm,λH2 l g hl2=>?_⟩;obtain⟨w2,l2⟩:=g.ok w1 hT t2;have rs2:RelDs X.K X.mg ρ1 H2 xs us:=rs'.mono l2;exact cP w2 (vx ((nr ln.symm rs2).srt (by rw[H9 (by rw[rw'.len];exact y_ _)];exact hj.1))) hl2 (PostG.mono l2 p3)
     .exact p3.elim
    .exact p3.elim
   .exact p3.elim
end
def mnS:List Str->Str
 | []=>⟨#[]⟩
 | [x]=>x
 |x::y::r=>if ltS (mnS (y::r)) x=true then mnS (y::r) else x
theorem kr:∀{l:List Str},l≠[]->mnS l∈l
 | [x],_=>by simp [mnS]
 |
  x::y::r,_=>by
  have:=kr (l:=y::r) (by simp)
  rw[mnS];split
  .exact F_ _ this
  .exact G5 ..
def dU(x:Str):ltS x x=false:=by
 cases h:ltS x x with
 |false=>rfl
 |true=>rw[d7 h] at h;cases h
def rT{x y z:Str}(h1:ltS y x=false)(h2:ltS z y=false):ltS z x=false:=by
 cases h:ltS z x with
 |false=>rfl
 |
  true=>
  cases e:ltS x y with
  |true=>rw[sV h e] at h2;cases h2
  |false=>obtain rfl:=g9 e h1;rw[h] at h2;cases h2
theorem sP:∀{l:List Str}{a:Str},a∈l->ltS a (mnS l)=false
 | [x],a,h=>by rw[HM] at h;rw[h];exact dU _
 |
  x::y::r,a,h=>by
  rw[mnS];rcases Hv.mp h with rfl |h
  .split
   .rename_i z;exact d7 z
   .exact dU _
  .have:=sP (l:=y::r) h
   split
   .exact this
   .rename_i z;exact rT (by simpa using z) this
def pw{l:List Str}{x:Str}(hx:x∈l)(h:∀a∈l,ltS a x=false):mnS l=x:=g9 (h _ (kr (List.ne_nil_of_mem hx))) (sP hx)
theorem lp(f:Nat->Str):∀k,argBest (λi j=>decide ((f i).cps.toList<(f j).cps.toList)) k<=k/\∀j,j<=k->ltS (f j) (f (argBest (λi j=>decide ((f i).cps.toList<(f j).cps.toList)) k))=false
 |0=>⟨y_ _,λj hj=>by
  obtain rfl:j=0:=by omega
  exact dU _⟩
 |
  k+1=>by
  obtain⟨h1,h2⟩:=lp f k;simp only[argBest];split
  .rename_i z;refine⟨y_ _,λj hj=>?_⟩;rcases Nat.lt_or_ge j (k+1) with hlt |hge
   .exact rT (d7 z) (h2 j (by omega))
   .obtain rfl:j=k+1:=by omega
    exact dU _
  .rename_i z;refine⟨by omega,λj hj=>?_⟩;rcases Nat.lt_or_ge j (k+1) with hlt |hge
   .exact h2 j (by omega)
   .obtain rfl:j=k+1:=by omega
    exact Bool.eq_false_iff.mpr z
section
variable{prog:Program}{w:World}{A:Around}{E:Jq}{s:Shared}
def qW{P:Nat->Value->Prop}(val:Nat->Str)(hval:∀i v,P i v->∃t,v=Value.str (val i) t):CmpOf prog w A .Lt P (λi j=>decide ((val i).cps.toList<(val j).cps.toList)):=λi j vi vj s Q E hi hj h=>by obtain⟨t,rfl⟩:=hval i vi hi;obtain⟨u,rfl⟩:=hval j vj hj;exact richCompare_gives (op:=.Lt) (typeIs_str s _ t) (typeIs_str s _ u) F.slot_str_lt F.entry_str_lt (F.args_str_lt_2 _ _) (gives_str_lt _ _ t u) (λx=>nomatch x) h
def wq{l:Addr}{vs:List Value}{xs:List Str}{Q:Jq}(hh:A.handled=none)(hl:s.heap.IsList l vs.toArray)(S:StrsAre vs xs)(hne:xs≠[])
 (h:∀t h' tk,(∀b o,s.heap.get? b=some o->h'.get? b=some o)->Q (.str (mnS xs) t) { s with heap:=h',toks:=tk }):
 wpAny (model prog w) A (call (.builtin "min") [.ref l]) Q E s:=by
 have ln:vs.length=xs.length:=by rw[<- S.strs,v_]
 have hp:=List.length_pos_iff.mpr hne;have at_:∀i v,vs.toArray[i]?=some v->∃t,v=Value.str (xs.getD i ⟨#[]⟩) t:=λi v e=>by
  have e':vs[i]?=some v:=by simpa using e
  obtain⟨x,t,rfl⟩:=S.all v (HH e');refine⟨t,?_⟩;have:xs[i]?=some x:=by rw[<- S.strs,Hj,e'];rfl
  rw[Hu,this];rfl
 have hlt:l<s.heap.objs.size:=by obtain⟨_,e,_⟩:=hl;exact C_ e
 refine call_min_walk (wpAny_pyIter_list hl ?_);refine⟨_,_,_,_,_,_,_,rfl,Walks.list (A:=A.in1) hh _ l (Hi hlt) vs.toArray,⟨⟨_,Hl _ rfl,rfl,rfl⟩,hl.push _⟩,λb hb=>?_,by rw[B_];omega,qW (λi=>xs.getD i ⟨#[]⟩) at_,λv h' tk hP hk=>?_⟩
 .show b<(s.heap.push _).objs.size;rw[Heap.size_push];rcases Hv.mp hb with rfl |hb
  .exact Nat.lt_succ_self _
  .rcases Hv.mp hb with rfl |hb
   .exact Nat.lt_succ_of_lt hlt
   .cases hb
 .obtain⟨t,rfl⟩:=at_ _ _ hP;obtain⟨h1,h2⟩:=lp (λi=>xs.getD i ⟨#[]⟩) (vs.toArray.size-1);rw[B_] at h1 h2 hP ⊢;have e:mnS xs=xs.getD (argBest (λi j=>decide ((xs.getD i ⟨#[]⟩).cps.toList<(xs.getD j ⟨#[]⟩).cps.toList)) (vs.length-1)) ⟨#[]⟩:=by
   refine pw ?_ λa ha=>?_
   .rw[Hu,A_ (by omega)];exact List.getElem_mem _
   .obtain⟨j,hj,rfl⟩:=List.getElem_of_mem ha
    have:=h2 j (by omega)
    rw[Hu (i:=j),A_ hj] at this;exact this
  have:=h t h' tk (old_kept hk)
  rw[e] at this;exact this
end
section
variable{X:Cx}{K:W.Frag}{mg:Jo}
def qK(K:W.Frag):List V->Hp->VK->Prop:=λxs H Q=>∃(a:Addr) (ns:List Str),xs=[.ref a]/\SqL K H a (ns.map V.str)/\ns≠[]/\Q (.str (mnS ns)) H
theorem pv:∀{ns:List Str}{its:List Value},Vals (ns.map V.str) its->StrsAre its ns
 | [],_,r=>by cases r;exact .nil
 |
  n::ns,_,r=>by
  cases r with
  |cons r rr=>obtain⟨t,rfl⟩:=r;exact .cons n t (pv rr)
def tH(hK:X.K=K)(hc:X.calm=true):CallR X (.builtin "min") (qK K):=by subst hK;intro pins s σ H xs us Q I r h;obtain⟨a,ns,rfl,hq,hne,q⟩:=h;obtain⟨u,rfl,ru⟩:=gJ r;cases ru;obtain⟨its,rv,p,hz⟩:=I.list hq;exact wq (I.ok.hd hc) p.isList (pv rv) hne λt h' tk hk=>⟨.str (mnS ns),H,I.kept (t':=tk) hk,⟨_,rfl⟩,q⟩
def gX:List D->Option (List Str)
 | []=>some []
 |.str x::ds=>(gX ds).map (x :: ·)
 |_::_=>none
theorem lx{ρ:List Addr}{H:Hp}:∀{ds:List D}{vs:List V}{ks:List Str},RelDs K mg ρ H ds vs->gX ds=some ks->vs=ks.map V.str
 | [],_,_,r,e=>by cases r;cases e;rfl
 |
  d::ds,_,ks,r,e=>by
  cases r with
  |
   cons r rr=>
   unfold gX at e;split at e
   .rename_i z;exact (nomatch z)
   .rename_i z;cases z;obtain⟨ms,e1,rfl⟩:=G9.mp e;cases r;rw[lx rr e1];rfl
   .cases e
def jq:Fn:=λds h=>match ds with
 | [.ref n]=>match (aJ h n).bind gX with
  |some ns=>if ns≠[] then .ok (.str (mnS ns)) h else .stuck
  |none=>.stuck
 |_=>.stuck
def zw:bK K mg (qK K) jq:=λρ h H ds vs Q E w rs p=>by
 unfold jq at p;split at p
 .cases
   rs with
  |
   cons r rs=>
   cases r with
   |
    ref ea=>
    cases rs;split at p
    .rename_i bs e;obtain⟨xs,q,e2⟩:=Hy.mp e;split at p
     .rename_i hne;obtain⟨vs,h1,h2⟩:=bq w ea q;rw[lx h2 e2] at h1;exact⟨_,bs,rfl,h1,hne,ax w (.str _) p⟩
     .exact p.elim
    .exact p.elim
 .exact p.elim
def qI:R2:=λx y H Q=>∃z u,x=.str z/\y=.str u/\z.length+u.length<=16777216/\Q (.str (z++u)) H
def xP:OpR X (binaryOp .Add) qI:=by intro pins s σ H x y v u Q I rx ry h;obtain⟨z,u',rfl,rfl,hz,q⟩:=h;obtain⟨t,rfl⟩:=rx;obtain⟨t',rfl⟩:=ry;exact PyProof.Rows.add_str (λt' tk=>⟨.str (z++u'),H,I.tok _,⟨_,rfl⟩,q⟩) hz
def ju:D->D->AH->R D:=λx y h=>match x,y with
 |.str z,.str u=>if z.length+u.length<=16777216 then .ok (.str (z++u)) h else .stuck
 |_,_=>.stuck
def wR:OpD K mg qI ju:=λρ h H dx dy x y Q E w rx ry p=>by
 unfold ju at p;split at p
 .cases rx;cases ry;split at p
  .rename_i hz;exact⟨_,_,rfl,rfl,hz,ax w (.str _) p⟩
  .exact p.elim
 .exact p.elim
end
end L2
namespace L3
open PySem PySem.Spec PyProof.Rows L2
set_option genInjectivity true in
inductive Val where
 |non |bl (b:Bool) |int (i:Int) |str (x:Str) |ty (n:String) |glb (x:Str) |exc (x:Str)
 |tup (xs:List Val) |lst (xs:List Val) |kl (xs:List Val) |dct (kvs:List (Key×Val)) |set (xs:List Int)
 deriving Inhabited
mutual
inductive Rd(P:Nat->Prop)(h:AH):D->Val->Prop where
 |non:Rd P h .non .non
 |bl (b:Bool):Rd P h (.bl b) (.bl b)
 |int (i:Int):Rd P h (.int i) (.int i)
 |str (x:Str):Rd P h (.str x) (.str x)
 |ty (n:String):Rd P h (.ty n) (.ty n)
 |glb (x:Str):Rd P h (.glb x) (.glb x)
 |exc (x:Str):Rd P h (.exc x) (.exc x)
 |tup {ds:List D}{vs:List Val} (r:Rds P h ds vs):Rd P h (.tup ds) (.tup vs)
 |kl {ds:List D}{vs:List Val} (r:Rds P h ds vs):Rd P h (.kl ds) (.kl vs)
 |cell {n:Nat}{o:Ob}{v:Val} (p:P n) (e:h[n]?=some o) (r:Rc P h o v):Rd P h (.ref n) v
inductive Rc(P:Nat->Prop)(h:AH):Ob->Val->Prop where
 |lst {ds:List D}{vs:List Val} (r:Rds P h ds vs):Rc P h (.lst ds) (.lst vs)
 |fz {ds:List D}{vs:List Val} (r:Rds P h ds vs):Rc P h (.fz ds) (.kl vs)
 |dct {ws:List (Key×D)}{us:List (Key×Val)} (r:Rk P h ws us):Rc P h (.dct ws) (.dct us)
 |set (xs:List Int):Rc P h (.set xs) (.set xs)
inductive Rds(P:Nat->Prop)(h:AH):List D->List Val->Prop where
 |nil:Rds P h [] []
 |cons {d:D}{v:Val}{ds:List D}{vs:List Val} (r:Rd P h d v) (rr:Rds P h ds vs):Rds P h (d::ds) (v::vs)
inductive Rk(P:Nat->Prop)(h:AH):List (Key×D)->List (Key×Val)->Prop where
 |nil:Rk P h [] []
 |cons {k:Key}{d:D}{v:Val}{ds:List (Key×D)}{vs:List (Key×Val)} (r:Rd P h d v) (rr:Rk P h ds vs):Rk P h ((k,d)::ds) ((k,v)::vs)
end
section
variable{P P':Nat->Prop}{h h':AH}
abbrev Mov(P P':Nat->Prop)(h h':AH):Prop:=∀n o,P n->h[n]?=some o->P' n/\h'[n]?=some o
def Rd.mono(m:Mov P P' h h')(r:Rd P h d v):Rd P' h' d v:=@Rd.rec P h (λd v _=>Rd P' h' d v) (λo v _=>Rc P' h' o v) (λds vs _=>Rds P' h' ds vs) (λws us _=>Rk P' h' ws us) .non (λb=>.bl b) (λi=>.int i) (λx=>.str x) (λn=>.ty n) (λx=>.glb x) (λx=>.exc x) (λ_ ih=>.tup ih) (λ_ ih=>.kl ih) (λp e _ ih=>.cell (m _ _ p e).1 (m _ _ p e).2 ih) (λ_ ih=>.lst ih) (λ_ ih=>.fz ih) (λ_ ih=>.dct ih) (λxs=>.set xs) .nil (λ_ _ a b=>.cons a b) .nil (λ_ _ a b=>.cons a b) d v r
def Rds.ind{M:List D->List Val->Prop}(h0:M [] [])(h1:∀{d v ds vs},Rd P h d v->Rds P h ds vs->M ds vs->M (d::ds) (v::vs)){ds:List D}{vs:List Val}(r:Rds P h ds vs):M ds vs:=by
 induction ds generalizing vs with
 |nil=>cases r;exact h0
 |
  cons d ds ih=>
  cases r with
  |cons r rr=>exact h1 r rr (ih rr)
def Rk.ind{M:List (Key×D)->List (Key×Val)->Prop}(h0:M [] [])(h1:∀{k d v ds vs},Rd P h d v->Rk P h ds vs->M ds vs->M ((k,d)::ds) ((k,v)::vs)){ds:List (Key×D)}{vs:List (Key×Val)}(r:Rk P h ds vs):M ds vs:=by
 induction ds generalizing vs with
 |nil=>cases r;exact h0
 |
  cons d ds ih=>
  cases r with
  |cons r rr=>exact h1 r rr (ih rr)
def Rds.mono(m:Mov P P' h h'){d:List D}{v:List Val}(r:Rds P h d v):Rds P' h' d v:=r.ind .nil λr _ ih=>.cons (r.mono m) ih
def Rk.mono(m:Mov P P' h h'){d:List (Key×D)}{v:List (Key×Val)}(r:Rk P h d v):Rk P' h' d v:=r.ind .nil λr _ ih=>.cons (r.mono m) ih
def Rc.mono(m:Mov P P' h h')(r:Rc P h d v):Rc P' h' d v:=by
 cases r with
 |lst r=>exact .lst (r.mono m)
 |fz r=>exact .fz (r.mono m)
 |dct r=>exact .dct (r.mono m)
 |set xs=>exact .set xs
def Rds.len{ds:List D}{vs:List Val}(r:Rds P h ds vs):ds.length=vs.length:=r.ind (M:=λds vs=>ds.length=vs.length) rfl λ_ _ ih=>HI (· + 1) ih
def Rds.get{ds:List D}{vs:List Val}{i:Nat}{v:Val}(r:Rds P h ds vs)(e:vs[i]?=some v):∃d,ds[i]?=some d/\Rd P h d v:=
 r.ind (M:=λds vs=>∀i,vs[i]?=some v->∃d,ds[i]?=some d/\Rd P h d v) (λ_ e=>by rw[List.getElem?_nil] at e;cases e) (λr _ ih i e=>match i,e with
  |0,e=>by cases e;exact⟨_,rfl,r⟩
  |i+1,e=>ih i e) i e
def Rds.append{ds es:List D}{vs ws:List Val}(r:Rds P h ds vs)(q:Rds P h es ws):Rds P h (ds++es) (vs++ws):=r.ind (M:=λds vs=>Rds P h (ds++es) (vs++ws)) q λr _ ih=>.cons r ih
def Rds.take{ds:List D}{vs:List Val}(n:Nat)(r:Rds P h ds vs):Rds P h (ds.take n) (vs.take n):=
 r.ind (M:=λds vs=>∀n:Nat,Rds P h (ds.take n) (vs.take n)) (λn=>by rw[Iz,Iz];exact .nil) (λr _ ih n=>by cases n with |zero=>exact .nil |succ n=>exact .cons r (ih n)) n
def Rds.drop{ds:List D}{vs:List Val}(n:Nat)(r:Rds P h ds vs):Rds P h (ds.drop n) (vs.drop n):=
 r.ind (M:=λds vs=>∀n:Nat,Rds P h (ds.drop n) (vs.drop n)) (λn=>by rw[Iy,Iy];exact .nil) (λr rr ih n=>by cases n with |zero=>exact .cons r rr |succ n=>exact ih n) n
def Rds.set{d:D}{v:Val}(r:Rd P h d v){ds:List D}{vs:List Val}(i:Nat)(q:Rds P h ds vs):Rds P h (ds.set i d) (vs.set i v):=
 q.ind (M:=λds vs=>∀i:Nat,Rds P h (ds.set i d) (vs.set i v)) (λ_=>.nil) (λq qq ih i=>by cases i with |zero=>exact .cons r qq |succ i=>exact .cons q (ih i)) i
def ShR(P:Nat->Prop)(h:AH)(d:D)(v:Val):Prop:=Rd P h d v\/∃n o,d=.ref n/\h[n]?=some o/\Rc P h o v
inductive ShRs(P:Nat->Prop)(h:AH):List D->List Val->Prop where
 |nil:ShRs P h [] []
 |cons {d:D}{v:Val}{ds:List D}{vs:List Val} (r:ShR P h d v) (rr:ShRs P h ds vs):ShRs P h (d::ds) (v::vs)
noncomputable def Val.items:Val->Option (List Val)
 |.tup xs=>some xs
 |.lst xs=>some xs
 |.kl xs=>some xs
 |_=>none
def ShR.int(r:ShR P h d (.int i)):d=.int i:=by
 rcases r with r |⟨n,o,rfl,e,r⟩
 .cases r with
  |int=>rfl
  |cell p e r=>cases r
 .cases r
def ShR.str(r:ShR P h d (.str i)):d=.str i:=by
 rcases r with r |⟨n,o,rfl,e,r⟩
 .cases r with
  |str=>rfl
  |cell p e r=>cases r
 .cases r
def ShR.bl(r:ShR P h d (.bl i)):d=.bl i:=by
 rcases r with r |⟨n,o,rfl,e,r⟩
 .cases r with
  |bl=>rfl
  |cell p e r=>cases r
 .cases r
def ShR.non(r:ShR P h d .non):d=.non:=by
 rcases r with r |⟨n,o,rfl,e,r⟩
 .cases r with
  |non=>rfl
  |cell p e r=>cases r
 .cases r
def ShR.exc(r:ShR P h d (.exc x)):d=.exc x:=by
 rcases r with r |⟨n,o,rfl,e,r⟩
 .cases r with
  |exc=>rfl
  |cell p e r=>cases r
 .cases r
def ShR.ty(r:ShR P h d (.ty x)):d=.ty x:=by
 rcases r with r |⟨n,o,rfl,e,r⟩
 .cases r with
  |ty=>rfl
  |cell p e r=>cases r
 .cases r
def ShR.glb(r:ShR P h d (.glb x)):d=.glb x:=by
 rcases r with r |⟨n,o,rfl,e,r⟩
 .cases r with
  |glb=>rfl
  |cell p e r=>cases r
 .cases r
def ShR.tup(r:ShR P h d (.tup vs)):∃ds,d=.tup ds/\Rds P h ds vs:=by
 rcases r with r |⟨n,o,rfl,e,r⟩
 .cases r with
  |tup r=>exact⟨_,rfl,r⟩
  |cell p e r=>cases r
 .cases r
def Rc.seq(e:h[n]?=some o)(r:Rc P h o (.lst vs)):∃ds,h[n]?=some (.lst ds)/\aJ h n=some ds/\Rds P h ds vs:=by
 cases r with
 |lst r=>exact⟨_,e,by unfold aJ;rw[e],r⟩
def ShR.lst(r:ShR P h d (.lst vs)):∃n ds,d=.ref n/\h[n]?=some (.lst ds)/\aJ h n=some ds/\Rds P h ds vs:=by
 rcases r with r |⟨n,o,rfl,e,r⟩
 .cases r with
  |cell p e r=>obtain⟨ds,q,r⟩:=Rc.seq e r;exact⟨_,ds,rfl,q,r⟩
 .obtain⟨ds,q,r⟩:=Rc.seq e r;exact⟨_,ds,rfl,q,r⟩
def ShR.kl(r:ShR P h d (.kl vs)):∃ds,Rds P h ds vs/\(d=.kl ds\/∃n,d=.ref n/\aJ h n=some ds):=by
 rcases r with r |⟨n,o,rfl,e,r⟩
 .cases r with
  |kl r=>exact⟨_,r,.inl rfl⟩
  |cell p e r=>cases r with |fz r=>exact⟨_,r,.inr ⟨_,rfl,by unfold aJ;rw[e]⟩⟩
 .cases r with |fz r=>exact⟨_,r,.inr ⟨_,rfl,by unfold aJ;rw[e]⟩⟩
def ShR.dct(r:ShR P h d (.dct us)):∃n ws,d=.ref n/\h[n]?=some (.dct ws)/\Rk P h ws us:=by
 rcases r with r |⟨n,o,rfl,e,r⟩
 .cases r with
  |cell p e r=>cases r with |dct r=>exact⟨_,_,rfl,e,r⟩
 .cases r with |dct r=>exact⟨_,_,rfl,e,r⟩
def ShR.items(r:ShR P h d v)(e:v.items=some vs):∃ds,fj h d=some ds/\Rds P h ds vs:=by
 cases v with
 |tup xs=>cases e;obtain⟨ds,rfl,q⟩:=r.tup;exact⟨ds,rfl,q⟩
 |lst xs=>cases e;obtain⟨n,ds,rfl,_,e,q⟩:=r.lst;exact⟨ds,e,q⟩
 |
  kl xs=>
  cases e;obtain⟨ds,q,rfl |⟨n,rfl,e⟩⟩:=r.kl
  .exact⟨ds,rfl,q⟩
  .exact⟨ds,e,q⟩
 |_=>cases e
end
inductive Sl where
 |no |sh (v:Val) |ow (v:Val) |mu (v:Val) |lo (v:Val) |lm (v:Val)
 deriving Inhabited
abbrev E3:=List Sl
noncomputable def Sl.val:Sl->Option Val
 |.no=>none
 |.sh v=>some v
 |.ow v=>some v
 |.mu v=>some v
 |.lo v=>some v
 |.lm v=>some v
noncomputable def Sl.mt:Sl->Bool
 |.ow _=>true
 |.mu _=>true
 |_=>false
noncomputable def Sl.lk:Sl->Bool
 |.lo _=>true
 |.lm _=>true
 |_=>false
abbrev Ns:=List (Option Nat)
def Oc(X:Nat->Prop)(ns:Ns)(n:Nat):Prop:=¬ X n/\some n∉ns
def bg:Ob->Prop
 |.fz _=>False
 |.any=>False
 |_=>True
def SlR(P:Nat->Prop)(h0:Nat)(n:Option (Option Nat))(d:Option (Option D))(h:AH):Sl->Prop
 |.no=>n=some none
 |.sh v=>n=some none/\∃x,d=some (some x)/\Rd P h x v
 |.ow v=>∃m o,n=some (some m)/\d=some (some (.ref m))/\h0<=m/\h[m]?=some o/\bg o/\Rc P h o v
 |.lo v=>∃m o,n=some (some m)/\d=some (some (.ref m))/\h0<=m/\h[m]?=some o/\bg o/\Rc P h o v
 |.mu v=>∃m o,n=some (some m)/\d=some (some (.ref m))/\h[m]?=some o/\bg o/\Rc P h o v
 |.lm v=>∃m o,n=some (some m)/\d=some (some (.ref m))/\h[m]?=some o/\bg o/\Rc P h o v
structure Sat(X:Nat->Prop)(h0:Nat)(ns:Ns)(e:E3)(ae:AE)(h:AH):Prop where
 l1:ae.length=e.length
 l2:ns.length=e.length
 lh:h0<=h.length
 xl:∀(n:Nat),X n->n<h.length
 inj:∀(i j n:Nat),ns[i]?=some (some n)->ns[j]?=some (some n)->i=j
 nx:∀(i n:Nat),ns[i]?=some (some n)->¬ X n
 sl:∀(i:Nat) (s:Sl),e[i]?=some s->SlR (Oc X ns) h0 (ns[i]?) (ae[i]?) h s
def Mt(ns:Ns)(e:E3)(n:Nat):Prop:=∃(i:Nat) (s:Sl),ns[i]?=some (some n)/\e[i]?=some s/\s.mt=true
structure Stp(ns:Ns)(e:E3)(h:AH)(ns':Ns)(e':E3)(h':AH):Prop where
 len:h.length<=h'.length
 keep:∀(m:Nat) (o:Ob),h[m]?=some o->¬ Mt ns e m->h'[m]?=some o
 nw:∀(i n:Nat),ns'[i]?=some (some n)->ns[i]?=some (some n)\/h.length<=n
 lk:∀(i:Nat) (s:Sl),e[i]?=some s->s.lk=true->e'[i]?=some s/\ns'[i]?=ns[i]?
 lk':∀(i:Nat) (s:Sl),e'[i]?=some s->s.lk=true->e[i]?=some s/\ns'[i]?=ns[i]?
 mu:∀(i:Nat) (v:Val),e'[i]?=some (.mu v)->∃u,e[i]?=some (.mu u)/\ns'[i]?=ns[i]?
 mu':∀(i:Nat) (u:Val),e[i]?=some (.mu u)->∃v,e'[i]?=some (.mu v)/\ns'[i]?=ns[i]?
section
variable{X:Nat->Prop}{h0:Nat}{ns ns1 h_:Ns}{e e1 e2:E3}{ae:AE}{h h' h1 h2:AH}
def aK:some n∈ns ↔ ∃i:Nat,ns[i]?=some (some n):=by
 constructor
 .intro m;exact List.getElem?_of_mem m
 .rintro⟨i,e⟩;exact HH e
def Sat.own(S:Sat X h0 ns e ae h){i n:Nat}(q:ns[i]?=some (some n)):∃s v o,e[i]?=some s/\(s.mt=true\/s.lk=true)/\s.val=some v/\ae[i]?=some (some (.ref n))/\h[n]?=some o/\bg o/\Rc (Oc X ns) h o v:=by
 have hi:i<e.length:=by rw[<- S.l2];exact (u_.mp q).1
 have hs:=S.sl i e[i] (A_ hi);refine⟨e[i],?_⟩;have he:=A_ hi;generalize e[i]=s at *;rw[q] at hs;cases s with
 |no=>cases hs
 |sh v=>cases hs.1
 |ow v=>obtain⟨m,o,e1,e2,_,e3,e4,e5⟩:=hs;cases e1;exact⟨v,o,he,.inl rfl,rfl,e2,e3,e4,e5⟩
 |lo v=>obtain⟨m,o,e1,e2,_,e3,e4,e5⟩:=hs;cases e1;exact⟨v,o,he,.inr rfl,rfl,e2,e3,e4,e5⟩
 |mu v=>obtain⟨m,o,e1,e2,e3,e4,e5⟩:=hs;cases e1;exact⟨v,o,he,.inl rfl,rfl,e2,e3,e4,e5⟩
 |lm v=>obtain⟨m,o,e1,e2,e3,e4,e5⟩:=hs;cases e1;exact⟨v,o,he,.inr rfl,rfl,e2,e3,e4,e5⟩
def Stp.refl:Stp ns e h ns e h:=⟨y_ _,λ_ _ q _=>q,λ_ _ q=>.inl q,λ_ _ q _=>⟨q,rfl⟩,λ_ _ q _=>⟨q,rfl⟩,λ_ _ q=>⟨_,q,rfl⟩,λ_ _ q=>⟨_,q,rfl⟩⟩
def Stp.trans(S:Sat X h0 ns e ae h)(a:Stp ns e h ns1 e1 h1)(b:Stp ns1 e1 h1 h_ e2 h2):Stp ns e h h_ e2 h2:=by
 refine⟨G6 a.len b.len,λm o q hm=>?_,λi n q=>?_,λi s q hl=>?_,λi s q hl=>?_,λi v q=>?_,λi v q=>?_⟩
 .refine b.keep m o (a.keep m o q hm) λ⟨i,s,z1,z2,z3⟩=>hm ?_;have hlt:=(u_.mp q).1;rcases a.nw i m z1 with z |z
  .obtain⟨s0,v,o',q1,q2,_⟩:=S.own z;rcases q2 with q2 |q2
   .exact⟨i,s0,z,q1,q2⟩
   .have:=(a.lk i s0 q1 q2).1
    rw[z2] at this;cases this;exfalso;cases s <;> first |cases z3;done |cases q2;done
  .omega
 .rcases b.nw i n q with z |z
  .exact a.nw i n z
  .exact .inr (G6 a.len z)
 .obtain⟨q1,q2⟩:=a.lk i s q hl;obtain⟨q3,q4⟩:=b.lk i s q1 hl;exact⟨q3,q4.trans q2⟩
 .obtain⟨q1,q2⟩:=b.lk' i s q hl;obtain⟨q3,q4⟩:=a.lk' i s q1 hl;exact⟨q3,q2.trans q4⟩
 .obtain⟨u,q1,q2⟩:=b.mu i v q;obtain⟨u',q3,q4⟩:=a.mu i u q1;exact⟨u',q3,q2.trans q4⟩
 .obtain⟨u,q1,q2⟩:=a.mu' i v q;obtain⟨u',q3,q4⟩:=b.mu' i u q1;exact⟨u',q3,q4.trans q2⟩
def Stp.mov(S:Sat X h0 ns e ae h)(a:Stp ns e h ns1 e1 h1):Mov (Oc X ns) (Oc X ns1) h h1:=λn o p q=>by
 have hlt:=(u_.mp q).1;have hm:¬ Mt ns e n:=λ⟨i,s,z,_⟩=>p.2 (aK.mpr ⟨i,z⟩);refine⟨⟨p.1,λz=>?_⟩,a.keep n o q hm⟩;obtain⟨i,z⟩:=aK.mp z;rcases a.nw i n z with z |z
 .exact p.2 (aK.mpr ⟨i,z⟩)
 .omega
def bB(q:h[n]?=some o):n<h.length:=(u_.mp q).1
def gK{n:Nat}{o:Ob}{g:AH}(q:h[n]?=some o):(h++g)[n]?=some o:=by rw[G_ (bB q)];exact q
def oZ:(h++[o])[h.length]?=some o:=by rw[Hg (y_ _),Io];rfl
def SlR.mono(m:Mov P P' h h')(k:∀j o,n=some (some j)->h[j]?=some o->h'[j]?=some o)(r:SlR P h0 n d h s):SlR P' h0 n d h' s:=by
 cases s with
 |no=>exact r
 |sh v=>obtain⟨q,x,q1,q2⟩:=r;exact⟨q,x,q1,q2.mono m⟩
 |ow v=>obtain⟨j,o,q1,q2,q3,q4,q5,q6⟩:=r;exact⟨j,o,q1,q2,q3,k j o q1 q4,q5,q6.mono m⟩
 |lo v=>obtain⟨j,o,q1,q2,q3,q4,q5,q6⟩:=r;exact⟨j,o,q1,q2,q3,k j o q1 q4,q5,q6.mono m⟩
 |mu v=>obtain⟨j,o,q1,q2,q4,q5,q6⟩:=r;exact⟨j,o,q1,q2,k j o q1 q4,q5,q6.mono m⟩
 |lm v=>obtain⟨j,o,q1,q2,q4,q5,q6⟩:=r;exact⟨j,o,q1,q2,k j o q1 q4,q5,q6.mono m⟩
def Xn(X:Nat->Prop)(n:Nat):Nat->Prop:=λm=>X m\/m=n
def Sat.grow(S:Sat X h0 ns e ae h)(o:Ob):Sat (Xn X h.length) h0 ns e ae (h++[o]):=by
 have mv:Mov (Oc X ns) (Oc (Xn X h.length) ns) h (h++[o]):=λn o' p q=>⟨⟨λz=>by
  rcases z with z |z
  .exact p.1 z
  .have:=bB q;omega,p.2⟩,gK q⟩
 refine⟨S.l1,S.l2,by rw[G8];have:=S.lh;omega,λn z=>?_,S.inj,λi n q z=>?_,λi s q=>(S.sl i s q).mono mv λj o' _ q'=>gK q'⟩
 .rw[G8];rcases z with z |z
  .have:=S.xl n z;omega
  .subst z;show h.length<h.length+1;omega
 .rcases z with z |z
  .exact S.nx i n q z
  .obtain⟨_,_,_,_,_,_,_,q',_⟩:=S.own q
   have:=bB q';omega
def Sat.weak(S:Sat Y h0 ns e ae h)(hx:∀n,X n->Y n):Sat X h0 ns e ae h:=
 ⟨S.l1,S.l2,S.lh,λn z=>S.xl n (hx n z),S.inj,λi n q z=>S.nx i n q (hx n z),λi s q=>(S.sl i s q).mono (λn o p q=>⟨⟨λz=>p.1 (hx n z),p.2⟩,q⟩) λ_ _ _ q=>q⟩
def Stp.grow(o:Ob):Stp ns e h ns e (h++[o]):=⟨by rw[G8];omega,λ_ _ q _=>gK q,λ_ _ q=>.inl q,λ_ _ q _=>⟨q,rfl⟩,λ_ _ q _=>⟨q,rfl⟩,λ_ _ q=>⟨_,q,rfl⟩,λ_ _ q=>⟨_,q,rfl⟩⟩
end
section
variable{X:Nat->Prop}{h0:Nat}{ns:Ns}{e:E3}{ae:AE}{h hs:AH}
def aV{α:Type}{l:List α}{i j:Nat}{a b:α}(hi:i<l.length)(q:(l.set i a)[j]?=some b):(j=i/\b=a)\/(j≠i/\l[j]?=some b):=by
 rw[IT] at q;by_cases z:i=j
 .subst z;rw[if_pos rfl,if_pos hi] at q;exact .inl ⟨rfl,(Hc q).symm⟩
 .rw[if_neg z] at q;exact .inr ⟨λy=>z y.symm,q⟩
def aZ{α:Type}{l:List α}{i:Nat}{a:α}(hi:i<l.length):(l.set i a)[i]?=some a:=by rw[IT,if_pos rfl,if_pos hi]
def aU{α:Type}{l:List α}{i j:Nat}{a:α}(hi:j≠i):(l.set i a)[j]?=l[j]?:=by rw[Iq (λy=>hi y.symm)]
def dg(p:Oc X ns n):Oc X (ns.set i none) n:=⟨p.1,λz=>by
 rcases List.mem_or_eq_of_mem_set z with z |z
 .exact p.2 z
 .cases z⟩
def Sat.putN(S:Sat X h0 ns e ae h)(hi:i<e.length)(q:SlR (Oc X (ns.set i none)) h0 (some none) (some d) h s):Sat X h0 (ns.set i none) (e.set i s) (ae.set i d) h:=by
 have hn:i<ns.length:=by rw[S.l2];exact hi
 have ha:i<ae.length:=by rw[S.l1];exact hi
 refine⟨by rw[G7,G7];exact S.l1,by rw[G7,G7];exact S.l2,S.lh,S.xl,λj k n q1 q2=>?_,λj n q1=>?_,λj s' q1=>?_⟩
 .rcases aV hn q1 with ⟨_,z⟩ |⟨_,z⟩
  .cases z
  rcases aV hn q2 with ⟨_,y⟩ |⟨_,y⟩
  .cases y
  exact S.inj j k n z y
 .rcases aV hn q1 with ⟨_,z⟩ |⟨_,z⟩
  .cases z
  exact S.nx j n z
 .rcases aV hi q1 with ⟨rfl,rfl⟩ |⟨z,q2⟩
  .rw[aZ hn,aZ ha];exact q
  .rw[aU z,aU z];exact (S.sl j s' q2).mono (λn o p q=>⟨dg p,q⟩) λ_ _ _ q=>q
def Sat.putN'(S:Sat X h0 ns e ae h)(hi:i<e.length)(q:SlR (Oc X (ns.set i none)) h0 (some none) (ae[i]?) h s):Sat X h0 (ns.set i none) (e.set i s) ae h:=by
 have ha:i<ae.length:=by rw[S.l1];exact hi
 have:=S.putN hi (s:=s) (d:=ae[i]) (by rw[A_ ha] at q;exact q)
 rw[List.set_getElem_self] at this;exact this
def Sat.putO(S:Sat (Xn X n) h0 ns e ae h)(hx:¬ X n)(hi:i<e.length)(hn0:h0<=n)(eo:h[n]?=some o)(hf:bg o)(r:Rc (Oc (Xn X n) ns) h o v):Sat X h0 (ns.set i (some n)) (e.set i (.ow v)) (ae.set i (some (.ref n))) h:=by
 have hn:i<ns.length:=by rw[S.l2];exact hi
 have ha:i<ae.length:=by rw[S.l1];exact hi
 have nn:∀j:Nat,ns[j]?≠some (some n):=λj q=>S.nx j n q (.inr rfl);have mv:Mov (Oc (Xn X n) ns) (Oc X (ns.set i (some n))) h h:=λm o' p q=>⟨⟨λz=>p.1 (.inl z),λz=>by
  rcases List.mem_or_eq_of_mem_set z with z |z
  .exact p.2 z
  .cases z;exact p.1 (.inr rfl)⟩,q⟩
 refine⟨by rw[G7,G7];exact S.l1,by rw[G7,G7];exact S.l2,S.lh,λm z=>S.xl m (.inl z),λj k m q1 q2=>?_,λj m q1 z=>?_,λj s' q1=>?_⟩
 .rcases aV hn q1 with ⟨z1,z⟩ |⟨z1,z⟩ <;> rcases aV hn q2 with ⟨y1,y⟩ |⟨y1,y⟩
  .rw[z1,y1]
  .cases z;exact absurd y (nn k)
  .cases y;exact absurd z (nn j)
  .exact S.inj j k m z y
 .rcases aV hn q1 with ⟨_,y⟩ |⟨_,y⟩
  .cases y;exact hx z
  .exact S.nx j m y (.inl z)
 .rcases aV hi q1 with ⟨rfl,rfl⟩ |⟨z,q2⟩
  .rw[aZ hn,aZ ha];exact⟨n,o,rfl,rfl,hn0,eo,hf,r.mono mv⟩
  .rw[aU z,aU z];exact (S.sl j s' q2).mono mv λ_ _ _ q=>q
noncomputable def Sl.pl:Sl->Bool
 |.no=>true
 |.sh _=>true
 |.ow _=>true
 |_=>false
def Stp.put(A:Stp ns0 e0 hs ns e h)(hi:i<e.length)(hx:∀n,x=some n->hs.length<=n)(q0:e[i]?=some s0)(p0:s0.pl=true)(p:s.pl=true)(l2:ns.length=e.length):Stp ns0 e0 hs (ns.set i x) (e.set i s) h:=by
 have hn:i<ns.length:=by rw[l2];exact hi
 refine⟨A.len,A.keep,λj n q=>?_,λj s' q hl=>?_,λj s' q hl=>?_,λj v q=>?_,λj v q=>?_⟩
 .rcases aV hn q with ⟨_,z⟩ |⟨_,z⟩
  .exact .inr (hx n z.symm)
  .exact A.nw j n z
 .obtain⟨q1,q2⟩:=A.lk j s' q hl;have z:j≠i:=λz=>by subst z;rw[q0] at q1;cases q1;cases s0 <;> first |cases p0;done |cases hl;done
  rw[aU z,aU z];exact⟨q1,q2⟩
 .rcases aV hi q with ⟨_,z⟩ |⟨z,q1⟩
  .subst z;cases s' <;> first |cases p;done |cases hl;done
  .rw[aU z];exact A.lk' j s' q1 hl
 .rcases aV hi q with ⟨_,z⟩ |⟨z,q1⟩
  .subst z;cases p
  .rw[aU z];exact A.mu j v q1
 .obtain⟨u,q1,q2⟩:=A.mu' j v q;have z:j≠i:=λz=>by subst z;rw[q0] at q1;cases q1;cases p0
  exact⟨u,by rw[aU z];exact q1,by rw[aU z];exact q2⟩
end
inductive Tm where
 |val (v:Val) |new (v:Val) |bor (i:Nat)
inductive R3(α:Type) where
 |ok (a:α) (e:E3) |exc (c:Str) (e:E3) |stuck
noncomputable def R3.bind{α β:Type}(r:R3 α)(f:α->E3->R3 β):R3 β:=match r with
 |.ok a e=>f a e
 |.exc c e=>.exc c e
 |.stuck=>.stuck
abbrev ME3:=E3->R3 Tm
abbrev MT3:=E3->R3 Bool
abbrev MA3:=E3->R3 (List Tm)
def Po{δ α:Type}(X:Nat->Prop)(h0:Nat)(ns:Ns)(e:E3)(ae:AE)(h:AH)(rel:Ns->E3->AH->δ->α->Prop)(r2:R δ):R3 α->Prop
 |.stuck=>True
 |.ok t e'=>∃d h' ns',r2=.ok d h'/\Stp ns e h ns' e' h'/\Sat X h0 ns' e' ae h'/\rel ns' e' h' d t
 |.exc c e'=>∃h' ns',r2=.exc c h'/\Stp ns e h ns' e' h'/\Sat X h0 ns' e' ae h'
def relE(X:Nat->Prop)(h0 L:Nat)(ae:AE)(ns:Ns)(e:E3)(h:AH)(d:D):Tm->Prop
 |.val v=>Rd (Oc X ns) h d v
 |.new v=>∃n o,d=.ref n/\L<=n/\¬ X n/\h[n]?=some o/\bg o/\Sat (Xn X n) h0 ns e ae h/\Rc (Oc (Xn X n) ns) h o v
 |.bor i=>ae[i]?=some (some d)
def relT(_:Ns)(_:E3)(_:AH)(b c:Bool):Prop:=b=c
inductive TsR(X:Nat->Prop)(ns:Ns)(ae:AE)(h:AH):List D->List Tm->Prop where
 |nil:TsR X ns ae h [] []
 |val {d:D}{v:Val}{ds:List D}{ts:List Tm} (r:Rd (Oc X ns) h d v) (rr:TsR X ns ae h ds ts):TsR X ns ae h (d::ds) (.val v::ts)
 |bor {d:D}{i:Nat}{ds:List D}{ts:List Tm} (q:ae[i]?=some (some d)) (rr:TsR X ns ae h ds ts):TsR X ns ae h (d::ds) (.bor i::ts)
def relA(X:Nat->Prop)(ae:AE)(ns:Ns)(_:E3)(h:AH)(ds:List D)(ts:List Tm):Prop:=TsR X ns ae h ds ts
def RE(F:ME)(G:ME3):Prop:=∀X h0 L ns e ae h,Sat X h0 ns e ae h->L<=h.length->Po X h0 ns e ae h (relE X h0 L ae) (F ae h) (G e)
def RT(F:MT)(G:MT3):Prop:=∀X h0 ns e ae h,Sat X h0 ns e ae h->Po X h0 ns e ae h relT (F ae h) (G e)
def RA(F:MA)(G:MA3):Prop:=∀X h0 ns e ae h,Sat X h0 ns e ae h->Po X h0 ns e ae h (relA X ae) (F ae h) (G e)
section
variable{X:Nat->Prop}{h0 L:Nat}{ns ns':Ns}{e e':E3}{ae:AE}{h h':AH}
def Po.bind(S:Sat X h0 ns e ae h)(p:Po X h0 ns e ae h rel r2 r3)
 (k:∀d t h' ns' e',Stp ns e h ns' e' h'->Sat X h0 ns' e' ae h'->rel ns' e' h' d t->Po X h0 ns' e' ae h' rel' (f2 d h') (f3 t e')):Po X h0 ns e ae h rel' (r2.bind f2) (r3.bind f3):=by
 cases r3 with
 |stuck=>trivial
 |exc c e'=>obtain⟨h',ns',q,q1,q2⟩:=p;subst q;exact⟨h',ns',rfl,q1,q2⟩
 |
  ok t e'=>
  obtain⟨d,h',ns',q,q1,q2,q3⟩:=p;subst q
  have:=k d t h' ns' e' q1 q2 q3
  show Po X h0 ns e ae h rel' (f2 d h') (f3 t e');generalize f3 t e'=r at *;cases r with
  |stuck=>trivial
  |exc c e2=>obtain⟨h2,h_,y,y1,y2⟩:=this;exact⟨h2,h_,y,q1.trans S y1,y2⟩
  |ok t2 e2=>obtain⟨d2,h2,h_,y,y1,y2,y3⟩:=this;exact⟨d2,h2,h_,y,q1.trans S y1,y2,y3⟩
def Po.ret(S:Sat X h0 ns e ae h)(q:rel ns e h d t):Po X h0 ns e ae h rel (.ok d h) (.ok t e):=⟨d,h,ns,rfl,.refl,S,q⟩
def TsR.stp(S:Sat X h0 ns e ae h)(a:Stp ns e h ns' e' h')(r:TsR X ns ae h ds ts):TsR X ns' ae h' ds ts:=by
 induction r with
 |nil=>exact .nil
 |val r _ ih=>exact .val (r.mono (a.mov S)) ih
 |bor q _ ih=>exact .bor q ih
noncomputable def rs(e:E3):Tm->Option Val
 |.val v=>some v
 |.new v=>some v
 |.bor i=>(e[i]?).bind Sl.val
def Sat.bor(S:Sat X h0 ns e ae h){i:Nat}{d:D}{v:Val}(q:ae[i]?=some (some d))(r:(e[i]?).bind Sl.val=some v):ShR (Oc X ns) h d v:=by
 cases z:e[i]? with
 |none=>rw[z] at r;cases r
 |
  some s=>
  rw[z] at r;have y:=S.sl i s z;rw[q] at y;have r':s.val=some v:=r;cases s with
  |no=>cases r'
  |sh u=>cases r';obtain⟨_,x,e1,e2⟩:=y;cases e1;exact .inl e2
  |ow u=>cases r';obtain⟨m,o,_,e2,_,e3,_,e4⟩:=y;cases e2;exact .inr ⟨m,o,rfl,e3,e4⟩
  |lo u=>cases r';obtain⟨m,o,_,e2,_,e3,_,e4⟩:=y;cases e2;exact .inr ⟨m,o,rfl,e3,e4⟩
  |mu u=>cases r';obtain⟨m,o,_,e2,e3,_,e4⟩:=y;cases e2;exact .inr ⟨m,o,rfl,e3,e4⟩
  |lm u=>cases r';obtain⟨m,o,_,e2,e3,_,e4⟩:=y;cases e2;exact .inr ⟨m,o,rfl,e3,e4⟩
def relE.new(r:relE X h0 L ae ns e h d (.new v)):Rd (Oc X ns) h d v:=by obtain⟨n,o,rfl,_,hx,eo,_,S,rc⟩:=r;exact .cell ⟨hx,λz=>by obtain⟨i,z⟩:=aK.mp z;exact S.nx i n z (.inr rfl)⟩ eo (rc.mono λm o p q=>⟨⟨λz=>p.1 (.inl z),p.2⟩,q⟩)
def relE.sh{d:D}{t:Tm}{v:Val}(S:Sat X h0 ns e ae h)(r:relE X h0 L ae ns e h d t)(q:rs e t=some v):ShR (Oc X ns) h d v:=by
 cases t with
 |val u=>cases q;exact .inl r
 |new u=>cases q;exact .inl r.new
 |bor i=>exact S.bor r q
def relE.stp(S:Sat X h0 ns e ae h)(a:Stp ns e h ns' e' h')(r:relE X h0 L ae ns e h d t)(hn:∀v,t ≠ .new v):relE X h0 L ae ns' e' h' d t:=by
 cases t with
 |val u=>exact Rd.mono (a.mov S) r
 |new u=>exact absurd rfl (hn u)
 |bor i=>exact r
noncomputable def Tm.drop:Tm->Tm
 |.new v=>.val v
 |t=>t
def relE.drop(r:relE X h0 L ae ns e h d t):relE X h0 L ae ns e h d t.drop/\∀v,t.drop ≠ .new v:=by
 cases t with
 |val u=>exact⟨r,λ_ z=>nomatch z⟩
 |new u=>exact⟨r.new,λ_ z=>nomatch z⟩
 |bor i=>exact⟨r,λ_ z=>nomatch z⟩
noncomputable def rss(e:E3):List Tm->Option (List Val)
 | []=>some []
 |t::ts=>match rs e t,rss e ts with
  |some v,some vs=>some (v::vs)
  |_,_=>none
def TsR.sh{ds:List D}{ts:List Tm}{vs:List Val}(S:Sat X h0 ns e ae h)(r:TsR X ns ae h ds ts)(q:rss e ts=some vs):ShRs (Oc X ns) h ds vs:=by
 induction r generalizing vs with
 |nil=>cases q;exact .nil
 |
  val r _ ih=>
  unfold rss at q;split at q
  .rename_i e1 e2;cases q;cases e1;exact .cons (.inl r) (ih e2)
  .cases q
 |
  bor q' _ ih=>
  unfold rss at q;split at q
  .rename_i e1 e2;cases q;exact .cons (S.bor q' e1) (ih e2)
  .cases q
end
inductive Bv where
 |val (v:Val) |new (v:Val) |stuck
def BvR(P:Nat->Prop)(h:AH)(r:R D):Bv->Prop
 |.val v=>∃d,r=.ok d h/\Rd P h d v
 |.new v=>∃o,r=.ok (.ref h.length) (h++[o])/\bg o/\Rc P h o v
 |.stuck=>True
noncomputable def Bv.at(b:Bv)(e:E3):R3 Tm:=match b with
 |.val v=>.ok (.val v) e
 |.new v=>.ok (.new v) e
 |.stuck=>.stuck
def BvR.po(S:Sat X h0 ns e ae h)(hl:L<=h.length)(q:BvR (Oc X ns) h r b):Po X h0 ns e ae h (relE X h0 L ae) r (b.at e):=by
 cases b with
 |stuck=>trivial
 |val v=>obtain⟨d,rfl,r⟩:=q;exact Po.ret S r
 |
  new v=>
  obtain⟨o,rfl,hf,r⟩:=q;have S':=S.grow o;refine⟨_,_,ns,rfl,.grow o,S'.weak λn z=>.inl z,h.length,o,rfl,hl,λz=>?_,oZ,hf,S',r.mono λn o' p q=>⟨⟨λz=>?_,p.2⟩,gK q⟩⟩
  .have:=S.xl _ z;omega
  .rcases z with z |z
   .exact p.1 z
   .have:=bB q;omega
def RU(g2:D->AH->R D)(g3:Val->Bv):Prop:=∀P h d v,ShR P h d v->BvR P h (g2 d h) (g3 v)
def RO(g2:D->D->AH->R D)(g3:Val->Val->Bv):Prop:=∀P h d1 d2 v1 v2,ShR P h d1 v1->ShR P h d2 v2->BvR P h (g2 d1 d2 h) (g3 v1 v2)
def RFn(g2:Fn)(g3:List Val->Bv):Prop:=∀P h ds vs,ShRs P h ds vs->BvR P h (g2 ds h) (g3 vs)
noncomputable def wM(i:Nat):ME3:=λe=>match e[i]? with
 |some (.sh v)=>.ok (.val v) e
 |some .no=>.stuck
 |some _=>.ok (.bor i) e
 |none=>.stuck
noncomputable def vC(v:Val):ME3:=λe=>.ok (.val v) e
noncomputable def vUn(g:Val->Bv)(F:ME3):ME3:=λe=>(F e).bind λt e1=>match rs e1 t with
 |some v=>(g v).at e1
 |none=>.stuck
noncomputable def vOp(g:Val->Val->Bv)(F G:ME3):ME3:=λe=>(F e).bind λt1 e1=>(G e1).bind λt2 e2=>match rs e2 t1.drop,rs e2 t2 with
 |some v1,some v2=>(g v1 v2).at e2
 |_,_=>.stuck
noncomputable def vNil:MA3:=λe=>.ok [] e
noncomputable def xE(F:ME3)(A:MA3):MA3:=λe=>(F e).bind λt e1=>(A e1).bind λts e2=>.ok (t.drop::ts) e2
noncomputable def vFn(g:List Val->Bv)(A:MA3):ME3:=λe=>(A e).bind λts e1=>match rss e1 ts with
 |some vs=>(g vs).at e1
 |none=>.stuck
noncomputable def bC(e:E3):Tm->Option (E3×Val)
 |.val v=>some (e,v)
 |.new v=>some (e,v)
 |.bor i=>match e[i]? with
  |some (.sh v)=>some (e,v)
  |some (.ow v)=>some (e.set i (.sh v),v)
  |_=>none
noncomputable def dem(e:E3):List Tm->Option (E3×List Val)
 | []=>some (e,[])
 |t::ts=>match bC e t with
  |some (e1,v)=>match dem e1 ts with
   |some (e2,vs)=>some (e2,v::vs)
   |none=>none
  |none=>none
noncomputable def vTup(A:MA3):ME3:=λe=>(A e).bind λts e1=>match dem e1 ts with
 |some (e2,vs)=>if vs.length<=16777216 then .ok (.val (.tup vs)) e2 else .stuck
 |none=>.stuck
noncomputable def vLst(A:MA3):ME3:=λe=>(A e).bind λts e1=>match dem e1 ts with
 |some (e2,vs)=>if vs.length<=16777216 then .ok (.new (.lst vs)) e2 else .stuck
 |none=>.stuck
noncomputable def bOf:Option Val->Option Bool
 |some (.bl b)=>some b
 |_=>none
noncomputable def vAnd(F G:ME3):ME3:=λe=>(F e).bind λt e1=>match bOf (rs e1 t) with
 |some true=>G e1
 |some false=>.ok (.val (.bl false)) e1
 |none=>.stuck
noncomputable def vNot(F:ME3):ME3:=λe=>(F e).bind λt e1=>match bOf (rs e1 t) with
 |some b=>.ok (.val (.bl (!b))) e1
 |none=>.stuck
noncomputable def cOf(F:ME3):MT3:=λe=>(F e).bind λt e1=>match bOf (rs e1 t) with
 |some b=>.ok b e1
 |none=>.stuck
noncomputable def cAn(c d:MT3):MT3:=λe=>(c e).bind λb e1=>if b=true then d e1 else .ok false e1
noncomputable def cO(c d:MT3):MT3:=λe=>(c e).bind λb e1=>if b=true then .ok true e1 else d e1
noncomputable def cNo(c:MT3):MT3:=λe=>(c e).bind λb e1=>.ok (!b) e1
def cY:MT3:=λe=>.ok true e
section
variable{F G:ME}{F3 G3:ME3}{A:MA}{A3:MA3}{c d:MT}{c3 d3:MT3}
def C1(i:Nat):RE (cw i) (wM i):=λX h0 L ns e ae h S hl=>by
 unfold wM;cases q:e[i]? with
 |none=>trivial
 |
  some s=>
  have y:=S.sl i s q;cases s with
  |no=>trivial
  |sh v=>obtain⟨_,x,e1,e2⟩:=y;unfold cw;rw[e1];exact Po.ret S e2
  |ow v=>obtain⟨m,o,_,e2,_⟩:=y;unfold cw;rw[e2];exact Po.ret S e2
  |lo v=>obtain⟨m,o,_,e2,_⟩:=y;unfold cw;rw[e2];exact Po.ret S e2
  |mu v=>obtain⟨m,o,_,e2,_⟩:=y;unfold cw;rw[e2];exact Po.ret S e2
  |lm v=>obtain⟨m,o,_,e2,_⟩:=y;unfold cw;rw[e2];exact Po.ret S e2
def nL{d:D}{v:Val}(r:∀P h,Rd P h d v):RE (eC d) (vC v):=λX h0 L ns e ae h S hl=>Po.ret S (r _ _)
def EN(hg:RU g g3)(hF:RE F F3):RE (eUn g F) (vUn g3 F3):=λX h0 L ns e ae h S hl=>
 Po.bind S (hF X h0 L ns e ae h S hl) λd t h1 ns1 e1 a1 S1 r1=>by
  try dsimp only
  split
  .rename_i v q;exact BvR.po S1 (G6 hl a1.len) (hg _ _ _ _ (r1.sh S1 q))
  .trivial
def FV(hg:RO g g3)(hF:RE F F3)(hG:RE G G3):RE (eOp g F G) (vOp g3 F3 G3):=λX h0 L ns e ae h S hl=>
 Po.bind S (hF X h0 L ns e ae h S hl) λd1 t1 h1 ns1 e1 a1 S1 r1=>Po.bind S1 (hG X h0 L ns1 e1 ae h1 S1 (G6 hl a1.len)) λd2 t2 h2 h_ e2 a2 S2 r2=>by
  try dsimp only
  split
  .rename_i v1 v2 q1 q2;obtain⟨r1',hn⟩:=r1.drop;exact BvR.po S2 (G6 hl (G6 a1.len a2.len)) (hg _ _ _ _ _ _ ((r1'.stp S1 a2 hn).sh S2 q1) (r2.sh S2 q2))
  .trivial
def Ba:RA j8 vNil:=λX h0 ns e ae h S=>Po.ret S .nil
def zG(hF:RE F F3)(hA:RA A A3):RA (g6 F A) (xE F3 A3):=λX h0 ns e ae h S=>
 Po.bind S (hF X h0 0 ns e ae h S (Ho _)) λd1 t1 h1 ns1 e1 a1 S1 r1=>Po.bind S1 (hA X h0 ns1 e1 ae h1 S1) λds ts h2 h_ e2 a2 S2 r2=>by
  obtain⟨r1',hn⟩:=r1.drop;have r3:=r1'.stp S1 a2 hn;refine Po.ret S2 ?_;show TsR X h_ ae h2 (d1::ds) (t1.drop::ts);generalize t1.drop=t at *;cases t with
  |val v=>exact .val r3 r2
  |new v=>exact absurd rfl (hn v)
  |bor i=>exact .bor r3 r2
def FH(hg:RFn g g3)(hA:RA A A3):RE (eFn g A) (vFn g3 A3):=λX h0 L ns e ae h S hl=>
 Po.bind S (hA X h0 ns e ae h S) λds ts h1 ns1 e1 a1 S1 r1=>by
  try dsimp only
  split
  .rename_i vs q;exact BvR.po S1 (G6 hl a1.len) (hg _ _ _ _ (TsR.sh S1 r1 q))
  .trivial
def AG(S:Sat X h0 ns e ae h)(q:e[i]?=some (.ow v)):∃n,ae[i]?=some (some (.ref n))/\Sat X h0 (ns.set i none) (e.set i (.sh v)) ae h/\Stp ns e h (ns.set i none) (e.set i (.sh v)) h/\Rd (Oc X (ns.set i none)) h (.ref n) v:=by
 obtain⟨n,o,q1,q2,_,q3,_,q4⟩:=S.sl i _ q;have hi:=(u_.mp q).1;have hn:i<ns.length:=by rw[S.l2];exact hi
 have r:Rd (Oc X (ns.set i none)) h (.ref n) v:=.cell ⟨S.nx i n q1,λz=>by
  obtain⟨j,z⟩:=aK.mp z;rcases aV hn z with ⟨_,y⟩ |⟨y,z⟩
  .cases y
  .exact y (S.inj j i n z q1)⟩ q3 (q4.mono λm o p q=>⟨dg p,q⟩)
 exact⟨n,q2,S.putN' hi ⟨rfl,_,q2,r⟩,Stp.refl.put (x:=none) hi (λ_ z=>by cases z) q rfl rfl S.l2,r⟩
def df{X:Nat->Prop}{h0 L:Nat}{ns:Ns}{e e':E3}{ae:AE}{h:AH}{d:D}{t:Tm}{v:Val}(S:Sat X h0 ns e ae h)(r:relE X h0 L ae ns e h d t)(q:bC e t=some (e',v)):∃ns',Sat X h0 ns' e' ae h/\Stp ns e h ns' e' h/\Rd (Oc X ns') h d v:=by
 cases t with
 |val u=>cases q;exact⟨ns,S,.refl,r⟩
 |new u=>cases q;exact⟨ns,S,.refl,r.new⟩
 |
  bor i=>
  unfold bC at q;dsimp only at q;have r':ae[i]?=some (some d):=r;split at q
  .rename_i u q1;cases q;obtain⟨_,x,e1,e2⟩:=S.sl i _ q1;rw[r'] at e1;cases e1;exact⟨ns,S,.refl,e2⟩
  .rename_i u q1;cases q;obtain⟨n,e1,S',a',e2⟩:=AG S q1;rw[r'] at e1;cases e1;exact⟨_,S',a',e2⟩
  .cases q
def fA:∀{ds:List D}{vs:List Val}{ns:Ns}{e e':E3},Sat X h0 ns e ae h->TsR X ns ae h ds ts->dem e ts=some (e',vs)->∃ns',Sat X h0 ns' e' ae h/\Stp ns e h ns' e' h/\Rds (Oc X ns') h ds vs:=by
 induction ts with
 |nil=>intro ds vs ns e e' S r q;cases r;cases q;exact⟨ns,S,.refl,.nil⟩
 |
  cons t ts ih=>
  intro ds vs ns e e' S r q;unfold dem at q;split at q
  .rename_i e1 v q1;split at q
   .rename_i e2 vs' q2;cases q;have hr:∃d ds',ds=d::ds'/\relE X h0 0 ae ns e h d t/\TsR X ns ae h ds' ts:=by
     cases r with
     |val r rr=>exact⟨_,_,rfl,r,rr⟩
     |bor r rr=>exact⟨_,_,rfl,r,rr⟩
    obtain⟨d,ds',rfl,hr⟩:=hr;obtain⟨ns1,S1,a1,r1⟩:=df S hr.1 q1;obtain⟨h_,S2,a2,r2⟩:=ih S1 (hr.2.stp S a1) q2;exact⟨h_,S2,a1.trans S a2,.cons (r1.mono (a2.mov S1)) r2⟩
   .cases q
  .cases q
def BX(hA:RA A A3):RE (eFn jG A) (vTup A3):=λX h0 L ns e ae h S hl=>
 Po.bind S (hA X h0 ns e ae h S) λds ts h1 ns1 e1 a1 S1 r1=>by
  try dsimp only
  split
  .rename_i e2 vs q;split
   .rename_i hv;obtain⟨h_,S2,a2,r2⟩:=fA S1 r1 q;exact⟨.tup ds,h1,h_,by unfold jG;rw[if_pos (by rw[r2.len];exact hv)],a2,S2,.tup r2⟩
   .trivial
  .trivial
def Dw(hA:RA A A3):RE (eFn cm A) (vLst A3):=λX h0 L ns e ae h S hl=>
 Po.bind S (hA X h0 ns e ae h S) λds ts h1 ns1 e1 a1 S1 r1=>by
  try dsimp only
  split
  .rename_i e2 vs q;split
   .rename_i hv;obtain⟨h_,S2,a2,r2⟩:=fA S1 r1 q;have p:=BvR.po (r:=cm ds h1) (b:=.new (.lst vs)) S2 (G6 hl a1.len) ⟨.lst ds,by unfold cm;rw[if_pos (by rw[r2.len];exact hv)],trivial,.lst r2⟩;obtain⟨d,h',ns',y,y1,y2,y3⟩:=p;exact⟨d,h',ns',y,a2.trans S1 y1,y2,y3⟩
   .trivial
  .trivial
def jn(S1:Sat X h0 ns1 e1 ae h1)(r1:relE X h0 L ae ns1 e1 h1 d1 t1)(q:bOf (rs e1 t1)=some b):d1=.bl b:=by
 unfold bOf at q;split at q
 .rename_i b' q';cases q;exact (r1.sh S1 q').bl
 .cases q
def D2(hF:RE F F3)(hG:RE G G3):RE (uk F G) (vAnd F3 G3):=λX h0 L ns e ae h S hl=>
 Po.bind S (hF X h0 L ns e ae h S hl) λd1 t1 h1 ns1 e1 a1 S1 r1=>by
  try dsimp only
  split
  .rename_i q;rw[jn S1 r1 q];exact hG X h0 L ns1 e1 ae h1 S1 (G6 hl a1.len)
  .rename_i q;rw[jn S1 r1 q];exact Po.ret S1 (.bl false)
  .trivial
def DR(hF:RE F F3):RE (wQ F) (vNot F3):=λX h0 L ns e ae h S hl=>
 Po.bind S (hF X h0 L ns e ae h S hl) λd1 t1 h1 ns1 e1 a1 S1 r1=>by
  try dsimp only
  split
  .rename_i q;rw[jn S1 r1 q];exact Po.ret S1 (.bl _)
  .trivial
def ET(hF:RE F F3):RT (tOf F) (cOf F3):=λX h0 ns e ae h S=>
 Po.bind S (hF X h0 0 ns e ae h S (Ho _)) λd1 t1 h1 ns1 e1 a1 S1 r1=>by
  try dsimp only
  split
  .rename_i q;rw[jn S1 r1 q];exact Po.ret S1 rfl
  .trivial
def EU(hc:RT c c3)(hd:RT d d3):RT (tAn c d) (cAn c3 d3):=λX h0 ns e ae h S=>
 Po.bind S (hc X h0 ns e ae h S) λb b' h1 ns1 e1 a1 S1 r1=>by
  cases r1;try dsimp only
  split
  .exact hd X h0 ns1 e1 ae h1 S1
  .exact Po.ret S1 rfl
def rt_o(hc:RT c c3)(hd:RT d d3):RT (tO c d) (cO c3 d3):=λX h0 ns e ae h S=>
 Po.bind S (hc X h0 ns e ae h S) λb b' h1 ns1 e1 a1 S1 r1=>by
  cases r1;try dsimp only
  split
  .exact Po.ret S1 rfl
  .exact hd X h0 ns1 e1 ae h1 S1
def Gv(hc:RT c c3):RT (tNo c) (cNo c3):=λX h0 ns e ae h S=>
 Po.bind S (hc X h0 ns e ae h S) λb b' h1 ns1 e1 a1 S1 r1=>by cases r1;exact Po.ret S1 rfl
def rt_y:RT tY cY:=λX h0 ns e ae h S=>Po.ret S rfl
end
inductive Rt where
 |val (v:Val) |new (v:Val) |par (i:Nat) |pr (v u:Val)
inductive SR3 where
 |nx (e:E3) |rt (r:Rt) (e:E3) |bk (e:E3) |ct (e:E3) |exc (c:Str) (e:E3) |stuck
abbrev MS3:=E3->SR3
def RtR(X:Nat->Prop)(h0:Nat)(ns:Ns)(e:E3)(ae:AE)(h:AH)(d:D):Rt->Prop
 |.val v=>Sat X h0 ns e ae h/\Rd (Oc X ns) h d v
 |.new v=>∃n o,d=.ref n/\h0<=n/\¬ X n/\h[n]?=some o/\bg o/\Sat (Xn X n) h0 ns e ae h/\Rc (Oc (Xn X n) ns) h o v
 |.par i=>Sat X h0 ns e ae h/\ae[i]?=some (some d)/\∃v,e[i]?=some (.mu v)
 |.pr v u=>∃d1 n o,d=.tup [d1,.ref n]/\h0<=n/\¬ X n/\h[n]?=some o/\bg o/\Sat (Xn X n) h0 ns e ae h/\Rd (Oc (Xn X n) ns) h d1 v/\Rc (Oc (Xn X n) ns) h o u
def PoS(X:Nat->Prop)(h0:Nat)(ns:Ns)(e:E3)(h:AH)(r2:SR):SR3->Prop
 |.stuck=>True
 |.nx e'=>∃d_ h' ns',r2=.nx d_ h'/\Stp ns e h ns' e' h'/\Sat X h0 ns' e' d_ h'
 |.bk e'=>∃d_ h' ns',r2=.bk d_ h'/\Stp ns e h ns' e' h'/\Sat X h0 ns' e' d_ h'
 |.ct e'=>∃d_ h' ns',r2=.ct d_ h'/\Stp ns e h ns' e' h'/\Sat X h0 ns' e' d_ h'
 |.exc c e'=>∃d_ h' ns',r2=.exc c d_ h'/\Stp ns e h ns' e' h'/\Sat X h0 ns' e' d_ h'
 |.rt r e'=>∃d d_ h' ns',r2=.rt d h'/\Stp ns e h ns' e' h'/\RtR X h0 ns' e' d_ h' d r
def RS(F:MS)(G:MS3):Prop:=∀X h0 ns e ae h,Sat X h0 ns e ae h->PoS X h0 ns e h (F ae h) (G e)
noncomputable def R3.toS{α:Type}(r:R3 α)(f:α->E3->SR3):SR3:=match r with
 |.ok a e=>f a e
 |.exc c e=>.exc c e
 |.stuck=>.stuck
def SR3.then(r:SR3)(f:E3->SR3):SR3:=match r with
 |.nx e=>f e
 |r=>r
section
variable{X:Nat->Prop}{h0:Nat}{ns ns1 ns':Ns}{e e1 e':E3}{ae:AE}{h h1 h':AH}
def PoS.after(S:Sat X h0 ns e ae h)(a:Stp ns e h ns1 e1 h1)(p:PoS X h0 ns1 e1 h1 r2 r3):PoS X h0 ns e h r2 r3:=by
 cases r3 with
 |stuck=>trivial
 |nx e'=>obtain⟨d_,h',ns',q,q1,q2⟩:=p;exact⟨d_,h',ns',q,a.trans S q1,q2⟩
 |bk e'=>obtain⟨d_,h',ns',q,q1,q2⟩:=p;exact⟨d_,h',ns',q,a.trans S q1,q2⟩
 |ct e'=>obtain⟨d_,h',ns',q,q1,q2⟩:=p;exact⟨d_,h',ns',q,a.trans S q1,q2⟩
 |exc c e'=>obtain⟨d_,h',ns',q,q1,q2⟩:=p;exact⟨d_,h',ns',q,a.trans S q1,q2⟩
 |rt r e'=>obtain⟨d,d_,h',ns',q,q1,q2⟩:=p;exact⟨d,d_,h',ns',q,a.trans S q1,q2⟩
def PoS.toS(p:Po X h0 ns e ae h rel r2 r3)
 (k:∀d t h' ns' e',Stp ns e h ns' e' h'->Sat X h0 ns' e' ae h'->rel ns' e' h' d t->PoS X h0 ns e h (f2 d h') (f3 t e')):PoS X h0 ns e h (r2.toS ae f2) (r3.toS f3):=by
 cases r3 with
 |stuck=>trivial
 |exc c e'=>obtain⟨h',ns',rfl,q1,q2⟩:=p;exact⟨ae,h',ns',rfl,q1,q2⟩
 |ok t e'=>obtain⟨d,h',ns',rfl,q1,q2,q3⟩:=p;exact k d t h' ns' e' q1 q2 q3
def PoS.nx(a:Stp ns e h ns' e' h')(S:Sat X h0 ns' e' d_ h'):PoS X h0 ns e h (.nx d_ h') (.nx e'):=⟨d_,h',ns',rfl,a,S⟩
end
noncomputable def wNx:MS3:=λe=>.nx e
noncomputable def wSeq(F G:MS3):MS3:=λe=>(F e).then G
noncomputable def xb(F:ME3):MS3:=λe=>(F e).toS λ_ e1=>.nx e1
noncomputable def wIf(c:MT3)(F G:MS3):MS3:=λe=>(c e).toS λb e1=>if b=true then F e1 else G e1
noncomputable def l8(t:Tm)(e:E3):SR3:=match t with
 |.val v=>.rt (.val v) e
 |.new v=>.rt (.new v) e
 |.bor i=>match e[i]? with
  |some (.sh v)=>.rt (.val v) e
  |some (.ow v)=>.rt (.new v) (e.set i .no)
  |some (.mu _)=>.rt (.par i) e
  |_=>.stuck
noncomputable def wRet(F:ME3):MS3:=λe=>(F e).toS l8
noncomputable def eX(o:Bool)(i:Nat)(t:Tm)(e:E3):SR3:=match e[i]? with
 |some s0=>if s0.pl=true then (match t with
  |.val v=>.nx (e.set i (.sh v))
  |.new v=>.nx (e.set i (if o=true then .ow v else .sh v))
  |.bor j=>match bC e (.bor j) with
   |some (e2,v)=>.nx (e2.set i (.sh v))
   |none=>.stuck) else .stuck
 |none=>.stuck
noncomputable def wAsg(o:Bool)(i:Nat)(F:ME3):MS3:=λe=>(F e).toS (eX o i)
abbrev MG3:=Val->E3->Option E3
abbrev gb:=List Val->E3->Option E3
noncomputable def pN(i:Nat):MG3:=λv e=>match e[i]? with
 |some s=>if s.pl=true then some (e.set i (.sh v)) else none
 |none=>none
noncomputable def psN:gb:=λvs e=>match vs with
 | []=>some e
 |_=>none
noncomputable def psC(g:MG3)(u:gb):gb:=λvs e=>match vs with
 |v::r=>(g v e).bind λe1=>u r e1
 | []=>none
noncomputable def pT(n:Nat)(u:gb):MG3:=λv e=>match v with
 |.tup vs=>if vs.length=n then u vs e else none
 |_=>none
noncomputable def w9(F:ME3)(g:MG3):MS3:=λe=>(F e).toS λt e1=>match bC e1 t with
 |some (e2,v)=>match g v e2 with
  |some e3=>.nx e3
  |none=>.stuck
 |none=>.stuck
noncomputable def wPar(i j:Nat)(A:MA3):MS3:=λe=>(A e).toS λts e1=>match dem e1 ts with
 |some (e2,[v,u])=>match (pN i v e2).bind (pN j u) with
  |some e3=>.nx e3
  |none=>.stuck
 |_=>.stuck
noncomputable def sZ(c:Str)(A:MA3):MS3:=λe=>(A e).toS λts e1=>if ts.length<=16777216 then .exc c e1 else .stuck
def RG(g2:MG)(g3:MG3):Prop:=∀X h0 ns e ae h d v e',Sat X h0 ns e ae h->Rd (Oc X ns) h d v->g3 v e=some e'->∃d_ ns',g2 d ae h=.ok d_ h/\Sat X h0 ns' e' d_ h/\Stp ns e h ns' e' h
def RGs(g2:MGs)(g3:gb):Prop:=∀X h0 ns e ae h ds vs e',Sat X h0 ns e ae h->Rds (Oc X ns) h ds vs->g3 vs e=some e'->∃d_ ns',g2 ds ae h=.ok d_ h/\Sat X h0 ns' e' d_ h/\Stp ns e h ns' e' h
section
variable{F:ME}{F3:ME3}{A:MA}{A3:MA3}{c d:MT}{c3:MT3}{U V:MS}{U3 V3:MS3}{g:MG}{g3:MG3}{gs:MGs}{gs3:gb}
def Gj:RS sNx wNx:=λX h0 ns e ae h S=>.nx .refl S
def DH(hU:RS U U3)(hV:RS V V3):RS (wm U V) (wSeq U3 V3):=λX h0 ns e ae h S=>by
 have p:=hU X h0 ns e ae h S;show PoS X h0 ns e h ((U ae h).then V) ((U3 e).then V3);generalize U3 e=r at *;cases r with
 |stuck=>trivial
 |nx e'=>obtain⟨d_,h',ns',q,q1,q2⟩:=p;rw[q];exact PoS.after S q1 (hV X h0 ns' e' d_ h' q2)
 |bk e'=>obtain⟨d_,h',ns',q,q1,q2⟩:=p;rw[q];exact⟨d_,h',ns',rfl,q1,q2⟩
 |ct e'=>obtain⟨d_,h',ns',q,q1,q2⟩:=p;rw[q];exact⟨d_,h',ns',rfl,q1,q2⟩
 |exc c e'=>obtain⟨d_,h',ns',q,q1,q2⟩:=p;rw[q];exact⟨d_,h',ns',rfl,q1,q2⟩
 |rt r e'=>obtain⟨d,d_,h',ns',q,q1,q2⟩:=p;rw[q];exact⟨d,d_,h',ns',rfl,q1,q2⟩
def zf(hF:RE F F3):RS (pH F) (xb F3):=λX h0 ns e ae h S=>PoS.toS (hF X h0 0 ns e ae h S (Ho _)) λd t h1 ns1 e1 a1 S1 r1=>.nx a1 S1
def Fp(hc:RT c c3)(hU:RS U U3)(hV:RS V V3):RS (sIf c U V) (wIf c3 U3 V3):=λX h0 ns e ae h S=>PoS.toS (hc X h0 ns e ae h S) λb b' h1 ns1 e1 a1 S1 r1=>by
 cases r1;try dsimp only
 split
 .exact PoS.after S a1 (hU X h0 ns1 e1 ae h1 S1)
 .exact PoS.after S a1 (hV X h0 ns1 e1 ae h1 S1)
def Au(hF:RE F F3):RS (ux F) (wRet F3):=λX h0 ns e ae h S=>PoS.toS (hF X h0 h0 ns e ae h S S.lh) λd t h1 ns1 e1 a1 S1 r1=>by
 cases t with
 |val v=>exact⟨d,ae,h1,ns1,rfl,a1,S1,r1⟩
 |new v=>obtain⟨n,o,q⟩:=r1;exact⟨d,ae,h1,ns1,rfl,a1,n,o,q⟩
 |
  bor i=>
  unfold l8;dsimp only;have r':ae[i]?=some (some d):=r1;split
  .rename_i v q;obtain⟨_,x,e1',e2⟩:=S1.sl i _ q;rw[r'] at e1';cases e1';exact⟨d,ae,h1,ns1,rfl,a1,S1,e2⟩
  .rename_i v q;obtain⟨n,o,q1,q2,q3,q4,q5,q6⟩:=S1.sl i _ q;rw[r'] at q2;cases q2;have hi:=(u_.mp q).1;have hn:i<ns1.length:=by rw[S1.l2];exact hi
   have mv:Mov (Oc X ns1) (Oc (Xn X n) (ns1.set i none)) h1 h1:=λm o' p q'=>⟨⟨λz=>by
    rcases z with z |rfl
    .exact p.1 z
    .exact p.2 (aK.mpr ⟨i,q1⟩),(dg p).2⟩,q'⟩
   have S2:=S1.putN' hi (s:=.no) rfl;refine⟨.ref n,ae,h1,ns1.set i none,rfl,a1.put (x:=none) hi (λ_ z=>by cases z) q rfl rfl S1.l2,n,o,rfl,q3,S1.nx i n q1,q4,q5,⟨S2.l1,S2.l2,S2.lh,λm z=>?_,S2.inj,λj m qj z=>?_,λj s qj=>?_⟩,q6.mono mv⟩
   .rcases z with z |rfl
    .exact S2.xl m z
    .exact bB q4
   .rcases z with z |rfl
    .exact S2.nx j m qj z
    .rcases aV hn qj with ⟨_,y⟩ |⟨y,z⟩
     .cases y
     .exact y (S1.inj j i _ z q1)
   .rcases aV hi qj with ⟨rfl,rfl⟩ |⟨z,qj'⟩
    .rw[aZ hn];rfl
    .rw[aU z];exact (S1.sl j s qj').mono mv λ_ _ _ q=>q
  .rename_i v q;exact⟨d,ae,h1,ns1,rfl,a1,S1,r',v,q⟩
  .trivial
def Cz(o:Bool)(i:Nat)(hF:RE F F3):RS (eA F (gN i)) (wAsg o i F3):=λX h0 ns e ae h S=>PoS.toS (hF X h0 h.length ns e ae h S (y_ _)) λd t h1 ns1 e1 a1 S1 r1=>by
 show PoS X h0 ns e h (.nx (ae.set i (some d)) h1) (eX o i t e1);unfold eX;split
 .rename_i s0 q0;split
  .rename_i p0;have hi:=(u_.mp q0).1;cases t with
   |val v=>exact .nx (a1.put (x:=none) (s:=.sh v) hi (λ_ z=>by cases z) q0 p0 rfl S1.l2) (S1.putN hi ⟨rfl,d,rfl,Rd.mono (λm o p q=>⟨dg p,q⟩) r1⟩)
   |
    new v=>
    try dsimp only
    split
    .obtain⟨n,ob,rfl,q1,q2,q3,q4,q5,q6⟩:=r1;exact .nx (a1.put (x:=some n) (s:=.ow v) hi (λm z=>by cases z;exact q1) q0 p0 rfl S1.l2) (Sat.putO q5 q2 hi (G6 S.lh q1) q3 q4 q6)
    .exact .nx (a1.put (x:=none) (s:=.sh v) hi (λ_ z=>by cases z) q0 p0 rfl S1.l2) (S1.putN hi ⟨rfl,d,rfl,Rd.mono (λm o p q=>⟨dg p,q⟩) r1.new⟩)
   |
    bor j=>
    try dsimp only
    split
    .rename_i e2 v q2;obtain⟨h_,S2,a2,r2⟩:=df S1 r1 q2;have hq:∃s2,e2[i]?=some s2/\s2.pl=true:=by
      unfold bC at q2;dsimp only at q2;split at q2
      .cases q2;exact⟨s0,q0,p0⟩
      .rename_i u q3;cases q2;by_cases z:i=j
       .subst z;exact⟨_,aZ hi,rfl⟩
       .exact⟨s0,by rw[aU z];exact q0,p0⟩
      .cases q2
     obtain⟨s2,hq1,hq2⟩:=hq;have hi2:=(u_.mp hq1).1;exact .nx ((a1.trans S a2).put (x:=none) (s:=.sh v) hi2 (λ_ z=>by cases z) hq1 hq2 rfl S2.l2) (S2.putN hi2 ⟨rfl,d,rfl,Rd.mono (λm o p q=>⟨dg p,q⟩) r2⟩)
    .trivial
  .trivial
 .trivial
def uQ(i:Nat):RG (gN i) (pN i):=λX h0 ns e ae h d v e' S r q=>by
 unfold pN at q;split at q
 .rename_i s q0;split at q
  .rename_i p0;cases q;have hi:=(u_.mp q0).1;exact⟨_,ns.set i none,rfl,S.putN hi ⟨rfl,d,rfl,Rd.mono (λm o p q=>⟨dg p,q⟩) r⟩,Stp.refl.put (x:=none) (s:=.sh v) hi (λ_ z=>by cases z) q0 p0 rfl S.l2⟩
  .cases q
 .cases q
def EV:RGs gsN psN:=λX h0 ns e ae h ds vs e' S r q=>by
 cases r with
 |nil=>cases q;exact⟨ae,ns,rfl,S,.refl⟩
 |cons _ _=>cases q
def GB(hg:RG g g3)(hs:RGs gs gs3):RGs (gsC g gs) (psC g3 gs3):=λX h0 ns e ae h ds vs e' S r q=>by
 cases r with
 |nil=>cases q
 |cons r rr=>obtain⟨e1,q1,q2⟩:=Hy.mp q;obtain⟨i_,ns1,p1,S1,a1⟩:=hg _ _ _ _ _ _ _ _ _ S r q1;obtain⟨ae2,h_,p2,S2,a2⟩:=hs _ _ _ _ _ _ _ _ _ S1 (rr.mono (a1.mov S)) q2;refine⟨ae2,h_,?_,S2,a1.trans S a2⟩;unfold gsC;dsimp only;rw[p1];exact p2
def rg_t(n:Nat)(hs:RGs gs gs3):RG (gT λds ae h=>if ds.length=n then gs ds ae h else .stuck) (pT n gs3):=λX h0 ns e ae h d v e' S r q=>by
 unfold pT at q;split at q
 .split at q
  .rename_i hn;obtain⟨ds,rfl,r2⟩:=ShR.tup (.inl r);obtain⟨i_,ns1,p1,S1,a1⟩:=hs _ _ _ _ _ _ _ _ _ S r2 q;refine⟨i_,ns1,?_,S1,a1⟩;unfold gT;dsimp only;rw[if_pos (by rw[r2.len];exact hn)];exact p1
  .cases q
 .cases q
def BF(hg:RG g g3):RG (λd ae h=>noX (g d ae h)) g3:=λX h0 ns e ae h d v e' S r q=>by obtain⟨i_,ns1,p1,S1,a1⟩:=hg _ _ _ _ _ _ _ _ _ S r q;exact⟨i_,ns1,by dsimp only;rw[p1];rfl,S1,a1⟩
def zO(hF:RE F F3)(hg:RG g g3):RS (eA F g) (w9 F3 g3):=λX h0 ns e ae h S=>PoS.toS (hF X h0 0 ns e ae h S (Ho _)) λd t h1 ns1 e1 a1 S1 r1=>by
 try dsimp only
 split
 .rename_i e2 v q;obtain⟨h_,S2,a2,r2⟩:=df S1 r1 q;split
  .rename_i e3 q3;obtain⟨ae3,ns3,p3,S3,a3⟩:=hg _ _ _ _ _ _ _ _ _ S2 r2 q3;rw[p3];exact .nx ((a1.trans S a2).trans S a3) S3
  .trivial
 .trivial
def DY(i j:Nat)(hA:RA A A3):RS (vD i j A) (wPar i j A3):=λX h0 ns e ae h S=>PoS.toS (hA X h0 ns e ae h S) λds ts h1 ns1 e1 a1 S1 r1=>by
 try dsimp only
 cases q:dem e1 ts with
 |none=>trivial
 |
  some w=>
  obtain⟨e2,vs⟩:=w;obtain⟨h_,S2,a2,r2⟩:=fA S1 r1 q
  match vs,ds,r2 with
  | [],_,_=>trivial
  | [_],_,_=>trivial
  |_::_::_::_,_,_=>trivial
  |
   [v,u],[d,d'],r2=>
   dsimp only;split
   .rename_i e3 q3;obtain⟨e4,q4,q5⟩:=Hy.mp q3;cases r2 with
    |
     cons r rr=>
     cases rr with
     |
      cons r' rr=>
      obtain⟨ae3,ns3,p3,S3,a3⟩:=uQ i _ _ _ _ _ _ _ _ _ S2 r q4;obtain⟨ae4,ns4,p4,S4,a4⟩:=uQ j _ _ _ _ _ _ _ _ _ S3 (r'.mono (a3.mov S2)) q5;have z3:ae3=ae.set i (some d):=by have:=p3;unfold gN at this;cases this;rfl
      have z4:ae4=ae3.set j (some d'):=by have:=p4;unfold gN at this;cases this;rfl
      subst z4 z3;exact .nx (((a1.trans S a2).trans S a3).trans S a4) S4
   .trivial
def TsR.len(r:TsR X ns ae h ds ts):ds.length=ts.length:=by
 induction r with
 |nil=>rfl
 |val _ _ ih=>rw[Hr,Hr,ih]
 |bor _ _ ih=>rw[Hr,Hr,ih]
def wV(x:Str)(hA:RA A A3):RS (mq x A) (sZ x A3):=λX h0 ns e ae h S=>PoS.toS (hA X h0 ns e ae h S) λds ts h1 ns1 e1 a1 S1 r1=>by
 try dsimp only
 by_cases hl:ts.length<=16777216
 .rw[if_pos hl,if_pos (by rw[TsR.len r1];exact hl)];exact⟨ae,h1,ns1,rfl,a1,S1⟩
 .rw[if_neg hl];trivial
end
noncomputable def Sl.re(s:Sl)(u:Val):Sl:=match s with
 |.ow _=>.ow u
 |.mu _=>.mu u
 |s=>s
def Sl.mv:Sl->Option Val
 |.ow v=>some v
 |.mu v=>some v
 |_=>none
section
variable{X:Nat->Prop}{h0:Nat}{ns:Ns}{e:E3}{ae:AE}{h:AH}
def Sat.write(S:Sat X h0 ns e ae h)(q:e[i]?=some s)(hm:s.mv=some u):∃n o,ae[i]?=some (some (.ref n))/\h[n]?=some o/\bg o/\Rc (Oc X ns) h o u/\
 ∀o' u',bg o'->Rc (Oc X ns) h o' u'->Mov (Oc X ns) (Oc X ns) h (h.set n o')/\Sat X h0 ns (e.set i (s.re u')) ae (h.set n o')/\Stp ns e h ns (e.set i (s.re u')) (h.set n o'):=by
 have hi:=(u_.mp q).1;have key:∃n o,ns[i]?=some (some n)/\ae[i]?=some (some (.ref n))/\h[n]?=some o/\bg o/\Rc (Oc X ns) h o u/\s.mt=true/\(∀o' u',bg o'->Rc (Oc X ns) (h.set n o') o' u'->SlR (Oc X ns) h0 (some (some n)) (some (some (.ref n))) (h.set n o') (s.re u')):=by
  have y:=S.sl i s q;cases s with
  |ow v=>cases hm;obtain⟨n,o,q1,q2,q3,q4,q5,q6⟩:=y;exact⟨n,o,q1,q2,q4,q5,q6,rfl,λo' u' hf r=>⟨n,o',rfl,rfl,q3,aZ (bB q4),hf,r⟩⟩
  |mu v=>cases hm;obtain⟨n,o,q1,q2,q4,q5,q6⟩:=y;exact⟨n,o,q1,q2,q4,q5,q6,rfl,λo' u' hf r=>⟨n,o',rfl,rfl,aZ (bB q4),hf,r⟩⟩
  |_=>cases hm
 obtain⟨n,o,k1,k2,k3,k4,k5,k6,k7⟩:=key;refine⟨n,o,k2,k3,k4,k5,λo' u' hf r=>?_⟩;have mv:Mov (Oc X ns) (Oc X ns) h (h.set n o'):=λm ob p q'=>⟨p,by have:m≠n:=λz=>p.2 (aK.mpr ⟨i,by rw[z];exact k1⟩);rw[aU this];exact q'⟩;refine⟨mv,⟨by rw[G7];exact S.l1,by rw[G7];exact S.l2,by rw[G7];exact S.lh,λm z=>by rw[G7];exact S.xl m z,S.inj,S.nx,λj s' qj=>?_⟩,?_⟩
 .rcases aV hi qj with ⟨rfl,rfl⟩ |⟨z,qj'⟩
  .rw[k1,k2];exact k7 o' u' hf (r.mono mv)
  .refine (S.sl j s' qj').mono mv λm ob qm qo=>?_;have:m≠n:=λy=>by subst y;exact z (S.inj j i m qm k1)
   rw[aU this];exact qo
 .refine⟨by rw[G7];exact y_ _,λm ob qm hM=>?_,λ_ _ q=>.inl q,λj s' qj hl=>?_,λj s' qj hl=>?_,λj v qj=>?_,λj v qj=>?_⟩
  .have:m≠n:=λy=>by subst y;exact hM ⟨i,s,k1,q,k6⟩
   rw[aU this];exact qm
  .have z:j≠i:=λz=>by subst z;rw[q] at qj;cases qj;cases s <;> first |cases hl;done |cases k6;done
   rw[aU z];exact⟨qj,rfl⟩
  .rcases aV hi qj with ⟨_,y⟩ |⟨z,qj'⟩
   .subst y;cases s <;> first |cases hl;done |cases k6;done
   .exact⟨qj',rfl⟩
  .rcases aV hi qj with ⟨rfl,y⟩ |⟨z,qj'⟩
   .cases s with
    |mu w=>exact⟨w,q,rfl⟩
    |ow w=>cases y
    |_=>cases k6
   .exact⟨v,qj',rfl⟩
  .by_cases z:j=i
   .subst z;rw[q] at qj;cases qj;exact⟨u',aZ hi,rfl⟩
   .exact⟨v,by rw[aU z];exact qj,rfl⟩
end
def pS(w2:D->D->D->AH->R Unit)(w3:Val->Val->Val->Option Val):Prop:=∀P h n o u di vi d v u',¬ P n->h[n]?=some o->bg o->Rc P h o u->ShR P h di vi->Rd P h d v->w3 u vi v=some u'->∃o',w2 (.ref n) di d h=.ok () (h.set n o')/\bg o'/\Rc P h o' u'
noncomputable def wSet(i:Nat)(G:ME3)(F:ME3)(w:Val->Val->Val->Option Val):MS3:=λe=>(F e).toS λt e1=>match (e1[i]?).bind Sl.mv with
 |none=>.stuck
 |some _=>(G e1).toS λt2 e2=>match rs e2 t2 with
  |none=>.stuck
  |some vi=>match bC e2 t.drop with
   |none=>.stuck
   |some (e3,v)=>match e3[i]? with
    |none=>.stuck
    |some s=>match s.mv with
     |none=>.stuck
     |some u=>match w u vi v with
      |some u'=>.nx (e3.set i (s.re u'))
      |none=>.stuck
def RM(m2:D->List D->AH->R D)(m3:Val->List Val->Option (Val×Val)):Prop:=∀P h n o u ds vs u' v,h[n]?=some o->bg o->Rc P h o u->Rds P h ds vs->m3 u vs=some (u',v)->jk h (.ref n)=true/\∃o' d,m2 (.ref n) ds h=.ok d (h.set n o')/\bg o'/\Rc P h o' u'/\Rd P h d v
noncomputable def uo:Val->Bool
 |.lst _=>true
 |_=>false
noncomputable def uv(i:Nat)(m:Val->List Val->Option (Val×Val))(A:MA3):ME3:=λe=>match e[i]? with
 |some s=>if (s.mv.map uo)=some true then (A e).bind λts e1=>match dem e1 ts with
  |some (e2,vs)=>match e2[i]? with
   |some s2=>match s2.mv with
    |some u=>match m u vs with
     |some (u',v)=>.ok (.val v) (e2.set i (s2.re u'))
     |none=>.stuck
    |none=>.stuck
   |none=>.stuck
  |none=>.stuck else .stuck
 |none=>.stuck
section
variable{F G:ME}{F3 G3:ME3}{A:MA}{A3:MA3}
def ya{X:Nat->Prop}{h0:Nat}{ns:Ns}{e:E3}{ae:AE}{h:AH}(S:Sat X h0 ns e ae h){i:Nat}{u:Val}(q:(e[i]?).bind Sl.mv=some u):∃n o,ae[i]?=some (some (.ref n))/\h[n]?=some o/\bg o/\Rc (Oc X ns) h o u:=by obtain⟨s,q1,q2⟩:=Hy.mp q;obtain⟨n,o,k1,k2,k3,k4,_⟩:=S.write q1 q2;exact⟨n,o,k1,k2,k3,k4⟩
def A2(i:Nat)(hw:pS w2 w3)(hG:RE G G3)(hF:RE F F3):RS (eA F (gS (cw i) G w2)) (wSet i G3 F3 w3):=λX h0 ns e ae h S=>PoS.toS (hF X h0 0 ns e ae h S (Ho _)) λd t h1 ns1 e1 a1 S1 r1=>by
 try dsimp only
 cases qm:(e1[i]?).bind Sl.mv with
 |none=>trivial
 |
  some u0=>
  obtain⟨n0,o0,b1,b2,b3,b4⟩:=ya S1 qm;have L2e:∀h',(gS (cw i) G w2 d ae h').toS ae (λd_ h2=>SR.nx d_ h2)=(G ae h').toS ae λdi h2=>(w2 (.ref n0) di d h2).toS ae λ_ h3=>.nx ae h3:=λh'=>by
   unfold gS cw;rw[b1];simp only[dO];cases G ae h' with
   |ok di h2=>simp only[dO];show _=(w2 (.ref n0) di d h2).toS ae λ_ h3=>.nx ae h3;cases w2 (.ref n0) di d h2 <;> rfl
   |exc c h2=>rfl
   |stuck=>rfl
  rw[L2e];refine PoS.after S a1 (PoS.toS (hG X h0 0 ns1 e1 ae h1 S1 (Ho _)) λdi t2 h2 h_ e2 a2 S2 r2=>?_);try dsimp only
  cases qi:rs e2 t2 with
  |none=>trivial
  |
   some vi=>
   try dsimp only
   cases qd:bC e2 t.drop with
   |none=>trivial
   |
    some w=>
    obtain⟨e3,v⟩:=w;try dsimp only
    obtain⟨r1',hn⟩:=r1.drop;have r3:=r1'.stp S1 a2 hn;have si:=r2.sh S2 qi;obtain⟨ns3,S3,a3,r4⟩:=df S2 r3 qd;have si3:ShR (Oc X ns3) h2 di vi:=by
     rcases si with z |⟨n,o,z1,z2,z3⟩
     .exact .inl (z.mono (a3.mov S2))
     .exact .inr ⟨n,o,z1,z2,z3.mono (a3.mov S2)⟩
    cases q3:e3[i]? with
    |none=>trivial
    |
     some s=>
     try dsimp only
     cases q4:s.mv with
     |none=>trivial
     |
      some u=>
      try dsimp only
      cases q5:w3 u vi v with
      |none=>trivial
      |
       some u'=>
       obtain⟨n,o,k1,k2,k3,k4,k5⟩:=S3.write q3 q4;rw[b1] at k1;cases k1;have nP:¬ Oc X ns3 n0:=λp=>by have z1:=((k5 (.lst []) (.lst []) trivial (.lst .nil)).1 _ _ p k2).2;have z2:=((k5 (.lst [.non]) (.lst [.non]) trivial (.lst (.cons .non .nil))).1 _ _ p k2).2;rw[aZ (bB k2)] at z1 z2;rw[<- z2] at z1;cases z1
       obtain⟨o',p1,p2,p3⟩:=hw _ _ _ _ _ _ _ _ _ _ nP k2 k3 k4 si3 r4 q5;obtain⟨mv,S4,a4⟩:=k5 o' u' p2 p3;rw[p1];exact .nx ((a2.trans S1 a3).trans S1 a4) S4
def Dm(i:Nat)(hm:RM m2 m3)(hA:RA A A3):RE (eM m2 (cw i) A) (uv i m3 A3):=λX h0 L ns e ae h S hl=>by
 unfold uv;cases q0:e[i]? with
 |none=>trivial
 |
  some s0=>
  dsimp only;split
  .rename_i hz;obtain⟨u0,z1,z2⟩:=G9.mp hz;obtain⟨n0,o0,b1,b2,b3,b4,_⟩:=S.write q0 z1;have hL:jk h (.ref n0)=true:=by
    cases u0 with
    |lst xs=>obtain⟨ds,_,e1,_⟩:=Rc.seq b2 b4;show (aJ h n0).isSome=true;rw[e1];rfl
    |_=>cases z2
   have L2e:eM m2 (cw i) A ae h=(A ae h).bind λds h2=>m2 (.ref n0) ds h2:=by unfold eM cw;rw[b1];simp only[dO,hL,Ip]
   rw[L2e];refine Po.bind S (hA X h0 ns e ae h S) λds ts h1 ns1 e1 a1 S1 r1=>?_;try dsimp only
   cases q1:dem e1 ts with
   |none=>trivial
   |
    some w=>
    obtain⟨e2,vs⟩:=w;try dsimp only
    obtain⟨h_,S2,a2,r2⟩:=fA S1 r1 q1;cases q2:e2[i]? with
    |none=>trivial
    |
     some s2=>
     try dsimp only
     cases q3:s2.mv with
     |none=>trivial
     |
      some u=>
      try dsimp only
      cases q4:m3 u vs with
      |none=>trivial
      |some w=>obtain⟨u',v⟩:=w;obtain⟨n,o,k1,k2,k3,k4,k5⟩:=S2.write q2 q3;rw[b1] at k1;cases k1;obtain⟨_,o',d,p1,p2,p3,p4⟩:=hm _ _ _ _ _ _ _ _ _ k2 k3 k4 r2 q4;obtain⟨mv,S4,a4⟩:=k5 o' u' p2 p3;exact⟨d,_,h_,p1,a2.trans S1 a4,S4,p4.mono mv⟩
  .trivial
end
noncomputable def fY:Sl->Sl
 |.ow v=>.lo v
 |.mu v=>.lm v
 |s=>s
noncomputable def gL:Sl->Sl
 |.lo v=>.ow v
 |.lm v=>.mu v
 |s=>s
noncomputable def lock(e:E3)(k:Nat):E3:=match e[k]? with
 |some s=>e.set k (fY s)
 |none=>e
noncomputable def unlock(e:E3)(k:Nat):E3:=match e[k]? with
 |some s=>e.set k (gL s)
 |none=>e
noncomputable def lockO(e:E3):Option Nat->E3
 |some k=>lock e k
 |none=>e
def cE(e:E3):Option Nat->E3
 |some k=>unlock e k
 |none=>e
section
variable{X:Nat->Prop}{h0:Nat}{ns ns':Ns}{e e':E3}{ae:AE}{h h':AH}
def SlR.lock(r:SlR P h0 n d h s):SlR P h0 n d h (fY s):=by cases s <;> exact r
def SlR.unlock(r:SlR P h0 n d h s):SlR P h0 n d h (gL s):=by cases s <;> exact r
def Sat.lock(S:Sat X h0 ns e ae h)(k:Nat):Sat X h0 ns (lock e k) ae h:=by
 unfold L3.lock;split
 .rename_i s q;have hi:=(u_.mp q).1;refine⟨by rw[G7];exact S.l1,by rw[G7];exact S.l2,S.lh,S.xl,S.inj,S.nx,λj s' qj=>?_⟩;rcases aV hi qj with ⟨rfl,rfl⟩ |⟨z,qj'⟩
  .exact (S.sl j s q).lock
  .exact S.sl j s' qj'
 .exact S
def Sat.unlock(S:Sat X h0 ns e ae h)(k:Nat):Sat X h0 ns (unlock e k) ae h:=by
 unfold L3.unlock;split
 .rename_i s q;have hi:=(u_.mp q).1;refine⟨by rw[G7];exact S.l1,by rw[G7];exact S.l2,S.lh,S.xl,S.inj,S.nx,λj s' qj=>?_⟩;rcases aV hi qj with ⟨rfl,rfl⟩ |⟨z,qj'⟩
  .exact (S.sl j s q).unlock
  .exact S.sl j s' qj'
 .exact S
def fB(z:j≠k):(lock e k)[j]?=e[j]?:=by
 unfold lock;split
 .rw[aU z]
 .rfl
def dB(z:j≠k):(unlock e k)[j]?=e[j]?:=by
 unfold unlock;split
 .rw[aU z]
 .rfl
def j7(q:e[k]?=some s):(lock e k)[k]?=some (fY s):=by unfold lock;rw[q];exact aZ (u_.mp q).1
def eE(q:e[k]?=some s):(unlock e k)[k]?=some (gL s):=by unfold unlock;rw[q];exact aZ (u_.mp q).1
def Stp.unlock(q:e[k]?=some s)(hs:s.mt=true)(a:Stp ns (L3.lock e k) h ns' e' h'):Stp ns e h ns' (L3.unlock e' k) h':=by
 have hl:(fY s).lk=true:=by cases s <;> first |rfl |cases hs
 have hu:gL (fY s)=s:=by cases s <;> first |rfl |cases hs
 obtain⟨qk,nk⟩:=a.lk k _ (j7 q) hl;refine⟨a.len,λm o qm hM=>a.keep m o qm λ⟨j,s',z1,z2,z3⟩=>hM ?_,a.nw,λj s' qj hj=>?_,λj s' qj hj=>?_,λj v qj=>?_,λj v qj=>?_⟩
 .by_cases z:j=k
  .subst z;exact⟨j,s,z1,q,hs⟩
  .rw[fB z] at z2;exact⟨j,s',z1,z2,z3⟩
 .have z:j≠k:=λz=>by subst z;rw[q] at qj;cases qj;cases s <;> first |cases hs;done |cases hj;done
  rw[dB z];exact a.lk j s' (by rw[fB z];exact qj) hj
 .have z:j≠k:=λz=>by subst z;rw[eE qk,hu] at qj;cases qj;cases s <;> first |cases hs;done |cases hj;done
  rw[dB z] at qj;obtain⟨y1,y2⟩:=a.lk' j s' qj hj;rw[fB z] at y1;exact⟨y1,y2⟩
 .by_cases z:j=k
  .subst z;rw[eE qk,hu] at qj;cases qj;exact⟨v,q,nk⟩
  .rw[dB z] at qj;obtain⟨u,y1,y2⟩:=a.mu j v qj;rw[fB z] at y1;exact⟨u,y1,y2⟩
 .by_cases z:j=k
  .subst z;rw[q] at qj;cases qj;exact⟨v,by rw[eE qk,hu],nk⟩
  .obtain⟨u,y1,y2⟩:=a.mu' j v (by rw[fB z];exact qj);exact⟨u,by rw[dB z];exact y1,y2⟩
end
abbrev MI3:=E3->R3 (List Val×Option Nat)
def Stay(X:Nat->Prop)(ns:Ns)(k:Option Nat)(h h':AH):Prop:=∀(m:Nat) (o:Ob),h[m]?=some o->(Oc X ns m\/∃j:Nat,k=some j/\ns[j]?=some (some m))->h'[m]?=some o
def nu(X:Nat->Prop)(ns:Ns)(e:E3)(h:AH)(it:AIt)(p:List Val×Option Nat):Prop:=
 Rds (Oc X ns) h it.items p.1/\(∀h',Stay X ns p.2 h h'->it.guard h')/\∀k:Nat,p.2=some k->∃s,e[k]?=some s/\s.mt=true
def RI(I:MI)(J:MI3):Prop:=∀X h0 ns e ae h,Sat X h0 ns e ae h->Po X h0 ns e ae h (nu X) (I ae h) (J e)
noncomputable def c7:Val->Option (List Val)
 |.tup xs=>some xs
 |.lst xs=>some xs
 |_=>none
noncomputable def gp(t:Tm)(e:E3):Option (List Val×Option Nat):=match t with
 |.val v=>(c7 v).map λxs=>(xs,none)
 |.new v=>(c7 v).map λxs=>(xs,none)
 |.bor k=>match e[k]? with
  |some (.sh v)=>(c7 v).map λxs=>(xs,none)
  |some (.ow (.lst xs))=>some (xs,some k)
  |some (.mu (.lst xs))=>some (xs,some k)
  |_=>none
noncomputable def xi(F:ME3):MI3:=λe=>(F e).bind λt e1=>match gp t e1 with
 |some p=>.ok p e1
 |none=>.stuck
noncomputable def pJ(lo:Int)(k:Nat):List Val:=(List.range k).map λi=>Val.int (lo+(i:Nat))
structure RgB(j:Int):Prop where
 lo:-(2^62)<=j
 hi:j<2^62
def c9:List Val->Option (List Val)
 | [.int j]=>@ite _ (RgB j) (Classical.propDecidable _) (some (pJ 0 j.toNat)) none
 |_=>none
noncomputable def wa(f:List Val->Option (List Val))(A:MA3):MI3:=λe=>(A e).bind λts e1=>match (rss e1 ts).bind f with
 |some xs=>.ok (xs,none) e1
 |none=>.stuck
section
variable{F:ME}{F3:ME3}{A:MA}{A3:MA3}
def qJ(S:Sat X h0 ns e ae h)(r:Rd (Oc X ns) h d v)(q:c7 v=some xs):∃it,gO d h=some it/\nu X ns e h it (xs,none):=by
 cases v with
 |tup ys=>cases q;obtain⟨ds,rfl,r2⟩:=ShR.tup (.inl r);exact⟨_,rfl,r2,λ_ _=>trivial,λ_ z=>nomatch z⟩
 |
  lst ys=>
  cases q;cases r with
  |
   cell p eo rc=>
   rename_i n o;obtain⟨ds,_,e1,r1⟩:=Rc.seq eo rc;refine⟨.lst n ds,by unfold gO;dsimp only;rw[e1];rfl,r1,λh' st=>?_,λ_ z=>nomatch z⟩;show aJ h' n=some ds
   have:=st n o eo (.inl p)
   unfold aJ at e1 ⊢;rw[eo] at e1;rw[this];exact e1
 |_=>cases q
def Di(S:Sat X h0 ns e ae h)(r:relE X h0 L ae ns e h d t)(q:gp t e=some p):∃it,gO d h=some it/\nu X ns e h it p:=by
 cases t with
 |val v=>obtain⟨xs,q1,rfl⟩:=G9.mp q;exact qJ S r q1
 |new v=>obtain⟨xs,q1,rfl⟩:=G9.mp q;exact qJ S r.new q1
 |
  bor k=>
  have r':ae[k]?=some (some d):=r;have own:∀{s xs},e[k]?=some s->s.mv=some (.lst xs)->∃it,gO d h=some it/\nu X ns e h it (xs,some k):=λ{s xs} q qm=>by
   have hns:∃n,ns[k]?=some (some n)/\ae[k]?=some (some (.ref n)):=by
    have y:=S.sl k s q;cases s with
    |ow v=>obtain⟨n,o,y1,y2,_⟩:=y;exact⟨n,y1,y2⟩
    |mu v=>obtain⟨n,o,y1,y2,_⟩:=y;exact⟨n,y1,y2⟩
    |_=>cases qm
   obtain⟨n,y1,y2⟩:=hns;obtain⟨n',o,k1,k2,k3,k4,_⟩:=S.write q qm;rw[y2] at k1;cases k1;rw[r'] at y2;cases y2;obtain⟨ds,_,e2,r2⟩:=Rc.seq k2 k4;refine⟨.lst n ds,by unfold gO;dsimp only;rw[e2];rfl,r2,λh' st=>?_,λj z=>?_⟩
   .show aJ h' n=some ds
    have:=st n o k2 (.inr ⟨k,rfl,y1⟩)
    unfold aJ at e2 ⊢;rw[k2] at e2;rw[this];exact e2
   .cases z;exact⟨s,q,by cases s <;> first |rfl |cases qm⟩
  unfold gp at q;dsimp only at q;split at q
  .rename_i v qs;obtain⟨_,x,e2,r2⟩:=S.sl k _ qs;rw[r'] at e2;cases e2;obtain⟨xs,q1,rfl⟩:=G9.mp q;exact qJ S r2 q1
  .rename_i xs qs;cases q;exact own qs rfl
  .rename_i xs qs;cases q;exact own qs rfl
  .cases q
noncomputable def ve(d:D)(h:AH):R AIt:=match d with
 |.tup xs=>.ok (.tup xs) h
 |.ref n=>match aJ h n with
  |some xs=>.ok (.lst n xs) h
  |none=>.stuck
 |_=>.stuck
def yK(q:gO d h=some it):ve d h=.ok it h:=by
 cases d with
 |tup xs=>cases q;rfl
 |ref n=>obtain⟨xs,y1,rfl⟩:=G9.mp (show (aJ h n).map (AIt.lst n)=some it from q);unfold ve;dsimp only;rw[y1]
 |_=>cases q
def C0(hF:RE F F3):RI (vL F) (xi F3):=λX h0 ns e ae h S=>
 Po.bind S (hF X h0 0 ns e ae h S (Ho _)) λd t h1 ns1 e1 a1 S1 r1=>by
  show Po X h0 ns1 e1 ae h1 (nu X) (ve d h1) _;cases q:gp t e1 with
  |none=>trivial
  |some p=>dsimp only;obtain⟨it,q1,q2⟩:=Di S1 r1 q;exact⟨it,h1,ns1,yK q1,.refl,S1,q2⟩
def yk(lo:Int)(k:Nat):Rds P h (AIt.rng lo k).items (pJ lo k):=by
 show Rds P h ((List.range k).map λi=>D.int (lo+(i:Nat))) ((List.range k).map λi=>Val.int (lo+(i:Nat)));generalize List.range k=l;induction l with
 |nil=>exact .nil
 |cons i l ih=>exact .cons (.int _) ih
def gg(r:ShRs P h ds [v]):∃d,ds=[d]/\ShR P h d v:=by cases r with |cons r rr=>cases rr;exact⟨_,rfl,r⟩
def FF(r:ShRs P h ds [v,u]):∃d d',ds=[d,d']/\ShR P h d v/\ShR P h d' u:=by cases r with |cons r rr=>cases rr with |cons r' rr=>cases rr;exact⟨_,_,rfl,r,r'⟩
def Gh(hf:∀P h ds vs xs,ShRs P h ds vs->f3 vs=some xs->∃lo k,f2 ds h=.ok (.rng lo k) h/\xs=pJ lo k)(hA:RA A A3):RI (λae h=>(A ae h).bind f2) (wa f3 A3):=λX h0 ns e ae h S=>
 Po.bind S (hA X h0 ns e ae h S) λds ts h1 ns1 e1 a1 S1 r1=>by
  try dsimp only
  split
  .rename_i xs q;obtain⟨vs,q1,q2⟩:=Hy.mp q;obtain⟨lo,k,p1,rfl⟩:=hf _ _ _ _ _ (TsR.sh S1 r1 q1) q2;rw[p1];exact Po.ret S1 ⟨yk _ _,λ_ _=>trivial,λ_ z=>nomatch z⟩
  .trivial
def AD(hA:RA A A3):RI (vn A) (wa c9 A3):=Gh (f2:=λds h1=>match ds with
 | [.int j]=>if -(2^62)<=j/\j<2^62 then .ok (.rng 0 j.toNat) h1 else .stuck
 |
  _=>.stuck) (λP h ds vs xs r q=>by
  unfold c9 at q;split at q
  .split at q
   .rename_i hb;cases q;obtain⟨d,rfl,r2⟩:=gg r;obtain rfl:=r2.int;exact⟨_,_,by dsimp only;rw[if_pos ⟨hb.lo,hb.hi⟩],rfl⟩
   .cases q
  .cases q) hA
end
noncomputable def SR3.loop(r:SR3)(f:E3->SR3):SR3:=match r with
 |.nx e=>f e
 |.ct e=>f e
 |.bk e=>.nx e
 |.rt d e=>.rt d e
 |.exc c e=>.exc c e
 |.stuck=>.stuck
noncomputable def cM(g:MG3)(B:MS3):List Val->MS3
 | [],e=>.nx e
 |v::vs,e=>match g v e with
  |some e1=>(B e1).loop (cM g B vs)
  |none=>.stuck
noncomputable def SR3.unl(k:Option Nat)(r:SR3):SR3:=match r with
 |.nx e=>.nx (cE e k)
 |.ct e=>.ct (cE e k)
 |.bk e=>.bk (cE e k)
 |.rt d e=>.rt d (cE e k)
 |.exc c e=>.exc c (cE e k)
 |.stuck=>.stuck
def wFor(I:MI3)(g:MG3)(B:MS3):MS3:=λe=>(I e).toS λp e1=>(cM g B p.1 (lockO e1 p.2)).unl p.2
section
variable{I:MI}{I3:MI3}{g:MG}{g3:MG3}{B:MS}{B3:MS3}{c:MT}{c3:MT3}
def PoS.loop{X:Nat->Prop}{h0:Nat}{ns:Ns}{e:E3}{ae:AE}{h:AH}{r2:SR}{r3:SR3}{f2:AE->AH->SR}{f3:E3->SR3}(p:PoS X h0 ns e h r2 r3)
 (k:∀d_ h' ns' e',Stp ns e h ns' e' h'->Sat X h0 ns' e' d_ h'->PoS X h0 ns e h (f2 d_ h') (f3 e')):PoS X h0 ns e h (r2.loop f2) (r3.loop f3):=by
 cases r3 with
 |stuck=>trivial
 |nx e'=>obtain⟨d_,h',ns',q,q1,q2⟩:=p;rw[q];exact k d_ h' ns' e' q1 q2
 |ct e'=>obtain⟨d_,h',ns',q,q1,q2⟩:=p;rw[q];exact k d_ h' ns' e' q1 q2
 |bk e'=>obtain⟨d_,h',ns',q,q1,q2⟩:=p;rw[q];exact⟨d_,h',ns',rfl,q1,q2⟩
 |exc c e'=>obtain⟨d_,h',ns',q,q1,q2⟩:=p;rw[q];exact⟨d_,h',ns',rfl,q1,q2⟩
 |rt r e'=>obtain⟨d,d_,h',ns',q,q1,q2⟩:=p;rw[q];exact⟨d,d_,h',ns',rfl,q1,q2⟩
def xN(S:Sat X h0 ns e ae h)(hk:∀j:Nat,k=some j->∃s,e[j]?=some s/\s.mt=true)(a:Stp ns (lockO e k) h ns' e' h'):Stay X ns k h h':=λm o q hm=>by
 refine a.keep m o q λ⟨i,s,z1,z2,z3⟩=>?_;rcases hm with hm |⟨j,rfl,hj⟩
 .exact hm.2 (aK.mpr ⟨i,z1⟩)
 .have:i=j:=S.inj i j m z1 hj;subst this;obtain⟨s',y1,y2⟩:=hk i rfl;have:(lockO e (some i))[i]?=some (fY s'):=j7 y1;rw[this] at z2;cases z2;cases s' <;> first |cases y2;done |cases z3;done
def PoS.unl(hk:∀j:Nat,k=some j->∃s,e[j]?=some s/\s.mt=true)(p:PoS X h0 ns (lockO e k) h r2 r3):PoS X h0 ns e h r2 (r3.unl k):=by
 cases k with
 |none=>cases r3 <;> exact p
 |
  some j=>
  obtain⟨s,y1,y2⟩:=hk j rfl;cases r3 with
  |stuck=>trivial
  |nx e'=>obtain⟨d_,h',ns',q,q1,q2⟩:=p;exact⟨d_,h',ns',q,q1.unlock y1 y2,q2.unlock j⟩
  |ct e'=>obtain⟨d_,h',ns',q,q1,q2⟩:=p;exact⟨d_,h',ns',q,q1.unlock y1 y2,q2.unlock j⟩
  |bk e'=>obtain⟨d_,h',ns',q,q1,q2⟩:=p;exact⟨d_,h',ns',q,q1.unlock y1 y2,q2.unlock j⟩
  |exc c e'=>obtain⟨d_,h',ns',q,q1,q2⟩:=p;exact⟨d_,h',ns',q,q1.unlock y1 y2,q2.unlock j⟩
  |
   rt r e'=>
   obtain⟨d,d_,h',ns',q,q1,q2⟩:=p;refine⟨d,d_,h',ns',q,q1.unlock y1 y2,?_⟩;cases r with
   |val v=>exact⟨q2.1.unlock j,q2.2⟩
   |new v=>obtain⟨n,o,z1,z2,z3,z4,z5,z6,z7⟩:=q2;exact⟨n,o,z1,z2,z3,z4,z5,z6.unlock j,z7⟩
   |
    par i=>
    obtain⟨z1,z2,v,z3⟩:=q2;refine⟨z1.unlock j,z2,v,?_⟩;by_cases z:i=j
    .subst z;exact eE z3
    .exact (dB z).trans z3
   |pr v u=>obtain⟨d1,n,o,z1,z2,z3,z4,z5,z6,z7⟩:=q2;exact⟨d1,n,o,z1,z2,z3,z4,z5,z6.unlock j,z7⟩
def Sat.lockO(S:Sat X h0 ns e ae h)(k:Option Nat):Sat X h0 ns (lockO e k) ae h:=by
 cases k with
 |none=>exact S
 |some k=>exact S.lock k
def xM{X:Nat->Prop}{h0:Nat}{ns:Ns}{e:E3}{ae:AE}{h:AH}{G:AH->Prop}(S:Sat X h0 ns e ae h)(hg:RG g g3)(hB:RS B B3)(hG:∀ns' e' h',Stp ns e h ns' e' h'->G h'):
 ∀{ds:List D}{vs:List Val},Rds (Oc X ns) h ds vs->∀{ns1:Ns}{e1:E3}{i_:AE}{h1:AH},Stp ns e h ns1 e1 h1->Sat X h0 ns1 e1 i_ h1->PoS X h0 ns e h (fD G g B ds i_ h1) (cM g3 B3 vs e1):=by
 intro ds;induction ds with
 |nil=>intro vs r ns1 e1 i_ h1 a1 S1;cases r;unfold fD;rw[if_pos (hG _ _ _ a1)];exact .nx a1 S1
 |
  cons d0 ds ih=>
  intro vs r ns1 e1 i_ h1 a1 S1;cases r with
  |
   cons r rr=>
   unfold fD cM;rw[if_pos (hG _ _ _ a1)];split
   .rename_i e2 q;obtain⟨ae2,h_,p2,S2,a2⟩:=hg _ _ _ _ _ _ _ _ _ S1 (r.mono (a1.mov S)) q;rw[p2];have a12:=a1.trans S a2;show PoS X h0 ns e h ((B ae2 h1).loop _) _;refine PoS.loop (ae:=ae) (PoS.after S a12 (hB X h0 h_ e2 ae2 h1 S2)) λae3 h3 ns3 e3 a3 S3=>ih rr a3 S3
   .trivial
def B0(hI:RI I I3)(hg:RG g g3)(hB:RS B B3):RS (vc I g B) (wFor I3 g3 B3):=λX h0 ns e ae h S=>PoS.toS (hI X h0 ns e ae h S) λit p h1 ns1 e1 a1 S1 r1=>by obtain⟨r2,gd,hk⟩:=r1;refine PoS.after S a1 (PoS.unl hk ?_);have S2:=S1.lockO p.2;exact xM S2 hg hB (λns' e' h' a=>gd h' (xN S1 hk a)) r2 .refl S2
noncomputable def whV(c:MT3)(B:MS3):Nat->MS3
 |0,_=>.stuck
 |k+1,e=>(c e).toS λb e1=>if b=true then (B e1).loop (whV c B k) else .nx e1
open Classical in
def wWh(c:MT3)(B:MS3):MS3:=λe=>if q:∃k,whV c B k e ≠ .stuck then whV c B q.choose e else .stuck
theorem iZ{c:MT3}{B:MS3}:∀{k:Nat}{e:E3},whV c B k e ≠ .stuck->whV c B (k+1) e=whV c B k e
 |0,_,q=>absurd rfl q
 |
  k+1,e,q=>by
  have e1:whV c B (k+2) e=(c e).toS λb e1=>if b=true then (B e1).loop (whV c B (k+1)) else .nx e1:=rfl
  have e2:whV c B (k+1) e=(c e).toS λb e1=>if b=true then (B e1).loop (whV c B k) else .nx e1:=rfl
  rw[e2] at q;rw[e1,e2];cases r:c e with
  |exc _ _=>rfl
  |stuck=>rfl
  |
   ok b h1=>
   rw[r] at q;cases b with
   |false=>rfl
   |
    true=>
    have q':(B h1).loop (whV c B k) ≠ .stuck:=q;show (B h1).loop (whV c B (k+1))=(B h1).loop (whV c B k);cases s:B h1 with
    |nx a2=>rw[s] at q';exact iZ q'
    |ct a2=>rw[s] at q';exact iZ q'
    |_=>rfl
def sU{c:MT3}{B:MS3}{k j:Nat}{e:E3}(q:whV c B k e ≠ .stuck)(hj:k<=j):whV c B j e=whV c B k e:=by
 induction hj with
 |refl=>rfl
 |step _ ih=>rw[iZ (by rw[ih];exact q),ih]
def jE{c:MT3}{B:MS3}{k:Nat}{e:E3}(q:whV c B k e ≠ .stuck):wWh c B e=whV c B k e:=by
 have hq:∃k,whV c B k e ≠ .stuck:=⟨k,q⟩;unfold wWh;rw[dif_pos hq];rcases Nat.le_total hq.choose k with z |z
 .exact (sU hq.choose_spec z).symm
 .exact sU q z
def uP(c:MT3)(B:MS3)(e:E3):wWh c B e=(c e).toS λb e1=>if b=true then (B e1).loop (wWh c B) else .nx e1:=by
 by_cases q:∃k,whV c B k e ≠ .stuck
 .obtain⟨k,q⟩:=q;rw[jE q];cases k with
  |zero=>exact absurd rfl q
  |
   succ k=>
   have e2:whV c B (k+1) e=(c e).toS λb e1=>if b=true then (B e1).loop (whV c B k) else .nx e1:=rfl
   rw[e2] at q ⊢;cases r:c e with
   |exc _ _=>rfl
   |stuck=>rfl
   |
    ok b h1=>
    rw[r] at q;cases b with
    |false=>rfl
    |
     true=>
     have q':(B h1).loop (whV c B k) ≠ .stuck:=q;show (B h1).loop (whV c B k)=(B h1).loop (wWh c B);cases s:B h1 with
     |nx a2=>rw[s] at q';exact (jE q').symm
     |ct a2=>rw[s] at q';exact (jE q').symm
     |_=>rfl
 .have e0:wWh c B e=.stuck:=by unfold wWh;rw[dif_neg q]
  rw[e0];have hs:∀k,whV c B (k+1) e=.stuck:=λk=>IC λz=>q ⟨_,z⟩;cases r:c e with
  |stuck=>rfl
  |
   exc c' h'=>
   have:=hs 0
   unfold whV at this;rw[r] at this;cases this
  |
   ok b h1=>
   cases b with
   |
    false=>
    have:=hs 0
    unfold whV at this;rw[r] at this;cases this
   |
    true=>
    have h2:∀k,(B h1).loop (whV c B k)=.stuck:=λk=>by
     have:=hs k
     unfold whV at this;rw[r] at this;exact this
    show SR3.stuck=(B h1).loop (wWh c B);have lim:∀a2,(∀k,whV c B k a2=.stuck)->wWh c B a2=.stuck:=λa2 z=>by unfold wWh;rw[dif_neg (λ⟨k,y⟩=>y (z k))]
    cases s:B h1 with
    |nx a2=>rw[s] at h2;exact (lim a2 h2).symm
    |ct a2=>rw[s] at h2;exact (lim a2 h2).symm
    |stuck=>rfl
    |_=>have:=h2 0;rw[s] at this;cases this
def Bt(p:PoS X h0 ns e h r2 r3)(q:r3 ≠ .stuck):r2 ≠ .stuck:=by
 cases r3 with
 |stuck=>exact absurd rfl q
 |nx e'=>obtain⟨d_,h',ns',z,_⟩:=p;rw[z];intro y;cases y
 |ct e'=>obtain⟨d_,h',ns',z,_⟩:=p;rw[z];intro y;cases y
 |bk e'=>obtain⟨d_,h',ns',z,_⟩:=p;rw[z];intro y;cases y
 |exc c e'=>obtain⟨d_,h',ns',z,_⟩:=p;rw[z];intro y;cases y
 |rt r e'=>obtain⟨d,d_,h',ns',z,_⟩:=p;rw[z];intro y;cases y
theorem tX(hc:RT c c3)(hB:RS B B3):∀(k:Nat) (X:Nat->Prop) (h0:Nat) (ns:Ns) (e:E3) (ae:AE) (h:AH),Sat X h0 ns e ae h->PoS X h0 ns e h (whN c B k ae h) (whV c3 B3 k e)
 |0,_,_,_,_,_,_,_=>trivial
 |
  k+1,X,h0,ns,e,ae,h,S=>by
  refine PoS.toS (hc X h0 ns e ae h S) λb b' h1 ns1 e1 a1 S1 r1=>?_;cases r1;try dsimp only
  split
  .exact PoS.after S a1 (PoS.loop (ae:=ae) (hB X h0 ns1 e1 ae h1 S1) λae2 h2 h_ e2 a2 S2=>PoS.after S1 a2 (tX hc hB k X h0 h_ e2 ae2 h2 S2))
  .exact .nx a1 S1
def Ga(hc:RT c c3)(hB:RS B B3):RS (sWh c B) (wWh c3 B3):=λX h0 ns e ae h S=>by
 by_cases q:∃k,whV c3 B3 k e ≠ .stuck
 .obtain⟨k,q⟩:=q;rw[jE q];have p:=tX hc hB k X h0 ns e ae h S;rw[ud (Bt p q)];exact p
 .unfold wWh;rw[dif_neg q];trivial
end
noncomputable def dj(o:Option Nat)(s:Sl)(e:E3):E3:=match o,s with
 |some i,.mu v=>(match e[i]? with
  |some t=>e.set i (t.re v)
  |none=>e)
 |_,_=>e
noncomputable def aN:List (Option Nat)->E3->E3->E3
 |o::sub,s::inner,e=>aN sub inner (dj o s e)
 |_,_,e=>e
def o5(hn:∀v,o=some i->s=.mu v->False):(dj o s e)[i]?=e[i]?:=by
 unfold dj;split
 .rename_i i' v;split
  .rename_i t q;by_cases z:i=i'
   .subst z;exact (hn v rfl rfl).elim
   .rw[aU z]
  .rfl
 .rfl
theorem kC:∀{sub:Jr}{e2 e:E3}{i:Nat},(∀(j:Nat) v,sub[j]?=some (some i)->e2[j]?=some (.mu v)->False)->(aN sub e2 e)[i]?=e[i]?
 | [],_,_,_,_=>rfl
 |_::_,[],_,_,_=>rfl
 |
  o::sub,s::e2,e,i,hn=>by
  show (aN sub e2 (dj o s e))[i]?=_;rw[kC (λj v q1 q2=>hn (j+1) v (by simpa using q1) (by simpa using q2))];exact o5 λv z1 z2=>hn 0 v (by rw[z1];rfl) (by rw[z2];rfl)
theorem oO:∀{sub:Jr}{e2 e:E3}{i j:Nat}{v:Val},(∀(j k:Nat) i,sub[j]?=some (some i)->sub[k]?=some (some i)->j=k)->sub[j]?=some (some i)->e2[j]?=some (.mu v)->(aN sub e2 e)[i]?=(e[i]?).map (Sl.re · v)
 | [],_,_,_,j,_,_,q,_=>by simp at q
 |_::_,[],_,_,j,_,_,_,q=>by simp at q
 |
  o::sub,s::e2,e,i,0,v,hj,q1,q2=>by
  have z1:o=some i:=by simpa using q1
  have z2:s=.mu v:=by simpa using q2
  subst z1 z2;show (aN sub e2 (dj (some i) (.mu v) e))[i]?=_;rw[kC (λk u y1 _=>by have:=hj 0 (k+1) i rfl (by simpa using y1);omega)];unfold dj;dsimp only;split
  .rename_i t q;rw[aZ (u_.mp q).1,q];rfl
  .rename_i q;rw[q];rfl
 |
  o::sub,s::e2,e,i,j+1,v,hj,q1,q2=>by
  show (aN sub e2 (dj o s e))[i]?=_;have q1':sub[j]?=some (some i):=by simpa using q1
  rw[oO (λa b c y1 y2=>by have:=hj (a+1) (b+1) c (by simpa using y1) (by simpa using y2);omega) q1' (by simpa using q2)];rw[o5 λv z1 _=>by have:=hj 0 (j+1) i (by rw[z1];rfl) q1;omega]
noncomputable def aX(sub:Jr)(ns:Ns):Ns:=sub.map λo=>o.bind λi=>(ns[i]?).bind id
def bA{sub:Jr}{ns:Ns}{j n:Nat}(q:(aX sub ns)[j]?=some (some n)):∃i,sub[j]?=some (some i)/\ns[i]?=some (some n):=by
 unfold aX at q;rw[Hj] at q;cases z:sub[j]? with
 |none=>rw[z] at q;cases q
 |
  some o=>
  rw[z] at q;cases o with
  |none=>cases q
  |
   some i=>
   refine⟨i,rfl,?_⟩;have q':(ns[i]?).bind id=some n:=Hc q;cases y:ns[i]? with
   |none=>rw[y] at q';cases q'
   |some w=>rw[y] at q';have:w=some n:=q';rw[this]
def yH{sub:Jr}{ns:Ns}{j i:Nat}{w:Option Nat}(q:sub[j]?=some (some i))(q2:ns[i]?=some w):(aX sub ns)[j]?=some w:=by unfold aX;rw[Hj,q];show some ((ns[i]?).bind id)=some w;rw[q2];rfl
structure Lnk(sub:Jr)(e ei:E3):Prop where
 inj:∀(j k:Nat) (i:Nat),sub[j]?=some (some i)->sub[k]?=some (some i)->j=k
 mu:∀(j:Nat) (v:Val),ei[j]?=some (.mu v)->∃(i:Nat) (s:Sl),sub[j]?=some (some i)/\e[i]?=some s/\s.mt=true
 mt:∀(j:Nat) (s:Sl),ei[j]?=some s->s.mt=true->∃v,s=.mu v
def Sat.back(S:Sat X h0 ns e ae h)(K:Lnk sub e ei)(a:Stp (aX sub ns) ei h h_ e2 h2)
 (hY:∀n,Y n->n<h2.length/\(X n\/h.length<=n)) (hXY:∀n,X n->Y n)
 (hc:∀(j:Nat) v n,e2[j]?=some (.mu v)->h_[j]?=some (some n)->∃o,h2[n]?=some o/\bg o/\Rc (Oc Y ns) h2 o v):Sat Y h0 ns (aN sub e2 e) ae h2/\Stp ns e h ns (aN sub e2 e) h2:=by
 have hM:∀n,Mt (aX sub ns) ei n->Mt ns e n:=λn ⟨j,s,z1,z2,z3⟩=>by obtain⟨v,rfl⟩:=K.mt j s z2 z3;obtain⟨i,s',y1,y2,y3⟩:=K.mu j v z2;obtain⟨i',y4,y5⟩:=bA z1;rw[y1] at y4;cases y4;exact⟨i,s',y5,y2,y3⟩
 have mv:Mov (Oc X ns) (Oc Y ns) h h2:=λn o p q=>⟨⟨λz=>by
  rcases (hY n z).2 with z |z
  .exact p.1 z
  .have:=bB q;omega,p.2⟩,a.keep n o q λz=>by obtain⟨j,s,z1,_⟩:=z;obtain⟨i,_,y⟩:=bA z1;exact p.2 (aK.mpr ⟨i,y⟩)⟩
 have key:∀i:Nat,(∃(j:Nat) (v:Val) (s:Sl),sub[j]?=some (some i)/\e2[j]?=some (.mu v)/\e[i]?=some s/\s.mt=true/\(aN sub e2 e)[i]?=some (s.re v)/\h_[j]?=ns[i]?)\/((∀n,ns[i]?=some (some n)->¬ Mt (aX sub ns) ei n)/\(aN sub e2 e)[i]?=e[i]?):=λi=>by
  by_cases hx:∃(j:Nat) (v:Val),sub[j]?=some (some i)/\e2[j]?=some (.mu v)
  .obtain⟨j,v,q1,q2⟩:=hx;obtain⟨u,q3,q4⟩:=a.mu j v q2;obtain⟨i',s,y1,y2,y3⟩:=K.mu j u q3;rw[q1] at y1;cases y1;refine .inl ⟨j,v,s,q1,q2,y2,y3,by rw[oO K.inj q1 q2,y2];rfl,?_⟩;rw[q4];have hl:i<ns.length:=by rw[S.l2];exact (u_.mp y2).1
   rw[A_ hl];exact yH q1 (A_ hl)
  .refine .inr ⟨λn q ⟨j,s,z1,z2,z3⟩=>hx ?_,kC λj v y1 y2=>hx ⟨j,v,y1,y2⟩⟩;obtain⟨v,rfl⟩:=K.mt j s z2 z3;obtain⟨i',y4,y5⟩:=bA z1;have:i'=i:=S.inj i' i n y5 q;subst this;obtain⟨v',y6,_⟩:=a.mu' j v z2;exact⟨j,v',y4,y6⟩
 have lenB:(aN sub e2 e).length=e.length:=by
  clear key hc a K S hY hXY hM mv;induction sub generalizing e2 e with
  |nil=>rfl
  |
   cons o sub ih=>
   cases e2 with
   |nil=>rfl
   |
    cons s e2=>
    show (aN sub e2 (dj o s e)).length=_;rw[ih];unfold dj;split
    .split
     .rw[G7]
     .rfl
    .rfl
 refine⟨⟨by rw[lenB];exact S.l1,by rw[lenB];exact S.l2,G6 S.lh a.len,λn z=>(hY n z).1,S.inj,λi n q z=>?_,λi s q=>?_⟩,⟨a.len,λm o q hm=>a.keep m o q λz=>hm (hM m z),λ_ _ q=>.inl q,λi s q hl=>?_,λi s q hl=>?_,λi v q=>?_,λi v q=>?_⟩⟩
 .rcases (hY n z).2 with z |z
  .exact S.nx i n q z
  .obtain⟨_,_,_,_,_,_,_,q',_⟩:=S.own q
   have:=bB q';omega
 .rcases key i with ⟨j,v,s0,k1,k2,k3,k4,k5,k6⟩ |⟨k1,k2⟩
  .rw[k5] at q;cases q;have y:=S.sl i s0 k3;cases s0 with
   |ow u=>obtain⟨n,o,y1,y2,y3,_⟩:=y;obtain⟨o',z1,z2,z3⟩:=hc j v n k2 (by rw[k6];exact y1);exact⟨n,o',y1,y2,y3,z1,z2,z3⟩
   |mu u=>obtain⟨n,o,y1,y2,_⟩:=y;obtain⟨o',z1,z2,z3⟩:=hc j v n k2 (by rw[k6];exact y1);exact⟨n,o',y1,y2,z1,z2,z3⟩
   |_=>cases k4
  .rw[k2] at q;exact (S.sl i s q).mono mv λn o q1 q2=>a.keep n o q2 (k1 n q1)
 .rcases key i with ⟨j,v,s0,k1,k2,k3,k4,k5,k6⟩ |⟨k1,k2⟩
  .rw[k3] at q;cases q;cases s <;> first |cases hl;done |cases k4;done
  .rw[k2];exact⟨q,rfl⟩
 .rcases key i with ⟨j,v,s0,k1,k2,k3,k4,k5,k6⟩ |⟨k1,k2⟩
  .rw[k5] at q;cases q;cases s0 <;> first |cases hl;done |cases k4;done
  .rw[k2] at q;exact⟨q,rfl⟩
 .rcases key i with ⟨j,u,s0,k1,k2,k3,k4,k5,k6⟩ |⟨k1,k2⟩
  .rw[k5] at q;cases s0 with
   |mu w=>exact⟨w,k3,rfl⟩
   |ow w=>cases q
   |_=>cases k4
  .rw[k2] at q;exact⟨v,q,rfl⟩
 .rcases key i with ⟨j,u,s0,k1,k2,k3,k4,k5,k6⟩ |⟨k1,k2⟩
  .rw[k3] at q;cases q;exact⟨u,k5,rfl⟩
  .exact⟨v,by rw[k2];exact q,rfl⟩
noncomputable def inS:Sl->Sl
 |.ow v=>.mu v
 |.lo v=>.lm v
 |s=>s
noncomputable def bL(sub:Jr)(e:E3):E3:=sub.map λo=>match o with
 |none=>.no
 |some i=>match e[i]? with
  |some s=>inS s
  |none=>.no
noncomputable def lcV(g:MG3)(c:MT3)(F:ME3):List Val->List Val->E3->R3 (List Val)
 | [],acc,e=>.ok acc e
 |v::vs,acc,e=>if acc.length<16777216 then (match g v e with
  |none=>.stuck
  |some e1=>(c e1).bind λb e2=>if b=true then (F e2).bind λt e3=>(match bC e3 t with
   |some (e4,y)=>lcV g c F vs (acc++[y]) e4
   |none=>.stuck) else lcV g c F vs acc e2) else .stuck
noncomputable def vLC(I:MI3)(sub:Jr)(g:MG3)(c:MT3)(F:ME3):ME3:=λe=>(I e).bind λp e1=>match lcV g c F p.1 [] (bL sub (lockO e1 p.2)) with
 |.ok ys e2=>if ys.length<=16777216 then .ok (.new (.lst ys)) (cE (aN sub e2 (lockO e1 p.2)) p.2) else .stuck
 |_=>.stuck
def jz(sub:Jr):Prop:=∀(j k:Nat) (i:Nat),sub[j]?=some (some i)->sub[k]?=some (some i)->j=k
def sA(h:(sub.filterMap id).Nodup):jz sub:=by
 induction sub with
 |nil=>intro j k i q;simp at q
 |
  cons o sub ih=>
  have e_:(sub.filterMap id).Nodup:=by
   cases o with
   |none=>simpa using h
   |some i=>rw[HQ] at h;simp at h;exact h.2
  have hno:∀(i k:Nat),o=some i->sub[k]?=some (some i)->False:=λi k z q=>by subst z;rw[HQ] at h;simp at h;exact h.1 (HH q)
  intro j k i q1 q2;cases j with
  |
   zero=>
   cases k with
   |zero=>rfl
   |succ k=>exact (hno i k (by simpa using q1) (by simpa using q2)).elim
  |
   succ j=>
   cases k with
   |zero=>exact (hno i j (by simpa using q2) (by simpa using q1)).elim
   |succ k=>exact HI (· + 1) (ih e_ j k i (by simpa using q1) (by simpa using q2))
def Xin(X:Nat->Prop)(ns:Ns)(sub:Jr)(n:Nat):Prop:=X n\/(some n∈ns/\some n∉aX sub ns)
def iP(q:some n∈aX sub ns):some n∈ns:=by obtain⟨j,q⟩:=aK.mp q;obtain⟨i,_,q2⟩:=bA q;exact aK.mpr ⟨i,q2⟩
def fJ{sub:Jr}{e:E3}{j:Nat}{s:Sl}(q:(bL sub e)[j]?=some s):(sub[j]?=some none/\s=.no)\/(∃i,sub[j]?=some (some i)/\((e[i]?=none/\s=.no)\/∃t,e[i]?=some t/\s=inS t)):=by
 unfold bL at q;rw[Hj] at q;cases z:sub[j]? with
 |none=>rw[z] at q;cases q
 |
  some o=>
  rw[z] at q;cases o with
  |none=>cases q;exact .inl ⟨rfl,rfl⟩
  |
   some i=>
   refine .inr ⟨i,rfl,?_⟩;have q':=Hc q;dsimp only at q';cases y:e[i]? with
   |none=>rw[y] at q';exact .inl ⟨rfl,q'.symm⟩
   |some t=>rw[y] at q';exact .inr ⟨t,rfl,q'.symm⟩
def Sat.inner(S:Sat X h0 ns e ae h)(hs:jz sub):Sat (Xin X ns sub) h0 (aX sub ns) (bL sub e) (gh sub ae) h:=by
 refine⟨by unfold gh bL;rw[v_,v_],by unfold aX bL;rw[v_,v_],S.lh,λn z=>?_,λj k n q1 q2=>?_,λj n q z=>?_,λj s q=>?_⟩
 .rcases z with z |⟨z,_⟩
  .exact S.xl n z
  .obtain⟨i,z⟩:=aK.mp z;obtain⟨_,_,_,_,_,_,_,q',_⟩:=S.own z;exact bB q'
 .obtain⟨i,y1,y2⟩:=bA q1;obtain⟨i',y3,y4⟩:=bA q2
  have:=S.inj i i' n y2 y4
  subst this;exact hs j k i y1 y3
 .rcases z with z |⟨_,z⟩
  .obtain⟨i,y1,y2⟩:=bA q;exact S.nx i n y2 z
  .exact z (aK.mpr ⟨j,q⟩)
 .have mv:Mov (Oc X ns) (Oc (Xin X ns sub) (aX sub ns)) h h:=λn o p q=>⟨⟨λz=>by
   rcases z with z |⟨z,_⟩
   .exact p.1 z
   .exact p.2 z,λz=>p.2 (iP z)⟩,q⟩
  have hj:∀{o},sub[j]?=some o->(aX sub ns)[j]?=some (o.bind λi=>(ns[i]?).bind id)/\(gh sub ae)[j]?=some (o.bind λi=>(ae[i]?).bind id):=λ{o} z=>by unfold aX gh;rw[Hj,Hj,z];exact⟨rfl,rfl⟩
  rcases fJ q with ⟨z,rfl⟩ |⟨i,z,⟨y,rfl⟩ |⟨t,y,rfl⟩⟩
  .rw[(hj z).1];rfl
  .rw[(hj z).1];show some ((ns[i]?).bind id)=some none;have:ns[i]?=none:=by rw[IF] at y ⊢;rw[S.l2];exact y
   rw[this];rfl
  .have k:=(S.sl i t y).mono mv λ_ _ _ q=>q;rw[(hj z).1,(hj z).2];show SlR _ h0 (some ((ns[i]?).bind id)) (some ((ae[i]?).bind id)) h (inS t);have w1:∀x,ns[i]?=some x->some ((ns[i]?).bind id)=some x:=λx q=>by rw[q];rfl
   have w2:∀x,ae[i]?=some x->some ((ae[i]?).bind id)=some x:=λx q=>by rw[q];rfl
   cases t with
   |no=>rw[w1 _ k];rfl
   |sh v=>obtain⟨k1,x,k2,k3⟩:=k;rw[w1 _ k1,w2 _ k2];exact⟨rfl,x,rfl,k3⟩
   |ow v=>obtain⟨m,o,k1,k2,_,k3⟩:=k;rw[w1 _ k1,w2 _ k2];exact⟨m,o,rfl,rfl,k3⟩
   |lo v=>obtain⟨m,o,k1,k2,_,k3⟩:=k;rw[w1 _ k1,w2 _ k2];exact⟨m,o,rfl,rfl,k3⟩
   |mu v=>obtain⟨m,o,k1,k2,k3⟩:=k;rw[w1 _ k1,w2 _ k2];exact⟨m,o,rfl,rfl,k3⟩
   |lm v=>obtain⟨m,o,k1,k2,k3⟩:=k;rw[w1 _ k1,w2 _ k2];exact⟨m,o,rfl,rfl,k3⟩
def oV(hs:jz sub):Lnk sub e (bL sub e):=by
 refine⟨hs,λj v q=>?_,λj s q hm=>?_⟩
 .rcases fJ q with ⟨_,z⟩ |⟨i,z,⟨_,y⟩ |⟨t,y,y2⟩⟩
  .cases z
  .cases y
  .refine⟨i,t,z,y,?_⟩;cases t <;> first |rfl |cases y2
 .rcases fJ q with ⟨_,z⟩ |⟨i,z,⟨_,y⟩ |⟨t,y,y2⟩⟩
  .subst z;cases hm
  .subst y;cases hm
  .subst y2;cases t with
   |ow v=>exact⟨v,rfl⟩
   |mu v=>exact⟨v,rfl⟩
   |_=>cases hm
section
variable{I:MI}{I3:MI3}{g:MG}{g3:MG3}{c:MT}{c3:MT3}{F:ME}{F3:ME3}
def BG(S:Sat X h0 ns e ae h)(hg:RG g g3)(hc:RT c c3)(hF:RE F F3)(hG:∀ns' e' h',Stp ns e h ns' e' h'->G h'):
 ∀
  {ds:List D}{vs:List Val},Rds (Oc X ns) h ds vs->∀{acc:List D}{accv:List Val}{ns1:Ns}{e1:E3}{i_:AE}{h1:AH},Stp ns e h ns1 e1 h1->Sat X h0 ns1 e1 i_ h1->Rds (Oc X ns1) h1 acc accv->lcV g3 c3 F3 vs accv e1=.ok ys e2->
  ∃dy h2 h_ ae2,lcL G g c F ds acc i_ h1=.ok dy h2/\Stp ns e h h_ e2 h2/\Sat X h0 h_ e2 ae2 h2/\Rds (Oc X h_) h2 dy ys:=by
 intro ds;induction ds with
 |nil=>intro vs r acc accv ns1 e1 i_ h1 a1 S1 ra q;cases r;unfold lcL;rw[if_pos (hG _ _ _ a1)];cases q;exact⟨acc,h1,ns1,i_,rfl,a1,S1,ra⟩
 |
  cons d0 ds ih=>
  intro vs r acc accv ns1 e1 i_ h1 a1 S1 ra q;cases r with
  |
   cons r rr=>
   rename_i v vs;unfold lcV at q;unfold lcL;by_cases hl:accv.length<16777216
   .rw[if_pos hl] at q;rw[if_pos ⟨hG _ _ _ a1,by rw[ra.len];exact hl⟩];cases q1:g3 v e1 with
    |none=>rw[q1] at q;cases q
    |
     some e3=>
     rw[q1] at q;dsimp only at q;obtain⟨ae3,ns3,p3,S3,a3⟩:=hg _ _ _ _ _ _ _ _ _ S1 (r.mono (a1.mov S)) q1;rw[p3,dO];have a13:=a1.trans S a3;have pc:=hc X h0 ns3 e3 ae3 h1 S3;cases q4:c3 e3 with
     |stuck=>rw[q4] at q;cases q
     |exc _ _=>rw[q4] at q;cases q
     |
      ok b e4=>
      rw[q4] at q pc;obtain⟨b',h4,ns4,p4,a4,S4,rfl⟩:=pc;rw[p4,dO];have a14:=a13.trans S a4;have ra4:=(ra.mono (a3.mov S1)).mono (a4.mov S3);have q':(if b'=true then (F3 e4).bind λt e3=>(match bC e3 t with
       |some (e4,y)=>lcV g3 c3 F3 _ (accv++[y]) e4
       |none=>.stuck) else lcV g3 c3 F3 _ accv e4)=.ok ys e2:=q
      by_cases hb:b'=true
      .rw[if_pos hb] at q' ⊢;have pF:=hF X h0 0 ns4 e4 ae3 h4 S4 (Ho _);cases q5:F3 e4 with
       |stuck=>rw[q5] at q';cases q'
       |exc _ _=>rw[q5] at q';cases q'
       |
        ok t e5=>
        rw[q5] at q' pF;obtain⟨d5,h5,ns5,p5,a5,S5,r5⟩:=pF;rw[p5,dO];have q'':(match bC e5 t with
         |some (e4,y)=>lcV g3 c3 F3 _ (accv++[y]) e4
         |none=>.stuck)=.ok ys e2:=q'
        cases q6:bC e5 t with
        |none=>rw[q6] at q'';cases q''
        |some w=>obtain⟨e6,y⟩:=w;rw[q6] at q'';obtain⟨ns6,S6,a6,r6⟩:=df S5 r5 q6;exact ih rr ((a14.trans S a5).trans S a6) S6 (((ra4.mono (a5.mov S4)).mono (a6.mov S5)).append (.cons r6 .nil)) q''
      .rw[if_neg hb] at q' ⊢;exact ih rr a14 S4 ra4 q'
   .rw[if_neg hl] at q;cases q
def F4(hs:(sub.filterMap id).Nodup)(hI:RI I I3)(hg:RG g g3)(hc:RT c c3)(hF:RE F F3):RE (eLC I sub g c F) (vLC I3 sub g3 c3 F3):=λX h0 L ns e ae h S hl=>
 Po.bind
  S (hI X h0 ns e ae h S) λit p h1 ns1 e1 a1 S1 r1=>by
  try dsimp only
  obtain⟨r2,gd,hk⟩:=r1;have hs':=sA hs;have S2:=S1.lockO p.2;have S3:=S2.inner hs';cases q:lcV g3 c3 F3 p.1 [] (bL sub (lockO e1 p.2)) with
  |stuck=>trivial
  |exc _ _=>trivial
  |
   ok ys e2=>
   dsimp only;split
   .rename_i hy;have gd':∀ns' e' h',Stp (aX sub ns1) (bL sub (lockO e1 p.2)) h1 ns' e' h'->it.guard h':=λns' e' h' a=>gd h' λm o qm hm=>a.keep m o qm λ⟨j,s,z1,z2,z3⟩=>by
     obtain⟨i,y1,y2⟩:=bA z1;rcases hm with hm |⟨k,hk1,hk2⟩
     .exact hm.2 (aK.mpr ⟨i,y2⟩)
     .have:i=k:=S1.inj i k m y2 hk2;subst this;obtain⟨s',w1,w2⟩:=hk i hk1;rcases fJ z2 with ⟨z,_⟩ |⟨i',z,y⟩
      .rw[y1] at z;cases z
      .rw[y1] at z;cases z;have hl:(lockO e1 p.2)[i]?=some (fY s'):=by rw[hk1];exact j7 w1
       rcases y with ⟨y,_⟩ |⟨t,y,rfl⟩
       .rw[hl] at y;cases y
       .rw[hl] at y;cases y;cases s' <;> first |cases w2;done |cases z3;done
    have mvi:Mov (Oc X ns1) (Oc (Xin X ns1 sub) (aX sub ns1)) h1 h1:=λn o p q=>⟨⟨λz=>by
     rcases z with z |⟨z,_⟩
     .exact p.1 z
     .exact p.2 z,λz=>p.2 (iP z)⟩,q⟩
    obtain⟨dy,h2,h_,ae2,p2,a2,S4,r4⟩:=BG (G:=it.guard) S3 hg hc hF gd' (r2.mono mvi) .refl S3 .nil q;have k3:∀n,Oc (Xin X ns1 sub) h_ n->Oc X ns1 n:=λn z=>⟨λy=>z.1 (.inl y),λy=>by
     by_cases w:some n∈aX sub ns1
     .obtain⟨j,w⟩:=aK.mp w;obtain⟨s,v,o,b1,b2,_⟩:=S3.own w;rcases b2 with b2 |b2
      .obtain⟨v',rfl⟩:=(oV (e:=lockO e1 p.2) hs').mt j s b1 b2;obtain⟨u,c1,c2⟩:=a2.mu' j v' b1;exact z.2 (aK.mpr ⟨j,by rw[c2];exact w⟩)
      .obtain⟨c1,c2⟩:=a2.lk j s b1 b2;exact z.2 (aK.mpr ⟨j,by rw[c2];exact w⟩)
     .exact z.1 (.inr ⟨y,w⟩)⟩
    have bk:=S2.back (Y:=X) (oV hs') a2 (λn z=>⟨E_ (S2.xl n z) a2.len,.inl z⟩) (λ_ z=>z) λj v n q1 q2=>by obtain⟨s,u,o,b1,b2,b3,b4,b5,b6,b7⟩:=S4.own q2;rw[q1] at b1;cases b1;cases b3;exact⟨o,b5,b6,b7.mono λm o' z y=>⟨k3 m z,y⟩⟩
    obtain⟨S5,a5⟩:=bk;have r5:Rds (Oc X ns1) h2 dy ys:=r4.mono λm o' z y=>⟨k3 m z,y⟩;have g_:∀(e':E3),Sat X h0 ns1 e' ae h2->Stp ns1 e1 h1 ns1 e' h2->Po X h0 ns1 e1 ae h1 (relE X h0 L ae) ((noX (lcL it.guard g c F it.items [] (gh sub ae) h1)).bind cm) (.ok (.new (.lst ys)) e'):=λe' S6 a6=>by rw[p2];have pp:=BvR.po (L:=L) (r:=cm dy h2) (b:=.new (.lst ys)) S6 (G6 hl (G6 a1.len a6.len)) ⟨.lst dy,by unfold cm;rw[if_pos (by rw[r5.len];exact hy)],trivial,.lst r5⟩;obtain⟨d,h',ns',y,y1,y2,y3⟩:=pp;exact⟨d,h',ns',y,a6.trans S1 y1,y2,y3⟩
    cases hp:p.2 with
    |none=>rw[hp] at S5 a5;exact g_ _ S5 a5
    |some k=>rw[hp] at S5 a5;obtain⟨s,w1,w2⟩:=hk k hp;exact g_ _ (S5.unlock k) (a5.unlock w1 w2)
   .trivial
end
inductive R3F where
 |ok (r:Rt) (mv:List Val) |exc (c:Str) (mv:List Val) |stuck
abbrev Fn3:=List Val->R3F
noncomputable def sl1(b:Bool)(v:Val):Sl:=if b=true then .mu v else .sh v
noncomputable def sls(ms:List Bool)(vs:List Val):E3:=List.zipWith sl1 ms vs
noncomputable def aA:List Bool->List Val->E3
 |true::ms,v::vs=>.mu v::aA ms vs
 |true::ms,[]=>.no::aA ms []
 |false::ms,vs=>.no::aA ms vs
 | [],_=>[]
noncomputable def muV:List Bool->E3->Option (List Val)
 |true::ms,.mu v::e=>(muV ms e).map (v :: ·)
 |true::_,_=>none
 |false::ms,_::e=>muV ms e
 |false::_,[]=>none
 | [],_=>some []
def RFp(X:Nat->Prop)(ps:Ns)(ms:List Bool)(vs:List Val)(ds:List D)(h:AH)(r2:R D):R3F->Prop
 |.stuck=>True
 |.ok r mv=>∃d h',r2=.ok d h'/\Stp ps (sls ms vs) h ps (aA ms mv) h'/\RtR X h.length ps (aA ms mv) (ds.map some) h' d r
 |.exc c mv=>∃h',r2=.exc c h'/\Stp ps (sls ms vs) h ps (aA ms mv) h'/\Sat X h.length ps (aA ms mv) (ds.map some) h'
def RF(ms:List Bool)(G2:Fn)(G3:Fn3):Prop:=∀X ps ds vs h,vs.length=ms.length->Sat X h.length ps (sls ms vs) (ds.map some) h->RFp X ps ms vs ds h (G2 ds h) (G3 vs)
noncomputable def fnV(ms:List Bool)(N:Nat)(F:MS3):Fn3:=λvs=>if vs.length=ms.length then (match F (sls ms vs++List.replicate (N-vs.length) .no) with
 |.nx e=>(match muV ms e with |some mv=>.ok (.val .non) mv |none=>.stuck)
 |.rt r e=>(match muV ms e with |some mv=>.ok r mv |none=>.stuck)
 |.exc c e=>(match muV ms e with |some mv=>.exc c mv |none=>.stuck)
 |_=>.stuck) else .stuck
def cS{ms:List Bool}{vs:List Val}{i:Nat}{s:Sl}(q:(sls ms vs)[i]?=some s):∃b v,ms[i]?=some b/\vs[i]?=some v/\s=sl1 b v:=by
 unfold sls at q;rw[HU] at q;cases h1:ms[i]? with
 |none=>rw[h1] at q;cases q
 |
  some b=>
  cases h2:vs[i]? with
  |none=>rw[h1,h2] at q;cases q
  |some v=>rw[h1,h2] at q;cases q;exact⟨b,v,rfl,rfl,rfl⟩
theorem d6:∀{ms:List Bool}{e:E3}{mv:List Val}{i:Nat}{s:Sl},muV ms e=some mv->(aA ms mv)[i]?=some s->(ms[i]?=some false/\s=.no)\/(ms[i]?=some true/\∃v,e[i]?=some (.mu v)/\s=.mu v)
 | [],_,_,_,_,_,q=>by unfold aA at q;simp at q
 |
  true::ms,.mu v::e,mv,i,s,q,q2=>by
  obtain⟨mv',z1,z2⟩:=G9.mp (show (muV ms e).map (v :: ·)=some mv from q);subst z2;cases i with
  |zero=>
   right;have:Sl.mu v=s:=by simpa [aA] using q2
   subst this;exact⟨rfl,v,rfl,rfl⟩
  |
   succ i=>
   have:=d6 (i:=i) (s:=s) z1 (by simpa [aA] using q2)
   simpa using this
 |true::ms,[],mv,i,s,q,q2=>by cases q
 |true::ms,.no::e,mv,i,s,q,q2=>by cases q
 |true::ms,.sh v::e,mv,i,s,q,q2=>by cases q
 |true::ms,.ow v::e,mv,i,s,q,q2=>by cases q
 |true::ms,.lo v::e,mv,i,s,q,q2=>by cases q
 |true::ms,.lm v::e,mv,i,s,q,q2=>by cases q
 |false::ms,[],mv,i,s,q,q2=>by cases q
 |
  false::ms,t::e,mv,i,s,q,q2=>by
  cases i with
  |zero=>
   left;have:Sl.no=s:=by simpa [aA] using q2
   exact⟨rfl,this.symm⟩
  |
   succ i=>
   have:=d6 (i:=i) (s:=s) (show muV ms e=some mv from q) (by simpa [aA] using q2)
   simpa using this
theorem j9:∀{ms:List Bool}{e:E3}{mv:List Val}{i:Nat},muV ms e=some mv->ms[i]?=some true->∃v,e[i]?=some (.mu v)/\(aA ms mv)[i]?=some (.mu v)
 | [],_,_,i,_,q=>by simp at q
 |
  true::ms,.mu v::e,mv,i,q,q2=>by
  obtain⟨mv',z1,z2⟩:=G9.mp (show (muV ms e).map (v :: ·)=some mv from q);subst z2;cases i with
  |zero=>exact⟨v,rfl,rfl⟩
  |succ i=>obtain⟨u,y1,y2⟩:=j9 (i:=i) z1 (by simpa using q2);exact⟨u,by simpa using y1,by simpa [aA] using y2⟩
 |true::ms,[],mv,i,q,q2=>by cases q
 |true::ms,.no::e,mv,i,q,q2=>by cases q
 |true::ms,.sh v::e,mv,i,q,q2=>by cases q
 |true::ms,.ow v::e,mv,i,q,q2=>by cases q
 |true::ms,.lo v::e,mv,i,q,q2=>by cases q
 |true::ms,.lm v::e,mv,i,q,q2=>by cases q
 |false::ms,[],mv,i,q,q2=>by cases q
 |
  false::ms,t::e,mv,i,q,q2=>by
  cases i with
  |zero=>simp at q2
  |succ i=>obtain⟨u,y1,y2⟩:=j9 (i:=i) (show muV ms e=some mv from q) (by simpa using q2);exact⟨u,by simpa using y1,by simpa [aA] using y2⟩
theorem eB:∀{ms:List Bool}{mv:List Val},(aA ms mv).length=ms.length
 | [],_=>rfl
 |true::ms,v::mv=>by show (aA ms mv).length+1=ms.length+1;rw[eB]
 |true::ms,[]=>by show (aA ms []).length+1=ms.length+1;rw[eB]
 |false::ms,mv=>by show (aA ms mv).length+1=ms.length+1;rw[eB]
def FZ(hF:RS F F3):RF ms (fnD N F) (fnV ms N F3):=λX ps ds vs h hl S=>by
 unfold fnV;rw[if_pos hl];have lS:(sls ms vs).length=vs.length:=by unfold sls;rw[Ib];omega
 have lD:ds.length=vs.length:=by have:=S.l1;rw[v_,lS] at this;exact this
 have lP:ps.length=vs.length:=S.l2.trans lS;have ltS:∀{i:Nat},i<ms.length->i<(sls ms vs).length:=λh=>by omega
 have ltP:∀{i:Nat},i<(sls ms vs).length->i<ps.length:=λh=>S.l2.symm ▸ h;have S1
  : Sat X h.length (ps++List.replicate (N-vs.length) none) (sls ms vs++List.replicate (N-vs.length) .no) (ds.map some++List.replicate (N-vs.length) none) h:=by
  have mns:∀n,some n∈ps++List.replicate (N-vs.length) (none:Option Nat) ↔ some n∈ps:=λn=>by
   rw[IG];constructor
   .rintro (z |z)
    .exact z
    .have:=List.eq_of_mem_replicate z;cases this
   .exact .inl
  have gns:∀{i n:Nat},(ps++List.replicate (N-vs.length) (none:Option Nat))[i]?=some (some n)->ps[i]?=some (some n):=λ{i n} q=>by
   rw[Jc] at q;split at q
   .exact q
   .rw[HC] at q;split at q <;> cases q
  refine⟨?_,?_,S.lh,S.xl,λi j n q1 q2=>S.inj i j n (gns q1) (gns q2),λi n q=>S.nx i n (gns q),λi s q=>?_⟩
  .rw[G8,G8,HF,HF,S.l1]
  .rw[G8,G8,HF,HF,S.l2]
  .rw[Jc] at q;split at q
   .rename_i hi;have k:=S.sl i s q;rw[G_ (ltP hi),G_ (by rw[S.l1];exact hi)];exact k.mono (λn o p q=>⟨⟨p.1,λz=>p.2 ((mns n).mp z)⟩,q⟩) λ_ _ _ q=>q
   .rename_i hi;rw[HC] at q;split at q
    .cases q;rw[Hg (by rw[S.l2];exact Nat.le_of_not_lt hi),HC,if_pos (by rw[S.l2];assumption)];rfl
    .cases q
 have p:=hF _ _ _ _ _ _ S1;have e2:fnD N F ds h=match F (ds.map some++List.replicate (N-vs.length) none) h with
  |.nx _ h'=>.ok .non h'
  |.rt d h'=>.ok d h'
  |.exc c _ h'=>.exc c h'
  |_=>.stuck:=by rw[<- lD];rfl
 rw[e2];have g_:∀(Y:Nat->Prop) (ns':Ns) (e':E3) (d_:AE) (h':AH) (mv:List Val),(∀n,X n->Y n)->Stp (ps++List.replicate (N-vs.length) none) (sls ms vs++List.replicate (N-vs.length) .no) h ns' e' h'->Sat Y h.length ns' e' d_ h'->muV ms e'=some mv->
  Stp ps (sls ms vs) h ps (aA ms mv) h'/\Sat Y h.length ps (aA ms mv) (ds.map some) h'/\∀n,Oc Y ns' n->Oc Y ps n:=by
  intro Y ns' e' d_ h' mv hXY a S2 qm;have kmu:∀{i:Nat},ms[i]?=some true->∃v u n o,e'[i]?=some (.mu v)/\(aA ms mv)[i]?=some (.mu v)/\(sls ms vs)[i]?=some (.mu u)/\ns'[i]?=ps[i]?/\ps[i]?=some (some n)/\(ds.map some)[i]?=some (some (.ref n))/\h'[n]?=some o/\bg o/\Rc (Oc Y ns') h' o v:=by intro i hi;obtain⟨v,y1,y2⟩:=j9 qm hi;have hil:i<ms.length:=(u_.mp hi).1;obtain⟨u,y3,y4⟩:=a.mu i v y1;rw[G_ (ltS hil)] at y3;rw[G_ (ltP (ltS hil))] at y4;obtain⟨n,o,z1,z2,_⟩:=S.sl i _ y3;obtain⟨n',o',w1,w2,w3,w4,w5⟩:=S2.sl i _ y1;rw[y4,z1] at w1;cases w1;exact⟨v,u,n,o',y1,y2,y3,y4,z1,z2,w3,w4,w5⟩
  have kown:∀{i n:Nat},ps[i]?=some (some n)->ms[i]?=some true:=λ{i n} q=>by
   obtain⟨s,v,o,z1,z2,_⟩:=S.own q;obtain⟨b,u,y1,_,y2⟩:=cS z1;cases b with
   |true=>exact y1
   |false=>subst y2;rcases z2 with z2 |z2 <;> cases z2
  have koc:∀n,Oc Y ns' n->Oc Y ps n:=λn z=>⟨z.1,λy=>by obtain⟨i,y⟩:=aK.mp y;obtain⟨v,u,n',o,_,_,_,k1,k2,_⟩:=kmu (kown y);exact z.2 (aK.mpr ⟨i,by rw[k1];exact y⟩)⟩;refine⟨⟨a.len,λm o q hm=>a.keep m o q λ⟨i,s,z1,z2,z3⟩=>hm ?_,λ_ _ q=>.inl q,λi s q hl'=>?_,λi s q hl'=>?_,λi v q=>?_,λi v q=>?_⟩,⟨?_,?_,G6 (y_ _) a.len,S2.xl,S.inj,λi n q z=>?_,λi s q=>?_⟩,koc⟩
  .rw[Jc] at z1;split at z1
   .rename_i hi;rw[G_ (by rw[<- S.l2];exact hi)] at z2;exact⟨i,s,z1,z2,z3⟩
   .rw[HC] at z1;split at z1 <;> cases z1
  .obtain⟨b,u,_,_,y⟩:=cS q;subst y;cases b <;> cases hl'
  .rcases d6 qm q with ⟨_,z⟩ |⟨_,v,_,z⟩ <;> subst z <;> cases hl'
  .rcases d6 qm q with ⟨_,z⟩ |⟨z,_⟩
   .cases z
   .obtain⟨v',u,n,o,_,_,k1,_⟩:=kmu z;exact⟨u,k1,rfl⟩
  .obtain⟨b,u,y1,_,y2⟩:=cS q;cases b with
   |false=>cases y2
   |true=>obtain⟨v',u,n,o,_,k0,k1,_⟩:=kmu y1;exact⟨v',k0,rfl⟩
  .rw[v_,eB];omega
  .rw[eB];omega
  .obtain⟨v,u,n',o,_,_,_,k1,k2,_⟩:=kmu (kown q);exact S2.nx i n (by rw[k1];exact q) z
  .rcases d6 qm q with ⟨z,rfl⟩ |⟨z,v,z2,rfl⟩
   .have hil:i<ms.length:=(u_.mp z).1;have hi:i<(sls ms vs).length:=ltS hil;obtain⟨b,u,y1,_,y2⟩:=cS (A_ hi);rw[z] at y1;cases y1;have k:=S.sl i _ (A_ hi);rw[y2] at k;exact k.1
   .obtain⟨v',u,n,o,k0,_,_,k1,k2,k3,k4,k5,k6⟩:=kmu z;rw[z2] at k0;cases k0;exact⟨n,o,k2,k3,k4,k5,k6.mono λm o' y q=>⟨koc m y,q⟩⟩
 generalize F3 (sls ms vs++List.replicate (N-vs.length) .no)=r3 at *;cases r3 with
 |stuck=>trivial
 |bk _=>trivial
 |ct _=>trivial
 |
  nx e'=>
  obtain⟨d_,h',ns',q,a,S2⟩:=p;rw[q];dsimp only;cases qm:muV ms e' with
  |none=>trivial
  |some mv=>obtain⟨a3,S3,koc⟩:=g_ X ns' e' d_ h' mv (λ_ z=>z) a S2 qm;exact⟨.non,h',rfl,a3,S3,.non⟩
 |
  exc c e'=>
  obtain⟨d_,h',ns',q,a,S2⟩:=p;rw[q];dsimp only;cases qm:muV ms e' with
  |none=>trivial
  |some mv=>obtain⟨a3,S3,koc⟩:=g_ X ns' e' d_ h' mv (λ_ z=>z) a S2 qm;exact⟨h',rfl,a3,S3⟩
 |
  rt r e'=>
  obtain⟨d,d_,h',ns',q,a,rr⟩:=p;rw[q];dsimp only;cases qm:muV ms e' with
  |none=>trivial
  |
   some mv=>
   cases r with
   |val v=>obtain⟨a3,S3,koc⟩:=g_ X ns' e' d_ h' mv (λ_ z=>z) a rr.1 qm;exact⟨d,h',rfl,a3,S3,rr.2.mono λm o y q=>⟨koc m y,q⟩⟩
   |new v=>obtain⟨n,o,z1,z2,z3,z4,z5,z6,z7⟩:=rr;obtain⟨a3,S3,koc⟩:=g_ (Xn X n) ns' e' d_ h' mv (λ_ z=>.inl z) a z6 qm;exact⟨d,h',rfl,a3,n,o,z1,z2,z3,z4,z5,S3,z7.mono λm o y q=>⟨koc m y,q⟩⟩
   |pr v u=>obtain⟨d1,n,o,z1,z2,z3,z4,z5,z6,z7,z8⟩:=rr;obtain⟨a3,S3,koc⟩:=g_ (Xn X n) ns' e' d_ h' mv (λ_ z=>.inl z) a z6 qm;exact⟨d,h',rfl,a3,d1,n,o,z1,z2,z3,z4,z5,S3,z7.mono λm o y q=>⟨koc m y,q⟩,z8.mono λm o y q=>⟨koc m y,q⟩⟩
   |
    par i=>
    obtain⟨R1,R2,v,R3⟩:=rr;obtain⟨a3,S3,koc⟩:=g_ X ns' e' d_ h' mv (λ_ z=>z) a R1 qm;obtain⟨u,k1,k2⟩:=a.mu i v R3;have hi:i<(sls ms vs).length:=by apply Decidable.byContradiction;intro hi;rw[Hg (Nat.le_of_not_lt hi),HC] at k1;split at k1 <;> cases k1
    rw[G_ hi] at k1;rw[G_ (by rw[S.l2];exact hi)] at k2;obtain⟨m,o,w1,w2,_⟩:=S.sl i _ k1;obtain⟨m',o',x1,x2,_⟩:=R1.sl i _ R3;rw[k2,w1] at x1;cases x1;rw[R2] at x2;cases x2;obtain⟨v',y,_⟩:=a3.mu' i u k1;exact⟨_,h',rfl,a3,S3,w2,v',y⟩
noncomputable def eZ(i:Nat):List Tm->Bool
 |.bor j::ts=>(i==j) || eZ i ts
 |_::ts=>eZ i ts
 | []=>false
noncomputable def gA(i:Nat):List Bool->List Tm->Bool
 |true::ms,.bor j::ts=>(i==j) || gA i ms ts
 |_::ms,_::ts=>gA i ms ts
 |_,_=>false
noncomputable def okA(e:E3):List Bool->List Tm->Bool
 |true::ms,.bor i::ts=>((e[i]?).bind Sl.mv).isSome && !(eZ i ts)&&okA e ms ts
 |true::_,_::_=>false
 |false::ms,.bor i::ts=>!(gA i ms ts)&&okA e ms ts
 |false::ms,_::ts=>okA e ms ts
 | [],[]=>true
 |_,_=>false
noncomputable def ka(b:Bool)(t:Tm):Option Nat:=match b,t with
 |true,.bor i=>some i
 |_,_=>none
noncomputable def aS(ms:List Bool)(ts:List Tm):List (Option Nat):=List.zipWith ka ms ts
noncomputable def aE(e:E3):List Bool->List Tm->List Nat
 |false::ms,.bor i::ts=>(match e[i]? with
  |some (.sh _)=>aE e ms ts
  |_=>i::aE e ms ts)
 |_::ms,_::ts=>aE e ms ts
 |_,_=>[]
mutual
def flatV:Val->Bool
 |.tup xs=>bG xs
 |.lst _=>false
 |.kl _=>false
 |.dct _=>false
 |.set _=>false
 |_=>true
def bG:List Val->Bool
 | []=>true
 |v::vs=>flatV v&&bG vs
end
noncomputable def jS:List (Key×Val)->Bool
 | []=>true
 |(_,v)::vs=>flatV v&&jS vs
noncomputable def flatC:Val->Bool
 |.lst xs=>bG xs
 |.dct xs=>jS xs
 |.set _=>true
 |_=>false
def ib:Rt->Bool
 |.val v=>flatV v
 |.new v=>flatC v
 |.par _=>true
 |.pr v u=>flatV v&&flatC u
noncomputable def kA(e:E3):List Nat->Option E3
 | []=>some e
 |i::is=>match bC e (.bor i) with
  |some (e1,_)=>kA e1 is
  |none=>none
def Rt.tm(ts:List Tm):Rt->Tm
 |.val v=>.val v
 |.new v=>.new v
 |.par i=>(ts[i]?).getD (.val .non)
 |.pr v u=>.val (.tup [v,u])
noncomputable def xI(ms:List Bool)(G:Fn3)(A:MA3):ME3:=λe=>(A e).bind λts e1=>match rss e1 ts with
 |none=>.stuck
 |some vs=>if okA e1 ms ts=true then (match G vs with
  |.stuck=>.stuck
  |.ok r mv=>if (aE e1 ms ts).isEmpty || (ib r&&mv.all flatC) then .ok (r.tm ts) (aN (aS ms ts) (aA ms mv) e1) else (match kA e1 (aE e1 ms ts) with
   |some e2=>.ok (r.tm ts) (aN (aS ms ts) (aA ms mv) e2)
   |none=>.stuck)
  |.exc c mv=>if (aE e1 ms ts).isEmpty || mv.all flatC then .exc c (aN (aS ms ts) (aA ms mv) e1) else .stuck) else .stuck
section
variable{P P':Nat->Prop}{h h':AH}
def Rd.flat(f:flatV v=true)(r:Rd P h d v):Rd P' h' d v:=
 @Rd.rec P h (λd v _=>flatV v=true->Rd P' h' d v) (λo v _=>flatV v=true->Rd P' h' .non v) (λds vs _=>bG vs=true->Rds P' h' ds vs) (λws us _=>True) (λ_=>.non) (λb _=>.bl b) (λi _=>.int i) (λx _=>.str x) (λn _=>.ty n) (λx _=>.glb x) (λx _=>.exc x) (λ_ ih f=>.tup (ih f)) (λ_ _ f=>absurd f z_) (λ_ _ r _ f=>by cases r <;> exact absurd f z_) (λ_ _ f=>absurd f z_) (λ_ _ f=>absurd f z_) (λ_ _ f=>absurd f z_) (λ_ f=>absurd f z_) (λ_=>.nil) (λ_ _ a b f=>.cons (a (x_ .. ▸ f).1) (b (x_ .. ▸ f).2)) trivial (λ_ _ _ _=>trivial) d v r f
def Rds.flat(f:bG v=true)(r:Rds P h d v):Rds P' h' d v:=
 r.ind (M:=λds vs=>bG vs=true->Rds P' h' ds vs) (λ_=>.nil) (λr _ ih f=>by rw[bG,x_] at f;exact .cons (Rd.flat f.1 r) (ih f.2)) f
def Rk.flat(f:jS v=true)(r:Rk P h d v):Rk P' h' d v:=
 r.ind (M:=λds vs=>jS vs=true->Rk P' h' ds vs) (λ_=>.nil) (λr _ ih f=>by rw[jS,x_] at f;exact .cons (Rd.flat f.1 r) (ih f.2)) f
def Rc.flat(f:flatC v=true)(r:Rc P h o v):Rc P' h' o v:=by
 cases r with
 |lst r=>exact .lst (Rds.flat (by simpa [flatC] using f) r)
 |fz r=>simp [flatC] at f
 |dct r=>exact .dct (Rk.flat (by simpa [flatC] using f) r)
 |set xs=>exact .set xs
end
theorem kg:∀{ts:List Tm}{k:Nat},ts[k]?=some (.bor i)->eZ i ts=true
 | [],_,q=>by simp at q
 |
  t::ts,0,q=>by
  have:t=.bor i:=by simpa using q
  subst this;simp [eZ]
 |
  t::ts,k+1,q=>by
  have:=kg (ts:=ts) (k:=k) (by simpa using q)
  cases t <;> simp [eZ,this]
theorem pB:∀{ms:List Bool}{ts:List Tm}{k:Nat},ms[k]?=some true->ts[k]?=some (.bor i)->gA i ms ts=true
 | [],_,_,q,_=>by simp at q
 |_::_,[],_,_,q=>by simp at q
 |
  b::ms,t::ts,0,q1,q=>by
  have:t=.bor i:=by simpa using q
  have:b=true:=by simpa using q1
  subst_vars;simp [gA]
 |
  b::ms,t::ts,k+1,q1,q=>by
  have:=pB (ms:=ms) (ts:=ts) (k:=k) (by simpa using q1) (by simpa using q)
  cases b <;> cases t <;> simp [gA,this]
theorem ip:∀{ms:List Bool}{ts:List Tm}{k:Nat},okA e ms ts=true->ms[k]?=some true->∃i,ts[k]?=some (.bor i)/\∃u,(e[i]?).bind Sl.mv=some u
 | [],_,_,_,q=>by simp at q
 |b::ms,[],_,o,_=>by cases b <;> simp [okA] at o
 |
  b::ms,t::ts,0,o,q=>by
  have:b=true:=by simpa using q
  subst this;cases t with
  |bor i=>simp only[okA,x_] at o;exact⟨i,rfl,HG.mp o.1.1⟩
  |_=>simp [okA] at o
 |
  b::ms,t::ts,k+1,o,q=>by
  have o':okA e ms ts=true:=by cases b <;> cases t <;> simp only[okA,x_] at o <;> first |exact o.2 |exact o |(simp at o;done)
  obtain⟨i,y⟩:=ip (k:=k) o' (by simpa using q);exact⟨i,by simpa using y⟩
theorem fc:∀{ms:List Bool}{ts:List Tm}{k j i:Nat},okA e ms ts=true->ms[k]?=some true->ts[k]?=some (.bor i)->ts[j]?=some (.bor i)->j=k
 | [],_,_,_,_,_,q,_,_=>by simp at q
 |b::ms,[],_,_,_,o,_,_,_=>by cases b <;> simp [okA] at o
 |b::ms,t::ts,0,0,i,o,q1,q2,q3=>rfl
 |
  b::ms,t::ts,0,j+1,i,o,q1,q2,q3=>by
  have h1:b=true:=by simpa using q1
  have h2:t=.bor i:=by simpa using q2
  subst h1 h2;simp only[okA,x_] at o
  have:=kg (i:=i) (ts:=ts) (k:=j) (by simpa using q3)
  rw[this] at o;simp at o
 |
  b::ms,t::ts,k+1,0,i,o,q1,q2,q3=>by
  have h2:t=.bor i:=by simpa using q3
  subst h2;have hm:=pB (i:=i) (ms:=ms) (ts:=ts) (k:=k) (by simpa using q1) (by simpa using q2);have hb:=kg (i:=i) (ts:=ts) (k:=k) (by simpa using q2);cases b <;> simp [okA,hm,hb] at o
 |
  b::ms,t::ts,k+1,j+1,i,o,q1,q2,q3=>by
  have o':okA e ms ts=true:=by cases b <;> cases t <;> simp only[okA,x_] at o <;> first |exact o.2 |exact o |(simp at o;done)
  exact HI (· + 1) (fc (k:=k) (j:=j) (i:=i) o' (by simpa using q1) (by simpa using q2) (by simpa using q3))
theorem ft:∀{ms:List Bool}{ts:List Tm},okA e ms ts=true->ms.length=ts.length
 | [],[],_=>rfl
 | [],_::_,o=>by simp [okA] at o
 |b::ms,[],o=>by cases b <;> simp [okA] at o
 |
  b::ms,t::ts,o=>by
  have o':okA e ms ts=true:=by cases b <;> cases t <;> simp only[okA,x_] at o <;> first |exact o.2 |exact o |(simp at o;done)
  exact HI (· + 1) (ft o')
theorem iM:∀{ms:List Bool}{ts:List Tm}{k i:Nat},ms[k]?=some false->ts[k]?=some (.bor i)->(∀v,e[i]?≠some (.sh v))->i∈aE e ms ts
 | [],_,_,_,q,_,_=>by simp at q
 |_::_,[],_,_,_,q,_=>by simp at q
 |
  b::ms,t::ts,0,i,q1,q2,hn=>by
  have h1:b=false:=by simpa using q1
  have h2:t=.bor i:=by simpa using q2
  subst h1 h2;unfold aE;split
  .rename_i v q;exact absurd q (hn v)
  .exact G5 ..
 |
  b::ms,t::ts,k+1,i,q1,q2,hn=>by
  have ih:=iM (ms:=ms) (ts:=ts) (k:=k) (by simpa using q1) (by simpa using q2) hn;cases b <;> cases t <;> simp only[aE] <;> first |exact ih |(split;exact ih;exact F_ _ ih)
def cQ{ms:List Bool}{ts:List Tm}{k i:Nat}(q:(aS ms ts)[k]?=some (some i)):ms[k]?=some true/\ts[k]?=some (.bor i):=by
 unfold aS at q;rw[HU] at q;cases h1:ms[k]? with
 |none=>rw[h1] at q;cases q
 |
  some b=>
  cases h2:ts[k]? with
  |none=>rw[h1,h2] at q;cases q
  |some t=>rw[h1,h2] at q;have q':ka b t=some i:=Hc q;cases b <;> cases t <;> first |(cases q';done) |(cases q';exact⟨rfl,rfl⟩)
def Ab{ms:List Bool}{ts:List Tm}{k i:Nat}(q1:ms[k]?=some true)(q2:ts[k]?=some (.bor i)):(aS ms ts)[k]?=some (some i):=by unfold aS;rw[HU,q1,q2];rfl
theorem pA:∀{ts:List Tm}{vs:List Val}{k:Nat}{v:Val},rss e ts=some vs->vs[k]?=some v->∃t,ts[k]?=some t/\rs e t=some v
 | [],_,_,_,q,q2=>by cases q;simp at q2
 |
  t::ts,vs,k,v,q,q2=>by
  unfold rss at q;split at q
  .rename_i u us e1 e2;cases q;cases k with
   |zero=>
    have:u=v:=by simpa using q2
    subst this;exact⟨t,rfl,e1⟩
   |succ k=>obtain⟨t',y1,y2⟩:=pA (k:=k) e2 (by simpa using q2);exact⟨t',by simpa using y1,y2⟩
  .cases q
theorem ia:∀{ts:List Tm}{vs:List Val},rss e ts=some vs->vs.length=ts.length
 | [],_,q=>by cases q;rfl
 |
  t::ts,vs,q=>by
  unfold rss at q;split at q
  .rename_i u us e1 e2;cases q;exact HI (· + 1) (ia e2)
  .cases q
theorem TsR.get:∀{ds:List D}{ts:List Tm}{k:Nat}{t:Tm},TsR X ns ae h ds ts->ts[k]?=some t->∃d,ds[k]?=some d/\((∃v,t=.val v/\Rd (Oc X ns) h d v)\/∃i,t=.bor i/\ae[i]?=some (some d))
 |_,_,_,_,.nil,q=>by simp at q
 |_,_,0,_,.val r rr,q=>by have:=(by simpa using q:Tm.val _=_);subst this;exact⟨_,rfl,.inl ⟨_,rfl,r⟩⟩
 |_,_,0,_,.bor r rr,q=>by have:=(by simpa using q:Tm.bor _=_);subst this;exact⟨_,rfl,.inr ⟨_,rfl,r⟩⟩
 |_,_,k+1,t,.val r rr,q=>by obtain⟨d,y⟩:=rr.get (k:=k) (by simpa using q);exact⟨d,by simpa using y⟩
 |_,_,k+1,t,.bor r rr,q=>by obtain⟨d,y⟩:=rr.get (k:=k) (by simpa using q);exact⟨d,by simpa using y⟩
def Xc(X:Nat->Prop)(ns:Ns)(e:E3)(ms:List Bool)(ts:List Tm)(n:Nat):Prop:=(X n\/some n∈ns)/\some n∉aX (aS ms ts) ns/\∀i∈aE e ms ts,ns[i]?≠some (some n)
def l7(S:Sat X h0 ns e ae h)(rt:TsR X ns ae h ds ts)(qv:rss e ts=some vs)(ok:okA e ms ts=true):
 Sat (Xc X ns e ms ts) h.length (aX (aS ms ts) ns) (sls ms vs) (ds.map some) h:=by
 have l1:=ft ok;have l2:=ia qv;have l3:=TsR.len rt;have hs:jz (aS ms ts):=λj k i q1 q2=>fc ok (cQ q2).1 (cQ q2).2 (cQ q1).2;have mv:Mov (Oc X ns) (Oc (Xc X ns e ms ts) (aX (aS ms ts) ns)) h h:=λn o p q=>⟨⟨λz=>by
  rcases z.1 with z |z
  .exact p.1 z
  .exact p.2 z,λz=>p.2 (iP z)⟩,q⟩
 refine⟨?_,?_,y_ _,λn z=>?_,λj k n q1 q2=>?_,λj n q z=>z.2.1 (aK.mpr ⟨j,q⟩),λk s q=>?_⟩
 .unfold sls;rw[v_,Ib];omega
 .unfold aX aS sls;rw[v_,Ib,Ib];omega
 .rcases z.1 with z |z
  .exact S.xl n z
  .obtain⟨i,z⟩:=aK.mp z;obtain⟨_,_,_,_,_,_,_,q',_⟩:=S.own z;exact bB q'
 .obtain⟨i,y1,y2⟩:=bA q1;obtain⟨i',y3,y4⟩:=bA q2
  have:=S.inj i i' n y2 y4
  subst this;exact hs j k i y1 y3
 .obtain⟨b,v,
   q1,q2,rfl⟩:=cS q
  obtain⟨t,q3,q4⟩:=pA qv q2;obtain⟨d,q5,q6⟩:=rt.get q3;have qd:(ds.map some)[k]?=some (some d):=by rw[Hj,q5];rfl
  rw[qd];have qn:(aX (aS ms ts) ns)[k]?=some ((ka b t).bind λi=>(ns[i]?).bind id):=by unfold aX aS;rw[Hj,HU,q1,q3];rfl
  rw[qn];cases b with
  |
   true=>
   obtain⟨i,y1,u,y2⟩:=ip ok q1;rw[q3] at y1;cases y1;have q4':(e[i]?).bind Sl.val=some v:=q4;obtain⟨s,z1,z2⟩:=Hy.mp y2;rw[z1] at q4';have hv:s.val=some v:=q4';have huv:u=v:=by cases s <;> first |cases z2;done |(cases z2;cases hv;rfl)
   subst huv;have hns:∃n,ns[i]?=some (some n):=by
    have y:=S.sl i s z1;cases s with
    |ow v=>obtain⟨n,o,y1,_⟩:=y;exact⟨n,y1⟩
    |mu v=>obtain⟨n,o,y1,_⟩:=y;exact⟨n,y1⟩
    |_=>cases z2
   obtain⟨n,hn⟩:=hns;obtain⟨n',o,k1,k2,k3,k4,_⟩:=S.write z1 z2;rcases q6 with ⟨_,z,_⟩ |⟨i',z,q6⟩
   .cases z
   .cases z;rw[q6] at k1;cases k1;obtain⟨_,_,_,_,_,_,w,_⟩:=S.own hn;rw[q6] at w;cases w;exact⟨n,o,by show some ((ns[i]?).bind id)=_;rw[hn];rfl,rfl,k2,k3,k4.mono mv⟩
  |
   false=>
   refine⟨by cases t <;> rfl,d,rfl,?_⟩;rcases q6 with ⟨u,rfl,q6⟩ |⟨i,rfl,q6⟩
   .cases q4;exact q6.mono mv
   .have q4':(
     e[i]?).bind Sl.val=some v:=q4
    rcases S.bor q6 q4' with z |⟨n,o,rfl,z1,z2⟩
    .exact z.mono mv
    .refine .cell ⟨λy=>?_,λy=>?_⟩ z1 (z2.mono mv)
     .
      by_cases hsh:∃w,e[i]?=some (.sh w)
      .obtain⟨w,hsh⟩:=hsh;obtain⟨_,x,w1,w2⟩:=S.sl i _ hsh;rw[q6] at w1;cases w1;cases w2 with
       |cell p _ _=>rcases y.1 with y |y;exact p.1 y;exact p.2 y
      .have hl:=iM q1 q3 λw z=>hsh ⟨w,z⟩;cases w:ns[i]? with
       |
        none=>
        have hi:i<e.length:=by
         cases z:e[i]? with
         |none=>rw[z] at q4';cases q4'
         |some _=>exact (u_.mp z).1
        rw[IF,S.l2] at w;omega
       |
        some w'=>
        cases w' with
        |
         none=>
         cases z:e[i]? with
         |none=>rw[z] at q4';cases q4'
         |
          some s=>
          have k:=S.sl i s z;rw[w] at k;cases s with
          |no=>rw[z] at q4';cases q4'
          |sh w=>exact hsh ⟨w,z⟩
          |ow w=>obtain⟨_,_,k,_⟩:=k;cases k
          |lo w=>obtain⟨_,_,k,_⟩:=k;cases k
          |mu w=>obtain⟨_,_,k,_⟩:=k;cases k
          |lm w=>obtain⟨_,_,k,_⟩:=k;cases k
        |some n'=>obtain⟨_,_,_,_,_,_,w2,_⟩:=S.own w;rw[q6] at w2;cases w2;exact y.2.2 i hl w
     .obtain⟨j,y⟩:=aK.mp y;obtain⟨i',y1,y2⟩:=bA y;obtain⟨y3,y4⟩:=cQ y1;obtain⟨_,_,_,_,_,_,w2,_⟩:=S.own y2;have:i'
       = i:=by
       cases w:ns[i]? with
       |
        none=>
        have hi:i<e.length:=by
         cases z:e[i]? with
         |none=>rw[z] at q4';cases q4'
         |some _=>exact (u_.mp z).1
        rw[IF,S.l2] at w;omega
       |
        some w'=>
        cases w' with
        |some n'=>obtain⟨_,_,_,_,_,_,w3,_⟩:=S.own w;rw[q6] at w3;cases w3;exact S.inj i' i n y2 w
        |
         none=>
         cases z:e[i]? with
         |none=>rw[z] at q4';cases q4'
         |
          some s=>
          have k:=S.sl i s z;rw[w,q6] at k;cases s with
          |no=>rw[z] at q4';cases q4'
          |
           sh w=>
           obtain⟨_,x,k1,k2⟩:=k;cases k1;cases k2 with
           |cell p _ _=>exact (p.2 (aK.mpr ⟨i',y2⟩)).elim
          |ow w=>obtain⟨_,_,k,_⟩:=k;cases k
          |lo w=>obtain⟨_,_,k,_⟩:=k;cases k
          |mu w=>obtain⟨_,_,k,_⟩:=k;cases k
          |lm w=>obtain⟨_,_,k,_⟩:=k;cases k
      subst this
      have:=fc ok y3 y4 q3
      subst this;rw[q1] at y3;cases y3
theorem cR:∀{ms:List Bool}{mv:List Val}{j:Nat}{v:Val},(aA ms mv)[j]?=some (.mu v)->v∈mv
 | [],_,_,_,q=>by simp [aA] at q
 |true::ms,u::mv,0,v,q=>by
  have:Sl.mu u=.mu v:=by simpa [aA] using q
  cases this;exact G5 ..
 |true::ms,u::mv,j+1,v,q=>F_ _ (cR (ms:=ms) (mv:=mv) (j:=j) (by simpa [aA] using q))
 |true::ms,[],0,v,q=>by simp [aA] at q
 |true::ms,[],j+1,v,q=>cR (ms:=ms) (mv:=[]) (j:=j) (by simpa [aA] using q)
 |false::ms,mv,0,v,q=>by simp [aA] at q
 |false::ms,mv,j+1,v,q=>cR (ms:=ms) (mv:=mv) (j:=j) (by simpa [aA] using q)
theorem i0:∀{ms:List Bool}{ts:List Tm}{i:Nat},i∈aE e ms ts->∃k:Nat,ms[k]?=some false/\ts[k]?=some (.bor i)
 | [],_,_,q=>by simp [aE] at q
 |_::_,[],_,q=>by simp [aE] at q
 |
  b::ms,t::ts,i,q=>by
  have up:i∈aE e ms ts->∃k:Nat,(b::ms)[k]?=some false/\(t::ts)[k]?=some (.bor i):=λz=>by obtain⟨k,y1,y2⟩:=i0 z;exact⟨k+1,by simpa using y1,by simpa using y2⟩
  cases b <;> cases t <;> simp only[aE] at q <;> first |exact up q |skip
  split at q
  .exact up q
  .rcases Hv.mp q with rfl |q
   .exact⟨0,rfl,rfl⟩
   .exact up q
def zS(q:bC e (.bor i)=some (e1,v)):(∀j,j≠i->e1[j]?=e[j]?)/\e1[i]?=some (.sh v)/\(e[i]?).bind Sl.val=some v:=by
 unfold bC at q;dsimp only at q;split at q
 .rename_i u q1;cases q;exact⟨λ_ _=>rfl,q1,by rw[q1];rfl⟩
 .rename_i u q1;cases q;exact⟨λj z=>aU z,aZ (u_.mp q1).1,by rw[q1];rfl⟩
 .cases q
theorem nR:∀{is:List Nat}{ns:Ns}{e e2:E3},Sat X h0 ns e ae h->(∀i∈is,∃d,ae[i]?=some (some d))->kA e is=some e2->∃h_,Sat X h0 h_ e2 ae h/\Stp ns e h h_ e2 h/\(∀i,i∉is->e2[i]?=e[i]?)/\(∀i∈is,∃v,e2[i]?=some (.sh v))/\∀i:Nat,(e2[i]?).bind Sl.val=(e[i]?).bind Sl.val
 | [],ns,e,e2,S,_,q=>by cases q;exact⟨ns,S,.refl,λ_ _=>rfl,(λ_ z=>by cases z),λ_=>rfl⟩
 |
  i::is,ns,e,e2,S,hd,q=>by
  unfold kA at q;split at q
  .rename_i e1 v q1;obtain⟨d,hd0⟩:=hd i (G5 ..);obtain⟨ns1,S1,a1,r1⟩:=df (L:=0) (t:=.bor i) S hd0 q1;obtain⟨h_,S2,a2,k1,k2,k3⟩:=nR S1 (λj z=>hd j (F_ _ z)) q;obtain⟨y1,y2,y3⟩:=zS q1;refine⟨h_,S2,a1.trans S a2,λj hj=>?_,λj hj=>?_,λj=>?_⟩
   .rw[Hv,not_or] at hj;rw[k1 j hj.2,y1 j hj.1]
   .by_cases z:j∈is
    .exact k2 j z
    .rcases Hv.mp hj with rfl |hj
     .exact⟨v,by rw[k1 j z];exact y2⟩
     .exact absurd hj z
   .rw[k3 j];by_cases z:j=i
    .subst z;rw[y2,y3];rfl
    .rw[y1 j z]
  .cases q
theorem kR:∀{ms:List Bool}{ts:List Tm},(∀(k i:Nat),ms[k]?=some true->ts[k]?=some (.bor i)->e2[i]?=e[i]?)->okA e ms ts=true->okA e2 ms ts=true
 | [],[],_,o=>rfl
 | [],_::_,_,o=>by simp [okA] at o
 |b::ms,[],_,o=>by cases b <;> simp [okA] at o
 |
  b::ms,t::ts,hk,o=>by
  have o':okA e ms ts=true:=by cases b <;> cases t <;> simp only[okA,x_] at o <;> first |exact o.2 |exact o |(simp at o;done)
  have ih:=kR (λk i q1 q2=>hk (k+1) i (by simpa using q1) (by simpa using q2)) o';cases b with
  |false=>cases t <;> simp only[okA,x_] at o ⊢ <;> first |exact⟨o.1,ih⟩ |exact ih
  |
   true=>
   cases t with
   |bor i=>simp only[okA,x_] at o ⊢;rw[hk 0 i rfl rfl];exact⟨o.1,ih⟩
   |_=>simp [okA] at o
theorem nD:∀{ms:List Bool}{ts:List Tm},(∀(k i:Nat),ms[k]?=some false->ts[k]?=some (.bor i)->∃v,e[i]?=some (.sh v))->aE e ms ts=[]
 | [],_,_=>by simp [aE]
 |_::_,[],_=>by simp [aE]
 |
  b::ms,t::ts,hk=>by
  have ih:=nD (λk i q1 q2=>hk (k+1) i (by simpa using q1) (by simpa using q2));cases b <;> cases t <;> simp only[aE] <;> first |exact ih |skip
  rename_i i;obtain⟨v,q⟩:=hk 0 i rfl rfl;rw[q];exact ih
theorem kW(hv:∀i:Nat,(e2[i]?).bind Sl.val=(e[i]?).bind Sl.val):∀(ts:List Tm),rss e2 ts=rss e ts
 | []=>rfl
 |
  t::ts=>by
  unfold rss;rw[kW hv ts];have:rs e2 t=rs e t:=by
   cases t with
   |bor i=>exact hv i
   |_=>rfl
  rw[this]
def iR(ok:okA e ms ts=true):Lnk (aS ms ts) e (sls ms vs):=by
 refine⟨λj k i q1 q2=>fc ok (cQ q2).1 (cQ q2).2 (cQ q1).2,λj v q=>?_,λj s q hm=>?_⟩
 .obtain⟨b,u,q1,_,q2⟩:=cS q;cases b with
  |false=>cases q2
  |true=>obtain⟨i,y1,w,y2⟩:=ip ok q1;obtain⟨s,z1,z2⟩:=Hy.mp y2;exact⟨i,s,Ab q1 y1,z1,by cases s <;> first |rfl |cases z2⟩
 .obtain⟨b,u,q1,_,q2⟩:=cS q;cases b with
  |false=>subst q2;cases hm
  |true=>exact⟨u,q2⟩
section
variable{X:Nat->Prop}{h0 L:Nat}{ns:Ns}{e:E3}{ae:AE}{h:AH}{ms:List Bool}{ts:List Tm}{ds:List D}{vs:List Val}{S2:Fn}{G3:Fn3}
def fy(Y:Nat->Prop)(hY:∀n,Y n->X n\/Y n)(hl:aE e ms ts=[])(z:¬ Xc X ns e ms ts n)(z2:some n∉aX (aS ms ts) ns):Oc X ns n:=by refine⟨λy=>z ⟨.inl y,z2,λi hi=>by rw[hl] at hi;cases hi⟩,λy=>z ⟨.inr y,z2,λi hi=>by rw[hl] at hi;cases hi⟩⟩
def nQ{B:Prop}(S:Sat X h0 ns e ae h)(ok:okA e ms ts=true)(a:Stp (aX (aS ms ts) ns) (sls ms vs) h (aX (aS ms ts) ns) (aA ms mv) h')(hf:aE e ms ts=[]\/(B/\mv.all flatC=true))(z2:h.length<=n)(z4:h'[n]?=some o)(S3:Sat (Xn (Xc X ns e ms ts) n) h.length (aX (aS ms ts) ns) (aA ms mv) (ds.map some) h'):
 Sat (Xn X n) h0 ns (aN (aS ms ts) (aA ms mv) e) ae h'/\Stp ns e h ns (aN (aS ms ts) (aA ms mv) e) h'/\(aE e ms ts=[]->∀m,Oc (Xn (Xc X ns e ms ts) n) (aX (aS ms ts) ns) m->Oc (Xn X n) ns m):=by
 have K:=iR (vs:=vs) ok;have kk:aE e ms ts=[]->∀m,Oc (Xn (Xc X ns e ms ts) n) (aX (aS ms ts) ns) m->Oc (Xn X n) ns m:=λhf m z=>by
  have:=fy X (λ_ z=>.inl z) hf (λy=>z.1 (.inl y)) z.2
  exact⟨λy=>by
   rcases y with y |y
   .exact this.1 y
   .exact z.1 (.inr y),this.2⟩
 obtain⟨S4,a4⟩:=S.back (Y:=Xn X n) K a (λm z=>by
  rcases z with z |rfl
  .exact⟨E_ (S.xl m z) a.len,.inl z⟩
  .exact⟨bB z4,.inr z2⟩) (λ_ z=>.inl z) λj w n' q1 q2=>by
  obtain⟨s,u,o,b1,b2,b3,b4,b5,b6,b7⟩:=S3.own q2;rw[q1] at b1;cases b1;cases b3;rcases hf with hf |hf
  .exact⟨o,b5,b6,b7.mono λm o' z y=>⟨kk hf m z,y⟩⟩
  .exact⟨o,b5,b6,b7.flat (Hd.mp hf.2 w (cR q1))⟩
 exact⟨S4,a4,kk⟩
def pe(S:Sat X h0 ns e ae h)(hL:L<=h.length)(rt:TsR X ns ae h ds ts)(qv:rss e ts=some vs)(ok:okA e ms ts=true)(hG:RF ms S2 G3)(q:G3 vs=.ok r mv)(hf:aE e ms ts=[]\/(ib r=true/\mv.all flatC=true)):
 Po X h0 ns e ae h (relE X h0 L ae) (S2 ds h) (.ok (r.tm ts) (aN (aS ms ts) (aA ms mv) e)):=by
 have p:=hG _ _ ds vs h (by rw[ia qv,ft ok]) (l7 S rt qv ok);rw[q] at p;obtain⟨d,h',p1,a,rr⟩:=p;have K:=iR (vs:=vs) ok;have xcl:∀n,X n->n<h.length:=S.xl;cases r with
 |
  val v=>
  obtain⟨S3,rv⟩:=rr;obtain⟨S4,a4⟩:=S.back (Y:=X) K a (λn z=>⟨E_ (xcl n z) a.len,.inl z⟩) (λ_ z=>z) λj w n q1 q2=>by
   obtain⟨s,u,o,b1,b2,b3,b4,b5,b6,b7⟩:=S3.own q2;rw[q1] at b1;cases b1;cases b3;rcases hf with hf |hf
   .exact⟨o,b5,b6,b7.mono λm o' z y=>⟨fy X (λ_ z=>.inl z) hf z.1 z.2,y⟩⟩
   .exact⟨o,b5,b6,b7.flat (Hd.mp hf.2 w (cR q1))⟩
  refine⟨d,h',ns,p1,a4,S4,?_⟩;rcases hf with hf |hf
  .exact rv.mono λm o' z y=>⟨fy X (λ_ z=>.inl z) hf z.1 z.2,y⟩
  .exact rv.flat hf.1
 |
  new v=>
  obtain⟨n,o,z1,z2,z3,z4,z5,S3,z7⟩:=rr;obtain⟨S4,a4,r4⟩:=nQ S ok a hf z2 z4 S3;refine⟨d,h',ns,p1,a4,S4.weak λ_ z=>.inl z,n,o,z1,G6 hL z2,λy=>by have:=xcl n y;omega,z4,z5,S4,?_⟩;rcases hf with hf |hf
  .exact z7.mono λm o' z y=>⟨r4 hf m z,y⟩
  .exact z7.flat hf.1
 |
  pr v u=>
  obtain⟨d1,n,o,rfl,z2,z3,z4,z5,S3,z6,z7⟩:=rr;obtain⟨S4,a4,r4⟩:=nQ S ok a hf z2 z4 S3;have on:Oc X ns n:=⟨λy=>by have:=xcl n y;omega,λy=>by obtain⟨i,y⟩:=aK.mp y;exact S4.nx i n y (.inr rfl)⟩;have wk:Mov (Oc (Xn X n) ns) (Oc X ns) h' h':=λm o' z y=>⟨⟨λc=>z.1 (.inl c),z.2⟩,y⟩;refine⟨_,h',ns,p1,a4,S4.weak λ_ z=>.inl z,.tup (.cons ?_ (.cons (.cell on z4 ?_) .nil))⟩
  .rcases hf with hf |hf
   .exact (z6.mono λm o' z y=>⟨r4 hf m z,y⟩).mono wk
   .exact z6.flat (x_ _ _ ▸ hf.1).1
  .rcases hf with hf |hf
   .exact (z7.mono λm o' z y=>⟨r4 hf m z,y⟩).mono wk
   .exact z7.flat (x_ _ _ ▸ hf.1).2
 |
  par i=>
  obtain⟨S3,w1,w,w2⟩:=rr;obtain⟨S4,a4⟩:=S.back (Y:=X) K a (λn z=>⟨E_ (xcl n z) a.len,.inl z⟩) (λ_ z=>z) λj w n q1 q2=>by
   obtain⟨s,u,o,b1,b2,b3,b4,b5,b6,b7⟩:=S3.own q2;rw[q1] at b1;cases b1;cases b3;rcases hf with hf |hf
   .exact⟨o,b5,b6,b7.mono λm o' z y=>⟨fy X (λ_ z=>.inl z) hf z.1 z.2,y⟩⟩
   .exact⟨o,b5,b6,b7.flat (Hd.mp hf.2 w (cR q1))⟩
  refine⟨d,h',ns,p1,a4,S4,?_⟩;obtain⟨u,x1,_⟩:=a.mu i w w2;obtain⟨b,u',x2,_,x3⟩:=cS x1;cases b with
  |false=>cases x3
  |
   true=>
   obtain⟨k,y1,_⟩:=ip ok x2;obtain⟨d',y2,z⟩:=rt.get y1;have e1:(Rt.par i).tm ts=.bor k:=by show (ts[i]?).getD _=_;rw[y1];rfl
   rw[e1];rcases z with ⟨_,z,_⟩ |⟨j,z,z2⟩
   .cases z
   .cases z;rw[Hj,y2] at w1;cases w1;exact z2
def u5(S:Sat X h0 ns e ae h)(rt:TsR X ns ae h ds ts)(qv:rss e ts=some vs)(ok:okA e ms ts=true)(hG:RF ms S2 G3)(q:G3 vs=.exc c mv)(hf:aE e ms ts=[]\/mv.all flatC=true):
 Po X h0 ns e ae h (relE X h0 L ae) (S2 ds h) (.exc c (aN (aS ms ts) (aA ms mv) e)):=by
 have p:=hG _ _ ds vs h (by rw[ia qv,ft ok]) (l7 S rt qv ok);rw[q] at p;obtain⟨h',p1,a,S3⟩:=p;have K:=iR (vs:=vs) ok;obtain⟨S4,a4⟩:=S.back (Y:=X) K a (λn z=>⟨E_ (S.xl n z) a.len,.inl z⟩) (λ_ z=>z) λj w n q1 q2=>by
  obtain⟨s,u,o,b1,b2,b3,b4,b5,b6,b7⟩:=S3.own q2;rw[q1] at b1;cases b1;cases b3;rcases hf with hf |hf
  .exact⟨o,b5,b6,b7.mono λm o' z y=>⟨fy X (λ_ z=>.inl z) hf z.1 z.2,y⟩⟩
  .exact⟨o,b5,b6,b7.flat (Hd.mp hf w (cR q1))⟩
 exact⟨h',ns,p1,a4,S4⟩
def yn(hn:n=ms.length)(hG:RF ms S2 G3)(hA:RA A A3):RE (qy n S2 A) (xI ms G3 A3):=λX h0 L ns e ae h S hl=>
 Po.bind
  S (hA X h0 ns e ae h S) λds ts h1 ns1 e1 a1 S1 r1=>by
  try dsimp only
  cases qv:rss e1 ts with
  |none=>trivial
  |
   some vs=>
   dsimp only;by_cases ok:okA e1 ms ts=true
   .rw[if_pos ok];have hlen:ds.length=n:=by rw[hn,ft ok];exact TsR.len r1
    rw[if_pos hlen];have hL:L<=h1.length:=G6 hl a1.len;cases q:G3 vs with
    |stuck=>trivial
    |
     exc c mv=>
     dsimp only;by_cases hf:((aE e1 ms ts).isEmpty || mv.all flatC)=true
     .rw[if_pos hf];refine u5 S1 r1 qv ok hG q ?_;rw[Ja] at hf;rcases hf with hf |hf
      .exact .inl (List.isEmpty_iff.mp hf)
      .exact .inr hf
     .rw[if_neg hf];trivial
    |
     ok r mv=>
     dsimp only;by_cases hf:((aE e1 ms ts).isEmpty || (ib r&&mv.all flatC))=true
     .rw[if_pos hf];refine pe S1 hL r1 qv ok hG q ?_;rw[Ja,x_] at hf;rcases hf with hf |hf
      .exact .inl (List.isEmpty_iff.mp hf)
      .exact .inr hf
     .rw[if_neg hf];cases qd:kA e1 (aE e1 ms ts) with
      |none=>trivial
      |
       some e2=>
       dsimp only;obtain⟨h_,S2',a2,k1,k2,k3⟩:=nR S1 (λi hi=>by
        obtain⟨k,_,y⟩:=i0 hi;obtain⟨d,_,z⟩:=r1.get y;rcases z with ⟨_,z,_⟩ |⟨j,z,z2⟩
        .cases z
        .cases z;exact⟨d,z2⟩) qd
       have ok2:okA e2 ms ts=true:=kR (λk i q1 q2=>k1 i λz=>by
        obtain⟨k',y1,y2⟩:=i0 z
        have:=fc ok q1 q2 y2
        subst this;rw[q1] at y1;cases y1) ok
       have ln:aE e2 ms ts=[]:=nD λk i q1 q2=>by
        by_cases z:i∈aE e1 ms ts
        .exact k2 i z
        .rw[k1 i z];exact IC λw=>z (iM q1 q2 λv y=>w ⟨v,y⟩)
       have pp:=pe (L:=L) S2' hL (r1.stp S1 a2) (by rw[kW k3];exact qv) ok2 hG q (.inl ln);obtain⟨d,h',ns',y,y1,y2,y3⟩:=pp;exact⟨d,h',ns',y,a2.trans S1 y1,y2,y3⟩
   .rw[if_neg ok];trivial
end
noncomputable def aI(f:Int->Int->Val):Val->Val->Bv:=λx y=>match x,y with
 |.int i,.int j=>.val (f i j)
 |_,_=>.stuck
open Classical in
def aIc(C:Int->Int->Prop)(f:Int->Int->Val):Val->Val->Bv:=λx y=>match x,y with
 |.int i,.int j=>if C i j then .val (f i j) else .stuck
 |_,_=>.stuck
noncomputable def pM:Val->Val->Bv:=λx y=>match x,y with
 |.lst xs,.lst ys=>if xs.length+ys.length<=16777216 then .new (.lst (xs++ys)) else .stuck
 |.tup xs,.tup ys=>if xs.length+ys.length<=16777216 then .val (.tup (xs++ys)) else .stuck
 |_,_=>.stuck
noncomputable def uX:Val->Val->Bv:=λx y=>match x,y with
 |.int i,.int j=>.val (.int (i+j))
 |x,y=>pM x y
noncomputable def aMin:=aI λi j=>.int (i-j)
def rz:=aIc CMulA λi j=>.int (i*j)
def pP:=aIc CDivB λi j=>.int (i.fdiv j)
def rm:=aIc (λ_ j=>j≠0) λi j=>.int (i.fmod j)
def rf:=aIc j5 λi j=>.int (i^j.toNat)
noncomputable def aLt:=aI λi j=>.bl (decide (i<j))
noncomputable def aGt:=aI λi j=>.bl (decide (j<i))
noncomputable def aGe:=aI λi j=>.bl (decide (j<=i))
noncomputable def wU:Val->Bv:=λx=>match x with
 |.int i=>.val (.int (-i))
 |_=>.stuck
noncomputable def aIx:Val->Val->Bv:=λx y=>match x.items,y with
 |some xs,.int i=>(match atI xs i with
  |some v=>.val v
  |none=>.stuck)
 |_,_=>.stuck
section
def rF(hr:∀i j P h,Rd P h (f2 i j) (f3 i j)):RO (gI f2) (aI f3):=λP h d1 d2 v1 v2 r1 r2=>by
 unfold aI;split
 .obtain rfl:=r1.int;obtain rfl:=r2.int;exact⟨_,rfl,hr _ _ P h⟩
 .trivial
def lR(hr:∀i j P h,Rd P h (f2 i j) (f3 i j)):RO (gIc C f2) (aIc C f3):=λP h d1 d2 v1 v2 r1 r2=>by
 unfold aIc;split
 .obtain rfl:=r1.int;obtain rfl:=r2.int;split
  .rename_i hc;exact⟨_,by unfold gIc;dsimp only;rw[if_pos hc],hr _ _ P h⟩
  .trivial
 .trivial
def D1:RO iJ pM:=λP h d1 d2 v1 v2 r1 r2=>by
 unfold pM;split
 .obtain⟨n,ds,rfl,e1,_,q1⟩:=r1.lst;obtain⟨m,es,rfl,e2,_,q2⟩:=r2.lst;split
  .rename_i hl;exact⟨.lst (ds++es),by unfold iJ;dsimp only;rw[e1,e2];dsimp only;rw[if_pos (by rw[q1.len,q2.len];exact hl)],trivial,.lst (q1.append q2)⟩
  .trivial
 .obtain⟨ds,rfl,q1⟩:=r1.tup;obtain⟨es,rfl,q2⟩:=r2.tup;split
  .rename_i hl;exact⟨_,by unfold iJ;dsimp only;rw[if_pos (by rw[q1.len,q2.len];exact hl)],.tup (q1.append q2)⟩
  .trivial
 .trivial
def Dn:RO pR uX:=λP h d1 d2 v1 v2 r1 r2=>by
 unfold uX;split
 .obtain rfl:=r1.int;obtain rfl:=r2.int;exact⟨_,rfl,.int _⟩
 .rename_i hn;have k:=D1 P h d1 d2 v1 v2 r1 r2;have e:pR d1 d2 h=iJ d1 d2 h\/pM v1 v2=.stuck:=by
   cases v1 <;> first |(right;rfl) |(left;skip)
   .obtain⟨ds,rfl,_⟩:=r1.tup;rfl
   .obtain⟨n,ds,rfl,_⟩:=r1.lst;rfl
  rcases e with e |e
  .rw[e];exact k
  .rw[e];trivial
def Df:RO vd aMin:=rF λ_ _ _ _=>.int _
def BB:RO uZ rz:=lR λ_ _ _ _=>.int _
def AN:RO vb pP:=lR λ_ _ _ _=>.int _
def Dq:RO vY rm:=lR λ_ _ _ _=>.int _
def Dl:RO vX rf:=lR λ_ _ _ _=>.int _
def E6:RO gLt aLt:=rF λ_ _ _ _=>.bl _
def F8:RO gGt aGt:=rF λ_ _ _ _=>.bl _
def Gx:RO gGe aGe:=rF λ_ _ _ _=>.bl _
def Bu:RU pK wU:=λP h d v r=>by
 unfold wU;split
 .obtain rfl:=r.int;exact⟨_,rfl,.int _⟩
 .trivial
def FP(r:Rds P h ds vs)(e:atI vs i=some v):∃d,atI ds i=some d/\Rd P h d v:=by
 unfold atI at e ⊢;rw[r.len];cases q:ixN vs.length i with
 |none=>rw[q] at e;cases e
 |some j=>rw[q] at e;exact r.get e
def FE:RO gIx aIx:=λP h d1 d2 v1 v2 r1 r2=>by
 unfold aIx;split
 .rename_i xs i e1;obtain⟨ds,e2,q⟩:=r1.items e1;obtain rfl:=r2.int;split
  .rename_i v e3;obtain⟨d,e4,q2⟩:=FP q e3;exact⟨d,by unfold gIx;rw[e2];dsimp only;rw[e4],q2⟩
  .trivial
 .trivial
end
mutual
def bQ:Nat->Val->Option PyData
 |0,_=>none
 |_+1,.non=>some .none
 |_+1,.bl b=>some (.bool b)
 |_+1,.int i=>some (.int i)
 |_+1,.str x=>some (.str x)
 |k+1,.tup xs=>(cL k xs).map .tuple
 |k+1,.lst xs=>(cL k xs).map .list
 |_+1,_=>none
def cL:Nat->List Val->Option (List PyData)
 |_,[]=>some []
 |k,x::xs=>match bQ k x,cL k xs with
  |some a,some b=>some (a::b)
  |_,_=>none
end
def vP(hk:∀d v pd,Rd P h d v->bQ k v=some pd->cJ k h d=some pd):∀{ds:List D}{vs:List Val}{ps:List PyData},Rds P h ds vs->cL k vs=some ps->ds.mapM (cJ k h)=some ps:=by
 intro ds;induction ds with
 |nil=>intro vs ps r q;cases r;unfold cL at q;cases q;rfl
 |
  cons d0 ds ih=>
  intro vs ps r q;cases r with
  |
   cons r rr=>
   unfold cL at q;split at q
   .rename_i a b e1 e2;cases q;rw[Il,hk _ _ _ r e1,ih rr e2];rfl
   .cases q
theorem kx:∀(k:Nat) (d:D) (v:Val) (pd:PyData),ShR P h d v->bQ k v=some pd->cJ k h d=some pd
 |0,_,_,_,_,q=>by unfold bQ at q;cases q
 |
  k+1,d,v,pd,r,q=>by
  have ih:∀{ds:List D}{vs:List Val}{ps:List PyData},Rds P h ds vs->cL k vs=some ps->ds.mapM (cJ k h)=some ps:=vP λd v pd r q=>kx k d v pd (.inl r) q;cases v with
  |non=>obtain rfl:=r.non;simp only[bQ] at q;cases q;rfl
  |bl b=>obtain rfl:=r.bl;simp only[bQ] at q;cases q;rfl
  |int b=>obtain rfl:=r.int;simp only[bQ] at q;cases q;rfl
  |str b=>obtain rfl:=r.str;simp only[bQ] at q;cases q;rfl
  |tup xs=>obtain⟨ds,rfl,r2⟩:=r.tup;simp only[bQ] at q;obtain⟨ps,q1,rfl⟩:=G9.mp q;show (ds.mapM (cJ k h)).map PyData.tuple=_;rw[ih r2 q1];rfl
  |lst xs=>obtain⟨n,ds,rfl,_,e1,r2⟩:=r.lst;simp only[bQ] at q;obtain⟨ps,q1,rfl⟩:=G9.mp q;unfold cJ;rw[e1];show (ds.mapM (cJ k h)).map PyData.list=_;rw[ih r2 q1];rfl
  |_=>simp only[bQ] at q;cases q
noncomputable def cx(x y:Val):Option Bool:=match bQ 164 x,bQ 164 y with
 |some a,some b=>if shp a=true/\shp b=true then some (PyData.eqv a b) else none
 |_,_=>none
noncomputable def aEq(neg:Bool):Val->Val->Bv:=λx y=>match cx x y with
 |some b=>.val (.bl (if neg then !b else b))
 |none=>.stuck
def C2(r1:ShR P h d1 v1)(r2:ShR P h d2 v2)(q:cx v1 v2=some b):nE h d1 d2=some b:=by
 unfold cx at q;split at q
 .rename_i a c e1 e2;unfold nE;rw[kx 164 _ _ _ r1 e1,kx 164 _ _ _ r2 e2];exact q
 .cases q
def xx(neg:Bool):RO (gEq neg) (aEq neg):=λP h d1 d2 v1 v2 r1 r2=>by
 unfold aEq;split
 .rename_i b q;exact⟨_,by unfold gEq;rw[C2 r1 r2 q],.bl _⟩
 .trivial
noncomputable def uK(neg:Bool):Val->Val->Bv:=λx y=>match x,y with
 |.non,.non=>.val (.bl (!neg))
 |_,.non=>.val (.bl neg)
 |_,_=>.stuck
def B6(neg:Bool):RO (nC neg) (uK neg):=λP h d1 d2 v1 v2 r1 r2=>by
 unfold uK;split
 .obtain rfl:=r1.non;obtain rfl:=r2.non;exact⟨_,rfl,.bl _⟩
 .rename_i hn;obtain rfl:=r2.non;have:d1 ≠ .non:=by
   rintro rfl;rcases r1 with r |⟨n,o,z,_⟩
   .cases r;exact hn rfl
   .cases z
  refine⟨_,?_,.bl neg⟩;unfold nC;split
  .exact absurd rfl this
  .rfl
  .rename_i h1 h2;exact (h1 rfl).elim
 .trivial
noncomputable def uw:List Val->Bv:=λvs=>match vs with
 | [v]=>(match v.items with
  |some xs=>.val (.int xs.length)
  |none=>(match v with
   |.str z=>if z.length<=16777216 then .val (.int z.length) else .stuck
   |_=>.stuck))
 |_=>.stuck
noncomputable def uB:List Val->Bv:=λvs=>match vs with
 | [.int i]=>.val (.int (if i<0 then -i else i))
 |_=>.stuck
noncomputable def gD:List Val->Option (List Bool)
 | []=>some []
 |.bl b::r=>(gD r).map (b :: ·)
 |_=>none
noncomputable def vA:List Val->Bv:=λvs=>match vs with
 | [.lst xs]=>(match gD xs with
  |some bs=>.val (.bl (bs.all id))
  |none=>.stuck)
 |_=>.stuck
noncomputable def pL:List Val->Bv:=λvs=>match vs with
 | [v]=>(match v.items with
  |some xs=>.new (.lst xs)
  |none=>.stuck)
 |_=>.stuck
def CM:RFn nN uw:=λP h ds vs r=>by
 unfold uw;split
 .obtain⟨d,hd,rr1⟩:=gg r;subst hd;clear r;have r:=rr1;split
  .rename_i xs e;obtain⟨es,e2,q⟩:=r.items e;exact⟨_,by unfold nN;dsimp only;rw[e2],by rw[<- q.len];exact .int _⟩
  .split
   .rename_i z _;obtain rfl:=r.str;split
    .rename_i hl;exact⟨_,by show (if z.length<=16777216 then _ else _)=_;rw[if_pos hl],.int _⟩
    .trivial
   .trivial
 .trivial
def AV:RFn pG uB:=λP h ds vs r=>by
 unfold uB;split
 .obtain⟨d,hd,rr1⟩:=gg r;subst hd;clear r;have r:=rr1;obtain rfl:=r.int;exact⟨_,rfl,.int _⟩
 .trivial
def Fi:∀{ds:List D}{vs:List Val}{bs:List Bool},Rds P h ds vs->gD vs=some bs->eF ds=some bs:=by
 intro ds;induction ds with
 |nil=>intro vs bs r q;cases r;cases q;rfl
 |
  cons d0 ds ih=>
  intro vs bs r q;cases r with
  |
   cons r rr=>
   rename_i v vs;cases v with
   |bl b=>obtain rfl:=ShR.bl (.inl r);obtain⟨b',q1,rfl⟩:=G9.mp (show (gD vs).map (b :: ·)=some bs from q);show (eF _).map (b :: ·)=_;rw[ih rr q1];rfl
   |_=>cases q
def Eu:RFn mS vA:=λP h ds vs r=>by
 unfold vA;split
 .obtain⟨d,hd,rr1⟩:=gg r;subst hd;clear r;have r:=rr1;obtain⟨n,es,rfl,_,e1,q⟩:=r.lst;split
  .rename_i bs e2;exact⟨_,by unfold mS;dsimp only;rw[e1];show (match eF es with |some bs=>_ |none=>_)=_;rw[Fi q e2],.bl _⟩
  .trivial
 .trivial
def zp:RFn jO pL:=λP h ds vs r=>by
 unfold pL;split
 .obtain⟨d,hd,rr1⟩:=gg r;subst hd;clear r;have r:=rr1;split
  .rename_i xs e;obtain⟨es,e2,q⟩:=r.items e;exact⟨.lst es,by unfold jO;dsimp only;rw[e2],trivial,.lst q⟩
  .trivial
 .trivial
noncomputable def tyC:Val->Option Cl
 |.non=>some (.b "NoneType")
 |.bl _=>some (.b "bool")
 |.int _=>some (.b "int")
 |.str _=>some (.b "str")
 |.tup _=>some (.b "tuple")
 |.exc x=>some (.o x)
 |.lst _=>some (.b "list")
 |.dct _=>some (.b "dict")
 |_=>none
noncomputable def clV:Val->Option Cl
 |.ty n=>some (.b n)
 |.glb x=>some (.o x)
 |_=>none
noncomputable def rb:List Val->Option (List Cl)
 | []=>some []
 |v::vs=>match clV v,rb vs with
  |some c,some cs=>some (c::cs)
  |_,_=>none
noncomputable def Gr:Val->Option (List Cl)
 |.tup cs=>rb cs
 |v=>(clV v).map ([·])
noncomputable def uY(kt:fN):List Val->Bv:=λvs=>match vs with
 | [v,c]=>(match tyC v,Gr c with
  |some t,some (c0::cr)=>(match de kt t (c0::cr),kit kt t c0 with
   |some b,some _=>.val (.bl b)
   |_,_=>.stuck)
  |_,_=>.stuck)
 |_=>.stuck
def FW(r:ShR P h d v)(q:tyC v=some t):tyD h d=some t:=by
 cases v with
 |non=>obtain rfl:=r.non;exact q
 |bl b=>obtain rfl:=r.bl;exact q
 |int b=>obtain rfl:=r.int;exact q
 |str b=>obtain rfl:=r.str;exact q
 |exc b=>obtain rfl:=r.exc;exact q
 |tup b=>obtain⟨ds,rfl,_⟩:=r.tup;exact q
 |lst b=>obtain⟨n,ds,rfl,e,_⟩:=r.lst;unfold tyD;dsimp only;rw[e];exact q
 |dct b=>obtain⟨n,ds,rfl,e,_⟩:=r.dct;unfold tyD;dsimp only;rw[e];exact q
 |_=>cases q
def xA(r:ShR P h d v)(q:clV v=some c):clD d=some c:=by
 cases v with
 |ty b=>obtain rfl:=r.ty;exact q
 |glb b=>obtain rfl:=r.glb;exact q
 |_=>cases q
def BY:∀{ds:List D}{vs:List Val}{cs:List Cl},Rds P h ds vs->rb vs=some cs->ds.mapM clD=some cs:=by
 intro ds;induction ds with
 |nil=>intro vs cs r q;cases r;cases q;rfl
 |
  cons d0 ds ih=>
  intro vs cs r q;cases r with
  |
   cons r rr=>
   unfold rb at q;split at q
   .rename_i c cs' e1 e2;cases q;rw[Il,xA (.inl r) e1,ih rr e2];rfl
   .cases q
def BM(kt:fN):RFn (nJ kt) (uY kt):=λP h ds vs r=>by
 unfold uY;split
 .rename_i v c;obtain⟨d,d',rfl,r1,r2⟩:=FF r;split
  .rename_i t c0 cr e1 e2;have e3:=FW r1 e1;split
   .rename_i b b' e4 e5;refine⟨.bl b,?_,.bl b⟩;unfold nJ;dsimp only;rw[e3];dsimp only;by_cases ht:∃cs,c=.tup cs
    .obtain⟨cs,rfl⟩:=ht;obtain⟨es,rfl,q⟩:=r2.tup;dsimp only;rw[BY q e2];dsimp only;rw[e4,e5]
    .have e2':(clV c).map ([·])=some (c0::cr):=by
      cases c with
      |tup cs=>exact absurd ⟨cs,rfl⟩ ht
      |_=>exact e2
     obtain⟨cl,y1,y2⟩:=G9.mp e2';cases y2;have y3:=xA r2 y1;have hd:∀cs,d' ≠ .tup cs:=λcs z=>by subst z;cases y3
     split
     .rename_i cs;exact absurd rfl (hd cs)
     .rw[y3];dsimp only;have:kit kt t c0=some b:=by
       unfold de at e4;rw[e5] at e4 ⊢;cases b' with
       |true=>exact e4
       |false=>unfold de at e4;exact e4
      rw[this]
   .trivial
  .trivial
 .trivial
noncomputable def fS(xs:List Val)(lo hi:Option Int):List Val:=(xs.drop (HT.sIx xs.length 0 lo)).take (HT.sIx xs.length xs.length hi-HT.sIx xs.length 0 lo)
abbrev MO3:=E3->R3 (Option Int)
def vM(_:Ns)(_:E3)(_:AH)(b c:Option Int):Prop:=b=c
def ROp(F:MO)(G:MO3):Prop:=∀X h0 ns e ae h,Sat X h0 ns e ae h->Po X h0 ns e ae h vM (F ae h) (G e)
noncomputable def sF:MO3:=λe=>.ok none e
noncomputable def tZ(F:ME3):MO3:=λe=>(F e).bind λt e1=>match rs e1 t with
 |some (.int i)=>.ok (some i) e1
 |_=>.stuck
noncomputable def aSl(x:Val)(lo hi:Option Int):Bv:=match x with
 |.tup xs=>if HT.sIx xs.length 0 lo=0/\HT.sIx xs.length xs.length hi=xs.length then .stuck else .val (.tup (fS xs lo hi))
 |.lst xs=>.new (.lst (fS xs lo hi))
 |.kl xs=>.new (.lst (fS xs lo hi))
 |_=>.stuck
noncomputable def vSl(F:ME3)(L U:MO3):ME3:=λe=>(F e).bind λt e1=>(L e1).bind λlo e2=>(U e2).bind λhi e3=>match rs e3 t.drop with
 |some v=>(aSl v lo hi).at e3
 |none=>.stuck
def yy:ROp pZ sF:=λX h0 ns e ae h S=>Po.ret S rfl
def zD(hF:RE F F3):ROp (qh F) (tZ F3):=λX h0 ns e ae h S=>
 Po.bind S (hF X h0 0 ns e ae h S (Ho _)) λd t h1 ns1 e1 a1 S1 r1=>by
  by_cases hq:∃i,rs e1 t=some (.int i)
  .obtain⟨i,hq⟩:=hq;have hd:=(r1.sh S1 hq).int;subst hd;show Po X h0 ns1 e1 ae h1 vM (R.ok (some i) h1) (match rs e1 t with |some (.int i)=>R3.ok (some i) e1 |_=>.stuck);rw[hq];exact Po.ret S1 rfl
  .have:(match rs e1 t with |some (.int i)=>R3.ok (some i) e1 |_=>.stuck)=(.stuck:R3 (Option Int)):=by
    split
    .rename_i i q;exact absurd ⟨i,q⟩ hq
    .rfl
   show Po X h0 ns1 e1 ae h1 vM _ (match rs e1 t with |some (.int i)=>R3.ok (some i) e1 |_=>.stuck);rw[this];trivial
def Fh(hF:RE F F3)(hL:ROp L L3')(hU:ROp U U3):RE (eSl F L U) (vSl F3 L3' U3):=λX h0 LL ns e ae h S hl=>
 Po.bind
  S (hF X h0 LL ns e ae h S hl) λd t h1 ns1 e1 a1 S1 r1=>Po.bind S1 (hL X h0 ns1 e1 ae h1 S1) λlo lo' h2 h_ e2 a2 S2 r2=>Po.bind S2 (hU X h0 h_ e2 ae h2 S2) λhi hi' h3 ns3 e3 a3 S3 r3=>by
  cases r2;cases r3;obtain⟨r1',hn⟩:=r1.drop;have r4:=(r1'.stp S1 a2 hn).stp S2 a3 hn;try dsimp only
  split
  .rename_i v q;have rr:=r4.sh S3 q;refine BvR.po S3 (G6 hl (G6 a1.len (G6 a2.len a3.len))) ?_;unfold aSl;split
   .rename_i xs;obtain⟨ds,rfl,q1⟩:=rr.tup;split
    .trivial
    .rename_i hne;refine⟨_,by unfold gSl;dsimp only;rw[if_neg (by rw[q1.len];exact hne)],.tup ?_⟩;unfold L2.cutD fS;rw[q1.len];exact (q1.drop _).take _
   .rename_i xs;obtain⟨n,ds,rfl,_,e1,q1⟩:=rr.lst;refine⟨.lst (L2.cutD ds lo hi),by unfold gSl;dsimp only;rw[e1],trivial,.lst ?_⟩;unfold L2.cutD fS;rw[q1.len];exact (q1.drop _).take _
   .rename_i xs;have key:∃ds,gSl d lo hi h3=.ok (.ref h3.length) (h3++[.lst (L2.cutD ds lo hi)])/\Rds (Oc X ns3) h3 ds xs:=by
     rcases rr with rr |⟨n,o,rfl,e,rr⟩
     .cases rr with
      |kl q1=>exact⟨_,rfl,q1⟩
      |cell p e rc=>cases rc with |fz q1=>exact⟨_,by unfold gSl aJ;dsimp only;rw[e],q1⟩
     .cases rr with |fz q1=>exact⟨_,by unfold gSl aJ;dsimp only;rw[e],q1⟩
    obtain⟨ds,e1,q1⟩:=key;refine⟨.lst (L2.cutD ds lo hi),e1,trivial,.lst ?_⟩;unfold L2.cutD fS;rw[q1.len];exact (q1.drop _).take _
   .trivial
  .trivial
def ke:Val->List Val->Option (Val×Val):=λu vs=>match u,vs with
 |.lst xs,[v]=>if xs.length<16777216 then some (.lst (xs++[v]),.non) else none
 |_,_=>none
section
variable{P:Nat->Prop}{h:AH}
def wX(e:h[n]?=some o)(r:Rc P h o (.lst xs)):jk h (.ref n)=true/\∃ds,h[n]?=some (.lst ds)/\Rds P h ds xs/\∀f,jl h (.ref n) f=f n ds:=by obtain⟨ds,e1,e2,q⟩:=Rc.seq e r;refine⟨by show (aJ h n).isSome=true;rw[e2];rfl,ds,e1,q,λf=>?_⟩;unfold jl;dsimp only;rw[e1]
def rds1(r:Rds P h ds [v]):∃d,ds=[d]/\Rd P h d v:=by cases r with |cons r rr=>cases rr;exact⟨_,rfl,r⟩
end
def rM:RM g8 ke:=λP h n o u ds vs u' v e hf r rs q=>by
 unfold ke at q;split at q
 .split at q
  .rename_i hl;cases q;obtain⟨q1,es,q2,q3,q4⟩:=wX e r;obtain⟨d,rfl,rd⟩:=rds1 rs;refine⟨q1,.lst (es++[d]),.non,?_,trivial,.lst (q3.append (.cons rd .nil)),.non⟩;unfold g8;rw[q4];dsimp only;rw[if_pos (by rw[q3.len];exact hl)]
  .cases q
 .cases q
noncomputable def sL:Val->Val->Val->Option Val:=λu i v=>match u,i with
 |.lst xs,.int k=>(match ixN xs.length k with
  |some j=>some (.lst (xs.set j v))
  |none=>none)
 |_,_=>none
def Bn:pS wL sL:=λP h n o u di vi d v u' _ e hf r ri rd q=>by
 unfold sL at q;split at q
 .split at q
  .rename_i j hj;cases q;obtain⟨q1,es,q2,q3,q4⟩:=wX e r;obtain rfl:=ri.int;refine⟨.lst (es.set j d),?_,trivial,.lst (q3.set rd j)⟩;unfold wL;dsimp only;rw[q2];dsimp only;rw[q3.len,hj]
  .cases q
 .cases q
structure PEx where
 F:ME
 G:ME3
 ok:RE F G
structure PTs where
 F:MT
 G:MT3
 ok:RT F G
structure PAs where
 F:MA
 G:MA3
 ok:RA F G
structure PSt where
 F:MS
 G:MS3
 ok:RS F G
structure PGt where
 F:MG
 G:MG3
 ok:RG F G
structure PGs where
 F:MGs
 G:gb
 ok:RGs F G
structure PIt where
 F:MI
 G:MI3
 ok:RI F G
structure POp where
 F:MO
 G:MO3
 ok:ROp F G
structure PO2 where
 F:D->D->AH->R D
 G:Val->Val->Bv
 ok:RO F G
structure PU1 where
 F:D->AH->R D
 G:Val->Bv
 ok:RU F G
structure PBf where
 F:Fn
 G:List Val->Bv
 ok:RFn F G
structure PMm where
 F:D->List D->AH->R D
 G:Val->List Val->Option (Val×Val)
 ok:RM F G
structure PSe where
 F:D->D->D->AH->R Unit
 G:Val->Val->Val->Option Val
 ok:pS F G
structure PFn where
 ms:List Bool
 F:Fn
 G:Fn3
 ok:RF ms F G
structure PFx(ms:List Bool) where
 F:Fn
 G:Fn3
 ok:RF ms F G
noncomputable section
noncomputable def PFx.fn{ms:List Bool}(p:PFx ms):PFn:=⟨ms,p.F,p.G,p.ok⟩
noncomputable def af(i:Nat):PEx:=⟨cw i,wM i,C1 i⟩
noncomputable def ah(i:Int):PEx:=⟨eC (.int i),vC (.int i),nL λ_ _=>.int i⟩
noncomputable def pBl(i:Bool):PEx:=⟨eC (.bl i),vC (.bl i),nL λ_ _=>.bl i⟩
noncomputable def ck(i:Str):PEx:=⟨eC (.str i),vC (.str i),nL λ_ _=>.str i⟩
def iI:PEx:=⟨eC .non,vC .non,nL λ_ _=>.non⟩
noncomputable def pTy(i:String):PEx:=⟨eC (.ty i),vC (.ty i),nL λ_ _=>.ty i⟩
noncomputable def pUn(o:PU1)(a:PEx):PEx:=⟨eUn o.F a.F,vUn o.G a.G,EN o.ok a.ok⟩
noncomputable def pOp(o:PO2)(a b:PEx):PEx:=⟨eOp o.F a.F b.F,vOp o.G a.G b.G,FV o.ok a.ok b.ok⟩
noncomputable def ag:PAs:=⟨j8,vNil,Ba⟩
noncomputable def aa(a:PEx)(r:PAs):PAs:=⟨g6 a.F r.F,xE a.G r.G,zG a.ok r.ok⟩
noncomputable def pFn(o:PBf)(a:PAs):PEx:=⟨eFn o.F a.F,vFn o.G a.G,FH o.ok a.ok⟩
noncomputable def bN(a:PAs):PEx:=⟨eFn jG a.F,vTup a.G,BX a.ok⟩
noncomputable def gz(a:PAs):PEx:=⟨eFn cm a.F,vLst a.G,Dw a.ok⟩
noncomputable def kj(a b:PEx):PEx:=⟨uk a.F b.F,vAnd a.G b.G,D2 a.ok b.ok⟩
noncomputable def nK(a:PEx):PEx:=⟨wQ a.F,vNot a.G,DR a.ok⟩
noncomputable def qOf(a:PEx):PTs:=⟨tOf a.F,cOf a.G,ET a.ok⟩
noncomputable def qAn(a b:PTs):PTs:=⟨tAn a.F b.F,cAn a.G b.G,EU a.ok b.ok⟩
noncomputable def qO(a b:PTs):PTs:=⟨tO a.F b.F,cO a.G b.G,rt_o a.ok b.ok⟩
noncomputable def qNo(a:PTs):PTs:=⟨tNo a.F,cNo a.G,Gv a.ok⟩
noncomputable def qY:PTs:=⟨tY,cY,rt_y⟩
noncomputable def xNx:PSt:=⟨sNx,wNx,Gj⟩
noncomputable def aB(a:PEx):PSt:=⟨ux a.F,wRet a.G,Au a.ok⟩
noncomputable def ic(a:PEx):PSt:=⟨pH a.F,xb a.G,zf a.ok⟩
noncomputable def aq(a b:PSt):PSt:=⟨wm a.F b.F,wSeq a.G b.G,DH a.ok b.ok⟩
noncomputable def xIf(c:PTs)(a b:PSt):PSt:=⟨sIf c.F a.F b.F,wIf c.G a.G b.G,Fp c.ok a.ok b.ok⟩
noncomputable def aQ(o:Bool)(i:Nat)(a:PEx):PSt:=⟨eA a.F (gN i),wAsg o i a.G,Cz o i a.ok⟩
noncomputable def gtN(i:Nat):PGt:=⟨gN i,pN i,uQ i⟩
noncomputable def bR:PGs:=⟨gsN,psN,EV⟩
noncomputable def aC(a:PGt)(b:PGs):PGs:=⟨gsC a.F b.F,psC a.G b.G,GB a.ok b.ok⟩
noncomputable def gtT(n:Nat)(a:PGs):PGt:=⟨gT λds ae h=>if ds.length=n then a.F ds ae h else .stuck,pT n a.G,rg_t n a.ok⟩
noncomputable def gtX(a:PGt):PGt:=⟨λd ae h=>noX (a.F d ae h),a.G,BF a.ok⟩
noncomputable def gf(a:PEx)(g:PGt):PSt:=⟨eA a.F g.F,w9 a.G g.G,zO a.ok g.ok⟩
noncomputable def gv(i j:Nat)(a:PAs):PSt:=⟨vD i j a.F,wPar i j a.G,DY i j a.ok⟩
noncomputable def jr(c:Str)(a:PAs):PSt:=⟨mq c a.F,sZ c a.G,wV c a.ok⟩
noncomputable def iO(i:Nat)(w:PSe)(k a:PEx):PSt:=⟨eA a.F (gS (cw i) k.F w.F),wSet i k.G a.G w.G,A2 i w.ok k.ok a.ok⟩
noncomputable def qZ(i:Nat)(m:PMm)(a:PAs):PEx:=⟨eM m.F (cw i) a.F,uv i m.G a.G,Dm i m.ok a.ok⟩
noncomputable def cZ(a:PEx):PIt:=⟨vL a.F,xi a.G,C0 a.ok⟩
def f9(a:PAs):PIt:=⟨vn a.F,wa c9 a.G,AD a.ok⟩
def fC(i:PIt)(g:PGt)(b:PSt):PSt:=⟨vc i.F g.F b.F,wFor i.G g.G b.G,B0 i.ok g.ok b.ok⟩
def xWh(c:PTs)(b:PSt):PSt:=⟨sWh c.F b.F,wWh c.G b.G,Ga c.ok b.ok⟩
def pLC(i:PIt)(sub:Jr)(hs:(sub.filterMap id).Nodup)(g:PGt)(c:PTs)(a:PEx):PEx:=⟨eLC i.F sub g.F c.F a.F,vLC i.G sub g.G c.G a.G,F4 hs i.ok g.ok c.ok a.ok⟩
noncomputable def ai(f:PFn)(a:PAs):PEx:=⟨qy f.ms.length f.F a.F,xI f.ms f.G a.G,yn rfl f.ok a.ok⟩
noncomputable def oN:POp:=⟨pZ,sF,yy⟩
noncomputable def oS(a:PEx):POp:=⟨qh a.F,tZ a.G,zD a.ok⟩
noncomputable def pSl(a:PEx)(l u:POp):PEx:=⟨eSl a.F l.F u.F,vSl a.G l.G u.G,Fh a.ok l.ok u.ok⟩
noncomputable def fnP(ms:List Bool)(N:Nat)(c:PSt):PFn:=⟨ms,fnD N c.F,fnV ms N c.G,FZ c.ok⟩
noncomputable def bw:PO2:=⟨pR,uX,Dn⟩
def pV:PO2:=⟨vd,aMin,Df⟩
def aO:PO2:=⟨uZ,rz,BB⟩
def dC:PO2:=⟨vb,pP,AN⟩
def bu:PO2:=⟨vY,rm,Dq⟩
def kd:PO2:=⟨vX,rf,Dl⟩
noncomputable def bLt:PO2:=⟨gLt,aLt,E6⟩
noncomputable def bGt:PO2:=⟨gGt,aGt,F8⟩
noncomputable def bGe:PO2:=⟨gGe,aGe,Gx⟩
noncomputable def bIx:PO2:=⟨gIx,aIx,FE⟩
noncomputable def bEq:PO2:=⟨gEq false,aEq false,xx false⟩
noncomputable def bNe:PO2:=⟨gEq true,aEq true,xx true⟩
noncomputable def bIs:PO2:=⟨nC false,uK false,B6 false⟩
noncomputable def nq:PU1:=⟨pK,wU,Bu⟩
noncomputable def eR:PBf:=⟨nN,uw,CM⟩
noncomputable def jf:PBf:=⟨pG,uB,AV⟩
noncomputable def lV:PBf:=⟨mS,vA,Eu⟩
noncomputable def jF:PBf:=⟨jO,pL,zp⟩
noncomputable def cX(kt:fN):PBf:=⟨nJ kt,uY kt,BM kt⟩
noncomputable def fW:PMm:=⟨g8,ke,rM⟩
noncomputable def seL:PSe:=⟨wL,sL,Bn⟩
end
theorem kB:∀(ns:List Int),Rds P h (ns.map D.int) (ns.map Val.int)
 | []=>.nil
 |_::r=>.cons (.int _) (kB r)
def law3(p:PFn)(hm:p.ms=[false])(hG:∀ns:List Int,ns.length<=63->p.G [.kl (ns.map .int)]=.ok (.val (.bl true)) [])(d:D)(h:AH)(ns:List Int)(hl:ns.length<=63)(sc:Script h d ns):∃h',p.F [d] h=.ok (.bl true) h':=by
 have hp:=p.ok;rw[hm] at hp;have rd:Rd (Oc (λ_=>False) [none]) h d (.kl (ns.map .int)):=by
  rcases sc.form with ⟨n,rfl,e⟩ |rfl
  .exact .cell ⟨λz=>z,by simp⟩ e (.fz (kB ns))
  .exact .kl (kB ns)
 have S:Sat (λ_=>False) h.length [none] (sls [false] [.kl (ns.map .int)]) ([d].map some) h:=by
  refine⟨rfl,rfl,y_ _,λ_ z=>z.elim,λi j n q=>?_,λi n q z=>z,λi s q=>?_⟩
  .cases i with
   |zero=>simp at q
   |succ i=>simp at q
  .cases i with
   |
    zero=>
    have:sl1 false (.kl (ns.map .int))=s:=by simpa [sls] using q
    subst this;exact⟨rfl,d,rfl,rd⟩
   |succ i=>simp [sls] at q
 have:=hp _ _ [d] [.kl (ns.map .int)] h rfl S
 rw[hG ns hl] at this;obtain⟨d',h',e,_,_,r⟩:=this;cases r with
 |bl=>exact⟨h',e⟩
 |cell p e r=>cases r
section
variable(e:E3)
@[simp] theorem dM(a:α)(f:α->E3->R3 β):(R3.ok a e).bind f=f a e:=rfl
@[simp] theorem Gp(a:α)(f:α->E3->SR3):(R3.ok a e).toS f=f a e:=rfl
@[simp] theorem E1(f:E3->SR3):(SR3.nx e).then f=f e:=rfl
@[simp] theorem FJ(r:Rt)(f:E3->SR3):(SR3.rt r e).then f=.rt r e:=rfl
@[simp] theorem lU(f:E3->SR3):(SR3.nx e).loop f=f e:=rfl
@[simp] theorem xp(f:E3->SR3):(SR3.ct e).loop f=f e:=rfl
@[simp] theorem Ex(r:SR3):r.unl none=r:=by cases r <;> rfl
@[simp] theorem wb:lockO e none=e:=rfl
@[simp] theorem vH(k:Nat):lockO e (some k)=lock e k:=rfl
@[simp] theorem pI:cE e none=e:=rfl
@[simp] theorem pE(k:Nat):cE e (some k)=unlock e k:=rfl
@[simp] theorem Bj(v:Val):(Bv.val v).at e=.ok (.val v) e:=rfl
@[simp] theorem DZ(v:Val):(Bv.new v).at e=.ok (.new v) e:=rfl
@[simp] theorem BQ(v:Val):rs e (.val v)=some v:=rfl
@[simp] theorem Dp(v:Val):rs e (.new v)=some v:=rfl
@[simp] theorem BI(i:Nat):rs e (.bor i)=(e[i]?).bind Sl.val:=rfl
@[simp] theorem Ek(v:Val):(Tm.val v).drop=.val v:=rfl
@[simp] theorem DP(v:Val):(Tm.new v).drop=.val v:=rfl
@[simp] theorem D9(i:Nat):(Tm.bor i).drop=.bor i:=rfl
@[simp] theorem zA:rss e []=some []:=rfl
@[simp] theorem wz(t:Tm)(ts:List Tm):rss e (t::ts)=match rs e t,rss e ts with
 |some v,some vs=>some (v::vs)
 |_,_=>none:=rfl
@[simp] theorem AO(v:Val):bC e (.val v)=some (e,v):=rfl
@[simp] theorem DV(v:Val):bC e (.new v)=some (e,v):=rfl
@[simp] theorem Ec:dem e []=some (e,[]):=rfl
@[simp] theorem yI(t:Tm)(ts:List Tm):dem e (t::ts)=match bC e t with
 |some (e1,v)=>match dem e1 ts with
  |some (e2,vs)=>some (e2,v::vs)
  |none=>none
 |none=>none:=rfl
@[simp] theorem Dj(b:Bool):bOf (some (.bl b))=some b:=rfl
@[simp] theorem GN(i:Nat):(af i).G e=match e[i]? with
 |some (.sh v)=>.ok (.val v) e
 |some .no=>.stuck
 |some _=>.ok (.bor i) e
 |none=>.stuck:=rfl
@[simp] theorem GA(i:Int):(ah i).G e=.ok (.val (.int i)) e:=rfl
@[simp] theorem v_bl(i:Bool):(pBl i).G e=.ok (.val (.bl i)) e:=rfl
@[simp] theorem Ew(i:Str):(ck i).G e=.ok (.val (.str i)) e:=rfl
@[simp] theorem Ft:iI.G e=.ok (.val .non) e:=rfl
@[simp] theorem v_ty(i:String):(pTy i).G e=.ok (.val (.ty i)) e:=rfl
@[simp] theorem v_un(o:PU1)(a:PEx):(pUn o a).G e=(a.G e).bind λt e1=>match rs e1 t with
 |some v=>(o.G v).at e1
 |none=>.stuck:=rfl
@[simp] theorem v_op(o:PO2)(a b:PEx):(pOp o a b).G e=(a.G e).bind λt1 e1=>(b.G e1).bind λt2 e2=>match rs e2 t1.drop,rs e2 t2 with
 |some v1,some v2=>(o.G v1 v2).at e2
 |_,_=>.stuck:=rfl
@[simp] theorem Gu:ag.G e=.ok [] e:=rfl
@[simp] theorem El(a:PEx)(r:PAs):(aa a r).G e=(a.G e).bind λt e1=>(r.G e1).bind λts e2=>.ok (t.drop::ts) e2:=rfl
@[simp] theorem v_fn(o:PBf)(a:PAs):(pFn o a).G e=(a.G e).bind λts e1=>match rss e1 ts with
 |some vs=>(o.G vs).at e1
 |none=>.stuck:=rfl
@[simp] theorem Fl(a:PAs):(bN a).G e=(a.G e).bind λts e1=>match dem e1 ts with
 |some (e2,vs)=>if vs.length<=16777216 then .ok (.val (.tup vs)) e2 else .stuck
 |none=>.stuck:=rfl
@[simp] theorem GF(a:PAs):(gz a).G e=(a.G e).bind λts e1=>match dem e1 ts with
 |some (e2,vs)=>if vs.length<=16777216 then .ok (.new (.lst vs)) e2 else .stuck
 |none=>.stuck:=rfl
@[simp] theorem E5(a b:PEx):(kj a b).G e=(a.G e).bind λt e1=>match bOf (rs e1 t) with
 |some true=>b.G e1
 |some false=>.ok (.val (.bl false)) e1
 |none=>.stuck:=rfl
@[simp] theorem Gw(a:PEx):(nK a).G e=(a.G e).bind λt e1=>match bOf (rs e1 t) with
 |some b=>.ok (.val (.bl (!b))) e1
 |none=>.stuck:=rfl
@[simp] theorem c_of(a:PEx):(qOf a).G e=(a.G e).bind λt e1=>match bOf (rs e1 t) with
 |some b=>.ok b e1
 |none=>.stuck:=rfl
@[simp] theorem c_an(a b:PTs):(qAn a b).G e=(a.G e).bind λk e1=>if k=true then b.G e1 else .ok false e1:=rfl
@[simp] theorem c_o(a b:PTs):(qO a b).G e=(a.G e).bind λk e1=>if k=true then .ok true e1 else b.G e1:=rfl
@[simp] theorem c_no(a:PTs):(qNo a).G e=(a.G e).bind λk e1=>.ok (!k) e1:=rfl
@[simp] theorem c_y:qY.G e=.ok true e:=rfl
@[simp] theorem x_nx:xNx.G e=.nx e:=rfl
@[simp] theorem Gb(a:PEx):(aB a).G e=(a.G e).toS l8:=rfl
@[simp] theorem zY(v:Val):l8 (.val v) e=.rt (.val v) e:=rfl
@[simp] theorem yj(v:Val):l8 (.new v) e=.rt (.new v) e:=rfl
@[simp] theorem Er(a:PEx):(ic a).G e=(a.G e).toS λ_ e1=>.nx e1:=rfl
@[simp] theorem xm(a b:PSt):(aq a b).G e=(a.G e).then b.G:=rfl
@[simp] theorem x_if(c:PTs)(a b:PSt):(xIf c a b).G e=(c.G e).toS λk e1=>if k=true then a.G e1 else b.G e1:=rfl
@[simp] theorem Ez(o:Bool)(i:Nat)(a:PEx):(aQ o i a).G e=(a.G e).toS (eX o i):=rfl
@[simp] theorem GL:Sl.no.pl=true:=rfl
@[simp] theorem Gd(v:Val):(Sl.sh v).pl=true:=rfl
@[simp] theorem xY(o:Bool)(i:Nat)(v:Val):eX o i (.val v) e=match e[i]? with
 |some s0=>if s0.pl=true then .nx (e.set i (.sh v)) else .stuck
 |none=>.stuck:=by unfold eX;rfl
@[simp] theorem wx(i:Nat)(v:Val):eX true i (.new v) e=match e[i]? with
 |some s0=>if s0.pl=true then .nx (e.set i (.ow v)) else .stuck
 |none=>.stuck:=by unfold eX;rfl
@[simp] theorem uG(i:Nat)(v:Val):eX false i (.new v) e=match e[i]? with
 |some s0=>if s0.pl=true then .nx (e.set i (.sh v)) else .stuck
 |none=>.stuck:=by unfold eX;rfl
@[simp] theorem g_n(i:Nat)(v:Val):(gtN i).G v e=match e[i]? with
 |some s=>if s.pl=true then some (e.set i (.sh v)) else none
 |none=>none:=rfl
@[simp] theorem g_sn:bR.G [] e=some e:=rfl
@[simp] theorem g_sc(a:PGt)(b:PGs)(v:Val)(vs:List Val):(aC a b).G (v::vs) e=(a.G v e).bind λe1=>b.G vs e1:=rfl
@[simp] theorem g_t(n:Nat)(a:PGs)(vs:List Val):(gtT n a).G (.tup vs) e=if vs.length=n then a.G vs e else none:=rfl
@[simp] theorem g_x(a:PGt)(v:Val):(gtX a).G v e=a.G v e:=rfl
@[simp] theorem A5(a:PEx)(g:PGt):(gf a g).G e=(a.G e).toS λt e1=>match bC e1 t with
 |some (e2,v)=>match g.G v e2 with
  |some e3=>.nx e3
  |none=>.stuck
 |none=>.stuck:=rfl
@[simp] theorem ED(i j:Nat)(a:PAs):(gv i j a).G e=(a.G e).toS λts e1=>match dem e1 ts with
 |some (e2,[v,u])=>match (pN i v e2).bind (pN j u) with
  |some e3=>.nx e3
  |none=>.stuck
 |_=>.stuck:=rfl
@[simp] theorem FG(i:Nat)(v:Val):pN i v e=match e[i]? with
 |some s=>if s.pl=true then some (e.set i (.sh v)) else none
 |none=>none:=rfl
@[simp] theorem zE(c:Str)(a:PAs):(jr c a).G e=(a.G e).toS λts e1=>if ts.length<=16777216 then .exc c e1 else .stuck:=rfl
@[simp] theorem F6(i:Nat)(w:PSe)(k a:PEx):(iO i w k a).G e=(a.G e).toS λt e1=>match (e1[i]?).bind Sl.mv with
 |none=>.stuck
 |some _=>(k.G e1).toS λt2 e2=>match rs e2 t2 with
  |none=>.stuck
  |some vi=>match bC e2 t.drop with
   |none=>.stuck
   |some (e3,v)=>match e3[i]? with
    |none=>.stuck
    |some s=>match s.mv with
     |none=>.stuck
     |some u=>match w.G u vi v with
      |some u'=>.nx (e3.set i (s.re u'))
      |none=>.stuck:=rfl
@[simp] theorem Fx(v:Val):(Sl.ow v).mv=some v:=rfl
@[simp] theorem E8(v:Val):(Sl.mu v).mv=some v:=rfl
@[simp] theorem FR(v u:Val):(Sl.ow v).re u=.ow u:=rfl
@[simp] theorem Gi(v u:Val):(Sl.mu v).re u=.mu u:=rfl
@[simp] theorem AL(v:Val):(Sl.ow v).val=some v:=rfl
@[simp] theorem DJ(v:Val):(Sl.mu v).val=some v:=rfl
@[simp] theorem Fj(i:Nat)(m:PMm)(a:PAs):(qZ i m a).G e=match e[i]? with
 |some s=>if (s.mv.map uo)=some true then (a.G e).bind λts e1=>match dem e1 ts with
  |some (e2,vs)=>match e2[i]? with
   |some s2=>match s2.mv with
    |some u=>match m.G u vs with
     |some (u',v)=>.ok (.val v) (e2.set i (s2.re u'))
     |none=>.stuck
    |none=>.stuck
   |none=>.stuck
  |none=>.stuck else .stuck
 |none=>.stuck:=rfl
@[simp] theorem vW(xs:List Val):uo (.lst xs)=true:=rfl
@[simp] theorem GR(a:PEx):(cZ a).G e=(a.G e).bind λt e1=>match gp t e1 with
 |some p=>.ok p e1
 |none=>.stuck:=rfl
@[simp] theorem Az(v:Val):gp (.val v) e=(c7 v).map λxs=>(xs,none):=rfl
@[simp] theorem Bl(v:Val):gp (.new v) e=(c7 v).map λxs=>(xs,none):=rfl
@[simp] theorem D6(k:Nat):gp (.bor k) e=match e[k]? with
 |some (.sh v)=>(c7 v).map λxs=>(xs,none)
 |some (.ow (.lst xs))=>some (xs,some k)
 |some (.mu (.lst xs))=>some (xs,some k)
 |_=>none:=rfl
@[simp] theorem C9(xs:List Val):c7 (.tup xs)=some xs:=rfl
@[simp] theorem BS(xs:List Val):c7 (.lst xs)=some xs:=rfl
@[simp] theorem G0(a:PAs):(f9 a).G e=(a.G e).bind λts e1=>match (rss e1 ts).bind c9 with
 |some xs=>.ok (xs,none) e1
 |none=>.stuck:=rfl
@[simp] theorem GX(i:PIt)(g:PGt)(b:PSt):(fC i g b).G e=(i.G e).toS λp e1=>(cM g.G b.G p.1 (lockO e1 p.2)).unl p.2:=rfl
@[simp] theorem Ae(g:MG3)(B:MS3):cM g B [] e=.nx e:=rfl
theorem et(g:MG3)(B:MS3)(v:Val)(vs:List Val):cM g B (v::vs) e=match g v e with
 |some e1=>(B e1).loop (cM g B vs)
 |none=>.stuck:=rfl
def qf(c:PTs)(b:PSt):(xWh c b).G e=(c.G e).toS λk e1=>if k=true then (b.G e1).loop (xWh c b).G else .nx e1:=uP c.G b.G e
@[simp] theorem v_lc(i:PIt)(sub:Jr)(hs:(sub.filterMap id).Nodup)(g:PGt)(c:PTs)(a:PEx):(pLC i sub hs g c a).G e=(i.G e).bind λp e1=>match lcV g.G c.G a.G p.1 [] (bL sub (lockO e1 p.2)) with
 |.ok ys e2=>if ys.length<=16777216 then .ok (.new (.lst ys)) (cE (aN sub e2 (lockO e1 p.2)) p.2) else .stuck
 |_=>.stuck:=rfl
@[simp] theorem Br(f:PFn)(a:PAs):(ai f a).G e=(a.G e).bind λts e1=>match rss e1 ts with
 |none=>.stuck
 |some vs=>if okA e1 f.ms ts=true then (match f.G vs with
  |.stuck=>.stuck
  |.ok r mv=>if (aE e1 f.ms ts).isEmpty || (ib r&&mv.all flatC) then .ok (r.tm ts) (aN (aS f.ms ts) (aA f.ms mv) e1) else (match kA e1 (aE e1 f.ms ts) with
   |some e2=>.ok (r.tm ts) (aN (aS f.ms ts) (aA f.ms mv) e2)
   |none=>.stuck)
  |.exc c mv=>if (aE e1 f.ms ts).isEmpty || mv.all flatC then .exc c (aN (aS f.ms ts) (aA f.ms mv) e1) else .stuck) else .stuck:=rfl
@[simp] theorem B2(ts:List Tm)(v:Val):(Rt.val v).tm ts=.val v:=rfl
@[simp] theorem AB(ts:List Tm)(v:Val):(Rt.new v).tm ts=.new v:=rfl
@[simp] theorem o_n:oN.G e=.ok none e:=rfl
@[simp] theorem o_s(a:PEx):(oS a).G e=(a.G e).bind λt e1=>match rs e1 t with
 |some (.int i)=>.ok (some i) e1
 |_=>.stuck:=rfl
@[simp] theorem v_sl(a:PEx)(l u:POp):(pSl a l u).G e=(a.G e).bind λt e1=>(l.G e1).bind λlo e2=>(u.G e2).bind λhi e3=>match rs e3 t.drop with
 |some v=>(aSl v lo hi).at e3
 |none=>.stuck:=rfl
theorem aY(ms:List Bool)(N:Nat)(c:PSt)(vs:List Val):(fnP ms N c).G vs=if vs.length=ms.length then (match c.G (sls ms vs++List.replicate (N-vs.length) .no) with
 |.nx e=>(match muV ms e with |some mv=>.ok (.val .non) mv |none=>.stuck)
 |.rt r e=>(match muV ms e with |some mv=>.ok r mv |none=>.stuck)
 |.exc c e=>(match muV ms e with |some mv=>.exc c mv |none=>.stuck)
 |_=>.stuck) else .stuck:=rfl
end
@[simp] theorem GU(i j:Int):bw.G (.int i) (.int j)=.val (.int (i+j)):=rfl
@[simp] theorem EE(i j:Int):pV.G (.int i) (.int j)=.val (.int (i-j)):=rfl
@[simp] theorem k_lt(i j:Int):bLt.G (.int i) (.int j)=.val (.bl (decide (i<j))):=rfl
@[simp] theorem k_gt(i j:Int):bGt.G (.int i) (.int j)=.val (.bl (decide (j<i))):=rfl
@[simp] theorem k_ge(i j:Int):bGe.G (.int i) (.int j)=.val (.bl (decide (j<=i))):=rfl
@[simp] theorem EM(i:Int):nq.G (.int i)=.val (.int (-i)):=rfl
def aW(c:CMulA i j):aO.G (.int i) (.int j)=.val (.int (i*j)):=by show rz (.int i) (.int j)=_;unfold rz aIc;dsimp only;rw[if_pos c]
def fP(c:CDivB i j):dC.G (.int i) (.int j)=.val (.int (i.fdiv j)):=by show pP (.int i) (.int j)=_;unfold pP aIc;dsimp only;rw[if_pos c]
def dk(c:j≠0):bu.G (.int i) (.int j)=.val (.int (i.fmod j)):=by show rm (.int i) (.int j)=_;unfold rm aIc;dsimp only;rw[if_pos c]
def xF(c:j5 i j):kd.G (.int i) (.int j)=.val (.int (i^j.toNat)):=by show rf (.int i) (.int j)=_;unfold rf aIc;dsimp only;rw[if_pos c]
@[simp] theorem k_ix(x:Val)(i:Int):bIx.G x (.int i)=match x.items with
 |some xs=>(match atI xs i with
  |some v=>.val v
  |none=>.stuck)
 |none=>.stuck:=by show aIx x (.int i)=_;unfold aIx;cases x.items <;> rfl
@[simp] theorem BJ(xs:List Val):(Val.tup xs).items=some xs:=rfl
@[simp] theorem Cn(xs:List Val):(Val.lst xs).items=some xs:=rfl
@[simp] theorem k_eq(x y:Val):bEq.G x y=match cx x y with
 |some b=>.val (.bl b)
 |none=>.stuck:=by show aEq false x y=_;unfold aEq;cases cx x y <;> rfl
@[simp] theorem k_ne(x y:Val):bNe.G x y=match cx x y with
 |some b=>.val (.bl (!b))
 |none=>.stuck:=by show aEq true x y=_;unfold aEq;cases cx x y <;> rfl
@[simp] theorem Fz(x y:Int):cx (.int x) (.int y)=some (x==y):=rfl
@[simp] theorem k_is(x:Val):bIs.G x .non=match x with
 |.non=>.val (.bl true)
 |_=>.val (.bl false):=by cases x <;> rfl
@[simp] theorem GZ(v:Val):eR.G [v]=match v.items with
 |some xs=>.val (.int xs.length)
 |none=>(match v with
  |.str z=>if z.length<=16777216 then .val (.int z.length) else .stuck
  |_=>.stuck):=rfl
@[simp] theorem GQ(i:Int):jf.G [.int i]=.val (.int (if i<0 then -i else i)):=rfl
@[simp] theorem GS(xs:List Val):lV.G [.lst xs]=match gD xs with
 |some bs=>.val (.bl (bs.all id))
 |none=>.stuck:=rfl
@[simp] theorem Es(v:Val):jF.G [v]=match v.items with
 |some xs=>.new (.lst xs)
 |none=>.stuck:=rfl
@[simp] theorem uS(xs:List Val)(v:Val):fW.G (.lst xs) [v]=if xs.length<16777216 then some (.lst (xs++[v]),.non) else none:=rfl
section
variable(K:W.Frag)(mg:Jo)(X:Cx)(ES:L2.St->XK)
@[irreducible] def DE(e:Expr)(F:ME):Prop:=L2.DE K mg X ES e F
@[irreducible] def DT(e:Expr)(F:MT):Prop:=L2.DT K mg X ES e F
@[irreducible] def DA(es:List Expr)(F:MA):Prop:=L2.DA K mg X ES es F
@[irreducible] def DS(st:Stmt)(F:MS):Prop:=L2.DS K mg X ES st F
@[irreducible] def DSs(st:List Stmt)(F:MS):Prop:=L2.DSs K mg X ES st F
@[irreducible] def DI(tg a_:Expr)(F:MI):Prop:=L2.DI K mg X ES tg a_ F
end
section
variable{K:W.Frag}{mg:Jo}{X:Cx}{ES:L2.St->XK}{e a b c o i tg a_ f_:Expr}{es:List Expr}{st:Stmt}{sts sts':List Stmt}{p q:PEx}{A:PAs}{t u:PTs}{x y:PSt}{g:PGt}{gs:PGs}{I:PIt}{pos:Pos}
def mK(i:Nat){x:Str}(hN:X.N[i]?=some x:=by rfl)(hv:Vis X.env.scope x:=by first |exact Or.inl rfl |exact Or.inr (Or.inl rfl) |exact Or.inr (Or.inr rfl))(hd:(x==("__debug__" : Str))=false:=by decide)(p_:(x==("__classdict__" : Str))=false:=by decide):DE K mg X ES (.Name x pos) (af i).F:=by with_unfolding_all exact Cc i hN hv hd p_
def i9{i:Int}{j:Nat}:DE K mg X ES (.Constant (.int i) j pos) (ah i).F:=by with_unfolding_all exact Ax
def Gz{i:Bool}{j:Nat}:DE K mg X ES (.Constant (.bool i) j pos) (pBl i).F:=by with_unfolding_all exact F2
def BE:DE K mg X ES (.Constant .none j pos) iI.F:=by with_unfolding_all exact CC
def Aq{i:Str}{j:Nat}:DE K mg X ES (.Constant (.str i) j pos) (ck i).F:=by with_unfolding_all exact B9
def F1{x:Str}{n:String}(hg:Gl X x)(hm:mg x=none)(hv:bootBuiltins x=some (.type n))(he:X.mg=mg:=by rfl)(hn:x ≠ "__name__":=by decide)(hd:(x==("__debug__" : Str))=false:=by decide):DE K mg X ES (.Name x pos) (pTy n).F:=by with_unfolding_all exact Ge hg hm hv he hn hd
def Fq(ho:OpR X (binaryOp op) r')(hd:OpD K mg r' k.F)(ha:DE K mg X ES a p.F)(hb:DE K mg X ES b q.F):DE K mg X ES (.BinOp a op b pos) (pOp k p q).F:=by with_unfolding_all exact Gq ho hd ha hb
def FI(hr:IxR X r')(hd:OpD K mg r' k.F)(ha:DE K mg X ES a p.F)(hb:DE K mg X ES b q.F)(hs:kh b:=by exact λ_ _=>rfl):DE K mg X ES (.Subscript a b pos) (pOp k p q).F:=by with_unfolding_all exact E4 hr hd ha hb hs
def Bd(ho:OpR X (compareOp op) r')(hd:OpD K mg r' k.F)(ha:DE K mg X ES a p.F)(hb:DE K mg X ES b q.F)(hm:behindInMarks op b=false:=by first |exact ub _ |with_unfolding_all rfl):DE K mg X ES (.Compare a [op] [b] pos) (pOp k p q).F:=by with_unfolding_all exact B8 ho hd ha hb hm
def A9(ho:OpR X (compareOp op) r')(hd:OpD K mg r' k.F)(ha:DE K mg X ES a p.F)(hb:DE K mg X ES b q.F)(hm:behindInMarks op b=false:=by first |exact ub _ |with_unfolding_all rfl):DT K mg X ES (.Compare a [op] [b] pos) (qOf (pOp k p q)).F:=by with_unfolding_all exact Ar ho hd ha hb hm
def nz(ha:DE K mg X ES a p.F)(he:∀s_,isTrue a X.env s_=(do let v <- s_;standAt a.pos;holding [v] (truthy v)):=by intro _;rfl):DT K mg X ES a (qOf p).F:=by with_unfolding_all exact Cs ha he
def nS(ha:DT K mg X ES a t.F):DT K mg X ES (.UnaryOp .Not a pos) (qNo t).F:=by with_unfolding_all exact Cj ha
def zN(ha:DT K mg X ES a t.F):DW K mg X ES (.BoolOp .And [a] pos) t.F:=by with_unfolding_all exact zM ha
def Am(ha:DT K mg X ES a t.F):DW K mg X ES (.BoolOp .Or [a] pos) t.F:=by with_unfolding_all exact Dg ha
def AA(ha:DT K mg X ES a t.F)(hb:DW K mg X ES (.BoolOp .And (b::es) pos) u.F):DW K mg X ES (.BoolOp .And (a::b::es) pos) (qAn t u).F:=by with_unfolding_all exact AJ ha hb
def GW(ha:DT K mg X ES a t.F)(hb:DW K mg X ES (.BoolOp .Or (b::es) pos) u.F):DW K mg X ES (.BoolOp .Or (a::b::es) pos) (qO t u).F:=by with_unfolding_all exact Gn ha hb
def ZW.dt(h:DW K mg X ES a t.F):DT K mg X ES a t.F:=by with_unfolding_all exact DW.dt h
def zt_w{op}(h:DW K mg X ES (.BoolOp op es pos) t.F):DT K mg X ES (.BoolOp op es pos) t.F:=ZW.dt h
def Cq{op}(h:DE K mg X ES a p.F):DE K mg X ES (.BoolOp op [a] pos) p.F:=by with_unfolding_all exact DD h
def AQ(ha:DE K mg X ES a p.F)(hb:DE K mg X ES (.BoolOp .And (b::es) pos) q.F):DE K mg X ES (.BoolOp .And (a::b::es) pos) (kj p q).F:=by with_unfolding_all exact BN ha hb
def Ay(ha:DE K mg X ES a p.F):DE K mg X ES (.UnaryOp .Not a pos) (nK p).F:=by with_unfolding_all exact Ap ha
def FQ(ho:UnR X (unaryOp op) r')(hd:UnD K mg r' k.F)(ha:DE K mg X ES a p.F):DE K mg X ES (.UnaryOp op a pos) (pUn k p).F:=by with_unfolding_all exact GO ho hd ha
def tJ:DA K mg X ES [] ag.F:=by with_unfolding_all exact se
def fq(ha:DE K mg X ES e p.F)(hr:DA K mg X ES es A.F)(hs:starEach (e::es) X.env=(false,eval e X.env)::starEach es X.env:=by rfl):DA K mg X ES (e::es) (aa p A).F:=by with_unfolding_all exact o3 ha hr hs
def Co{x1}(h:DA K mg X ES es A.F):DE K mg X ES (.Tuple es x1 pos) (bN A).F:=by with_unfolding_all exact Av h
def C7(h:DA K mg X ES es A.F):DE K mg X ES (.List es pos) (gz A).F:=by with_unfolding_all exact BL h
def fG{id:String}{r':List V->Hp->VK->Prop}{k:PBf}{x:Str}{p0:Pos}(hc:CallR X (.builtin id) r')(hd:bK K mg r' k.F)(hg:Gl X x)(hm:mg x=none)(hv:bootBuiltins x=some (.builtin id))(ha:DA K mg X ES (e::es) A.F)(hk:X.mg=mg:=by rfl)(hn:x ≠ "__name__":=by decide)(hdb:(x==("__debug__" : Str))=false:=by decide)(he:starEach (e::es) X.env=(false,eval e X.env)::starEach es X.env:=by rfl)(hpl:(backTo pos (starEach es X.env)).any (·.1)=false:=by rfl):DE K mg X ES (.Call (.Name x p0) (e::es) [] pos) (pFn k A).F:=by with_unfolding_all exact wK hc hd hg hm hv ha hk hn hdb he hpl
def kH{id:String}{r':List V->Hp->VK->Prop}{k:PBf}{x:Str}{p0:Pos}(hc:CallR X (.type id) r')(hd:bK K mg r' k.F)(hg:Gl X x)(hm:mg x=none)(hv:bootBuiltins x=some (.type id))(ha:DA K mg X ES (e::es) A.F)(hk:X.mg=mg:=by rfl)(hn:x ≠ "__name__":=by decide)(hdb:(x==("__debug__" : Str))=false:=by decide)(he:starEach (e::es) X.env=(false,eval e X.env)::starEach es X.env:=by rfl)(hpl:(backTo pos (starEach es X.env)).any (·.1)=false:=by rfl):DE K mg X ES (.Call (.Name x p0) (e::es) [] pos) (pFn k A).F:=by with_unfolding_all exact rZ hc hd hg hm hv ha hk hn hdb he hpl
def vI{f:PFn}{x:Str}{p0:Pos}{k n:Nat}{ps:List Str}(C:Callee X.prog X.w X.K X.mg X.base x k ps (spD K mg n f.F))(hr:Room k X.A)(hg:Gl X x)(hx:g0 X ES)(ha:DA K mg X ES (e::es) A.F)(hn:f.ms.length=n)(hdb:(x==("__debug__" : Str))=false)(he:starEach (e::es) X.env=(false,eval e X.env)::starEach es X.env)(hpl:(backTo pos (starEach es X.env)).any (·.1)=false):DE K mg X ES (.Call (.Name x p0) (e::es) [] pos) (ai f A).F:=by subst hn;with_unfolding_all exact wB C hr hg hx ha hdb he hpl
def Ag:DSs K mg X ES [] xNx.F:=by with_unfolding_all exact zj
def gM(h1:DS K mg X ES st x.F):DSs K mg X ES [st] x.F:=by with_unfolding_all exact xV h1
def az(h1:DS K mg X ES st x.F)(h2:DSs K mg X ES sts y.F):DSs K mg X ES (st::sts) (aq x y).F:=by with_unfolding_all exact vE h1 h2
def jI(he:DE K mg X ES e p.F):DS K mg X ES (.Return (some e) pos) (aB p).F:=by with_unfolding_all exact CK he
def yP(he:DE K mg X ES e p.F)(hs:swapsWith e none pos.line X.env=pure false:=by rfl):DS K mg X ES (.Expr e pos) (ic p).F:=by with_unfolding_all exact zK he hs
def rl(hc:DT K mg X ES c t.F)(ha:DSs K mg X ES sts x.F)(hb:DSs K mg X ES sts' y.F):DS K mg X ES (.If c sts sts' pos) (xIf t x y).F:=by with_unfolding_all exact F7 hc ha hb
def zF{i:Nat}{x:Str}(hN:X.N.Nodup)(hi:X.N[i]?=some x)(hx:Loc X.env.scope x)(hf:X.fn x=true\/X.env.scope.names.lookup x=some .local):DG K mg X ES (.Name x pos) (gtN i).F:=ze hN hi hx hf
def Ac:DGs K mg X ES [] bR.F:=zk
def vN(h1:DG K mg X (λ_=>E0) e g.F)(h2:DGs K mg X (λ_=>E0) es gs.F)(hs:(assignEach (e::es) X.env).map (·.2)=assign e X.env::(assignEach es X.env).map (·.2):=by rfl):DGs K mg X (λ_=>E0) (e::es) (aC g gs).F:=wG h1 h2 hs
def AM(hK:X.K=K)(hc:X.calm=true)(h:DGs K mg X (λ_=>E0) es gs.F)(hn:(assignEach es X.env).length=n:=by rfl)(hst:(assignEach es X.env).findIdx? (·.1)=none:=by rfl):DG K mg X (λ_=>E0) (.Tuple es k pos) (gtT n gs).F:=Bw hK hc h hn hst
def ZG.weak(hg:DG K mg X (λ_=>E0) e g.F):DG K mg X ES e (gtX g).F:=DG.weak hg
def oW(he:DE K mg X ES e p.F)(hg:DG K mg X ES a g.F)(hs:swapsWithSole [a] e pos.line X.env=pure false:=by rfl)(hw:swappedStores [a] e X.env=pure none:=by rfl)(h1:(assignEach [a] X.env).map (·.2)=[assign a X.env]:=by rfl):DS K mg X ES (.Assign [a] e pos) (gf p g).F:=by with_unfolding_all exact tI he hg hs hw h1
def yN(he:DE K mg X ES e p.F)(ho:DE K mg X ES o (af j).F)(hi:DE K mg X ES i q.F)(hs':mz X r')(hd:kD K mg r' w.F)(hs:swapsWithSole [.Subscript o i p1] e pos.line X.env=pure false:=by rfl)(hw:swappedStores [.Subscript o i p1] e X.env=pure none:=by rfl)(h1:(assignEach [.Subscript o i p1] X.env).map (·.2)=[assign (.Subscript o i p1) X.env]:=by rfl)
 (ha:∀v,assign (.Subscript o i p1) X.env v=(do
  let ov <- holding [v] (eval o X.env)
  let iv <- holding [v,ov] (eval i X.env)
  standAt p1
  holding [v,ov,iv] (setItem ov iv v)
  release [v,ov,iv] []):=by intro _;rfl):DS K mg X ES (.Assign [.Subscript o i p1] e pos) (iO j w q p).F:=by with_unfolding_all exact tI he (Cy ho hi hs' hd ha) hs hw h1
def B4{ow:Bool}{i:Nat}{x:Str}{r_:Pos}(hN:X.N.Nodup)(hi:X.N[i]?=some x)(hx:Loc X.env.scope x)(he:DE K mg X ES e p.F)(hs:swapsWith e (some (.Name x r_)) pos.line X.env=pure false)(hf:X.fn x=true\/X.env.scope.names.lookup x=some .local):DS K mg X ES (.Assign [.Name x r_] e pos) (aQ ow i p).F:=by with_unfolding_all exact AF hN hi hx he hs hf
def BR{i j:Nat}{x y:Str}{px py pt:Pos}{kt k2 pt2}(hN:X.N.Nodup)(ha:DA K mg X ES [a,b] A.F)(hc:X.calm=true:=by rfl)(hi:X.N[i]?=some x:=by rfl)(hj:X.N[j]?=some y:=by rfl)(hij:i≠j:=by decide)(hx:X.env.scope.names.lookup x=some .local:=by rfl)(hy:X.env.scope.names.lookup y=some .local:=by rfl)(hw:swappedStores [.Tuple [.Name x px,.Name y py] kt pt] (.Tuple [a,b] k2 pt2) X.env=pure (some [x,y]):=by rfl)(hs:swapsWithSole [.Tuple [.Name x px,.Name y py] kt pt] (.Tuple [a,b] k2 pt2) pos.line X.env=pure false:=by rfl):DS K mg X ES (.Assign [.Tuple [.Name x px,.Name y py] kt pt] (.Tuple [a,b] k2 pt2) pos) (gv i j A).F:=by with_unfolding_all exact CT hc hN hi hj hij hx hy ha hw hs
def vK{x:Str}{C:Addr}{E:XK}{np cpos:Pos}(hc:X.calm=true)(hR:Rz X E)(hg:Gl X x)(hm:mg x=some (.ref C))(hq:W.excIn X.K C iK "ValueError.__new__"=true)(ha:DA K mg X (λ_=>E) (e::es) A.F)(hk:X.mg=mg:=by rfl)(he:starEach (e::es) X.env=(false,eval e X.env)::starEach es X.env:=by rfl)(j_:(backTo cpos (starEach es X.env)).any (·.1)=false:=by rfl)(hd:(x==("__debug__" : Str))=false:=by decide):DS K mg X (λ_=>E) (.Raise (some (.Call (.Name x np) (e::es) [] cpos)) none pos) (jr x A).F:=by with_unfolding_all exact vZ hc hR hg hm hq ha hk he j_ hd
def rV(hK:X.K=K)(he:DE K mg X ES e p.F):DI K mg X ES tg e (cZ p).F:=by with_unfolding_all exact Bm hK he
def rY(hg:Gl X "range")(hm:mg "range"=none)(ha:DA K mg X ES [a] A.F)(hk:X.mg=mg:=by rfl)(hs:starEach [a] X.env=[(false,eval a X.env)]:=by rfl):DI K mg X ES tg (.Call (.Name "range" p0) [a] [] pos) (f9 A).F:=by with_unfolding_all exact sJ hg hm ha hk hs
def nX(hp:PassesOwn (model X.prog X.w) X.A X.env X.xe)(hc:X.calm=true)(hi:DI K mg X ES tg a_ I.F)(hg:DG K mg X ES tg g.F)(hb:DSs K mg X ES sts x.F)(hs:∀x,foldedSetIterable a_ X.env x=pure x:=by intro _;rfl):DS K mg X ES (.For tg a_ sts [] pos) (fC I g x).F:=by with_unfolding_all exact CS hp hc hi hg hb hs
def uU(hp:PassesOwn (model X.prog X.w) X.A X.env X.xe)(hc:DT K mg X ES c t.F)(hb:DSs K mg X ES sts x.F):DS K mg X ES (.While c sts [] pos) (xWh t x).F:=by with_unfolding_all exact uC hp hc hb
def E2{scope:Scope}(M:List Str)(kn:List (Str×NameKind))(N:List Str)(sub:Jr){hsb:(sub.filterMap id).Nodup}(hc:X.calm=true)(hi:DI K mg X ES tg a_ I.F)(hg:∀cl C s₂ H fp,DG K mg (ao X N scope cl C s₂ H fp) (λ_=>E0) tg g.F)(he:∀cl C s₂ H fp,DE K mg (ao X N scope cl C s₂ H fp) (λ_=>E0) f_ p.F)(hM:X.N=M)(hkn:X.env.scope.names=kn)(e_:bH M scope.names sub N=true)(hk:scope.kind=.function)(n_:∀x∈scope.names,x.2 ≠ .cell)(b_:∀x∈scope.names,x.2=.local->scope.names.lookup x.1=some .local)(l_:cp kn scope.names=true)(o_:sub.length=N.length)(hs:∀x,foldedSetIterable a_ X.env x=pure x):DE K mg X ES (.ListComp f_ [⟨tg,a_,[],0⟩] scope pos) (pLC I sub hsb g qY p).F:=by with_unfolding_all exact EK M kn N sub hc hi hg he hM hkn e_ hk n_ b_ l_ o_ hs
def zT{scope:Scope}(M:List Str)(kn:List (Str×NameKind))(N:List Str)(sub:Jr){hsb:(sub.filterMap id).Nodup}(hc:X.calm=true)(hi:DI K mg X ES tg a_ I.F)(hg:∀cl C s₂ H fp,DG K mg (ao X N scope cl C s₂ H fp) (λ_=>E0) tg g.F)(ht:∀cl C s₂ H fp,DT K mg (ao X N scope cl C s₂ H fp) (λ_=>E0) c t.F)(he:∀cl C s₂ H fp,DE K mg (ao X N scope cl C s₂ H fp) (λ_=>E0) f_ p.F)(hM:X.N=M)(hkn:X.env.scope.names=kn)(e_:bH M scope.names sub N=true)(hk:scope.kind=.function)(n_:∀x∈scope.names,x.2 ≠ .cell)(b_:∀x∈scope.names,x.2=.local->scope.names.lookup x.1=some .local)(l_:cp kn scope.names=true)(o_:sub.length=N.length)(hs:∀x,foldedSetIterable a_ X.env x=pure x):DE K mg X ES (.ListComp f_ [⟨tg,a_,[c],0⟩] scope pos) (pLC I sub hsb g t p).F:=by with_unfolding_all exact yO M kn N sub hc hi hg ht he hM hkn e_ hk n_ b_ l_ o_ hs
def Ey{ow:Bool}{px spos:Pos}{iT:Nat}{xT:Str}{scope:Scope}(M:List Str)(kn:List (Str×NameKind))(N:List Str)(sub:Jr){hsb:(sub.filterMap id).Nodup}(hc:X.calm=true)(hN:X.N.Nodup)(hix:X.N[iT]?=some xT)(hxl:Loc X.env.scope xT)(hi:DI K mg X ES tg a_ I.F)(hg:∀cl C s₂ H fp,DG K mg (ao X N scope cl C s₂ H fp) (λ_=>E0) tg g.F)(he:∀cl C s₂ H fp,DE K mg (ao X N scope cl C s₂ H fp) (λ_=>E0) f_ p.F)(hsw:swapsWith (.ListComp f_ [⟨tg,a_,[],0⟩] scope pos) (some (.Name xT px)) spos.line X.env=pure true)(hM:X.N=M)(hkn:X.env.scope.names=kn)(e_:bH M scope.names sub N=true)(hk:scope.kind=.function)(n_:∀x∈scope.names,x.2 ≠ .cell)(b_:∀x∈scope.names,x.2=.local->scope.names.lookup x.1=some .local)(l_:cp kn scope.names=true)(o_:sub.length=N.length)(hs:∀x,foldedSetIterable a_ X.env x=pure x)(hf:X.fn xT=true\/X.env.scope.names.lookup xT=some .local):DS K mg X ES (.Assign [.Name xT px] (.ListComp f_ [⟨tg,a_,[],0⟩] scope pos) spos) (aQ ow iT (pLC I sub hsb g qY p)).F:=by with_unfolding_all exact EB M kn N sub hc hN hix hxl hi hg he hsw hM hkn e_ hk n_ b_ l_ o_ hs hf
def yr{ow:Bool}{px spos:Pos}{iT:Nat}{xT:Str}{scope:Scope}(M:List Str)(kn:List (Str×NameKind))(N:List Str)(sub:Jr){hsb:(sub.filterMap id).Nodup}(hc:X.calm=true)(hN:X.N.Nodup)(hix:X.N[iT]?=some xT)(hxl:Loc X.env.scope xT)(hi:DI K mg X ES tg a_ I.F)(hg:∀cl C s₂ H fp,DG K mg (ao X N scope cl C s₂ H fp) (λ_=>E0) tg g.F)(ht:∀cl C s₂ H fp,DT K mg (ao X N scope cl C s₂ H fp) (λ_=>E0) c t.F)(he:∀cl C s₂ H fp,DE K mg (ao X N scope cl C s₂ H fp) (λ_=>E0) f_ p.F)(hsw:swapsWith (.ListComp f_ [⟨tg,a_,[c],0⟩] scope pos) (some (.Name xT px)) spos.line X.env=pure true)(hM:X.N=M)(hkn:X.env.scope.names=kn)(e_:bH M scope.names sub N=true)(hk:scope.kind=.function)(n_:∀x∈scope.names,x.2 ≠ .cell)(b_:∀x∈scope.names,x.2=.local->scope.names.lookup x.1=some .local)(l_:cp kn scope.names=true)(o_:sub.length=N.length)(hs:∀x,foldedSetIterable a_ X.env x=pure x)(hf:X.fn xT=true\/X.env.scope.names.lookup xT=some .local):DS K mg X ES (.Assign [.Name xT px] (.ListComp f_ [⟨tg,a_,[c],0⟩] scope pos) spos) (aQ ow iT (pLC I sub hsb g t p)).F:=by with_unfolding_all exact zg M kn N sub hc hN hix hxl hi hg ht he hsw hM hkn e_ hk n_ b_ l_ o_ hs hf
def BV{j:Nat}{name:Str}{id:String}{apos cpos:Pos}{r':V->List V->Hp->VK->Prop}{k:PMm}(hK:X.K=K)(slot:Slot "list" name id)(hty:typeOf (.builtin id)=pure (.type "method_descriptor"))(hm:MtM X id r')(hd:MtD K mg r' k.F)(ho:DE K mg X ES o (af j).F)(ha:DA K mg X ES (e::es) A.F)(hbase:attributeBase o name X.env (eval o X.env)=eval o X.env:=by rfl)(hfew:((backTo cpos (starEach (e::es) X.env)).all (λx=>!x.1)&&(backToKw cpos (keywordEach [] X.env)).all (λx=>x.1.isSome)&&decide ((e::es).length+([]:List Keyword).length+(if ([]:List Keyword).isEmpty then 0 else 1)<30))=true:=by rfl)(hline:(apos.endLine==cpos.line)=true:=by rfl)(hs:starEach (e::es) X.env=(false,eval e X.env)::starEach es X.env:=by rfl)(j_:(backTo cpos (starEach es X.env)).any (·.1)=false:=by rfl):DE K mg X ES (.Call (.Attribute o name apos) (e::es) [] cpos) (qZ j k A).F:=by with_unfolding_all exact de_m hK slot hty hm hd ho ha hbase hfew hline hs j_
def zi:DO K mg X ES none oN.F:=zZ
def Aa(he:DE K mg X ES e p.F):DO K mg X ES (some e) (oS p).F:=by with_unfolding_all exact yL he
def wC{l u:POp}{lo hi:Option Expr}{p2:Pos}(hK:X.K=K)(he:DE K mg X ES e p.F)(hl:DO K mg X ES lo l.F)(hu:DO K mg X ES hi u.F):DE K mg X ES (.Subscript e (.Slice lo hi none p2) pos) (pSl p l u).F:=by with_unfolding_all exact vt hK he hl hu
def Bb:OpD K mg (λx y H Q=>rI0 (λi j=>.int (i+j)) x y H Q\/(jV x y H Q\/(hE K x y H Q\/gQ K x y H Q))) bw.F:=Eb
def Ca:OpD K mg (rI0 λi j=>.int (i-j)) pV.F:=Cr
def BO:OpD K mg (rI CMulA λi j=>.int (i*j)) aO.F:=Bk
def By:OpD K mg (rI CDivB λi j=>.int (i.fdiv j)) dC.F:=Dc
def CO:OpD K mg (rI (λ_ j=>j≠0) λi j=>.int (i.fmod j)) bu.F:=C5
def Bo:OpD K mg (rI j5 λi j=>.int (i^j.toNat)) kd.F:=Du
def xu:OpD K mg (rI0 λi j=>.bl (decide (i<j))) bLt.F:=FL
def xB:OpD K mg (rI0 λi j=>.bl (decide (j<i))) bGt.F:=EH
def xh:OpD K mg (rI0 λi j=>.bl (decide (j<=i))) bGe.F:=Gg
def EO:OpD K mg (λx y H Q=>rh K x y H Q\/qM K x y H Q) bIx.F:=CQ
def xt:OpD K mg (rE K) bEq.F:=Bz
def GD:OpD K mg (rJ K) bNe.F:=C8
def GJ:OpD K mg (λx y H Q=>y=.non/\Q (.bl (decide (x=.non))) H) bIs.F:=xW
def D3:bK K mg (λxs H Q=>(∃p ys,xs=[.ref p]/\(SqL K H p ys\/SqT K H p ys)/\Q (.int ys.length) H)\/(∃z,xs=[.str z]/\z.length<=sizeLine/\Q (.int z.length) H)) eR.F:=Dy
def A0:bK K mg (λxs H Q=>∃i,xs=[.int i]/\Q (.int (if i<0 then -i else i)) H) jf.F:=BW
def so:bK K mg (λxs H Q=>∃(a:Addr) (bs:List Bool),xs=[.ref a]/\SqL K H a (bs.map V.bl)/\Q (.bl (bs.all id)) H) lV.F:=AI
def oF:bK K mg (λxs H Q=>∃p ys,xs=[.ref p]/\(SqL K H p ys\/SqT K H p ys)/\∀l,H l=none->Q (.ref l) (upd H l (.lst ys))) jF.F:=yg
def BP(ok:KitsOk K mg kt):bK K mg (λxs H Q=>(∃x c t v b,xs=[x,c]/\TyX K H x t/\cV c=some v/\W.kitOne K t v=some b/\Q (.bl b) H)\/
 (∃x tp cs t vs b,xs=[x,.ref tp]/\SqT K H tp cs/\TyX K H x t/\cs.mapM cV=some vs/\W.kitAny K t vs=some b/\Q (.bl b) H)) (cX kt).F:=Eg ok
def tu:MtD K mg kf fW.F:=sm
def zC:kD K mg pY seL.F:=yF
def CD:UnD K mg (rU λi=>.int (-i)) nq.F:=Cu
variable{P:Program}{w:World}{base:Heap}{fx:Str}{fst:Stmt}{k n m:Nat}{ps N:List Str}{ms:List Bool}
def okP(D:Def K mg fx fst)(S:FnScope N ps (ak fst))
 (hb:∀(kV doc pm:Value) (an:Option Addr) (cdv ct:Value) (us:List Value),us.length=ps.length->bindArgs (W.fnOf fx fx (bT fst) (aT fst) (ak fst) .none kV doc pm an cdv ct) ⟨us,[]⟩=pure (ps.zip us))
 (k_:∀(f:Addr) (cdv:Value) (A:Around) (outer:List Env) (s:Shared) (H:Hp) (E:XK),Room k (A.deeper (envOfC fx (ak fst) s.heap.objs.size f cdv))->
  DSs K mg (cz (CX1 P w) P w K mg base N fx (ak fst) f cdv A outer s H E) (λ_=>E) (aT fst) x.F) (hn:ps.length=n) (hm:N.length=m):Callee P w K mg base fx (k+1) ps (spD K mg n (fnP ms m x).F):=by
 subst hn hm;with_unfolding_all exact D.okD S hb k_
end
def As(b:Bool)(ms:List Bool)(v:Val)(vs:List Val):sls (b::ms) (v::vs)=sl1 b v::sls ms vs:=rfl
def z0:sls [] []=[]:=rfl
def FK(v:Val):sl1 true v=.mu v:=rfl
def FA(v:Val):sl1 false v=.sh v:=rfl
section
variable(e:E3)
def xO:okA e [] []=true:=rfl
def Ao(i:Nat)(ms:List Bool)(ts:List Tm):okA e (true::ms) (.bor i::ts)=(((e[i]?).bind Sl.mv).isSome && !(eZ i ts)&&okA e ms ts):=rfl
def Dx(i:Nat)(ms:List Bool)(ts:List Tm):okA e (false::ms) (.bor i::ts)=(!(gA i ms ts)&&okA e ms ts):=rfl
def Ee(v:Val)(ms:List Bool)(ts:List Tm):okA e (false::ms) (.val v::ts)=okA e ms ts:=rfl
def uF(i:Nat):eZ i []=false:=rfl
def Et(i:Nat)(v:Val)(ts:List Tm):eZ i (.val v::ts)=eZ i ts:=rfl
def uz(i:Nat):gA i [] []=false:=rfl
def sT:aE e [] []=[]:=rfl
theorem yU(i:Nat)(ms:List Bool)(ts:List Tm):aE e (false::ms) (.bor i::ts)=match e[i]? with
 |some (.sh _)=>aE e ms ts
 |_=>i::aE e ms ts:=rfl
def yJ(v:Val)(ms:List Bool)(ts:List Tm):aE e (false::ms) (.val v::ts)=aE e ms ts:=rfl
def BD(t:Tm)(ms:List Bool)(ts:List Tm):aE e (true::ms) (t::ts)=aE e ms ts:=by cases t <;> rfl
end
def tP:aS [] []=[]:=rfl
def xR(b:Bool)(t:Tm)(ms:List Bool)(ts:List Tm):aS (b::ms) (t::ts)=ka b t::aS ms ts:=rfl
def yX(i:Nat):ka true (.bor i)=some i:=rfl
def CV(t:Tm):ka false t=none:=by cases t <;> rfl
def uq(e:E3):aN [] [] e=e:=rfl
def CZ(o:Option Nat)(sub:Jr)(s:Sl)(i e:E3):aN (o::sub) (s::i) e=aN sub i (dj o s e):=rfl
theorem yb(i:Nat)(v:Val)(e:E3):dj (some i) (.mu v) e=match e[i]? with
 |some t=>e.set i (t.re v)
 |none=>e:=rfl
def Bh(s:Sl)(e:E3):dj none s e=e:=rfl
def uR(vs:List Val):aA [] vs=[]:=rfl
def C4(ms:List Bool)(v:Val)(vs:List Val):aA (true::ms) (v::vs)=.mu v::aA ms vs:=rfl
def Eo(ms:List Bool)(vs:List Val):aA (false::ms) vs=.no::aA ms vs:=by cases vs <;> rfl
def yo(e:E3):muV [] e=some []:=by cases e <;> rfl
def GG(ms:List Bool)(v:Val)(e:E3):muV (true::ms) (.mu v::e)=(muV ms e).map (v :: ·):=rfl
def E9(ms:List Bool)(s:Sl)(e:E3):muV (false::ms) (s::e)=muV ms e:=by cases s <;> rfl
def sd(v:Val):ib (.val v)=flatV v:=rfl
def sM(v:Val):ib (.new v)=flatC v:=rfl
def tN(xs:List Val):flatC (.lst xs)=bG xs:=rfl
def fR:bG []=true:=by simp [bG]
def eS(v:Val)(vs:List Val):bG (v::vs)=(flatV v&&bG vs):=by simp [bG]
def rK(i:Int):flatV (.int i)=true:=by simp [flatV]
def wc(i:Bool):flatV (.bl i)=true:=by simp [flatV]
def gr(i:Str):flatV (.str i)=true:=by simp [flatV]
def sj:flatV .non=true:=by simp [flatV]
def kK(xs:List Val):flatV (.tup xs)=bG xs:=by simp [flatV]
def eL(h0:0<=i)(h:l[i.toNat]?=some x):atI l i=some x:=by have hl:=(u_.mp h).1;unfold atI ixN;rw[if_pos h0,if_pos (by omega)];exact h
def AY(h0:0<=i)(h:i.toNat<n):ixN n i=some i.toNat:=by unfold ixN;rw[if_pos h0,if_pos (by omega)]
section
variable(a b c d:α)(l:List α)
def ati0:atI (a::l) 0=some a:=eL (by decide) rfl
def ati1:atI (a::b::l) 1=some b:=eL (by decide) rfl
def ati2:atI (a::b::c::l) 2=some c:=eL (by decide) rfl
def ati3:atI (a::b::c::d::l) 3=some d:=eL (by decide) rfl
end
theorem qN(xs:List Val)(k:Int)(v:Val):seL.G (.lst xs) (.int k) v=match ixN xs.length k with
 |some j=>some (.lst (xs.set j v))
 |none=>none:=rfl
mutual
def vq:Val->Val->Bool
 |.non,.non=>true
 |.bl a,.bl b=>a==b
 |.bl a,.int j=>(if a then 1 else 0)==j
 |.int i,.bl b=>i==(if b then 1 else 0)
 |.int i,.int j=>i==j
 |.str x,.str y=>x==y
 |.tup xs,.tup ys=>vqs xs ys
 |.lst xs,.lst ys=>vqs xs ys
 |_,_=>false
def vqs:List Val->List Val->Bool
 | [],[]=>true
 |x::xs,y::ys=>vq x y&&vqs xs ys
 |_,_=>false
end
mutual
def wfV:Nat->Val->Bool
 |_,.non=>true
 |_,.bl _=>true
 |_,.int _=>true
 |_,.str x=>PyData.strOk x
 |k+1,.tup xs=>bX k xs
 |k+1,.lst xs=>bX k xs
 |_,_=>false
def bX:Nat->List Val->Bool
 |_,[]=>true
 |k,x::xs=>wfV k x&&bX k xs
end
mutual
def dE:Val->PyData
 |.bl b=>.bool b
 |.int i=>.int i
 |.str x=>.str x
 |.tup xs=>.tuple (cF xs)
 |.lst xs=>.list (cF xs)
 |_=>.none
def cF:List Val->List PyData
 | []=>[]
 |x::xs=>dE x::cF xs
end
mutual
theorem jU:∀(k:Nat) (v:Val),wfV k v=true->(∀j,k<j->bQ j v=some (dE v))/\(dE v).canLay0=true/\(dE v).depth<=k
 |k,.non,_=>⟨λj hj=>by cases j with |zero=>exact absurd hj (HW _) |succ j=>rfl,rfl,Ho _⟩
 |k,.bl b,_=>⟨λj hj=>by cases j with |zero=>exact absurd hj (HW _) |succ j=>rfl,rfl,Ho _⟩
 |k,.int b,_=>⟨λj hj=>by cases j with |zero=>exact absurd hj (HW _) |succ j=>rfl,rfl,Ho _⟩
 |k,.str b,w=>⟨λj hj=>by cases j with |zero=>exact absurd hj (HW _) |succ j=>rfl,by cases k <;> exact w,Ho _⟩
 |0,.tup xs,w=>absurd w z_
 |0,.lst xs,w=>absurd w z_
 |
  k+1,.tup xs,w=>by
  obtain⟨h1,h2,h3⟩:=iL k xs w;exact⟨λj hj=>by cases j with |zero=>exact absurd hj (HW _) |succ j=>simp only[bQ,dE,h1 j (Nat.lt_of_succ_lt_succ hj),Option.map_some],h2,by simpa [dE,PyData.depth] using h3⟩
 |
  k+1,.lst xs,w=>by
  obtain⟨h1,h2,h3⟩:=iL k xs w;exact⟨λj hj=>by cases j with |zero=>exact absurd hj (HW _) |succ j=>simp only[bQ,dE,h1 j (Nat.lt_of_succ_lt_succ hj),Option.map_some],h2,by simpa [dE,PyData.depth] using h3⟩
 |k,.ty _,w=>by cases k <;> exact absurd w z_
 |k,.glb _,w=>by cases k <;> exact absurd w z_
 |k,.exc _,w=>by cases k <;> exact absurd w z_
 |k,.kl _,w=>by cases k <;> exact absurd w z_
 |k,.dct _,w=>by cases k <;> exact absurd w z_
 |k,.set _,w=>by cases k <;> exact absurd w z_
theorem iL:∀(k:Nat) (vs:List Val),bX k vs=true->(∀j,k<j->cL j vs=some (cF vs))/\PyData.canLayAll0 (cF vs)=true/\PyData.depthAll (cF vs)<=k
 |k,[],_=>⟨λj hj=>by simp [cL,cF],rfl,Ho _⟩
 |
  k,v::vs,w=>by
  have w':(wfV k v&&bX k vs)=true:=w;rw[x_] at w';obtain⟨h1,h2,h3⟩:=jU k v w'.1;obtain⟨i1,i2,i3⟩:=iL k vs w'.2;exact⟨λj hj=>by simp [cL,cF,h1 j hj,i1 j hj],by simp [cF,PyData.canLayAll0,h2,i2],Nat.max_le.mpr ⟨h3,i3⟩⟩
end
mutual
theorem tT:∀(k:Nat) (v u:Val),wfV k v=true->wfV k u=true->PyData.eqv (dE v) (dE u)=vq v u
 |
  k,v,u,hv,hu=>by
  cases v <;> first |(cases k <;> exact absurd hv z_) |skip
  all_goals (cases u <;> first |(cases k <;> exact absurd hu z_) |rfl |(cases k with |zero=>exact absurd hv z_ |succ k=>exact pb k _ _ hv hu))
theorem pb:∀(k:Nat) (v u:List Val),bX k v=true->bX k u=true->PyData.eqvAll (cF v) (cF u)=vqs v u
 |_,[],[],_,_=>rfl
 |_,[],_::_,_,_=>rfl
 |_,_::_,[],_,_=>rfl
 |
  k,x::xs,y::ys,hv,hu=>by
  have h1:(wfV k x&&bX k xs)=true:=hv;have h2:(wfV k y&&bX k ys)=true:=hu;rw[x_] at h1 h2;show (PyData.eqv (dE x) (dE y)&&PyData.eqvAll (cF xs) (cF ys))=(vq x y&&vqs xs ys);rw[tT k x y h1.1 h2.1,pb k xs ys h1.2 h2.2]
end
def A4(hk:k<=160)(hx:wfV k x=true)(hy:wfV k y=true):cx x y=some (vq x y):=by obtain⟨h1,h2,h3⟩:=jU k x hx;obtain⟨i1,i2,i3⟩:=jU k y hy;unfold cx;rw[h1 164 (by omega),i1 164 (by omega)];dsimp only;rw[if_pos ⟨kQ h2 (by omega),kQ i2 (by omega)⟩,tT k x y hx hy]
def jx(hx:wfV 60 x=true)(hy:wfV 60 y=true):cx x y=some (vq x y):=A4 (by decide) hx hy
mutual
def iN:Val->Bool
 |.bl _=>false
 |.tup xs=>eP xs
 |.lst xs=>eP xs
 |.non=>true
 |.int _=>true
 |.str _=>true
 |_=>false
def eP:List Val->Bool
 | []=>true
 |x::xs=>iN x&&eP xs
end
mutual
theorem tK:∀(v u:Val),iN v=true->iN u=true->(vq v u=true ↔ v=u)
 |
  v,u,hv,hu=>by
  cases v <;> first |exact absurd hv z_ |skip
  all_goals (cases u <;> first |exact absurd hu z_ |exact⟨λz=>absurd z z_,λz=>nomatch z⟩ |(simp [vq];done) |skip)
  all_goals
   refine Iff.trans (pf _ _ hv hu) ?_;constructor
   .rintro rfl;rfl
   .intro z;cases z;rfl
theorem pf:∀(v u:List Val),eP v=true->eP u=true->(vqs v u=true ↔ v=u)
 | [],[],_,_=>⟨λ_=>rfl,λ_=>rfl⟩
 | [],_::_,_,_=>⟨λz=>absurd z z_,λz=>nomatch z⟩
 |_::_,[],_,_=>⟨λz=>absurd z z_,λz=>nomatch z⟩
 |
  x::xs,y::ys,hv,hu=>by
  have h1:(iN x&&eP xs)=true:=hv;have h2:(iN y&&eP ys)=true:=hu;rw[x_] at h1 h2;show (vq x y&&vqs xs ys)=true ↔ _;rw[x_,tK x y h1.1 h2.1,pf xs ys h1.2 h2.2,List.cons.injEq]
end
mutual
theorem ij:∀(k:Nat) (v:Val),wfV k v=true->vq v v=true
 |
  k,v,hv=>by
  cases v <;> first |(cases k <;> exact absurd hv z_) |rfl |exact beq_self_eq_true _ |(cases k with |zero=>exact absurd hv z_ |succ k=>exact l9 k _ hv)
theorem l9:∀(k:Nat) (v:List Val),bX k v=true->vqs v v=true
 |_,[],_=>rfl
 |
  k,x::xs,hv=>by
  have h1:(wfV k x&&bX k xs)=true:=hv;rw[x_] at h1;show (vq x x&&vqs xs xs)=true;rw[ij k x h1.1,l9 k xs h1.2];rfl
end
noncomputable def fV(q:Rat):Val:=.tup [.int q.num,.int q.den]
structure Bx where
 l:Rat
 t:Rat
 w:Rat
 h:Rat
structure Bx.Ok(b:Bx):Prop where
 w:0<b.w
 h:0<b.h
structure Bx.Sz(n:Nat)(b:Bx):Prop where
 l:L2.Sz n b.l
 t:L2.Sz n b.t
 w:L2.Sz n b.w
 h:L2.Sz n b.h
noncomputable def bV(b:Bx):Val:=.tup [fV b.l,fV b.t,fV b.w,fV b.h]
def Cw(e:fV p=fV q):p=q:=by unfold fV at e;simp only[Val.tup.injEq,List.cons.injEq,Val.int.injEq,and_true] at e;rw[dN p,dN q,e.1,e.2]
def ig(q:Rat)(k:Nat):wfV (k+1) (fV q)=true:=by simp [fV,wfV,bX]
def xv(q:Rat):iN (fV q)=true:=by simp [fV,iN,eP]
def FY(p q:Rat):cx (fV p) (fV q)=some (decide (p=q)):=by rw[jx (ig p 59) (ig q 59)];congr 1;rw[Bool.eq_iff_iff,tK _ _ (xv p) (xv q),HD];exact⟨Cw,λz=>by rw[z]⟩
noncomputable def knV:Val->Bool
 |.exc _=>false
 |v=>(tyC v).isSome
noncomputable def eW:Nat->Val->Bool
 |k+1,.tup xs=>xs.all (eW k)
 |_,v=>knV v
noncomputable def iX:Val->Bool
 |.int _=>true
 |_=>false
noncomputable def aG:Val->Bool
 |.tup [.int a,.int b]=>decide (1<=b)&&decide (Int.gcd a b=1)
 |_=>false
noncomputable def fU:Val->Bool
 |.tup (.int a::_)=>decide (0<a)
 |_=>false
noncomputable def dm:Val->Bool
 |.tup [a,b,c,d]=>aG a&&(aG b&&(aG c&&(aG d&&(fU c&&fU d))))
 |_=>false
noncomputable def cU:Val->Bool
 |.tup _=>true
 |_=>false
def Fg(h1:1<=b)(h2:Int.gcd a b=1):Val.tup [.int a,.int b]=fV ((a:Rat)/(b:Rat)):=by
 have hb:b≠0:=by omega
 have h:=ji (a:=a) hb;have s:=Fr.self (by omega) h2;unfold fV;rw[<- h.1,<- h.2,s.1,s.2]
def fH(q:Rat):aG (fV q)=true:=by
 show (decide (1<=(q.den:Int))&&decide (Int.gcd q.num q.den=1))=true
 have:=q.den_pos
 rw[Hf (by omega),Hf (oP q)];rfl
def tf(h:aG d=true):∃q,d=fV q:=by
 unfold aG at h;split at h
 .simp only[x_,HD] at h;exact⟨_,Fg h.1 h.2⟩
 .cases h
def oH(q:Rat):fU (fV q)=decide (0<q):=by show decide (0<q.num)=decide (0<q);rw[decide_eq_decide];exact Ah
def v8(h:b.Ok):dm (bV b)=true:=by show (aG (fV b.l)&&(aG (fV b.t)&&(aG (fV b.w)&&(aG (fV b.h)&&(fU (fV b.w)&&fU (fV b.h))))))=true;rw[fH,fH,fH,fH,oH,oH,Hf h.w,Hf h.h];rfl
def BA(b:Bx):eW 2 (bV b)=true:=by simp [bV,fV,eW,knV,tyC]
theorem pC(P:E3->Prop):∀(vs acc:List Val) (e:E3),P e->(∀v∈vs,∀e,P e->∃e1 t e2,g v e=some e1/\F e1=.ok t e2/\bC e2 t=some (e2,f v)/\P e2)->acc.length+vs.length<=16777216->∃e',P e'/\lcV g cY F vs acc e=.ok (acc++vs.map f) e'
 | [],acc,e,hp,_,_=>⟨e,hp,by simp [lcV]⟩
 |
  v::vs,acc,e,hp,hf,hl=>by
  obtain⟨e1,t,e2,q1,q2,q3,q4⟩:=hf v (G5 ..) e hp;obtain⟨e',p',q5⟩:=pC P vs (acc++[f v]) e2 q4 (λu hu=>hf u (F_ _ hu)) (by simp at hl ⊢;omega);refine⟨e',p',?_⟩;unfold lcV;rw[if_pos (by simp at hl;omega),q1];simp only[cY,dM,Ip,q2,q3,q5];simp
noncomputable def rgV(k:Nat):List Val:=(List.range k).map λj=>Val.int (j:Nat)
def ym(h:k<1000000):c9 [.int (k:Nat)]=some (rgV k):=by simp only[c9];rw[if_pos (⟨by omega,by omega⟩:RgB _),Ih];unfold pJ rgV;simp only[Int.zero_add]
def dP(h0:0<=i)(h:i<1000000):c9 [.int i]=some (rgV i.toNat):=by
 have:=ym (k:=i.toNat) (by omega)
 rwa [show ((i.toNat:Nat):Int)=i from by omega] at this
theorem eO(f:α->Val)(st:σ->α->σ)(P:σ->E3->Prop):∀(l:List α) (s:σ) (e:E3),P s e->(∀a∈l,∀s e,P s e->∃e1 e2,g (f a) e=some e1/\(B e1=.nx e2\/B e1=.ct e2)/\P (st s a) e2)->∃e',P (l.foldl st s) e'/\cM g B (l.map f) e=.nx e'
 | [],s,e,hp,_=>⟨e,hp,rfl⟩
 |
  a::l,s,e,hp,hf=>by
  obtain⟨e1,e2,q1,q2,q3⟩:=hf a (G5 ..) s e hp;obtain⟨e',p',q4⟩:=eO f st P l (st s a) e2 q3 λu hu=>hf u (F_ _ hu);refine⟨e',p',?_⟩;rw[D_,et,q1];rcases q2 with q2 |q2 <;> simp only[q2,lU,xp,q4]
theorem fF(fv fw:α->Val)(P:E3->Prop):∀(l:List α) (acc:List Val) (e:E3),P e->(∀a∈l,∀e,P e->∃e1 t e2,g (fv a) e=some e1/\F e1=.ok t e2/\bC e2 t=some (e2,fw a)/\P e2)->acc.length+l.length<=16777216->∃e',P e'/\lcV g qY.G F (l.map fv) acc e=.ok (acc++l.map fw) e'
 | [],acc,e,hp,_,_=>⟨e,hp,by simp [lcV]⟩
 |
  v::vs,acc,e,hp,hf,hl=>by
  obtain⟨e1,t,e2,q1,q2,q3,q4⟩:=hf v (G5 ..) e hp;obtain⟨e',p',q5⟩:=fF fv fw P vs (acc++[fw v]) e2 q4 (λu hu=>hf u (F_ _ hu)) (by simp at hl ⊢;omega);refine⟨e',p',?_⟩;rw[D_];unfold lcV;have cy:qY.G=cY:=rfl;rw[cy] at q5 ⊢;rw[if_pos (by simp at hl;omega),q1];simp only[cY,dM,Ip,q2,q3,q5];simp
def Bf(v:Val):inS (.mu v)=.mu v:=rfl
theorem cN(k:Nat):∀xs:List Val,bX k xs=xs.all (wfV k)
 | []=>by simp [bX]
 |x::xs=>by simp [bX,cN k xs]
def zP(i:Nat)(v:Val)(e:E3):dj (some i) (.sh v) e=e:=rfl
noncomputable def pO(ms:List Bool)(r:SR3):R3F:=match r with
 |.nx e=>(match muV ms e with |some mv=>.ok (.val .non) mv |none=>.stuck)
 |.rt r e=>(match muV ms e with |some mv=>.ok r mv |none=>.stuck)
 |.exc c e=>(match muV ms e with |some mv=>.exc c mv |none=>.stuck)
 |_=>.stuck
def xH(h:vs.length=ms.length):(fnP ms N c).G vs=pO ms (c.G (sls ms vs++List.replicate (N-vs.length) .no)):=by rw[aY,if_pos h];rfl
def rB(ms:List Bool)(r:Rt)(e:E3):pO ms (.rt r e)=match muV ms e with |some mv=>.ok r mv |none=>.stuck:=rfl
def eh{Q:SR3->Prop}(I:E3->Prop){a b:PSt}{e:E3}(h1:∃e1,a.G e=.nx e1/\I e1)(h2:∀e1,I e1->Q (b.G e1)):Q ((aq a b).G e):=by obtain⟨e1,q,i⟩:=h1;rw[xm,q];exact h2 e1 i
def sm8(h:m.natAbs<1099511627776):Sm 8000 m:=E_ (show m.natAbs<2^40 from h) (Nat.pow_le_pow_right (by decide) (by decide))
def ky{m:Int}(h:0<m):(0:Rat)<(m:Rat):=Rat.intCast_pos.mpr h
def m9{a b:Int}(h1:0<a)(h2:0<b):(0:Rat)<(a:Rat)/(b:Rat):=by rw[Rat.div_def];exact Rat.mul_pos (ky h1) (Rat.inv_pos.mpr (ky h2))
theorem ar1{α:Type}{P:List α->Prop}(h:∀a,P [a]):∀us:List α,us.length=1->P us
 | [a],_=>h a
theorem ar2{α:Type}{P:List α->Prop}(h:∀a b,P [a,b]):∀us:List α,us.length=2->P us
 | [a,b],_=>h a b
section
variable{P:Nat->Prop}{h:AH}
def GK(r:Rk P h ws us):lkD us k=some v->∃d,lkD ws k=some d/\Rd P h d v:=
 r.ind (M:=λws us=>lkD us k=some v->∃d,lkD ws k=some d/\Rd P h d v) (λq=>by cases q) (λ{k2 d v2 ds vs} r _ ih q=>by
  unfold lkD at q ih ⊢;rw[HN] at q ⊢;dsimp only at q ⊢;by_cases hk:k2=k
  .rw[Hf hk] at q ⊢;cases q;exact⟨d,rfl,r⟩
  .rw[He hk] at q ⊢;exact ih q)
def yA(r:Rk P h ws us):us.map (·.1)=ws.map (·.1):=
 r.ind (M:=λws us=>us.map (·.1)=ws.map (·.1)) rfl λ_ _ ih=>by rw[D_,D_,ih]
def Cg(r:Rk P h ws us):ws.length=us.length:=
 r.ind (M:=λws us=>ws.length=us.length) rfl λ_ _ ih=>HI (· + 1) ih
def AR(r:Rk P h ws us)(q:Rk P h ws' us'):Rk P h (ws++ws') (us++us'):=
 r.ind (M:=λws us=>Rk P h (ws++ws') (us++us')) q λr _ ih=>.cons r ih
def B1(rd:Rd P h d v)(r:Rk P h ws us):Rk P h (gc ws k d) (gc us k v):=by
 unfold gc;rw[mP (yA r)];by_cases hc:(ws.any λkv=>decide (kv.1=k))=true
 .rw[if_pos hc,if_pos hc];exact r.ind (M:=λws us=>Rk P h (ws.map λkv=>if kv.1=k then (kv.1,d) else kv) (us.map λkv=>if kv.1=k then (kv.1,v) else kv)) .nil (λ{k2 d2 v2 ds vs} r _ ih=>by
   rw[D_,D_];dsimp only;by_cases hk:k2=k
   .rw[if_pos hk,if_pos hk];exact .cons rd ih
   .rw[if_neg hk,if_neg hk];exact .cons r ih)
 .rw[if_neg hc,if_neg hc];exact AR r (.cons rd .nil)
def CJ:∀{ks:List Key}{ds:List D}{vs:List Val},Rds P h ds vs->Rk P h (ks.zip ds) (ks.zip vs):=by
 intro ks;induction ks with
 |nil=>intro ds vs _;exact .nil
 |
  cons k ks ih=>
  intro ds vs r;cases r with
  |nil=>exact .nil
  |cons r rr=>exact .cons r (ih rr)
end
def vF:Val->Val->Bv:=λx y=>match x with
 |.dct kvs=>(match y with
  |.str k=>(match lkD kvs (.inr k) with
   |some v=>.val v
   |none=>.stuck)
  |_=>.stuck)
 |_=>.stuck
def AU:RO me vF:=λP h d1 d2 v1 v2 r1 r2=>by
 unfold vF;split
 .rename_i kvs;split
  .rename_i k;split
   .rename_i v q;obtain⟨n,ws,rfl,e,rk⟩:=r1.dct;obtain rfl:=r2.str;obtain⟨d,q1,rd⟩:=GK rk q;refine⟨d,?_,rd⟩;unfold me;dsimp only;rw[e];dsimp only;rw[q1]
   .trivial
  .trivial
 .trivial
def dD:PO2:=⟨me,vF,AU⟩
def sD:Val->Val->Val->Option Val:=λo i v=>match o with
 |.dct kvs=>(match i with
  |.str k=>if kvs.length<16777216 then some (.dct (gc kvs (.inr k) v)) else none
  |_=>none)
 |_=>none
def Cp:pS wD sD:=λP h n o u di vi d v u' np e hf r ri rd q=>by
 unfold sD at q;split at q
 .rename_i kvs;split at q
  .rename_i k;split at q
   .rename_i hl;cases q;obtain rfl:=ri.str;cases r with
    |dct rk=>rename_i ws;refine⟨.dct (gc ws (.inr k) d),?_,trivial,.dct (B1 rd rk)⟩;unfold wD;dsimp only;rw[e];dsimp only;rw[if_pos (by rw[Cg rk];exact hl)]
   .cases q
  .cases q
 .cases q
def seD:PSe:=⟨wD,sD,Cp⟩
def qH(ks:List Str)(A:MA3):ME3:=λe=>(A e).bind λts e1=>match dem e1 ts with
 |some (e2,vs)=>if ks.length=vs.length then .ok (.new (.dct ((ks.map Sum.inr).zip vs))) e2 else .stuck
 |none=>.stuck
def xZ(ks:List Str)(hA:RA A A3):RE (jN ks A) (qH ks A3):=λX h0 L ns e ae h S hl=>by
 have SG:=S.grow (.dct []);have p:=hA (Xn X h.length) h0 ns e ae (h++[.dct []]) SG;unfold qH jN;cases q:A3 e with
 |stuck=>trivial
 |exc c e'=>rw[q] at p;obtain⟨h',ns',y,a,S'⟩:=p;exact⟨h',ns',by rw[y];rfl,(Stp.grow _).trans S a,S'.weak λn z=>.inl z⟩
 |
  ok ts e1=>
  rw[q] at p;obtain⟨ds,h1,ns1,y,a1,S1,r1⟩:=p;rw[y];show Po X h0 ns e ae h (relE X h0 L ae) _ (match dem e1 ts with
   |some (e2,vs)=>if ks.length=vs.length then .ok (.new (.dct ((ks.map Sum.inr).zip vs))) e2 else .stuck
   |none=>.stuck)
  cases qd:dem e1 ts with
  |none=>trivial
  |
   some w=>
   obtain⟨e2,vs⟩:=w;dsimp only;by_cases hlen:ks.length=vs.length
   .rw[if_pos hlen];obtain⟨h_,S2,a2,r2⟩:=fA S1 r1 qd;have hk:h1[h.length]?=some (.dct []):=a1.keep _ _ oZ λ⟨i,s,z,_⟩=>SG.nx i _ z (.inr rfl);have A:=((Stp.grow (.dct [])).trans S a1).trans S a2;have hlt:=bB hk;have mv:Mov (Oc (Xn X h.length) h_) (Oc (Xn X h.length) h_) h1 (h1.set h.length (.dct ((ks.map Sum.inr).zip ds))):=λm o p q=>⟨p,by have:m≠h.length:=λz=>p.1 (.inr z);rw[aU this];exact q⟩;have S3:Sat (Xn X h.length) h0 h_ e2 ae (h1.set h.length (.dct ((ks.map Sum.inr).zip ds))):=⟨S2.l1,S2.l2,by rw[G7];exact S2.lh,λm z=>by rw[G7];exact S2.xl m z,S2.inj,S2.nx,λj s qj=>(S2.sl j s qj).mono mv λm o qm qo=>by have:m≠h.length:=λz=>S2.nx j m qm (.inr z);rw[aU this];exact qo⟩;have A3':Stp ns e h h_ e2 (h1.set h.length (.dct ((ks.map Sum.inr).zip ds))):=⟨by rw[G7];exact A.len,λm o qm hm=>by have:m≠h.length:=Hi (bB qm);rw[aU this];exact A.keep m o qm hm,A.nw,A.lk,A.lk',A.mu,A.mu'⟩;refine⟨.ref h.length,_,h_,?_,A3',S3.weak λn z=>.inl z,h.length,_,rfl,hl,λz=>Hz _ (S.xl _ z),aZ hlt,trivial,S3,.dct ((CJ r2).mono mv)⟩;show (match h1[h.length]? with
     |some (.dct [])=>if ks.length=ds.length then R.ok (D.ref h.length) (h1.set h.length (.dct ((ks.map Sum.inr).zip ds))) else .stuck
     |_=>.stuck)=_
    rw[hk];dsimp only;rw[if_pos (by rw[r2.len];exact hlen)]
   .rw[if_neg hlen];trivial
def qt(ks:List Str)(a:PAs):PEx:=⟨jN ks a.F,qH ks a.G,xZ ks a.ok⟩
theorem tW(e:E3)(ks:List Str)(a:PAs):(qt ks a).G e=(a.G e).bind λts e1=>match dem e1 ts with
 |some (e2,vs)=>if ks.length=vs.length then .ok (.new (.dct ((ks.map Sum.inr).zip vs))) e2 else .stuck
 |none=>.stuck:=rfl
section
variable{K:W.Frag}{mg:Jo}{X:Cx}{ES:L2.St->XK}{a b:Expr}{p q:PEx}{pos:Pos}
def zl(hu:X.A.units+1<cLine)(ha:DE K mg X ES a p.F)(hb:DE K mg X ES b q.F)(hs:rp b):DE K mg X ES (.Subscript a b pos) (pOp dD p q).F:=by with_unfolding_all exact xX hu ha hb hs
def iQ(hv:DE K mg X ES v F)(hr:PPs X pos ks vs (tps K mg ES prs)):PPs X pos (some (.Constant (.str k) j kp)::ks) (v::vs) (tps K mg ES ((k,F)::prs)):=by with_unfolding_all exact uJ hv hr
def zx(hp:PPs X pos keys values (tps K mg ES prs))(h1:ks=prs.map (·.1):=by rfl)(h2:A.F=aL prs:=by rfl)(hn:ks.Nodup:=by decide)(hall:keys.all (·.isSome)=true:=by rfl)(hl:keys.length=values.length:=by rfl)(h0:keys≠[]:=by intro h;cases h)(h15:keys.length<=15:=by decide)(hp15:prs.length<=15:=by decide):DE K mg X ES (.Dict keys values pos) (qt ks A).F:=by subst h1;show DE K mg X ES (.Dict keys values pos) (jN (prs.map (·.1)) A.F);rw[h2];with_unfolding_all exact yE hp hall hl h0 h15 hn hp15
end
theorem kM(P:Nat->E3->Prop)(m:Nat)(hs:∀i,i<m->∀e,P i e->∃e1 e2,g (.int (i:Nat)) e=some e1/\(B e1=.nx e2\/B e1=.ct e2)/\P (i+1) e2):∀(k i:Nat) (e:E3),i+k=m->P i e->∃e',P m e'/\cM g B ((List.range' i k).map λj=>Val.int (j:Nat)) e=.nx e'
 |
  0,i,e,h,p=>by
  obtain rfl:i=m:=by omega
  exact⟨e,p,rfl⟩
 |
  k+1,i,e,h,p=>by
  obtain⟨e1,e2,q1,q2,q3⟩:=hs i (by omega) e p;obtain⟨e',p',q4⟩:=kM P m hs k (i+1) e2 (by omega) q3;refine⟨e',p',?_⟩;rw[List.range'_succ,D_,et,q1];rcases q2 with q2 |q2
  .simp only[q2,lU];exact q4
  .simp only[q2,xp];exact q4
def nG(P:Nat->E3->Prop)(m:Nat)(h0:P 0 e)(hs:∀i,i<m->∀e,P i e->∃e1 e2,g (.int (i:Nat)) e=some e1/\(B e1=.nx e2\/B e1=.ct e2)/\P (i+1) e2):∃e',P m e'/\cM g B (rgV m) e=.nx e':=by
 have:=kM P m hs m 0 e (by omega) h0
 rw[<- List.range_eq_range'] at this;exact this
def DM(xs:List Val)(n:Nat):fS xs none (some (n:Int))=xs.take n:=by
 unfold fS;rw[HT.sIx_none,HT.sIx_nat,List.drop_zero,Nat.sub_zero];by_cases h:n<=xs.length
 .rw[Nat.min_eq_left h]
 .rw[Nat.min_eq_right (by omega),Ie (y_ _),Ie (by omega)]
def EW(xs:List Val)(lo hi:Option Int):aSl (.kl xs) lo hi=.new (.lst (fS xs lo hi)):=rfl
noncomputable def pU(n:Nat)(u:gb):MG3:=λv e=>match v with
 |.tup vs=>if vs.length=n then u vs e else none
 |.lst vs=>if vs.length=n then u vs e else none
 |_=>none
section
variable{gs:MGs}{gs3:gb}
def rg_u(n:Nat)(hs:RGs gs gs3):RG (gU λds ae h=>if ds.length=n then gs ds ae h else .stuck) (pU n gs3):=λX h0 ns e ae h d v e' S r q=>by
 unfold pU at q;split at q
 .split at q
  .rename_i hn;obtain⟨ds,rfl,r2⟩:=ShR.tup (.inl r);obtain⟨i_,ns1,p1,S1,a1⟩:=hs _ _ _ _ _ _ _ _ _ S r2 q;refine⟨i_,ns1,?_,S1,a1⟩;unfold gU;dsimp only;rw[if_pos (by rw[r2.len];exact hn)];exact p1
  .cases q
 .split at q
  .rename_i hn;obtain⟨m,ds,rfl,_,eq,r2⟩:=ShR.lst (.inl r);obtain⟨i_,ns1,p1,S1,a1⟩:=hs _ _ _ _ _ _ _ _ _ S r2 q;refine⟨i_,ns1,?_,S1,a1⟩;unfold gU;dsimp only;rw[eq];dsimp only;rw[if_pos (by rw[r2.len];exact hn)];exact p1
  .cases q
 .cases q
end
noncomputable def gtU(n:Nat)(a:PGs):PGt:=⟨gU λds ae h=>if ds.length=n then a.F ds ae h else .stuck,pU n a.G,rg_u n a.ok⟩
section
variable{e:E3}
def g_uL(n:Nat)(a:PGs)(vs:List Val):(gtU n a).G (.lst vs) e=if vs.length=n then a.G vs e else none:=rfl
end
section
variable{K:W.Frag}{mg:Jo}{X:Cx}{es:List Expr}{gs:PGs}{pos:Pos}
def Cd{k n:Nat}(hK:X.K=K)(hc:X.calm=true)(h:DGs K mg X (λ_=>E0) es gs.F)(hn:(assignEach es X.env).length=n:=by rfl)(hst:(assignEach es X.env).findIdx? (·.1)=none:=by rfl):DG K mg X (λ_=>E0) (.Tuple es k pos) (gtU n gs).F:=Ck hK hc h hn hst
end
theorem ie{g:MG3}{c:MT3}{F:ME3}{α:Type}(pz:α->Bool)(fv fw:α->Val)(P:E3->Prop):∀(l:List α) (acc:List Val) (e:E3),P e->(∀a∈l,∀e,P e->∃e1 e2,g (fv a) e=some e1/\c e1=.ok (pz a) e2/\P e2/\(pz a=true->∃t e3,F e2=.ok t e3/\bC e3 t=some (e3,fw a)/\P e3))->acc.length+l.length<=16777216->∃e',P e'/\lcV g c F (l.map fv) acc e=.ok (acc++(l.filter pz).map fw) e'
 | [],acc,e,hp,_,_=>⟨e,hp,by simp [lcV]⟩
 |
  a::l,acc,e,hp,hf,hl=>by
  obtain⟨e1,e2,q1,q2,q3,q4⟩:=hf a (G5 ..) e hp;rw[Hr] at hl;cases hz:pz a with
  |false=>obtain⟨e',p',q⟩:=ie pz fv fw P l acc e2 q3 (λu hu=>hf u (F_ _ hu)) (by omega);refine⟨e',p',?_⟩;rw[hz] at q2;rw[D_];unfold lcV;rw[if_pos (by omega),q1];simp only[q2,dM,HS,IM,q];rw[List.filter_cons_of_neg (by rw[hz];exact z_)]
  |true=>obtain⟨t,e3,r1,r2,r3⟩:=q4 hz;obtain⟨e',p',q⟩:=ie pz fv fw P l (acc++[fw a]) e3 r3 (λu hu=>hf u (F_ _ hu)) (by simp;omega);refine⟨e',p',?_⟩;rw[hz] at q2;rw[D_];unfold lcV;rw[if_pos (by omega),q1];simp only[q2,dM,Ip,r1,r2,q];rw[List.filter_cons_of_pos hz,D_,Ii];rfl
def ma:Val->Val->Bv:=λx y=>match x,y with
 |
  .str z,.int i=>if z.length<=16777216 then match atI z.cps.toList i with
   |some c=>.val (.str ⟨#[c]⟩)
   |none=>.stuck
  else .stuck
 |_,_=>.stuck
def AK:RO mY ma:=λP h d1 d2 v1 v2 r1 r2=>by
 unfold ma;split
 .rw[r1.str,r2.int];split
  .rename_i hz;split
   .rename_i c e;exact⟨_,by unfold mY;dsimp only;rw[if_pos hz,e],.str _⟩
   .trivial
  .trivial
 .trivial
noncomputable def iU:PO2:=⟨mY,ma,AK⟩
def xq{z:Str}{i:Int}{c:Nat}(hz:z.length<=16777216)(e:atI z.cps.toList i=some c):iU.G (.str z) (.int i)=.val (.str ⟨#[c]⟩):=by show ma (.str z) (.int i)=_;unfold ma;dsimp only;rw[if_pos hz,e]
def jQ:Val->Val->Bv:=λx y=>match x,y with
 |.str z,.int i=>if z.length<=16/\0<=i/\i<=1000 then .val (.str (Txt.mul z i)) else .stuck
 |_,_=>.stuck
def zW:RO jM jQ:=λP h d1 d2 v1 v2 r1 r2=>by
 unfold jQ;split
 .rw[r1.str,r2.int];split
  .rename_i hz;exact⟨_,by unfold jM;dsimp only;rw[if_pos hz],.str _⟩
  .trivial
 .trivial
noncomputable def lT:PO2:=⟨jM,jQ,zW⟩
def En{z:Str}{i:Int}(hz:z.length<=16/\0<=i/\i<=1000):lT.G (.str z) (.int i)=.val (.str (Txt.mul z i)):=by show jQ (.str z) (.int i)=_;unfold jQ;dsimp only;rw[if_pos hz]
section
variable{K:W.Frag}{mg:Jo}
def Ei:OpD K mg vk iU.F:=zh
def yR:OpD K mg qU lT.F:=we
end
section
variable{K:W.Frag}{mg:Jo}{X:Cx}{ES:L2.St->XK}{e:Expr}{es:List Expr}{p:PEx}{A:PAs}{pos:Pos}
def zcF{f:PFn}{x:Str}{p0:Pos}{k j n:Nat}{ps:List Str}(C:Callee X.prog X.w X.K X.mg X.base x j ps (spD K mg n f.F))(hr:Room k X.A)(ha:DA K mg X ES (e::es) A.F)(hk:j<=k:=by omega)(hg:Gl X x:=by exact rfl)(hx:g0 X ES:=by first |exact oi F9 |exact um |assumption)(hn:f.ms.length=n:=by rfl)(hdb:(x==("__debug__" : Str))=false:=by decide)(he:starEach (e::es) X.env=(false,eval e X.env)::starEach es X.env:=by rfl)(hpl:(backTo pos (starEach es X.env)).any (·.1)=false:=by rfl):DE K mg X ES (.Call (.Name x p0) (e::es) [] pos) (ai f A).F:=vI C (hr.mono hk) hg hx ha hn hdb he hpl
def zsS{ow:Bool}(i:Nat){x:Str}{r_:Pos}(hN:X.N.Nodup)(he:DE K mg X ES e p.F)(hi:X.N[i]?=some x:=by exact rfl)(hx:Loc X.env.scope x:=by first |exact Or.inl rfl |exact Or.inr rfl)(hs:swapsWith e (some (.Name x r_)) pos.line X.env=pure false:=by rfl)(hf:X.fn x=true\/X.env.scope.names.lookup x=some .local:=by first |exact .inl rfl |exact .inr rfl |assumption):DS K mg X ES (.Assign [.Name x r_] e pos) (aQ ow i p).F:=B4 hN hi hx he hs hf
def zgN(i:Nat){x:Str}(hN:X.N.Nodup)(hi:X.N[i]?=some x:=by exact rfl)(hx:Loc X.env.scope x:=by first |exact Or.inl rfl |exact Or.inr rfl)(hf:X.fn x=true\/X.env.scope.names.lookup x=some .local:=by first |exact .inl rfl |exact .inr rfl |assumption):DG K mg X ES (.Name x pos) (gtN i).F:=zF hN hi hx hf
end
def vS:Val->Val->Bv:=λx y=>match x,y with
 |.lst xs,.lst []=>.val (.bl (!xs.isEmpty))
 |_,_=>.stuck
def CW:RO m8 vS:=λP h d1 d2 v1 v2 r1 r2=>by
 unfold vS;split
 .obtain⟨n,es,rfl,g1,_,g2⟩:=ShR.lst r1;obtain⟨m,fs,rfl,g3,_,g4⟩:=ShR.lst r2;cases g4;refine⟨_,?_,.bl _⟩;unfold m8;dsimp only;rw[g1,g3];dsimp only;cases g2 <;> rfl
 .trivial
def vf:PO2:=⟨m8,vS,CW⟩
def xj(xs:List Val):vf.G (.lst xs) (.lst [])=.val (.bl (!xs.isEmpty)):=rfl
def Bq{K:W.Frag}{mg:Jo}:OpD K mg wj vf.F:=y9
open PySem PySem.Spec PyProof.Rows L2 PySem.W
noncomputable def adr(K:Frag)(x:Str):Addr:=match nsIn K mainGlobals x with
 |some (some (.ref a))=>a
 |_=>0
noncomputable def eY(K:Frag)(x:Str):Bool:=match nsIn K mainGlobals x with
 |some (some (.ref _))=>true
 |_=>false
noncomputable def nU(K:Frag)(x:Str):Bool:=match nsIn K mainGlobals x with
 |some none=>true
 |_=>false
noncomputable def xcB(K:Frag)(C:Addr):Bool:=(clsIn K C).isSome&&(findIn K (.ref C) "__getattribute__" == some (some (.builtin "BaseException.__getattribute__"))&&(findIn K (.ref C) "__getattr__" == some none&&(findIn K (.ref C) "__class__" == some (some (.builtin "object.__class__"))&&(specialIn K (.builtin "object.__class__") "__get__" == some (some (.builtin "getset_descriptor.__get__"))&&(takesIn K (.builtin "object.__class__")==some true&&(mroIn K C (.type "object")==some true&&mroIn K C (.type "BaseException")==some true))))))
noncomputable def hdB(K:Frag)(C:Addr):Bool:=typeIn K (.ref C)==some (.type "type")&&((clsIn K C).isSome&&mroIn K C (.type "BaseException")==some true)
noncomputable def clA(K:Frag):Cl->Value
 |.b n=>.type n
 |.o x=>.ref (adr K x)
noncomputable def vh(K:Frag):Cl->Bool
 |.b _=>true
 |.o x=>eY K x
noncomputable def vJ(K:Frag)(p:Cl×Cl×Bool):Bool:=kitOne K (clA K p.1) (clA K p.2.1)==some p.2.2&&(vh K p.1&&vh K p.2.1)
noncomputable def xkB(K:Frag):Cl->Bool
 |.b _=>true
 |.o x=>xcB K (adr K x)
noncomputable def qT:D->Value->Bool
 |.int i,.int j _=>i==j
 |.str x,.str y _=>x==y
 |.non,.none=>true
 |.bl b,.bool c=>b==c
 |_,_=>false
noncomputable def dV:D->V
 |.int i=>.int i
 |.str x=>.str x
 |.bl b=>.bl b
 |_=>.non
noncomputable def lZ:List D->List Value->Bool
 | [],[]=>true
 |d::ds,v::vs=>qT d v&&lZ ds vs
 |_,_=>false
noncomputable def gcB(K:Frag)(x:Str):D->Bool
 |.tup ds=>(match nsIn K mainGlobals x with
  |some (some (.ref a))=>(match K.lookup a with
   |some ⟨.type "tuple",_,.seq its _,_⟩=>decide (its.size<=1000)&&lZ ds its.toList
   |_=>false)
  |_=>false)
 |d=>match nsIn K mainGlobals x with
  |some (some v)=>qT d v
  |_=>false
noncomputable def bFn:List String:=["abs", "all", "any", "isinstance", "len", "max", "min", "sorted", "sum"]
def bTy:List String:=["bool", "dict", "int", "list", "set", "str", "tuple", "ValueError"]
noncomputable def bIt:List String:=["range", "zip", "enumerate"]
def DX:(bFn.all λn=>bootBuiltins (Str.ofString n)==some (.builtin n))=true:=by decide
def Ep:(bTy.all λn=>bootBuiltins (Str.ofString n)==some (.type n))=true:=by decide
def boF{n:String}(h:bFn.contains n=true):bootBuiltins (Str.ofString n)=some (.builtin n):=Hw.mp (Hd.mp DX n (Hx.mp h))
def boT{n:String}(h:bTy.contains n=true):bootBuiltins (Str.ofString n)=some (.type n):=Hw.mp (Hd.mp Ep n (Hx.mp h))
structure Tb where
 us:List Str
 rs:List Str
 hs:List (Str×List Str)
 kt:fN
 gs:List (Str×D)
noncomputable def Tb.ok(b:Tb)(K:Frag):Bool:=(bFn++(bTy++bIt)).all (λn=>nU K (Str.ofString n))&&(b.us.all (eY K)&&(b.rs.all (λx=>excIn K (adr K x) iK "ValueError.__new__" && eY K x)&&(b.hs.all (λp=>hdB K (adr K p.1)&&p.2.all λc=>mroIn K (adr K c) (.ref (adr K p.1))==some true&&eY K c)&&(b.kt.all (λp=>vJ K p&&xkB K p.1)&&b.gs.all λp=>gcB K p.1 p.2))))
structure Tx(b:Tb)(K:Frag)(mg:Jo):Prop where
 n:∀{n:String},(bFn++(bTy++bIt)).contains n=true->mg (Str.ofString n)=none
 m:∀{x:Str},b.us.contains x=true->mg x=some (.ref (adr K x))
 x:∀{x:Str},b.rs.contains x=true->excIn K (adr K x) iK "ValueError.__new__"=true
 h:∀{x:Str}{l:List Str},(x,l)∈b.hs->XHand K (adr K x)/\∀c∈l,∀Ce,mg c=some (.ref Ce)->mroIn K Ce (.ref (adr K x))=some true
 k:KitsOk K mg b.kt
 g:∀{x:Str}{d:D},b.gs.lookup x=some d->GC K mg x d
section
variable{K:Frag}{h:Heap}{mg:Jo}{x:Str}(X:K.In h)(G:h.Ns mainGlobals mg)
include X G
def iq(e:eY K x=true):mg x=some (.ref (adr K x)):=by
 unfold eY at e;split at e
 .rename_i a q;unfold adr;rw[q];exact mg_of X G q
 .cases e
def rn(e:nU K x=true):mg x=none:=by
 unfold nU at e;split at e
 .rename_i q;exact mg_none_of X G q
 .cases e
omit X G in
def Fy{C:Addr}(e:xcB K C=true):XCls K C:=by simp only[xcB,x_,Hw] at e;obtain⟨e1,e2,e3,e4,e5,e6,e7,e8⟩:=e;exact⟨e1,e2,e3,e4,e5,e6,e7,e8⟩
def xf{c:Cl}{v:Value}(e:vh K c=true)(q:ClV mg c v):v=clA K c:=by
 cases c with
 |b n=>exact q
 |o y=>obtain⟨a,rfl,m⟩:=q;rw[iq X G (show eY K y=true from e)] at m;cases m;rfl
omit X G in
def rN{d:D}{v:Value}(e:qT d v=true):RelV (dV d) v/\∀ρ H,RelD K mg ρ H d (dV d):=by
 unfold qT at e;split at e
 .cases Hw.mp e;exact⟨⟨_,rfl⟩,λ_ _=>.int _⟩
 .cases Hw.mp e;exact⟨⟨_,rfl⟩,λ_ _=>.str _⟩
 .exact⟨rfl,λ_ _=>.non⟩
 .cases Hw.mp e;exact⟨rfl,λ_ _=>.bl _⟩
 .cases e
omit X G in
theorem oK:∀{ds:List D}{vs:List Value},lZ ds vs=true->Vals (ds.map dV) vs/\∀ρ H,RelDs K mg ρ H ds (ds.map dV)
 | [],[],_=>⟨.nil,λ_ _=>.nil⟩
 |
  d::ds,v::vs,e=>by
  rw[lZ,x_] at e;obtain⟨a1,a2⟩:=rN (K:=K) (mg:=mg) e.1;obtain⟨b1,b2⟩:=oK e.2;exact⟨.cons a1 b1,λρ H=>.cons (a2 ρ H) (b2 ρ H)⟩
 | [],_::_,e=>nomatch e
 |_::_,[],e=>nomatch e
def GY{d:D}(e:gcB K x d=true):GC K mg x d:=by
 unfold gcB at e;split at e
 .rename_i ds;split at e
  .rename_i a q;split at e
   .rename_i dd its n sl l;rw[x_] at e;obtain⟨v1,v2⟩:=oK (K:=K) (mg:=mg) e.2;exact C6 X G q l (G6 (IU e.1) (by decide)) v1 v2
   .cases e
  .cases e
 .split at e
  .rename_i v q;obtain⟨v1,v2⟩:=rN (K:=K) (mg:=mg) e;exact⟨_,_,mg_of X G q,v1,v2⟩
  .cases e
omit X G in
theorem rW{d:D}:∀{l:List (Str×D)},l.lookup x=some d->(x,d)∈l
 | [],h=>nomatch h
 |
  (y,e)::l,h=>by
  rw[HR] at h;split at h
  .rename_i q;cases h;rw[Hw.mp q];exact G5
  .exact F_ _ (rW h)
def Fv{b:Tb}(e:b.ok K=true):Tx b K mg:=by
 unfold Tb.ok at e;simp only[x_] at e;obtain⟨e1,e2,e3,e4,e5,e6⟩:=e;simp only[Hd,x_] at e1 e2 e3 e4 e5 e6;refine⟨λh=>rn X G (e1 _ (Hx.mp h)),λh=>iq X G (e2 _ (Hx.mp h)),λh=>(e3 _ (Hx.mp h)).1,λh=>?_,⟨λp hp t v h1 h2=>?_,λp hp x C e' m=>?_⟩,λh=>GY X G (e6 _ (rW h))⟩
 .obtain⟨a1,a2⟩:=e4 _ h;refine⟨?_,λc hc Ce m=>?_⟩
  .simp only[hdB,x_,Hw] at a1;exact⟨a1.1,a1.2.1,a1.2.2⟩
  .obtain⟨b1,b2⟩:=a2 c hc;rw[iq X G b2] at m;cases m;exact Hw.mp b1
 .obtain⟨a1,_⟩:=e5 p hp;simp only[vJ,x_,Hw] at a1;rw[xf X G a1.2.1 h1,xf X G a1.2.2 h2];exact a1.1
 .obtain⟨a1,a2⟩:=e5 p hp;simp only[vJ,x_,Hw] at a1;have a3:=a1.2.1;rw[e'] at a2 a3;rw[iq X G (show eY K x=true from a3)] at m;cases m;exact Fy a2
end
def dNm(s:Stmt):Str:=match s with
 |.FunctionDef n ..=>n
 |_=>""
def AllD(K:Frag)(mg:Jo)(top:Nat->Stmt):List Nat->Prop
 | []=>True
 |i::l=>Def K mg (dNm (top i)) (top i)/\AllD K mg top l
theorem AllD.get{K:Frag}{mg:Jo}{top:Nat->Stmt}:∀{l:List Nat},AllD K mg top l->∀i,l.contains i=true->Def K mg (dNm (top i)) (top i)
 | [],_,i,h=>nomatch h
 |
  j::l,⟨a,b⟩,i,h=>by
  rcases Hv.mp (Hx.mp h) with rfl |h
  .exact a
  .exact b.get i (Hx.mpr h)
structure Ty(b:Tb)(top:Nat->Stmt)(ds:List Nat)(K:Frag)(mg:Jo):Prop extends Tx b K mg where
 d:AllD K mg top ds
noncomputable def scB(N P:List Str)(sc:Scope):Bool:=decide (sc.kind=.function)&&(!sc.isCoroutine&&(!sc.isGenerator&&(decide N.Nodup&&(decide (N.take P.length=P)&&(P.all (λx=>decide (sc.names.lookup x=some .local\/sc.names.lookup x=some .cell))&&sc.names.all λy=>decide (y.2 ≠ .free))))))
def aM{N P:List Str}{sc:Scope}(e:scB N P sc=true):FnScope N P sc:=by simp only[scB,x_,HD,Hd,Bool.not_eq_true'] at e;obtain⟨e1,e2,e3,e4,e5,e6,e7⟩:=e;exact⟨e1,e2,e3,e4,e5,e6,e7⟩
section
variable{K:W.Frag}{mg:Jo}{X:Cx}{ES:L2.St->XK}{c tg a_ f_:Expr}{p:PEx}{t:PTs}{x:PSt}{g:PGt}{I:PIt}{pos:Pos}
def pQ{scope:Scope}(M:List Str)(kn:List (Str×NameKind))(N:List Str)(sub:Jr){hsb:(sub.filterMap id).Nodup}(hi:DI K mg X ES tg a_ I.F)(hg:N.Nodup->∀cl C s₂ H fp,DG K mg (ao X N scope cl C s₂ H fp) (λ_=>E0) tg g.F)(he:N.Nodup->∀cl C s₂ H fp,DE K mg (ao X N scope cl C s₂ H fp) (λ_=>E0) f_ p.F)(hnd:N.Nodup:=by decide)(hc:X.calm=true:=by rfl)(hM:X.N=M:=by rfl)(hkn:X.env.scope.names=kn:=by rfl)(e_:bH M scope.names sub N=true:=by decide)(hk:scope.kind=.function:=by rfl)(n_:∀x∈scope.names,x.2 ≠ .cell:=by decide)(b_:∀x∈scope.names,x.2=.local->scope.names.lookup x.1=some .local:=by decide)(l_:cp kn scope.names=true:=by decide)(o_:sub.length=N.length:=by rfl)(hs:∀x,foldedSetIterable a_ X.env x=pure x:=by intro _;rfl):DE K mg X ES (.ListComp f_ [⟨tg,a_,[],0⟩] scope pos) (pLC I sub hsb g qY p).F:=E2 M kn N sub hc hi (hg hnd) (he hnd) hM hkn e_ hk n_ b_ l_ o_ hs
def CN{scope:Scope}(M:List Str)(kn:List (Str×NameKind))(N:List Str)(sub:Jr){hsb:(sub.filterMap id).Nodup}(hi:DI K mg X ES tg a_ I.F)(hg:N.Nodup->∀cl C s₂ H fp,DG K mg (ao X N scope cl C s₂ H fp) (λ_=>E0) tg g.F)(ht:N.Nodup->∀cl C s₂ H fp,DT K mg (ao X N scope cl C s₂ H fp) (λ_=>E0) c t.F)(he:N.Nodup->∀cl C s₂ H fp,DE K mg (ao X N scope cl C s₂ H fp) (λ_=>E0) f_ p.F)(hnd:N.Nodup:=by decide)(hc:X.calm=true:=by rfl)(hM:X.N=M:=by rfl)(hkn:X.env.scope.names=kn:=by rfl)(e_:bH M scope.names sub N=true:=by decide)(hk:scope.kind=.function:=by rfl)(n_:∀x∈scope.names,x.2 ≠ .cell:=by decide)(b_:∀x∈scope.names,x.2=.local->scope.names.lookup x.1=some .local:=by decide)(l_:cp kn scope.names=true:=by decide)(o_:sub.length=N.length:=by rfl)(hs:∀x,foldedSetIterable a_ X.env x=pure x:=by intro _;rfl):DE K mg X ES (.ListComp f_ [⟨tg,a_,[c],0⟩] scope pos) (pLC I sub hsb g t p).F:=zT M kn N sub hc hi (hg hnd) (ht hnd) (he hnd) hM hkn e_ hk n_ b_ l_ o_ hs
def zSlc{ow:Bool}{px spos:Pos}{iT:Nat}{xT:Str}{scope:Scope}(hN:X.N.Nodup)(M:List Str)(kn:List (Str×NameKind))(N:List Str)(sub:Jr){hsb:(sub.filterMap id).Nodup}(hi:DI K mg X ES tg a_ I.F)(hg:N.Nodup->∀cl C s₂ H fp,DG K mg (ao X N scope cl C s₂ H fp) (λ_=>E0) tg g.F)(he:N.Nodup->∀cl C s₂ H fp,DE K mg (ao X N scope cl C s₂ H fp) (λ_=>E0) f_ p.F)(hsw:swapsWith (.ListComp f_ [⟨tg,a_,[],0⟩] scope pos) (some (.Name xT px)) spos.line X.env=pure true:=by rfl)(hnd:N.Nodup:=by decide)(hc:X.calm=true:=by rfl)(hix:X.N[iT]?=some xT:=by rfl)(hxl:Loc X.env.scope xT:=by first |exact Or.inl rfl |exact Or.inr rfl)(hM:X.N=M:=by rfl)(hkn:X.env.scope.names=kn:=by rfl)(e_:bH M scope.names sub N=true:=by decide)(hk:scope.kind=.function:=by rfl)(n_:∀x∈scope.names,x.2 ≠ .cell:=by decide)(b_:∀x∈scope.names,x.2=.local->scope.names.lookup x.1=some .local:=by decide)(l_:cp kn scope.names=true:=by decide)(o_:sub.length=N.length:=by rfl)(hs:∀x,foldedSetIterable a_ X.env x=pure x:=by intro _;rfl)(hf:X.fn xT=true\/X.env.scope.names.lookup xT=some .local:=by first |exact .inl rfl |exact .inr rfl |assumption):DS K mg X ES (.Assign [.Name xT px] (.ListComp f_ [⟨tg,a_,[],0⟩] scope pos) spos) (aQ ow iT (pLC I sub hsb g qY p)).F:=Ey M kn N sub hc hN hix hxl hi (hg hnd) (he hnd) hsw hM hkn e_ hk n_ b_ l_ o_ hs hf
def Ea{ow:Bool}{px spos:Pos}{iT:Nat}{xT:Str}{scope:Scope}(hN:X.N.Nodup)(M:List Str)(kn:List (Str×NameKind))(N:List Str)(sub:Jr){hsb:(sub.filterMap id).Nodup}(hi:DI K mg X ES tg a_ I.F)(hg:N.Nodup->∀cl C s₂ H fp,DG K mg (ao X N scope cl C s₂ H fp) (λ_=>E0) tg g.F)(ht:N.Nodup->∀cl C s₂ H fp,DT K mg (ao X N scope cl C s₂ H fp) (λ_=>E0) c t.F)(he:N.Nodup->∀cl C s₂ H fp,DE K mg (ao X N scope cl C s₂ H fp) (λ_=>E0) f_ p.F)(hsw:swapsWith (.ListComp f_ [⟨tg,a_,[c],0⟩] scope pos) (some (.Name xT px)) spos.line X.env=pure true:=by rfl)(hnd:N.Nodup:=by decide)(hc:X.calm=true:=by rfl)(hix:X.N[iT]?=some xT:=by rfl)(hxl:Loc X.env.scope xT:=by first |exact Or.inl rfl |exact Or.inr rfl)(hM:X.N=M:=by rfl)(hkn:X.env.scope.names=kn:=by rfl)(e_:bH M scope.names sub N=true:=by decide)(hk:scope.kind=.function:=by rfl)(n_:∀x∈scope.names,x.2 ≠ .cell:=by decide)(b_:∀x∈scope.names,x.2=.local->scope.names.lookup x.1=some .local:=by decide)(l_:cp kn scope.names=true:=by decide)(o_:sub.length=N.length:=by rfl)(hs:∀x,foldedSetIterable a_ X.env x=pure x:=by intro _;rfl)(hf:X.fn xT=true\/X.env.scope.names.lookup xT=some .local:=by first |exact .inl rfl |exact .inr rfl |assumption):DS K mg X ES (.Assign [.Name xT px] (.ListComp f_ [⟨tg,a_,[c],0⟩] scope pos) spos) (aQ ow iT (pLC I sub hsb g t p)).F:=yr M kn N sub hc hN hix hxl hi (hg hnd) (ht hnd) (he hnd) hsw hM hkn e_ hk n_ b_ l_ o_ hs hf
end
section
variable{K:W.Frag}{mg:Jo}{P:Program}{w:World}{base:Heap}{fx:Str}{fst:Stmt}{k n m:Nat}{ps N:List Str}{ms:List Bool}{x:PSt}
def bf(D:Def K mg fx fst)(S:FnScope N ps (ak fst))
 (hb:∀(kV doc pm:Value) (an:Option Addr) (cdv ct:Value) (us:List Value),us.length=ps.length->bindArgs (W.fnOf fx fx (bT fst) (aT fst) (ak fst) .none kV doc pm an cdv ct) ⟨us,[]⟩=pure (ps.zip us))
 (k_:N.Nodup->∀(f:Addr) (cdv:Value) (A:Around) (outer:List Env) (s:Shared) (H:Hp) (E:XK),Room k (A.deeper (envOfC fx (ak fst) s.heap.objs.size f cdv))->
  DSs K mg (cz (CX1 P w) P w K mg base N fx (ak fst) f cdv A outer s H E) (λ_=>E) (aT fst) x.F) (hn:ps.length=n:=by rfl) (hm:N.length=m:=by rfl):Callee P w K mg base fx (k+1) ps (spD K mg n (fnP ms m x).F):=okP D S hb (k_ S.nd) hn hm
end
def wu(K:Frag)(mg:Jo)(x:Str):Prop:=x∈iF/\(∀y∈iF,y≠x->mg y=none)/\∀f oc od fd sl,mg x=some (.ref f)->K.lookup f=some ⟨oc,od,.func fd,sl⟩->∃c P,fd.code=.ref c/\codeHdIn K c P=true
noncomputable def qz(K:Frag)(a:Addr):Option (Addr×Addr):=match K.lookup a with
 |some ⟨_,_,.func fd,_⟩=>(match fd.code with
  |.ref c=>(match K.lookup c with
   |some ⟨_,_,.fields vs,_⟩=>(match (vs[11]?:Option Value) with
    |some (.ref P)=>if codeHdIn K c P=true then some (c,P) else none
    |_=>none)
   |_=>none)
  |_=>none)
 |_=>none
noncomputable def lamB(K:Frag)(x:Str):Bool:=iF.contains x&&(iF.all (λy=>y==x || nU K y)&&(eY K x&&(qz K (adr K x)).isSome))
noncomputable def F5(K:Frag)(ts:List Addr):Bool:=iF.all λx=>nU K x || (eY K x&&(match qz K (adr K x) with
 |some (_,P)=>ts.contains P
 |none=>false))
noncomputable def wY(K:Frag)(ts:List Addr):Bool:=ts.all λP=>(K.lookup P).isNone&&K.any λp=>codeHdIn K p.1 P
def oT{K:Frag}{a c P:Addr}(e:qz K a=some (c,P)):∃oc od fd sl,K.lookup a=some ⟨oc,od,.func fd,sl⟩/\fd.code=.ref c/\codeHdIn K c P=true:=by
 unfold qz at e;split at e
 .rename_i oc od fd sl h1;split at e
  .rename_i c' h2;split at e
   .split at e
    .split at e
     .rename_i h3;cases e;exact⟨_,_,fd,_,h1,h2,h3⟩
     .cases e
    .cases e
   .cases e
  .cases e
 .cases e
def AZ{K:Frag}{c P P':Addr}(h:codeHdIn K c P=true)(h':codeHdIn K c P'=true):P=P':=by
 unfold codeHdIn at h h';split at h
 .rename_i vs hk;rw[hk] at h';simp only[x_] at h h';have a:=h.1.1.1.1.1;have b:=h'.1.1.1.1.1;split at a
  .rename_i x hx;rw[hx] at b;rw[Hw] at a b;exact a.symm.trans b
  .cases a
 .cases h
section
variable{K:Frag}{h:Heap}{mg:Jo}(X:K.In h)(G:h.Ns mainGlobals mg)
include X G
def DC{x:Str}(e:lamB K x=true):wu K mg x:=by
 simp only[lamB,x_,Hd,Ja] at e;obtain⟨e1,e2,e3,e4⟩:=e;refine⟨Hx.mp e1,λy hy hne=>?_,λf oc od fd sl m lk=>?_⟩
 .rcases e2 y hy with z |z
  .exact absurd (Hw.mp z) hne
  .exact rn X G z
 .obtain⟨⟨c,P⟩,ec⟩:=HG.mp e4;obtain⟨oc',od',fd',sl',l1,l2,l3⟩:=oT ec;have m':=iq X G e3;rw[m] at m';cases m';rw[lk] at l1;cases l1;exact⟨c,P,l2,l3⟩
def Cm{ts:List Addr}(e:F5 K ts=true)(P:Addr)(q:Str)(l:LamT K mg P q):P∈ts:=by
 obtain⟨x,f,oc,od,fd,sl,c,a1,a2,a3,a4,a5,a6,_⟩:=l;have z:=Hd.mp e x a1;rw[Ja] at z;rcases z with z |z
 .have:=rn X G z
  rw[a3] at this;cases this
 .rw[x_] at z;obtain⟨z1,z2⟩:=z;have m':=iq X G z1;rw[a3] at m';cases m';split at z2
  .rename_i c' P' ec;obtain⟨oc',od',fd',sl',l1,l2,l3⟩:=oT ec;rw[a4] at l1;cases l1;rw[a5] at l2;cases l2;rw[AZ a6 l3];exact Hx.mp z2
  .cases z2
end
def yW{K:Frag}{ts:List Addr}{h:Heap}(e:wY K ts=true)(a:∀P∈ts,h.get? P=some (tabObj #[])):TabsOk K ts h:=by
 simp only[wY,Hd,x_,List.any_eq_true] at e;refine⟨a,λP hP=>?_,λP hP=>?_⟩
 .have:=(e P hP).1
  rw[Option.isNone_iff_eq_none] at this;exact this
 .obtain⟨p,_,q⟩:=(e P hP).2;exact⟨p.1,q⟩
section
variable{K:W.Frag}{mg:Jo}{P:Program}{w:World}{base:Heap}{fx:Str}{fst:Stmt}{k n m:Nat}{ps N:List Str}{ms:List Bool}{x:PSt}
def okPL(D:Def K mg fx fst)(L:wu K mg fx)(S:FnScope N ps (ak fst))
 (hb:∀(kV doc pm:Value) (an:Option Addr) (cdv ct:Value) (us:List Value),us.length=ps.length->bindArgs (W.fnOf fx fx (bT fst) (aT fst) (ak fst) .none kV doc pm an cdv ct) ⟨us,[]⟩=pure (ps.zip us))
 (k_:N.Nodup->∀(f:Addr) (A:Around) (outer:List Env) (s:Shared) (H:Hp) (E:XK) (c T:Addr),codeHdIn K c T=true->LamT K mg T (fx ++ ".<locals>." ++ "<lambda>")->Room k (A.deeper (envOfC fx (ak fst) s.heap.objs.size f (.ref c)))->
  DSs K mg (cz (CX1 P w) P w K mg base N fx (ak fst) f (.ref c) A outer s H E) (λ_=>E) (aT fst) x.F) (hn:ps.length=n:=by rfl) (hm:N.length=m:=by rfl):Callee P w K mg base fx (k+1) ps (spD K mg n (fnP ms m x).F):=by
 subst hn hm;obtain⟨f,fd,Ff,mm⟩:=D.ex;have bd:=Ff.binds hb;have kp:=Ff.kp;obtain⟨oc,od,kV,doc,pm,an,cdv,ct,osl,rfl,lk,p_⟩:=Ff.ex;obtain⟨c,T,e1,e2⟩:=L.2.2 f _ _ _ _ mm lk;have e1:cdv=.ref c:=e1;subst e1;have LT:LamT K mg T (fx ++ ".<locals>." ++ "<lambda>"):=⟨fx,f,oc,od,_,osl,c,L.1,L.2.1,mm,lk,rfl,e2,rfl⟩;refine⟨f,_,w6 lk p_ S (λvs H Q E ⟨ρ,h,ds,w,rs,hl,p⟩=>by rw[<- rs.len];exact hl) λA outer s H vs Q E hr ⟨ρ,h,ds,w',rs,hl,p⟩=>?_,mm,kp,bd,oc,od,osl,lk⟩;have p:bY K mg ρ H Q E (fnD N.length x.F ds h):=p;have hb2:=k_ S.nd f A outer s H E c T e2 LT hr;with_unfolding_all refine⟨_,hb2,ρ,h,_,w',jj rs,?_⟩
 unfold fnD at p;split at p
 .rename_i e;rw[e];exact λρ1 H1 σ1 l1 w1 re1=>p ρ1 H1 l1 w1 _ .non
 .rename_i e;rw[e];exact λρ1 H1 v l1 w1 rv=>p ρ1 H1 l1 w1 v rv
 .rename_i e;rw[e];exact λρ1 H1 σ1 C l1 w1 re1 m1=>p ρ1 H1 C l1 w1 m1
 .exact p.elim
end
def sy{K:W.Frag}{mg:Jo}:kD K mg rA seD.F:=zv
def eG:List Val->Option (List Str)
 | []=>some []
 |.tup (.str x::_)::ds=>(eG ds).map (x :: ·)
 |_::_=>none
def rL{P:Nat->Prop}{h:AH}:∀{ds:List D}{vs:List Val}{ks:List Str},Rds P h ds vs->eG vs=some ks->eQ ds=some ks:=by
 intro ds;induction ds with
 |nil=>intro vs ks r e;cases r;cases e;rfl
 |
  cons d ds ih=>
  intro vs ks r e;cases r with
  |
   cons r rr=>
   rename_i v vs;unfold eG at e;split at e
   .rename_i z;exact (nomatch z)
   .rename_i x aw ds' z;cases z;obtain⟨ms,e1,rfl⟩:=G9.mp e;obtain⟨d2,rfl,rs⟩:=ShR.tup (.inl r);cases rs with
    |cons r1 rs=>obtain rfl:=ShR.str (.inl r1);rw[eQ,ih rr e1];rfl
   .cases e
theorem ny{P:Nat->Prop}{h:AH}:∀{xs:List Str}{ds:List D}{us:List Val},ds.length=xs.length->Rds P h ds us->All2 (Rd P h) (xs.zip ds) (xs.zip us)
 | [],[],_,_,r=>by cases r;exact .nil
 |
  x::xs,d::ds,_,h,r=>by
  cases r with
  |cons r rr=>exact .cons r (ny (by simpa using h) rr)
def vR{P:Nat->Prop}{h:AH}:∀{l:List (Str×D)}{m:List (Str×Val)},All2 (Rd P h) l m->Rds P h (l.map (·.2)) (m.map (·.2)):=λq=>by
 induction q with
 |nil=>exact .nil
 |cons r _ ih=>exact .cons r ih
theorem lC:∀{ds:List Val}{ks:List Str},eG ds=some ks->ks.length=ds.length
 | [],_,e=>by cases e;rfl
 |
  d::ds,ks,e=>by
  unfold eG at e;split at e
  .rename_i z;exact (nomatch z)
  .rename_i z;cases z;obtain⟨ms,e1,rfl⟩:=G9.mp e;rw[Hr,Hr,lC e1]
  .cases e
def i8:List Val->Bv:=λvs=>match vs with
 | [.lst us]=>match eG us with
  |some ks=>if ks.Nodup/\ks.length<64 then .new (.lst ((aH (ks.zip us)).map (·.2))) else .stuck
  |none=>.stuck
 |_=>.stuck
def zu:RFn gZ i8:=λP h ds vs r=>by
 unfold i8;split
 .obtain⟨d,hd,r1⟩:=gg r;subst hd;split
  .rename_i ks q;split
   .rename_i hb;obtain⟨n,es,rfl,g1,_,g2⟩:=ShR.lst r1;have e:=rL g2 q;refine⟨.lst ((aH (ks.zip es)).map (·.2)),?_,trivial,.lst (vR ((ny (gx e).symm g2).srt (by rw[H9 (by rw[lC q];exact y_ _)];exact hb.1)))⟩;unfold gZ lsD aJ;dsimp only;rw[g1];dsimp only;rw[e];dsimp only;rw[if_pos hb]
   .trivial
  .trivial
 .trivial
noncomputable def jg:PBf:=⟨gZ,i8,zu⟩
def rwS(p:Str×List Val):Val:=.tup (.str p.1::p.2)
theorem kJ:∀l:List (Str×List Val),eG (l.map rwS)=some (l.map (·.1))
 | []=>rfl
 |
  p::l=>by
  rw[D_,D_];unfold rwS;rw[eG,show (λp:Str×List Val=>Val.tup (.str p.1::p.2))=rwS from rfl,kJ l];rfl
def Bg(l:List (Str×List Val))(nd:(l.map (·.1)).Nodup)(h:l.length<64):jg.G [.lst (l.map rwS)]=.new (.lst ((aH l).map rwS)):=by
 show i8 [.lst (l.map rwS)]=_;unfold i8;dsimp only;rw[kJ];dsimp only;rw[if_pos ⟨nd,by rw[v_];exact h⟩];have a2:∀l:List (Str×List Val),All2 (λv p=>v=Val.tup (.str p.1::p.2)) ((l.map (·.1)).zip (l.map rwS)) (l.map λp=>(p.1,p)):=λl=>by
  induction l with
  |nil=>exact .nil
  |cons p l ih=>exact .cons rfl ih
 have key:=(a2 l).srt (by rw[H_];exact nd);have e:aH (l.map λp=>(p.1,p))=(aH l).map λp=>(p.1,p):=by exact (fE (a:=(aH l).map λp=>(p.1,p)) (b:=l.map λp=>(p.1,p)) (by rw[H_];exact nd) ((bI l).map λp:Str×List Val=>(p.1,p)) (Ij.mpr (ff l))).symm
 rw[e] at key;congr 2;have g_:∀(a:List (Str×Val)) (b:List (Str×List Val)),All2 (λv p=>v=Val.tup (.str p.1::p.2)) a (b.map λp=>(p.1,p))->a.map (·.2)=b.map rwS:=λa b=>by
  induction b generalizing a with
  |nil=>intro h;cases h;rfl
  |
   cons p b ih=>
   intro h;cases h with
   |cons r h=>rw[D_,D_,ih _ h,r];rfl
 exact g_ _ _ key
section
variable{K:W.Frag}{mg:Jo}{X:Cx}{ES:L2.St->XK}{a:Expr}{p:PEx}{c P:Addr}{q1 q7 q8 q9 p0 p1 p2 p3:Pos}{k0:Nat}
def zB(hdp:X.A.depth<recursionLimit)(hl:Gl X "sorted")(hml:mg "sorted"=none)(p_:X.env.code=.ref c)(hh:W.codeHdIn K c P=true)(hT:LamT K mg P (X.env.qual ++ "<lambda>"))(ha:DE K mg X ES a p.F)(hK:X.K=K:=by rfl)(hk:X.mg=mg:=by rfl)(hs:starEach [a] X.env=[(false,eval a X.env)]:=by rfl):
 DE K mg X ES (.Call (.Name "sorted" q1) [a] [⟨some "key",.Lambda (cC p0) (cj p1 p2 p3 k0) bt q7,q8⟩] q9) (pFn jg (aa p ag)).F:=by
 subst hk;with_unfolding_all exact yh hdp hl hml ha p_ hh hT hs hK rfl
end
structure TyN(nm:Str)(b:Tb)(top:Nat->Stmt)(ds:List Nat)(K:Frag)(mg:Jo):Prop extends Ty b top ds K mg where
 l:wu K mg nm
def ik:List Val->Option (List Str)
 | []=>some []
 |.str x::vs=>(ik vs).map (x :: ·)
 |_::_=>none
theorem lE:∀l:List Str,ik (l.map .str)=some l
 | []=>rfl
 |x::l=>by rw[D_,ik,lE l];rfl
def tQ{P:Nat->Prop}{h:AH}:∀{ds:List D}{vs:List Val}{ks:List Str},Rds P h ds vs->ik vs=some ks->gX ds=some ks:=by
 intro ds;induction ds with
 |nil=>intro vs ks r e;cases r;cases e;rfl
 |
  cons d ds ih=>
  intro vs ks r e;cases r with
  |
   cons r rr=>
   rename_i v vs;unfold ik at e;split at e
   .rename_i z;exact (nomatch z)
   .rename_i z;cases z;obtain⟨ms,e1,rfl⟩:=G9.mp e;obtain rfl:=ShR.str (.inl r);rw[gX,ih rr e1];rfl
   .cases e
def jL:List Val->Bv:=λvs=>match vs with
 | [.lst us]=>match ik us with
  |some ns=>if ns≠[] then .val (.str (mnS ns)) else .stuck
  |none=>.stuck
 |_=>.stuck
def yi:RFn jq jL:=λP h ds vs r=>by
 unfold jL;split
 .obtain⟨d,hd,r1⟩:=gg r;subst hd;split
  .rename_i ks q;split
   .rename_i hb;obtain⟨n,es,rfl,g1,_,g2⟩:=ShR.lst r1;refine⟨_,?_,.str _⟩;unfold jq aJ;dsimp only;rw[g1];dsimp only;rw[Option.bind_some,tQ g2 q];dsimp only;rw[if_pos hb]
   .trivial
  .trivial
 .trivial
noncomputable def mZ:PBf:=⟨jq,jL,yi⟩
def DB{ns:List Str}(h:ns≠[]):mZ.G [.lst (ns.map .str)]=.val (.str (mnS ns)):=by show jL [.lst (ns.map .str)]=_;unfold jL;dsimp only;rw[lE];dsimp only;rw[if_pos h]
def jd:Val->Val->Bv:=λx y=>match x,y with
 |.str z,.str u=>if z.length+u.length<=16777216 then .val (.str (z++u)) else .stuck
 |_,_=>.stuck
def yQ:RO ju jd:=λP h d1 d2 v1 v2 r1 r2=>by
 unfold jd;split
 .rw[r1.str,r2.str];split
  .rename_i hz;exact⟨_,by unfold ju;dsimp only;rw[if_pos hz],.str _⟩
  .trivial
 .trivial
def gW:PO2:=⟨ju,jd,yQ⟩
def tM{z u:Str}(hz:z.length+u.length<=16777216):gW.G (.str z) (.str u)=.val (.str (z++u)):=by show jd (.str z) (.str u)=_;unfold jd;dsimp only;rw[if_pos hz]
section
variable{K:W.Frag}{mg:Jo}
def Af:OpD K mg qI gW.F:=wR
def zX:bK K mg (qK K) mZ.F:=zw
end
section
variable{α:Type}(p:Str×α->Bool)(ar:Str×α->Rat)
def bM(s:Option (Str×Rat))(r:Str×α):Option (Str×Rat):=if (p r&&(match s with
 |none=>true
 |some x=>decide (ar r<x.2)))=true then some (r.1,ar r) else s
def lsA(l:List (Str×α))(q:Rat):Rat:=l.foldl (λq r=>if ar r<q then ar r else q) q
def LsO(l:List (Str×α))(s:Option (Str×Rat)):Prop:=(s=none/\∀r∈l,p r=false)\/∃r0∈l,p r0=true/\s=some (r0.1,ar r0)/\∀r∈l,p r=true->ar r0<=ar r/\(ar r=ar r0->ltS r.1 r0.1=false)
variable{p ar}
def LsO.step{l:List (Str×α)}{s:Option (Str×Rat)}(h:LsO p ar l s){r:Str×α}(hr:∀x∈l,ltS r.1 x.1=false):LsO p ar (l++[r]) (bM p ar s r):=by
 have mem:∀{x:Str×α},x∈l++[r]->x∈l\/x=r:=λ{x} hx=>by
  rcases IG.mp hx with h |h
  .exact .inl h
  .exact .inr (HM.mp h)
 have mr:r∈l++[r]:=Hk _ (HM.mpr rfl);unfold bM;cases hp:p r with
 |
  false=>
  rw[if_neg (by simp)];rcases h with ⟨rfl,h⟩ |⟨r0,m0,p0,rfl,h⟩
  .exact .inl ⟨rfl,λx hx=>(mem hx).elim (h x) λe=>by rw[e];exact hp⟩
  .exact .inr ⟨r0,Iu _ m0,p0,rfl,λx hx px=>(mem hx).elim (λz=>h x z px) λe=>by rw[e,hp] at px;cases px⟩
 |
  true=>
  rcases h with ⟨rfl,h⟩ |⟨r0,m0,p0,rfl,h⟩
  .rw[if_pos (by simp)];exact .inr ⟨r,mr,hp,rfl,λx hx px=>(mem hx).elim (λz=>by rw[h x z] at px;cases px) λe=>by rw[e];exact⟨Jm,λ_=>dU _⟩⟩
  .by_cases lt:ar r<ar r0
   .rw[if_pos (by simp [lt])];refine .inr ⟨r,mr,hp,rfl,λx hx px=>(mem hx).elim (λz=>?_) λe=>by rw[e];exact⟨Jm,λ_=>dU _⟩⟩;have le:=(h x z px).1;exact⟨Rat.le_trans (Rat.le_of_lt lt) le,λe=>by rw[e] at le;exact absurd lt (Rat.not_lt.mpr le)⟩
   .rw[if_neg (by simp [lt])];exact .inr ⟨r0,Iu _ m0,p0,rfl,λx hx px=>(mem hx).elim (λz=>h x z px) λe=>by rw[e];exact⟨Rat.not_lt.mp lt,λ_=>hr r0 m0⟩⟩
theorem oD:∀(l pre:List (Str×α)) (s:Option (Str×Rat)),LsO p ar pre s->(pre++l).Pairwise (λx y=>ltS y.1 x.1=false)->LsO p ar (pre++l) (l.foldl (bM p ar) s)
 | [],pre,s,h,_=>by rw[IE];exact h
 |
  r::l,pre,s,h,hs=>by
  have:=oD l (pre++[r]) (bM p ar s r) (h.step λx hx=>(List.pairwise_append.mp hs).2.2 x hx r (G5 ..)) (by rw[Ii];exact hs)
  rw[Ii] at this;exact this
theorem mL:∀(l:List (Str×α)) (q:Rat),lsA ar l q<=q/\(∀r∈l,lsA ar l q<=ar r)/\(lsA ar l q=q\/∃r∈l,lsA ar l q=ar r)
 | [],q=>⟨Jm,λ_ h=>(nomatch h),.inl rfl⟩
 |
  r::l,q=>by
  unfold lsA;rw[List.foldl_cons];obtain⟨h1,h2,h3⟩:=mL l (if ar r<q then ar r else q);unfold lsA at h1 h2 h3;have m:(if ar r<q then ar r else q)<=q/\(if ar r<q then ar r else q)<=ar r/\((if ar r<q then ar r else q)=q\/(if ar r<q then ar r else q)=ar r):=by
   split
   .rename_i z;exact⟨Rat.le_of_lt z,Jm,.inr rfl⟩
   .rename_i z;exact⟨Jm,Rat.not_lt.mp z,.inl rfl⟩
  refine⟨Rat.le_trans h1 m.1,λx hx=>?_,?_⟩
  .rcases Hv.mp hx with rfl |hx
   .exact Rat.le_trans h1 m.2.1
   .exact h2 x hx
  .rcases h3 with h3 |⟨x,hx,e⟩
   .rcases m.2.2 with z |z
    .exact .inl (h3.trans z)
    .exact .inr ⟨r,G5 ..,h3.trans z⟩
   .exact .inr ⟨x,F_ _ hx,e⟩
def jb{rows:List (Str×α)}:(rows.filter p=[]/\(aH rows).foldl (bM p ar) none=none)\/∃r aw,rows.filter p=r::aw/\(((rows.filter p).filter λx=>decide (ar x=lsA ar (rows.filter p) (ar r))).map (·.1))≠[]/\∃q,(aH rows).foldl (bM p ar) none=some (mnS (((rows.filter p).filter λx=>decide (ar x=lsA ar (rows.filter p) (ar r))).map (·.1)),q):=by
 have h:=oD (p:=p) (ar:=ar) (aH rows) [] none (.inl ⟨rfl,λ_ h=>nomatch h⟩) (by rw[HA];exact ff rows);rw[HA] at h;have mm:∀x,x∈aH rows ↔ x∈rows:=λx=>(bI rows).mem_iff;rcases h with ⟨e,h⟩ |⟨r0,m0,p0,e,h⟩
 .refine .inl ⟨List.filter_eq_nil_iff.mpr λx hx=>?_,e⟩;rw[h x ((mm x).mpr hx)];exact z_
 .have mf:r0∈rows.filter p:=HE.mpr ⟨(mm r0).mp m0,p0⟩;cases hF:rows.filter p with
  |nil=>rw[hF] at mf;exact nomatch mf
  |
   cons r aw=>
   obtain⟨h1,h2,h3⟩:=mL (ar:=ar) (r::aw) (ar r);have ex:∃x∈r::aw,lsA ar (r::aw) (ar r)=ar x:=h3.elim (λz=>⟨r,G5 ..,z⟩) λz=>z;rw[hF] at mf;have back:∀x∈r::aw,x∈aH rows/\p x=true:=λx hx=>by
    rw[<- hF] at hx
    have:=HE.mp hx
    exact⟨(mm x).mpr this.1,this.2⟩
   have eq:ar r0=lsA ar (r::aw) (ar r):=by obtain⟨x,hx,ex⟩:=ex;refine Rat.le_antisymm ?_ (h2 r0 mf);rw[ex];exact (h x (back x hx).1 (back x hx).2).1
   have mn:r0.1∈((r::aw).filter λx=>decide (ar x=lsA ar (r::aw) (ar r))).map (·.1):=Je.mpr ⟨r0,HE.mpr ⟨mf,Hf eq⟩,rfl⟩;refine .inr ⟨r,aw,rfl,List.ne_nil_of_mem mn,ar r0,?_⟩;rw[e,pw mn λa ha=>?_];obtain⟨x,hx,rfl⟩:=Je.mp ha;obtain⟨hx1,hx2⟩:=HE.mp hx;exact (h x (back x hx1).1 (back x hx1).2).2 ((IU hx2).trans eq.symm)
end
end L3
namespace KK
open PySem PySem.Spec PyProof.Rows L2 L3
def top(i:Nat):Stmt:=PySem.Challenge.pw_weightrooms_k81_what_lies_in_what.main.body.getD i (.Pass ⟨0,0,0,0⟩)
def d9:fN:=[((.b "NoneType"),(.b "bool"),false),((.b "bool"),(.b "bool"),true),((.b "int"),(.b "bool"),false),((.b "str"),(.b "bool"),false),((.b "tuple"),(.b "bool"),false),((.b "list"),(.b "bool"),false),((.b "dict"),(.b "bool"),false),((.b "NoneType"),(.b "int"),false),((.b "bool"),(.b "int"),true),((.b "int"),(.b "int"),true),((.b "str"),(.b "int"),false),((.b "tuple"),(.b "int"),false),((.b "list"),(.b "int"),false),((.b "dict"),(.b "int"),false),((.b "NoneType"),(.b "list"),false),((.b "bool"),(.b "list"),false),((.b "int"),(.b "list"),false),((.b "str"),(.b "list"),false),((.b "tuple"),(.b "list"),false),((.b "list"),(.b "list"),true),((.b "dict"),(.b "list"),false),((.b "NoneType"),(.b "tuple"),false),((.b "bool"),(.b "tuple"),false),((.b "int"),(.b "tuple"),false),((.b "str"),(.b "tuple"),false),((.b "tuple"),(.b "tuple"),true),((.b "list"),(.b "tuple"),false),((.b "dict"),(.b "tuple"),false)]
abbrev tb:Tb:=⟨["NoFraction", "NoBox"],["NoFraction", "NoBox"],[],d9,[]⟩
abbrev TT(K:W.Frag)(mg:Jo):Prop:=TyN "least_around" tb top [5,6,7,8,9,10,11,13,14,15,17,18,20,21,23,24,25,26,27,28,29,30,31,32,33,34,35,36] K mg
section
variable{P:Program}{w:World}{K:W.Frag}{mg:Jo}{base:Heap}
def dI(s:String):Lean.TSyntax `term:=⟨Lean.mkIdent (s.replace "%" "").toName⟩
def dA(f:String)(a:Lean.TSyntax `term):Lean.TSyntax `term:=Lean.Syntax.mkApp (dI f) #[a]
def dF:List (Lean.TSyntax `tactic)->Lean.MacroM (Lean.TSyntax `tactic)
 | []=>`(tactic|fail)
 |a::l=>do `(tactic|first | $a:tactic | $(<- dF l):tactic)
def dL(f:String->Lean.MacroM (Lean.TSyntax `tactic)):List String->Lean.MacroM (List (Lean.TSyntax `tactic))
 | []=>pure []
 |s::l=>do return (<- f s)::(<- dL f l)
set_option hygiene false in
def dQ(ap:String->Lean.TSyntax `term)(s:String):Lean.MacroM (Lean.TSyntax `tactic):=match (s.splitOn ";").map ap with
 | [d,c,a,b]=>`(tactic|((case d=>with_reducible exact $d);(case c=>exact $c);(case a=>exact $a);(case b=>exact $b)))
 |d::c::_=>`(tactic|((case d=>with_reducible exact $d);(case c=>exact $c)))
 |_=>`(tactic|fail)
set_option hygiene false in
def dR(ap:String->Lean.TSyntax `term)(g:String):Lean.MacroM (Lean.TSyntax `tactic):=match g.splitOn ":" with
 | [r]=>`(tactic|refine $(ap r))
 |r::l=>do `(tactic|(refine' $(ap r);$(<- dF (<- dL (dQ ap) l)):tactic))
 | []=>`(tactic|fail)
set_option hygiene false in
local macro_rules | `('d')=>do
 let h <- `(?_)
 let u <- `(_)
 let R:=dI "rfl"
 let qA <- `(?a)
 let qB <- `(?b)
 let qC <- `(?c)
 let qD <- `(?d)
 let qp <- `((λ_ _=>rfl))
 let ap:=λ(s:String)=>let w:=s.splitOn " ";Lean.Syntax.mkApp (dI (w.getD 0 "")) (((w.getD 1 "").toList.map λc=>([('8',dI "hr.u180"),('A',qA),('B',qB),('C',qC),('D',qD),('K',dI "T.k"),('_',u),('b',dA "%boT" R),('f',dA "%boF" R),('k',dA "T.n" R),('m',dA "T.m" R),('n',dI "nd"),('o',dI "%v7"),('p',qp),('r',R),('t',dI "T"),('u',dA "%Fw" (dI "hr")),('v',dA "%mK" u),('x',dA "T.x" R),('z',dI "%rz1")].lookup c).getD h).toArray)
 let rd:=λ(s:String)=>dL (dR ap) (s.splitOn "|")
 let e0 <- `(tactic|refine zcF (by $(<- dF (<- rd "%ih|mM t|mI t|m6 t|og t|lG t|nZ t|n4 t|nM t|lL t|lI t|oh t|ot t|om t|nv t|gu t|je t|qR t|lK t|my t|tS t|wN t|n5 t|tj t|rO t|jv t|iD t|n8 t")):tactic) hr ?_)
 `(by repeat' $(<- dF ((<- rd "%mK _|i9|tJ|fq ??|az ??|gM ?|zsS _n?|rl ???|jI ?|Co ?|nz ?|Aq|Gz|Ag|C7 ?")++[e0]++(<- rd "%FI CD??:EO;ixK r:Ei;Bc|A9 CD??:xB;xG:xh;xw:xu;xy:xt;eqDK r8:GD;neDK r8:GJ;B7:Bq;A8 u|fG CDrkf?:D3;Fc r:A0;wd:BP K;EI r|Fq CD??:CO;yz:By;uu:Bb;BU r:Bo;Dv:BO;Eh:yR;yC:Af;xP:Ca;CI|kH CDrkb?:oF;r9 r|Bd CD??:xu;xy:xh;xw:xt;eqDK r8:xB;xG|BV rABCDv?:tu;ui;PySem.F.slot_list_append;PySem.F.type_list_append|FQ CD?:CD;Be|yN ?v?CD:sy;wI u:zC;vg|ZG.weak ?|zt_w ?|AQ ??|zl u??p|BE|Ay ?|Cq ?|F1 rkb|zgN _n|AM rr?|Cd rr?|vN ??|Ac|rY rk?|rV r?|oW ??|yP ?|nX or???|BR n?|vK rzrmx?|uU o??|nS ?|AA ??|zN ?|GW ??|Am ?"))):tactic)
def jA:PSt:=
 (aB (qt ["cells", "at", "left"] (aa (pFn jF (aa (pSl (af 0) oN (oS (ah 63))) ag)) (aa (ah 0) (aa (ah 0) ag)))))
def c5:PFn:=fnP [false] 1 jA
def n9:c5.ms=[false]:=rfl
def mM(T:TT K mg):Callee P w K mg base "_law_feed" 1 ["_law_script"] (spD K mg 1 c5.F):=bf (T.d.get 23 rfl) (aM (N:=["_law_script"]) (by decide)) (λ_ _ _ _ _ _=>ar1 λ_=>rfl) λnd _ _ _ _ _ _ _ hr=>(gM (jI (zx (iQ (kH (r9 (K:=K) rfl) oF rfl (T.n rfl) (by first |exact boF rfl |exact boT rfl) (fq (wC rfl (mK 0) zi (Aa i9)) tJ)) (iQ i9 (iQ i9 zt))))))
def jt:PSt:=
 (aq (xIf (qOf (pOp bGt (pOp dD (af 0) (ck "left")) (ah 0))) (aq (aQ false 2 (pOp bu (pOp dD (af 0) (ck "left")) (af 1)))
  (aq (iO 0 seD (ck "left") (pOp dC (pOp dD (af 0) (ck "left")) (af 1)))
  (aB (af 2)))) xNx)
  (aq (aQ false 3 (pOp dD (af 0) (ck "at")))
  (aq (iO 0 seD (ck "at") (pOp bw (af 3) (ah 1)))
  (aq (aQ false 4 (af 3))
  (aq (xIf (qOf (pOp bGt (pFn eR (aa (pOp dD (af 0) (ck "cells")) ag)) (ah 0))) (aQ false 4 (pOp bIx (pOp dD (af 0) (ck "cells")) (pOp bu (af 3) (pFn eR (aa (pOp dD (af 0) (ck "cells")) ag))))) xNx)
  (aq (xIf (qAn (qOf (pOp bGe (af 4) (pOp kd (ah 10) (ah 18)))) (qOf (pOp bLt (af 3) (pFn eR (aa (pOp dD (af 0) (ck "cells")) ag))))) (aq (iO 0 seD (ck "left") (pOp dC (af 4) (af 1)))
  (aB (pOp bu (af 4) (af 1)))) xNx)
  (aq (aQ false 5 (pOp bu (pOp aO (pOp bw (pOp bw (pOp bw (pOp bu (af 4) (ah 1000003)) (pOp aO (pOp aO (ah 61) (af 3)) (af 3))) (pOp aO (ah 7) (af 3))) (ah 1)) (ah 48271)) (ah 999983)))
  (aB (pOp bu (pOp dC (pOp bu (pOp aO (pOp bu (pOp bw (pOp aO (af 5) (ah 69623)) (pOp aO (ah 7919) (af 3))) (ah 1999993)) (ah 16811)) (ah 524287)) (ah 5)) (af 1))))))))))
def av:PFn:=fnP [true,false] 6 jt
def ou:av.ms=[true,false]:=rfl
def mI(T:TT K mg):Callee P w K mg base "_law_draw" 1 ["_law_feed_here", "_law_many"] (spD K mg 2 av.F):=bf (T.d.get 24 rfl) (aM (N:=["_law_feed_here", "_law_many", "_law_found", "_law_at", "_law_cell", "_law_number"]) (by decide)) (λ_ _ _ _ _ _=>ar2 λ_ _=>rfl) λnd _ _ _ _ _ _ _ hr=>'d'
def jm:PSt:=
 (aq (aQ false 2 (ck "abcdefghijklmnopqrstuvwxyz"))
  (aq (aQ false 3 (pOp lT (pOp iU (af 2) (ai av (aa (af 0) (aa (ah 26) ag)))) (ai av (aa (af 0) (aa (ah 7) ag)))))
  (aB (pOp gW (pOp gW (af 3) (pOp iU (af 2) (pOp bu (pOp bw (pOp aO (ah 7) (af 1)) (ah 3)) (ah 26)))) (pOp iU (ck "ab") (pOp dC (af 1) (ah 26)))))))
def c8:PFn:=fnP [true,false] 4 jm
def ox:c8.ms=[true,false]:=rfl
def m6(T:TT K mg):Callee P w K mg base "_law_name" 2 ["_law_feed_here", "_law_k"] (spD K mg 2 c8.F):=bf (T.d.get 31 rfl) (aM (N:=["_law_feed_here", "_law_k", "_law_letters", "_law_first"]) (by decide)) (λ_ _ _ _ _ _=>ar2 λ_ _=>rfl) λnd _ _ _ _ _ _ _ hr=>'d'
def dH:PSt:=
 (gv 2 3 (aa (af 3) (aa (pOp bu (af 2) (af 3)) ag)))
def lq:PSt:=
 (aq (gv 2 3 (aa (pFn jf (aa (af 0) ag)) (aa (af 1) ag)))
  (aq (xWh (qOf (pOp bGt (af 3) (ah 0))) (dH))
  (aB (bN (aa (pOp dC (af 0) (af 2)) (aa (pOp dC (af 1) (af 2)) ag))))))
def bJ:PFn:=fnP [false,false] 4 lq
def rC:bJ.ms=[false,false]:=rfl
def og(T:TT K mg):Callee P w K mg base "_law_low" 1 ["_law_top", "_law_bottom"] (spD K mg 2 bJ.F):=bf (T.d.get 26 rfl) (aM (N:=["_law_top", "_law_bottom", "_law_one", "_law_other"]) (by decide)) (λ_ _ _ _ _ _=>ar2 λ_ _=>rfl) λnd _ _ _ _ _ _ _ hr=>'d'
def gG:PSt:=
 (aQ false 2 (pOp bw (pOp aO (af 2) (ah 100000)) (ai av (aa (af 0) (aa (ah 100000) ag)))))
def iw:PSt:=
 (aq (aQ false 2 (ah 0))
  (aq (fC (f9 (aa (af 1) ag)) (gtN 3) (gG))
  (aB (af 2))))
def b9:PFn:=fnP [true,false] 4 iw
def mX:b9.ms=[true,false]:=rfl
def lG(T:TT K mg):Callee P w K mg base "_law_great" 2 ["_law_feed_here", "_law_pieces"] (spD K mg 2 b9.F):=bf (T.d.get 25 rfl) (aM (N:=["_law_feed_here", "_law_pieces", "_law_number", "_law_k"]) (by decide)) (λ_ _ _ _ _ _=>ar2 λ_ _=>rfl) λnd _ _ _ _ _ _ _ hr=>'d'
def jo:PSt:=
 (aq (aQ false 2 (ai av (aa (af 0) (aa (ah 5) ag))))
  (aq (xIf (qOf (pOp bLt (af 2) (ah 2))) (aB (bN (aa (pOp bw (ah 1) (ai av (aa (af 0) (aa (ah 12) ag)))) (aa (ah 1) ag)))) xNx)
  (aq (xIf (qOf (pOp bEq (af 2) (ah 2))) (aB (bN (aa (ah 1) (aa (ah 1) ag)))) xNx)
  (aq (xIf (qOf (pOp bEq (af 2) (ah 3))) (aB (ai bJ (aa (pOp bw (ah 1) (ai av (aa (af 0) (aa (ah 60) ag)))) (aa (pOp bw (ah 1) (ai av (aa (af 0) (aa (ah 12) ag)))) ag)))) xNx)
  (aB (ai bJ (aa (pOp bw (ah 1) (pOp bu (ai b9 (aa (af 0) (aa (ah 6) ag))) (af 1))) (aa (pOp bw (ah 1) (pOp bu (ai b9 (aa (af 0) (aa (ah 6) ag))) (af 1))) ag))))))))
def cG:PFn:=fnP [true,false] 3 jo
def oa:cG.ms=[true,false]:=rfl
def nZ(T:TT K mg):Callee P w K mg base "_law_side" 3 ["_law_feed_here", "_law_far"] (spD K mg 2 cG.F):=bf (T.d.get 30 rfl) (aM (N:=["_law_feed_here", "_law_far", "_law_way"]) (by decide)) (λ_ _ _ _ _ _=>ar2 λ_ _=>rfl) λnd _ _ _ _ _ _ _ hr=>'d'
def eJ:PSt:=
 (aq (xIf (qOf (pOp bEq (af 1) (ah 0))) (aq (gv 2 3 (aa (ai av (aa (af 0) (aa (ah 5) ag))) (aa (ai av (aa (af 0) (aa (ah 5) ag))) ag)))
  (aB (bN (aa (bN (aa (af 2) (aa (ah 1) ag))) (aa (bN (aa (af 3) (aa (ah 1) ag))) (aa (bN (aa (pOp bw (ah 1) (ai av (aa (af 0) (aa (ah 5) ag)))) (aa (ah 1) ag))) (aa (bN (aa (pOp bw (ah 1) (ai av (aa (af 0) (aa (ah 5) ag)))) (aa (ah 1) ag))) ag))))))) xNx)
  (aq (aQ false 4 (pOp bIx (gz (aa (ah 1) (aa (ah 60) (aa (pOp pV (pOp kd (ah 10) (ah 30)) (ah 1)) ag)))) (af 1)))
  (aq (gf (pLC (f9 (aa (ah 2) ag)) [none,some 0] (by decide) (gtN 0) qY (ai bJ (aa (pOp pV (ai av (aa (af 1) (aa (ah 9) ag))) (ah 4)) (aa (pOp bw (ah 1) (ai av (aa (af 1) (aa (ah 3) ag)))) ag)))) (gtX (gtU 2 (aC (gtN 2) (aC (gtN 3) bR)))))
  (aB (bN (aa (af 2) (aa (af 3) (aa (ai cG (aa (af 0) (aa (af 4) ag))) (aa (ai cG (aa (af 0) (aa (af 4) ag))) ag)))))))))
def dw:PFn:=fnP [true,false] 5 eJ
def rq:dw.ms=[true,false]:=rfl
def n4(T:TT K mg):Callee P w K mg base "_law_box" 4 ["_law_feed_here", "_law_way"] (spD K mg 2 dw.F):=bf (T.d.get 32 rfl) (aM (N:=["_law_feed_here", "_law_way", "_law_left", "_law_top", "_law_far"]) (by decide)) (λ_ _ _ _ _ _=>ar2 λ_ _=>rfl) λnd _ _ _ _ _ _ _ hr=>(az 'd' (az 'd' (az (oW (pQ ["_law_feed_here", "_law_way", "_law_left", "_law_top", "_law_far"] (ak (top 32)).names ["_law_k", "_law_feed_here"] [none,some 0] 'd' (λnd _ _ _ _ _=>'d') (λnd _ _ _ _ _=>'d')) 'd') 'd')))
def i7:PSt:=
 (aB (pOp bLt (pOp aO (pOp bIx (af 0) (ah 0)) (pOp bIx (af 1) (ah 1))) (pOp aO (pOp bIx (af 1) (ah 0)) (pOp bIx (af 0) (ah 1)))))
def bp:PFn:=fnP [false,false] 2 i7
def n6:bp.ms=[false,false]:=rfl
def nM(T:TT K mg):Callee P w K mg base "_law_less" 1 ["_law_one", "_law_other"] (spD K mg 2 bp.F):=bf (T.d.get 29 rfl) (aM (N:=["_law_one", "_law_other"]) (by decide)) (λ_ _ _ _ _ _=>ar2 λ_ _=>rfl) λnd _ _ _ _ _ _ _ hr=>'d'
def iC:PSt:=
 (aB (ai bJ (aa (pOp aO (pOp bIx (af 0) (ah 0)) (pOp bIx (af 1) (ah 0))) (aa (pOp aO (pOp bIx (af 0) (ah 1)) (pOp bIx (af 1) (ah 1))) ag))))
def cK:PFn:=fnP [false,false] 2 iC
def nA:cK.ms=[false,false]:=rfl
def lL(T:TT K mg):Callee P w K mg base "_law_times" 2 ["_law_one", "_law_other"] (spD K mg 2 cK.F):=bf (T.d.get 28 rfl) (aM (N:=["_law_one", "_law_other"]) (by decide)) (λ_ _ _ _ _ _=>ar2 λ_ _=>rfl) λnd _ _ _ _ _ _ _ hr=>'d'
def iy:PSt:=
 (aB (ai cK (aa (pOp bIx (af 0) (ah 2)) (aa (pOp bIx (af 0) (ah 3)) ag))))
def aF:PFn:=fnP [false] 1 iy
def nW:aF.ms=[false]:=rfl
def lI(T:TT K mg):Callee P w K mg base "_law_space" 3 ["_law_box_here"] (spD K mg 1 aF.F):=bf (T.d.get 34 rfl) (aM (N:=["_law_box_here"]) (by decide)) (λ_ _ _ _ _ _=>ar1 λ_=>rfl) λnd _ _ _ _ _ _ _ hr=>'d'
def kF:PSt:=
 (aB (ai bJ (aa (pOp bw (pOp aO (pOp bIx (af 0) (ah 0)) (pOp bIx (af 1) (ah 1))) (pOp aO (pOp bIx (af 1) (ah 0)) (pOp bIx (af 0) (ah 1)))) (aa (pOp aO (pOp bIx (af 0) (ah 1)) (pOp bIx (af 1) (ah 1))) ag))))
def cT:PFn:=fnP [false,false] 2 kF
def qX:cT.ms=[false,false]:=rfl
def oh(T:TT K mg):Callee P w K mg base "_law_add" 2 ["_law_one", "_law_other"] (spD K mg 2 cT.F):=bf (T.d.get 27 rfl) (aM (N:=["_law_one", "_law_other"]) (by decide)) (λ_ _ _ _ _ _=>ar2 λ_ _=>rfl) λnd _ _ _ _ _ _ _ hr=>'d'
def cA:PSt:=
 (aq (xIf (qOf (ai bp (aa (pOp bIx (af 1) (af 2)) (aa (pOp bIx (af 0) (af 2)) ag)))) (aB (pBl false)) xNx)
  (xIf (qOf (ai bp (aa (ai cT (aa (pOp bIx (af 0) (af 2)) (aa (pOp bIx (af 0) (pOp bw (af 2) (ah 2))) ag))) (aa (ai cT (aa (pOp bIx (af 1) (af 2)) (aa (pOp bIx (af 1) (pOp bw (af 2) (ah 2))) ag))) ag)))) (aB (pBl false)) xNx))
def kP:PSt:=
 (aq (fC (f9 (aa (ah 2) ag)) (gtN 2) (cA))
  (aB (pBl true)))
def cq:PFn:=fnP [false,false] 3 kP
def p8:cq.ms=[false,false]:=rfl
def ot(T:TT K mg):Callee P w K mg base "_law_has" 3 ["_law_box_here", "_law_other"] (spD K mg 2 cq.F):=bf (T.d.get 33 rfl) (aM (N:=["_law_box_here", "_law_other", "_law_side_here"]) (by decide)) (λ_ _ _ _ _ _=>ar2 λ_ _=>rfl) λnd _ _ _ _ _ _ _ hr=>'d'
def fI:PSt:=
 (xIf (qOf (ai bp (aa (ai aF (aa (af 5) ag)) (aa (af 3) ag)))) (aQ false 3 (ai aF (aa (af 5) ag))) xNx)
def gn:PSt:=
 (aq (aQ false 2 (pLC (cZ (af 1)) [none,some 0] (by decide) (gtN 0) (qAn (qOf (ai bp (aa (ai aF (aa (af 1) ag)) (aa (ai aF (aa (pOp bIx (af 0) (ah 1)) ag)) ag)))) (qOf (ai cq (aa (pOp bIx (af 0) (ah 1)) (aa (af 1) ag))))) (af 0)))
  (aq (xIf (qOf (pOp bEq (af 2) (gz ag))) (aB iI) xNx)
  (aq (aQ false 3 (ai aF (aa (pOp bIx (pOp bIx (af 2) (ah 0)) (ah 1)) ag)))
  (aq (fC (cZ (af 2)) (gtX (gtT 2 (aC (gtN 4) (aC (gtN 5) bR)))) (fI))
  (aB (pFn mZ (aa (pLC (cZ (af 2)) [none,none,some 3] (by decide) (gtT 2 (aC (gtN 0) (aC (gtN 1) bR))) (qOf (pOp bEq (ai aF (aa (af 1) ag)) (af 2))) (af 0)) ag)))))))
def bU:PFn:=fnP [false,false] 6 gn
def qE:bU.ms=[false,false]:=rfl
def om(T:TT K mg):Callee P w K mg base "_law_due" 4 ["_law_box_here", "_law_rooms"] (spD K mg 2 bU.F):=bf (T.d.get 35 rfl) (aM (N:=["_law_box_here", "_law_rooms", "_law_some", "_law_least", "_law_name_here", "_law_other"]) (by decide)) (λ_ _ _ _ _ _=>ar2 λ_ _=>rfl) λnd _ _ _ _ _ _ _ hr=>(az (Ea nd ["_law_box_here", "_law_rooms", "_law_some", "_law_least", "_law_name_here", "_law_other"] (ak (top 35)).names ["_law_pair", "_law_box_here"] [none,some 0] 'd' (λnd _ _ _ _ _=>'d') (λnd _ _ _ _ _=>'d') (λnd _ _ _ _ _=>'d')) (az 'd' (az 'd' (az 'd' (gM (jI (fG (tH (K:=K) rfl rfl) zX rfl (T.n rfl) (by first |exact boF rfl |exact boT rfl) (fq (CN ["_law_box_here", "_law_rooms", "_law_some", "_law_least", "_law_name_here", "_law_other"] (ak (top 35)).names ["_law_name_here", "_law_other", "_law_least"] [none,none,some 3] 'd' (λnd _ _ _ _ _=>'d') (λnd _ _ _ _ _=>'d') (λnd _ _ _ _ _=>'d')) 'd'))))))))
noncomputable def jC:PSt:=
 (aB (kj (pFn (cX d9) (aa (af 0) (aa (pTy "int") ag))) (nK (pFn (cX d9) (aa (af 0) (aa (pTy "bool") ag))))))
noncomputable def cB:PFn:=fnP [false] 1 jC
def oj:cB.ms=[false]:=rfl
def nv(T:TT K mg):Callee P w K mg base "is_whole" 1 ["thing"] (spD K mg 1 cB.F):=bf (T.d.get 5 rfl) (aM (N:=["thing"]) (by decide)) (λ_ _ _ _ _ _=>ar1 λ_=>rfl) λnd _ _ _ _ _ _ _ hr=>'d'
def bO:PSt:=
 (gv 0 1 (aa (af 1) (aa (pOp bu (af 0) (af 1)) ag)))
def d8:PSt:=
 (aq (gv 0 1 (aa (pFn jf (aa (af 0) ag)) (aa (pFn jf (aa (af 1) ag)) ag)))
  (aq (xWh (qOf (pOp bNe (af 1) (ah 0))) (bO))
  (aB (af 0))))
def ba:PFn:=fnP [false,false] 2 d8
def ir:ba.ms=[false,false]:=rfl
def gu(T:TT K mg):Callee P w K mg base "common_divisor" 1 ["one", "other"] (spD K mg 2 ba.F):=bf (T.d.get 6 rfl) (aM (N:=["one", "other"]) (by decide)) (λ_ _ _ _ _ _=>ar2 λ_ _=>rfl) λnd _ _ _ _ _ _ _ hr=>'d'
def gk:PSt:=
 (aq (xIf (qO (qNo (qOf (pFn (cX d9) (aa (af 0) (aa (pTy "tuple") ag))))) (qOf (pOp bNe (pFn eR (aa (af 0) ag)) (ah 2)))) (aB (pBl false)) xNx)
  (aq (gf (af 0) (gtX (gtT 2 (aC (gtN 1) (aC (gtN 2) bR)))))
  (aq (xIf (qO (qNo (qOf (ai cB (aa (af 1) ag)))) (qNo (qOf (ai cB (aa (af 2) ag))))) (aB (pBl false)) xNx)
  (aB (kj (pOp bGe (af 2) (ah 1)) (pOp bEq (ai ba (aa (af 1) (aa (af 2) ag))) (ah 1)))))))
def bE:PFn:=fnP [false] 3 gk
def jZ:bE.ms=[false]:=rfl
def je(T:TT K mg):Callee P w K mg base "is_fraction" 2 ["thing"] (spD K mg 1 bE.F):=bf (T.d.get 7 rfl) (aM (N:=["thing", "top", "bottom"]) (by decide)) (λ_ _ _ _ _ _=>ar1 λ_=>rfl) λnd _ _ _ _ _ _ _ hr=>'d'
def mU:PSt:=
 (aq (xIf (qO (qNo (qOf (pFn (cX d9) (aa (af 0) (aa (pTy "tuple") ag))))) (qOf (pOp bNe (pFn eR (aa (af 0) ag)) (ah 4)))) (aB (pBl false)) xNx)
  (aq (xIf (qNo (qOf (pFn lV (aa (pLC (cZ (af 0)) [none] (by decide) (gtN 0) qY (ai bE (aa (af 0) ag))) ag)))) (aB (pBl false)) xNx)
  (aB (kj (pOp bGt (pOp bIx (pOp bIx (af 0) (ah 2)) (ah 0)) (ah 0)) (pOp bGt (pOp bIx (pOp bIx (af 0) (ah 3)) (ah 0)) (ah 0))))))
def dX:PFn:=fnP [false] 1 mU
def tU:dX.ms=[false]:=rfl
def qR(T:TT K mg):Callee P w K mg base "is_box" 3 ["thing"] (spD K mg 1 dX.F):=bf (T.d.get 13 rfl) (aM (N:=["thing"]) (by decide)) (λ_ _ _ _ _ _=>ar1 λ_=>rfl) λnd _ _ _ _ _ _ _ hr=>(az 'd' (az (rl (nS (nz (fG (allK (K:=K) rfl rfl) so rfl (T.n rfl) (by first |exact boF rfl |exact boT rfl) (fq (pQ ["thing"] (ak (top 13)).names ["part"] [none] 'd' (λnd _ _ _ _ _=>'d') (λnd _ _ _ _ _=>'d')) 'd')))) 'd' 'd') 'd'))
def iz:PSt:=
 (xIf (qNo (qOf (ai dX (aa (af 0) ag)))) (jr "NoBox" (aa (ck "this is no box") ag)) xNx)
def bz:PFn:=fnP [false] 1 iz
def nO:bz.ms=[false]:=rfl
def lK(T:TT K mg):Callee P w K mg base "check_box" 4 ["thing"] (spD K mg 1 bz.F):=bf (T.d.get 14 rfl) (aM (N:=["thing"]) (by decide)) (λ_ _ _ _ _ _=>ar1 λ_=>rfl) λnd _ _ _ _ _ _ _ hr=>'d'
def js:PSt:=
 (aq (xIf (qOf (pOp bEq (af 1) (ah 0))) (jr "NoFraction" (aa (ck "a fraction has no bottom of 0") ag)) xNx)
  (aq (aQ false 2 (ai ba (aa (af 0) (aa (af 1) ag))))
  (aq (xIf (qOf (pOp bLt (af 1) (ah 0))) (aQ false 2 (pUn nq (af 2))) xNx)
  (aB (bN (aa (pOp dC (af 0) (af 2)) (aa (pOp dC (af 1) (af 2)) ag)))))))
def cD:PFn:=fnP [false,false] 3 js
def oz:cD.ms=[false,false]:=rfl
def my(T:TT K mg):Callee P w K mg base "fraction" 2 ["top", "bottom"] (spD K mg 2 cD.F):=bf (T.d.get 8 rfl) (aM (N:=["top", "bottom", "divisor"]) (by decide)) (λ_ _ _ _ _ _=>ar2 λ_ _=>rfl) λnd _ _ _ _ _ _ _ hr=>'d'
def oE:PSt:=
 (aB (ai cD (aa (pOp aO (pOp bIx (af 0) (ah 0)) (pOp bIx (af 1) (ah 0))) (aa (pOp aO (pOp bIx (af 0) (ah 1)) (pOp bIx (af 1) (ah 1))) ag))))
def fu:PFn:=fnP [false,false] 2 oE
def uT:fu.ms=[false,false]:=rfl
def tS(T:TT K mg):Callee P w K mg base "times" 3 ["one", "other"] (spD K mg 2 fu.F):=bf (T.d.get 10 rfl) (aM (N:=["one", "other"]) (by decide)) (λ_ _ _ _ _ _=>ar2 λ_ _=>rfl) λnd _ _ _ _ _ _ _ hr=>'d'
def tL:PSt:=
 (aq (ic (ai bz (aa (af 0) ag)))
  (aB (ai fu (aa (pOp bIx (af 0) (ah 2)) (aa (pOp bIx (af 0) (ah 3)) ag)))))
def fk:PFn:=fnP [false] 1 tL
def xS:fk.ms=[false]:=rfl
def wN(T:TT K mg):Callee P w K mg base "area" 5 ["box"] (spD K mg 1 fk.F):=bf (T.d.get 15 rfl) (aM (N:=["box"]) (by decide)) (λ_ _ _ _ _ _=>ar1 λ_=>rfl) λnd _ _ _ _ _ _ _ hr=>'d'
def kZ:PSt:=
 (aB (pOp bLt (pOp aO (pOp bIx (af 0) (ah 0)) (pOp bIx (af 1) (ah 1))) (pOp aO (pOp bIx (af 1) (ah 0)) (pOp bIx (af 0) (ah 1)))))
def bx:PFn:=fnP [false,false] 2 kZ
def qV:bx.ms=[false,false]:=rfl
def n5(T:TT K mg):Callee P w K mg base "is_less" 1 ["one", "other"] (spD K mg 2 bx.F):=bf (T.d.get 11 rfl) (aM (N:=["one", "other"]) (by decide)) (λ_ _ _ _ _ _=>ar2 λ_ _=>rfl) λnd _ _ _ _ _ _ _ hr=>'d'
def ph:PSt:=
 (aB (ai cD (aa (pOp bw (pOp aO (pOp bIx (af 0) (ah 0)) (pOp bIx (af 1) (ah 1))) (pOp aO (pOp bIx (af 1) (ah 0)) (pOp bIx (af 0) (ah 1)))) (aa (pOp aO (pOp bIx (af 0) (ah 1)) (pOp bIx (af 1) (ah 1))) ag))))
def dW:PFn:=fnP [false,false] 2 ph
def wA:dW.ms=[false,false]:=rfl
def tj(T:TT K mg):Callee P w K mg base "added" 3 ["one", "other"] (spD K mg 2 dW.F):=bf (T.d.get 9 rfl) (aM (N:=["one", "other"]) (by decide)) (λ_ _ _ _ _ _=>ar2 λ_ _=>rfl) λnd _ _ _ _ _ _ _ hr=>'d'
def pj:PSt:=
 (aq (gf (af 0) (gtX (gtT 4 (aC (gtN 1) (aC (gtN 2) (aC (gtN 3) (aC (gtN 4) bR)))))))
  (aB (bN (aa (af 1) (aa (ai dW (aa (af 1) (aa (af 3) ag))) (aa (af 2) (aa (ai dW (aa (af 2) (aa (af 4) ag))) ag)))))))
def dS:PFn:=fnP [false] 5 pj
def vO:dS.ms=[false]:=rfl
def rO(T:TT K mg):Callee P w K mg base "walls" 4 ["box"] (spD K mg 1 dS.F):=bf (T.d.get 17 rfl) (aM (N:=["box", "left", "top", "wide", "high"]) (by decide)) (λ_ _ _ _ _ _=>ar1 λ_=>rfl) λnd _ _ _ _ _ _ _ hr=>'d'
def gi:PSt:=
 (aq (gf (ai dS (aa (af 1) ag)) (gtX (gtT 4 (aC (gtN 2) (aC (gtN 3) (aC (gtN 4) (aC (gtN 5) bR)))))))
  (aq (gf (ai dS (aa (af 0) ag)) (gtX (gtT 4 (aC (gtN 6) (aC (gtN 7) (aC (gtN 8) (aC (gtN 9) bR)))))))
  (aq (xIf (qO (qOf (ai bx (aa (af 2) (aa (af 6) ag)))) (qOf (ai bx (aa (af 7) (aa (af 3) ag))))) (aB (pBl false)) xNx)
  (aB (kj (nK (ai bx (aa (af 4) (aa (af 8) ag)))) (nK (ai bx (aa (af 9) (aa (af 5) ag)))))))))
def b8:PFn:=fnP [false,false] 10 gi
def ku:b8.ms=[false,false]:=rfl
def jv(T:TT K mg):Callee P w K mg base "lies_within" 5 ["room", "box"] (spD K mg 2 b8.F):=bf (T.d.get 18 rfl) (aM (N:=["room", "box", "left", "right", "top", "bottom", "begin", "end", "upper", "lower"]) (by decide)) (λ_ _ _ _ _ _=>ar2 λ_ _=>rfl) λnd _ _ _ _ _ _ _ hr=>'d'
def cn:PSt:=
 (aq (aQ false 6 (ai fk (aa (af 5) ag)))
  (xIf (qAn (qOf (ai bx (aa (ai fk (aa (af 0) ag)) (aa (af 6) ag)))) (qAn (qOf (ai b8 (aa (af 5) (aa (af 0) ag)))) (qO (qOf (pOp bIs (af 3) iI)) (qOf (ai bx (aa (af 6) (aa (af 3) ag))))))) (gv 2 3 (aa (af 4) (aa (af 6) ag))) xNx))
def fb:PSt:=
 (aq (aQ false 2 iI)
  (aq (aQ false 3 iI)
  (aq (fC (cZ (pFn jg (aa (af 1) ag))) (gtX (gtT 2 (aC (gtN 4) (aC (gtN 5) bR)))) (cn))
  (aB (af 2)))))
def bc:PFn:=fnP [false,false] 7 fb
def jP:bc.ms=[false,false]:=rfl
def iD(T:TT K mg):Callee P w K mg base "least_around" 6 ["box", "rooms"] (spD K mg 2 bc.F):=okPL (T.d.get 21 rfl) T.l (aM (N:=["box", "rooms", "found", "least", "name", "other", "size"]) (by decide)) (λ_ _ _ _ _ _=>ar2 λ_ _=>rfl) λnd _ _ _ _ _ _ _ _ e2 e3 hr=>(az 'd' (az 'd' (az (nX v7 rfl (rV rfl (zB hr.depth rfl (T.n rfl) rfl e2 e3 'd')) 'd' 'd') 'd')))
def fQ:PSt:=
 (ic (ai bz (aa (af 2) ag)))
def kE:PSt:=
 (aq (fC (cZ (af 0)) (gtX (gtT 2 (aC (gtN 1) (aC (gtN 2) bR)))) (fQ))
  (aB (pLC (cZ (af 0)) [none,none,some 0] (by decide) (gtT 2 (aC (gtN 0) (aC (gtN 1) bR))) qY (bN (aa (af 0) (aa (ai bc (aa (af 1) (aa (af 2) ag))) ag))))))
def dz:PFn:=fnP [false] 3 kE
def qr:dz.ms=[false]:=rfl
def n8(T:TT K mg):Callee P w K mg base "lies_in" 7 ["rooms"] (spD K mg 1 dz.F):=bf (T.d.get 20 rfl) (aM (N:=["rooms", "name", "box"]) (by decide)) (λ_ _ _ _ _ _=>ar1 λ_=>rfl) λnd _ _ _ _ _ _ _ hr=>(az 'd' (gM (jI (pQ ["rooms", "name", "box"] (ak (top 20)).names ["name", "box", "rooms"] [none,none,some 0] 'd' (λnd _ _ _ _ _=>'d') (λnd _ _ _ _ _=>'d')))))
def gw:PSt:=
 (aq (ic (qZ 3 fW (aa (bN (aa (ai c8 (aa (af 1) (aa (af 4) ag))) (aa (ai dw (aa (af 1) (aa (af 2) ag))) ag))) ag)))
  (xIf (qOf (pOp bEq (ai av (aa (af 1) (aa (ah 6) ag))) (ah 0))) (iO 3 seL (pUn nq (ah 1)) (bN (aa (pOp bIx (pOp bIx (af 3) (pUn nq (ah 1))) (ah 0)) (aa (pOp bIx (pOp bIx (af 3) (ai av (aa (af 1) (aa (pOp bw (af 4) (ah 1)) ag)))) (ah 1)) ag)))) xNx))
def dZ:PSt:=
 (aq (aQ false 6 (pFn jF (aa (af 3) ag)))
  (aq (aQ false 7 (pLC (cZ (af 6)) [none,none,some 6] (by decide) (gtT 2 (aC (gtN 0) (aC (gtN 1) bR))) qY (bN (aa (af 0) (aa (ai bU (aa (af 1) (aa (af 2) ag))) ag)))))
  (aq (aQ true 8 (ai dz (aa (af 3) ag)))
  (aq (xIf (qO (qNo (qOf (pFn (cX d9) (aa (af 8) (aa (pTy "list") ag))))) (qO (qOf (pOp bNe (af 8) (af 7))) (qOf (pOp bNe (af 3) (af 6))))) (aB (pBl false)) xNx)
  (aq (xIf (qNo (qOf (pFn lV (aa (pLC (cZ (af 8)) [none] (by decide) (gtN 0) qY (pFn (cX d9) (aa (af 0) (aa (pTy "tuple") ag)))) ag)))) (aB (pBl false)) xNx)
  (aq (ic (qZ 8 fW (aa (bN (aa (ck "a") (aa iI ag))) ag)))
  (xIf (qAn (qOf (pOp bEq (af 5) (ah 1))) (qOf (pOp vf (af 3) (gz ag)))) (aq (aQ false 9 (ai av (aa (af 1) (aa (pFn eR (aa (af 3) ag)) ag))))
  (iO 3 seL (af 9) (bN (aa (pOp bIx (pOp bIx (af 3) (af 9)) (ah 0)) (aa (ai dw (aa (af 1) (aa (af 2) ag))) ag))))) xNx)))))))
def lO:PSt:=
 (aq (aQ true 1 (ai c5 (aa (af 0) ag)))
  (aq (aQ false 2 (pOp bIx (gz (aa (ah 0) (aa (ah 0) (aa (ah 1) (aa (ah 2) ag))))) (ai av (aa (af 1) (aa (ah 4) ag)))))
  (aq (aQ true 3 (gz ag))
  (aq (fC (f9 (aa (pOp bIx (gz (aa (ai av (aa (af 1) (aa (ah 42) ag))) (aa (ai av (aa (af 1) (aa (ah 42) ag))) (aa (pOp bw (ah 1) (ai av (aa (af 1) (aa (ah 12) ag)))) (aa (ai av (aa (af 1) (aa (ah 9) ag))) ag))))) (pOp bw (af 2) (ah 1))) ag)) (gtN 4) (gw))
  (aq (fC (f9 (aa (ah 3) ag)) (gtN 5) (dZ))
  (aB (pBl true)))))))
def p7:PFn:=fnP [false] 10 lO
def yS(T:TT K mg):Callee P w K mg base "law" 8 ["_law_script"] (spD K mg 1 p7.F):=bf (T.d.get 36 rfl) (aM (N:=["_law_script", "_law_feed_here", "_law_way", "_law_rooms", "_law_k", "_law_again", "_law_kept", "_law_due_here", "_law_found", "_law_at"]) (by decide)) (λ_ _ _ _ _ _=>ar1 λ_=>rfl) λnd _ _ _ _ _ _ _ hr=>(az 'd' (az 'd' (az 'd' (az 'd' (az (nX v7 rfl 'd' 'd' (az 'd' (az (zSlc nd ["_law_script", "_law_feed_here", "_law_way", "_law_rooms", "_law_k", "_law_again", "_law_kept", "_law_due_here", "_law_found", "_law_at"] (ak (top 36)).names ["_law_name_here", "_law_box_here", "_law_kept"] [none,none,some 6] 'd' (λnd _ _ _ _ _=>'d') (λnd _ _ _ _ _=>'d')) (az 'd' (az 'd' (az (rl (nS (nz (fG (allK (K:=K) rfl rfl) so rfl (T.n rfl) (by first |exact boF rfl |exact boT rfl) (fq (pQ ["_law_script", "_law_feed_here", "_law_way", "_law_rooms", "_law_k", "_law_again", "_law_kept", "_law_due_here", "_law_found", "_law_at"] (ak (top 36)).names ["_law_one"] [none] 'd' (λnd _ _ _ _ _=>'d') (λnd _ _ _ _ _=>'d')) 'd')))) 'd' 'd') 'd')))))) 'd')))))
end
def fdD(cs:List Int)(a l:Int):Val:=.dct [(.inr "cells",.lst (cs.map .int)),(.inr "at",.int a),(.inr "left",.int l)]
def Fd(n:Nat)(v:Val):Prop:=∃cs a l,v=fdD cs a l/\0<=a/\a<=n
def Fd.mono{n m:Nat}{v:Val}(h:Fd n v)(q:n<=m):Fd m v:=by obtain⟨cs,a,l,e,h0,h1⟩:=h;exact⟨cs,a,l,e,h0,by omega⟩
def eD(cs:List Int)(a l:Int):dD.G (fdD cs a l) (.str "cells")=.val (.lst (cs.map .int)):=rfl
def jw(cs:List Int)(a l:Int):dD.G (fdD cs a l) (.str "at")=.val (.int a):=rfl
def fg(cs:List Int)(a l:Int):dD.G (fdD cs a l) (.str "left")=.val (.int l):=rfl
def fh(cs:List Int)(a l x:Int):seD.G (fdD cs a l) (.str "at") (.int x)=some (fdD cs x l):=rfl
def dY(cs:List Int)(a l x:Int):seD.G (fdD cs a l) (.str "left") (.int x)=some (fdD cs a x):=rfl
def lY:kd.G (.int 10) (.int 18)=.val (.int (10^18)):=xF ⟨by decide,by decide,by decide⟩
def dh{a m:Int}(h:0<m):0<=a.fmod m/\a.fmod m<m:=⟨Int.fmod_nonneg_of_pos a h,Int.fmod_lt_of_pos a h⟩
set_option hygiene false in
local macro_rules | `(tactic|simp![$args,*])=>do
 let l <- ("% dM Gp E1 FJ lU Ex wb vH pI pE Bj DZ BQ Dp BI Ek DP D9 zA wz AO DV Ec yI Dj GN GA v_bl Ew Ft v_ty v_un v_op Gu El v_fn Fl GF E5 Gw c_of c_an c_o c_no c_y x_nx Gb zY yj Er xm x_if Ez GL Gd xY wx uG g_n g_sn g_sc g_t g_x A5 ED FG zE F6 Fx E8 FR Gi AL DJ Fj vW GR Az Bl D6 C9 BS G0 GX Ae v_lc Br B2 AB o_n o_s v_sl GU EE k_lt k_gt k_ge EM k_ix BJ Cn k_eq k_ne Fz k_is GZ GQ GS Es uS List.getElem?_cons_zero List.getElem?_cons_succ List.set_cons_zero List.set_cons_succ List.length_cons List.length_nil Option.bind_some Option.map_some Option.isSome_some if_true if_false Bool.not_true Bool.not_false Bool.and_true Bool.true_and Bool.and_false Bool.false_and Bool.or_true Bool.true_or Bool.or_false Nat.reduceLeDiff Nat.reduceLT Nat.reduceAdd Nat.reduceSub Nat.zero_add Nat.sub_self List.cons_append List.nil_append List.append_nil List.replicate decide_true decide_false Bool.false_eq_true List.all_cons List.all_nil List.isEmpty_nil List.isEmpty_cons List.map_cons List.map_nil Int.reduceBEq Int.reduceLT Int.reduceAdd Int.reduceSub Int.reduceMul Int.cast_ofNat_Int As z0 Ao Ee Dx xO uF Et uz sT yU yJ BD xR tP yX CV uq CZ yb Bh uR C4 Eo yo GG E9 FK FA sd sM fR eS rK wc gr sj kK ati0 ati1 ati2 ati3 qN bL Bf Int.reduceNeg zP g_uL tW n9 ou ox rC mX oa rq n6 nA nW qX p8 qE oj ir jZ tU nO oz uT xS qV wA vO ku jP qr".splitOn " ").tail.mapM λs=>`(Lean.Parser.Tactic.simpLemma| $(Lean.mkIdent s.toName):term)
 `(tactic|simp only[$(l.toArray),*,$args,*])
def zy{ns:List Int}(hl:ns.length<=63):∃v,c5.G [.kl (ns.map .int)]=.ok (.new v) []/\Fd 0 v:=by
 refine⟨fdD ns 0 0,?_,ns,0,0,rfl,by omega,by omega⟩;unfold c5;rw[aY];unfold jA;have e:aSl (.kl (ns.map Val.int)) none (some 63)=.new (.lst (ns.map Val.int)):=by
  have:=EW (ns.map Val.int) none (some ((63:Nat):Int))
  rw[DM,Ie (by rw[v_];exact hl)] at this;exact this
 have c:Val.items (.lst (ns.map Val.int))=some (ns.map Val.int):=rfl;simp![tW,e,c];rfl
def ay{n:Nat}{v:Val}{m:Int}(f:Fd n v)(hn:n<=1000000000)(h0:0<m)(hm:Sm 8000 m):∃r v',av.G [v,.int m]=.ok (.val (.int r)) [v']/\Fd (n+1) v'/\0<=r/\r<m:=by
 obtain⟨cs,a,l,rfl,a0,a1⟩:=f;have m0:m≠0:=by omega
 have d1:=λi=>dk (i:=i) m0;have d2:=λi=>fP (i:=i) (CDivB.of m0 hm);unfold av;rw[aY];unfold jt;have x1:aO.G (.int 61) (.int a)=.val (.int (61*a)):=aW (CMulA.left (by decide) (by decide));have x2:aO.G (.int (61*a)) (.int a)=.val (.int (61*a*a)):=aW (CMulA.right (by omega) (by omega));have x3:aO.G (.int 7) (.int a)=.val (.int (7*a)):=aW (CMulA.left (by decide) (by decide));have x4:∀x:Int,aO.G (.int x) (.int 48271)=.val (.int (x*48271)):=λx=>aW (CMulA.right (by decide) (by decide));have x5:∀x:Int,aO.G (.int x) (.int 69623)=.val (.int (x*69623)):=λx=>aW (CMulA.right (by decide) (by decide));have x6:aO.G (.int 7919) (.int a)=.val (.int (7919*a)):=aW (CMulA.left (by decide) (by decide));have x7:∀x:Int,aO.G (.int x) (.int 16811)=.val (.int (x*16811)):=λx=>aW (CMulA.right (by decide) (by decide));have y1:∀x:Int,bu.G (.int x) (.int 1000003)=.val (.int (x.fmod 1000003)):=λx=>dk (by decide);have y2:∀x:Int,bu.G (.int x) (.int 999983)=.val (.int (x.fmod 999983)):=λx=>dk (by decide);have y3:∀x:Int,bu.G (.int x) (.int 1999993)=.val (.int (x.fmod 1999993)):=λx=>dk (by decide);have y4:∀x:Int,bu.G (.int x) (.int 524287)=.val (.int (x.fmod 524287)):=λx=>dk (by decide);have y5:∀x:Int,dC.G (.int x) (.int 5)=.val (.int (x.fdiv 5)):=λx=>fP (CDivB.of (by decide) (sm8 (by decide)));by_cases hc:0<l
 .have hc':decide (0<l)=true:=Hf hc;refine⟨l.fmod m,fdD cs a (l.fdiv m),?_,⟨cs,a,_,rfl,a0,by omega⟩,dh h0⟩;simp![hc',d1,d2,eD,jw,fg,fh,dY]
 .have hc':decide (0<l)=false:=He hc;have g_:∀x:Int,∃r v',(R3F.ok (Rt.val (.int (x.fmod m))) [fdD cs (a+1) l]:R3F)=.ok (.val (.int r)) [v']/\Fd (n+1) v'/\0<=r/\r<m:=λx=>⟨_,_,rfl,⟨cs,_,_,rfl,by omega,by omega⟩,dh h0⟩;have z18:((10:Int)^18)=1000000000000000000:=by decide
  by_cases hl:0<cs.length
  .have r:=dh (a:=a) (m:=(cs.length:Nat)) (by omega);have hi:(a.fmod (cs.length:Nat)).toNat<cs.length:=by omega
   have at1:atI (cs.map Val.int) (a.fmod (cs.length:Nat))=some (.int cs[(a.fmod (cs.length:Nat)).toNat]):=eL r.1 (by rw[Hj,A_ hi];rfl);have l1:decide ((0:Int)<((cs.length:Nat):Int))=true:=Hf (by omega);have e1:bu.G (.int a) (.int (cs.length:Nat))=.val (.int (a.fmod (cs.length:Nat))):=dk (by omega);by_cases hb:(10^18:Int)<=cs[(a.fmod (cs.length:Nat)).toNat]
   .have hb':=Hf hb;by_cases ha:a<(cs.length:Nat)
    .have ha':=Hf ha;refine⟨(cs[(a.fmod (cs.length:Nat)).toNat]).fmod m,fdD cs (a+1) ((cs[(a.fmod (cs.length:Nat)).toNat]).fdiv m),?_,⟨cs,_,_,rfl,by omega,by omega⟩,dh h0⟩;simp![hc',d1,d2,eD,jw,fg,fh,dY,v_,l1,e1,at1,lY,hb',ha']
    .have ha':=He ha;simp![hc',d1,d2,eD,jw,fg,fh,dY,v_,l1,e1,at1,lY,hb',ha',x1,x2,x3,x4,x5,x6,x7,y1,y2,y3,y4,y5];exact g_ _
   .have hb':=He hb;simp![hc',d1,d2,eD,jw,fg,fh,dY,v_,l1,e1,at1,lY,hb',x1,x2,x3,x4,x5,x6,x7,y1,y2,y3,y4,y5];exact g_ _
  .have l1:decide ((0:Int)<((cs.length:Nat):Int))=false:=He (by omega);have hb':decide ((10^18:Int)<=a)=false:=He (by rw[z18];omega);simp![hc',d1,d2,eD,jw,fg,fh,dY,v_,l1,lY,hb',x1,x2,x3,x4,x5,x6,x7,y1,y2,y3,y4,y5];exact g_ _
def Gf:c9 [.int 6]=some [.int 0,.int 1,.int 2,.int 3,.int 4,.int 5]:=dP (i:=6) (by decide) (by decide)
def sC{n:Nat}{v:Val}(f:Fd n v)(hn:n<=900000000):∃r v',b9.G [v,.int 6]=.ok (.val (.int r)) [v']/\Fd (n+6) v'/\0<=r:=by have s:Sm 8000 100000:=sm8 (by decide);obtain⟨r1,v1,e1,f1,a1,_⟩:=ay (m:=100000) f (by omega) (by decide) s;obtain⟨r2,v2,e2,f2,a2,_⟩:=ay (m:=100000) f1 (by omega) (by decide) s;obtain⟨r3,v3,e3,f3,a3,_⟩:=ay (m:=100000) f2 (by omega) (by decide) s;obtain⟨r4,v4,e4,f4,a4,_⟩:=ay (m:=100000) f3 (by omega) (by decide) s;obtain⟨r5,v5,e5,f5,a5,_⟩:=ay (m:=100000) f4 (by omega) (by decide) s;obtain⟨r6,v6,e6,f6,a6,_⟩:=ay (m:=100000) f5 (by omega) (by decide) s;have c6:∀x:Int,aO.G (.int x) (.int 100000)=.val (.int (x*100000)):=λx=>aW (CMulA.right (by decide) (by decide));refine⟨((((((0*100000+r1)*100000+r2)*100000+r3)*100000+r4)*100000+r5)*100000+r6),v6,?_,f6.mono (by omega),by omega⟩;unfold b9;rw[aY];unfold iw gG;simp![Gf,et,c6,e1,e2,e3,e4,e5,e6]
def o4(a:Int):(if a<0 then -a else a)=((a.natAbs:Nat):Int):=by split <;> omega
theorem md:∀(n one c_:Nat),c_<=n->(xWh (qOf (pOp bNe (af 1) (ah 0))) bO).G [.sh (.int (one:Nat)),.sh (.int (c_:Nat))]=.nx [.sh (.int (Nat.gcd one c_:Nat)),.sh (.int 0)]
 |
  n,one,0,_=>by
  rw[qf];simp![dM];rw[Nat.gcd_zero_right];try rfl
 |0,one,c_+1,hl=>absurd hl (by omega)
 |
  n+1,one,c_+1,hl=>by
  rw[qf];have e:((((c_+1:Nat):Int)==0))=false:=by rw[Hm];omega
  have e1:bu.G (.int (one:Nat)) (.int ((c_+1:Nat):Int))=.val (.int (((one:Nat):Int).fmod ((c_+1:Nat):Int))):=dk (by omega);have e2:((one:Nat):Int).fmod ((c_+1:Nat):Int)=((one % (c_+1):Nat):Int):=by rw[Iw _ (by omega)];rfl
  have ih:=md n (c_+1) (one % (c_+1)) (by have:=Nat.mod_lt one (show c_+1>0 by omega);omega);rw[Fr.euc] at ih;rw[e2] at e1;have bb:bO.G [.sh (.int (one:Nat)),.sh (.int ((c_+1:Nat):Int))]=.nx [.sh (.int ((c_+1:Nat):Int)),.sh (.int ((one % (c_+1):Nat):Int))]:=by unfold bO;simp![e1]
  simp![e,bb,ih]
def bP(a b:Int):ba.G [.int a,.int b]=.ok (.val (.int (Int.gcd a b:Nat))) []:=by
 unfold ba;rw[aY];unfold d8
 have:=md b.natAbs a.natAbs b.natAbs (y_ _)
 simp![o4,this];rfl
def iA{a b:Int}(hb:b≠0)(hs:Sm 8000 b):cD.G [.int a,.int b]=.ok (.val (fV ((a:Rat)/(b:Rat)))) []:=by
 unfold cD;rw[aY];unfold js;have e:(b==0)=false:=by rw[Hm];exact hb
 have c:∀x,CDivB x (Fr.dv a b):=λx=>CDivB.of (Fr.dv_ne hb) (hs.of_le (by rw[Fr.dv_abs];exact Nat.le_of_dvd (by omega) (Nat.gcd_dvd_right a.natAbs b.natAbs)));have k1:=fP (c a);have k2:=fP (c b);have hh:=ji (a:=a) hb;have g_:Val.tup [.int (a.fdiv (Fr.dv a b)),.int (b.fdiv (Fr.dv a b))]=fV ((a:Rat)/(b:Rat)):=by unfold fV;rw[<- hh.1,<- hh.2];rfl
 by_cases hn:b<0
 .have hd:Fr.dv a b=-((Int.gcd a b:Nat):Int):=by unfold Fr.dv;rw[if_pos hn]
  rw[hd] at k1 k2 g_;simp![e,bP,Hf hn,k1,k2,g_]
 .have hd:Fr.dv a b=((Int.gcd a b:Nat):Int):=by unfold Fr.dv;rw[if_neg hn]
  rw[hd] at k1 k2 g_;simp![e,bP,He hn,k1,k2,g_]
def mH{p q:Rat}{n m:Nat}(hp:Sz n p)(hq:Sz m q)(h:n+m<=8000):dW.G [fV p,fV q]=.ok (.val (fV (p+q))) []:=by have c1:=aW (CMulA.of hp.top hq.bot (by omega) (by omega));have c2:=aW (CMulA.of hq.top hp.bot (by omega) (by omega));have c3:=aW (CMulA.of hp.bot hq.bot (by omega) (by omega));have fe:=iA (a:=p.num*q.den+q.num*p.den) (b:=p.den*q.den) (ID (bZ p) (bZ q)) ((hp.bot.mul hq.bot).mono h);rw[<- jY] at fe;unfold dW;rw[aY];unfold ph;rw[show fV p=.tup [.int p.num,.int p.den] from rfl,show fV q=.tup [.int q.num,.int q.den] from rfl];simp![c1,c2,c3,fe]
def uV{p q:Rat}{n m:Nat}(hp:Sz n p)(hq:Sz m q)(h:n+m<=8000):fu.G [fV p,fV q]=.ok (.val (fV (p*q))) []:=by have c1:=aW (CMulA.of hp.top hq.top (by omega) (by omega));have c2:=aW (CMulA.of hp.bot hq.bot (by omega) (by omega));have fe:=iA (a:=p.num*q.num) (b:=p.den*q.den) (ID (bZ p) (bZ q)) ((hp.bot.mul hq.bot).mono h);rw[<- ki] at fe;unfold fu;rw[aY];unfold oE;rw[show fV p=.tup [.int p.num,.int p.den] from rfl,show fV q=.tup [.int q.num,.int q.den] from rfl];simp![c1,c2,fe]
def cH{p q:Rat}{n m:Nat}(hp:Sz n p)(hq:Sz m q)(h1:n<=100000)(h2:m<=100000):bx.G [fV p,fV q]=.ok (.val (.bl (decide (p<q)))) []:=by have c1:=aW (CMulA.of hp.top hq.bot h1 h2);have c2:=aW (CMulA.of hq.top hp.bot h2 h1);unfold bx;rw[aY];unfold kZ;rw[show fV p=.tup [.int p.num,.int p.den] from rfl,show fV q=.tup [.int q.num,.int q.den] from rfl];simp![c1,c2];rw[show decide (p.num*(q.den:Int)<q.num*(p.den:Int))=decide (p<q) from decide_eq_decide.mpr (sx p q).symm]
def gY{v:Val}(hk:knV v=true):(cX d9).G [v,.ty "tuple"]=.val (.bl (cU v)):=by cases v <;> first |rfl |cases hk
def iB{v:Val}(hk:knV v=true):cB.G [v]=.ok (.val (.bl (iX v))) []:=by unfold cB;rw[aY];unfold jC;cases v <;> first |rfl |cases hk
def mw(v:Val):cU v=false\/∃xs,v=.tup xs:=by cases v <;> first |exact .inr ⟨_,rfl⟩ |exact .inl rfl
def mV(v:Val):iX v=false\/∃i,v=.int i:=by cases v <;> first |exact .inr ⟨_,rfl⟩ |exact .inl rfl
def FC{v:Val}(h:cU v=false):aG v=false:=by cases v <;> first |rfl |cases h
def GP{v:Val}(h:cU v=false):dm v=false:=by cases v <;> first |rfl |cases h
def Ed{a b:Val}(h:iX a=false):aG (.tup [a,b])=false:=by cases a <;> first |rfl |cases h
def CP{i:Int}{b:Val}(h:iX b=false):aG (.tup [.int i,b])=false:=by cases b <;> first |rfl |cases h
def Gs{xs:List Val}(hl:xs.length≠2):aG (.tup xs)=false:=by
 unfold aG;split
 .rename_i e;injection e with e;subst e;exact absurd rfl hl
 .rfl
def EA{xs:List Val}(hl:xs.length≠4):dm (.tup xs)=false:=by
 unfold dm;split
 .rename_i e;injection e with e;subst e;exact absurd rfl hl
 .rfl
def xo{k:Nat}{v:Val}(ha:eW k v=true)(h:cU v=false):knV v=true:=by
 cases v with
 |tup xs=>cases h
 |_=>cases k <;> exact ha
def kz{v:Val}(ha:eW 1 v=true):bE.G [v]=.ok (.val (.bl (aG v))) []:=by
 unfold bE;rw[aY];unfold gk;rcases mw v with ht |⟨xs,rfl⟩
 .have it:=gY (xo ha ht);rw[ht] at it;simp![it,FC ht]
 have it:=gY (v:=.tup xs) rfl;by_cases hl:xs.length=2
 .match xs,hl,ha with
  |
   [a,b],_,ha=>
   have ha':(knV a&&(knV b&&true))=true:=by simpa [eW] using ha
   simp only[x_] at ha';have w1:=iB ha'.1;have w2:=iB ha'.2.1;rcases mV a with h1 |⟨i,rfl⟩
   .rw[h1] at w1;simp![it,cU,w1,Ed h1]
   rcases mV b with h2 |⟨j,rfl⟩
   .rw[h2] at w2;simp![it,cU,w1,iX,w2,CP h2]
   have f:aG (.tup [.int i,.int j])=(decide (1<=j)&&decide (Int.gcd i j=1)):=rfl;have g:((((Int.gcd i j:Nat):Int)==1):Bool)=decide (Int.gcd i j=1):=by rw[Bool.eq_iff_iff,Hw,HD];omega
   by_cases hj:1<=j
   .simp![it,cU,w1,w2,iX,bP,Hf hj,f,g]
   .simp![it,cU,w1,w2,iX,bP,He hj,f,g]
 .have e:(((xs.length:Nat):Int)==2)=false:=by rw[Hm];omega
  simp![it,cU,e,Gs hl]
def kI{v:Val}(ha:eW 2 v=true):dX.G [v]=.ok (.val (.bl (dm v))) []:=by
 unfold dX;rw[aY];unfold mU;rcases mw v with ht |⟨xs,rfl⟩
 .have it:=gY (xo ha ht);rw[ht] at it;simp![it,GP ht]
 have it:=gY (v:=.tup xs) rfl;by_cases hl:xs.length=4
 .match
   xs,hl,ha with
  |
   [a,b,c,d],_,ha=>
   have e1:dm (.tup [a,b,c,d])=(aG a&&(aG b&&(aG c&&(aG d&&(fU c&&fU d))))):=rfl;have bl4:∀x y z w:Bool,gD [.bl x,.bl y,.bl z,.bl w]=some [x,y,z,w]:=λ_ _ _ _=>rfl;obtain⟨e',⟨s',rfl,_⟩,lc⟩:=pC (g:=(gtN 0).G) (F:=(ai bE (aa (af 0) ag)).G) (f:=λv=>.bl (aG v)) (λe=>∃s,e=[s]/\s.pl=true) [a,b,c,d] [] [.no] ⟨.no,rfl,rfl⟩ (by
    rintro v hv e ⟨s,rfl,hs⟩;have hv':eW 1 v=true:=Hd.mp (by simpa [eW] using ha) v hv;refine⟨[.sh v],.val (.bl (aG v)),[.sh v],?_,?_,rfl,⟨_,rfl,rfl⟩⟩
    .simp![hs]
    .simp![kz hv']) (by simp)
   have cy:cY=qY.G:=rfl;rw[cy,HA] at lc;simp only[D_,IK] at lc;cases hA:(aG a&&(aG b&&(aG c&&aG d))) with
   |
    true=>
    simp only[x_] at hA;obtain⟨p,rfl⟩:=tf hA.2.2.1;obtain⟨q,rfl⟩:=tf hA.2.2.2;rw[hA.1,hA.2.1,hA.2.2.1,hA.2.2.2] at e1 lc;have e2:dm (.tup [a,b,fV p,fV q])=(decide (0<p.num)&&decide (0<q.num)):=by rw[e1];rfl
    rw[e2];have i1:(fV p).items=some [.int p.num,.int p.den]:=rfl;have i2:(fV q).items=some [.int q.num,.int q.den]:=rfl;by_cases hp:0<p.num
    .simp![it,cU,lc,bL,bl4,id,i1,i2,Hf hp]
    .simp![it,cU,lc,bL,bl4,id,i1,He hp]
   |
    false=>
    have e2:dm (.tup [a,b,c,d])=false:=by rw[e1];revert hA;generalize aG a=a',aG b=b',aG c=c',aG d=d',(fU c&&fU d)=z;revert a' b' c' d' z;decide
    rw[e2];simp![it,cU,lc,bL,bl4,id,hA]
 .have e:(((xs.length:Nat):Int)==4)=false:=by rw[Hm];omega
  simp![it,cU,e,EA hl]
def mC{v:Val}(ha:eW 2 v=true):bz.G [v]=if dm v=true then .ok (.val .non) [] else .exc "NoBox" []:=by
 unfold bz;rw[aY];unfold iz;cases h:dm v with
 |true=>simp![kI ha,h]
 |false=>simp![kI ha,h]
def gm{b:Bx}(hb:b.Ok):bz.G [bV b]=.ok (.val .non) []:=by rw[mC (BA b),v8 hb];rfl
def pq{b:Bx}{n:Nat}(hb:b.Ok)(hs:b.Sz n)(h:n+n<=8000):fk.G [bV b]=.ok (.val (fV (b.w*b.h))) []:=by have c:=gm hb;have t:=uV hs.w hs.h h;unfold fk;rw[aY];unfold tL;rw[show bV b=.tup [fV b.l,fV b.t,fV b.w,fV b.h] from rfl] at *;simp![c,t]
structure Wl where
 l:Rat
 r:Rat
 t:Rat
 b:Rat
def wlV(w:Wl):Val:=.tup [fV w.l,fV w.r,fV w.t,fV w.b]
def wlB(b:Bx):Wl:=⟨b.l,b.l+b.w,b.t,b.t+b.h⟩
structure Wl.Sz(n:Nat)(w:Wl):Prop where
 l:L2.Sz n w.l
 r:L2.Sz n w.r
 t:L2.Sz n w.t
 b:L2.Sz n w.b
def jy{b:Bx}{n:Nat}(hs:b.Sz n):(wlB b).Sz (n+n+1):=⟨hs.l.mono (by omega),(hs.l.add hs.w).mono (by omega),hs.t.mono (by omega),(hs.t.add hs.h).mono (by omega)⟩
def mj{b:Bx}{n:Nat}(hs:b.Sz n)(h:n+n<=8000):dS.G [bV b]=.ok (.val (wlV (wlB b))) []:=by have a1:=mH hs.l hs.w h;have a2:=mH hs.t hs.h h;unfold dS;rw[aY];unfold pj;rw[show bV b=.tup [fV b.l,fV b.t,fV b.w,fV b.h] from rfl];simp![a1,a2];rfl
def inB(a b:Wl):Bool:=!decide (b.l<a.l) && !decide (a.r<b.r)&&(!decide (b.t<a.t) && !decide (a.b<b.b))
def jW{a b:Bx}{n m:Nat}(ha:a.Sz n)(hb:b.Sz m)(h1:n+n<=8000)(h2:m+m<=8000):b8.G [bV a,bV b]=.ok (.val (.bl (inB (wlB a) (wlB b)))) []:=by have w1:=mj ha h1;have w2:=mj hb h2;have s1:=jy ha;have s2:=jy hb;generalize wlB a=A at *;generalize wlB b=B at *;have l1:=cH s2.l s1.l (by omega) (by omega);have l2:=cH s1.r s2.r (by omega) (by omega);have l3:=cH s2.t s1.t (by omega) (by omega);have l4:=cH s1.b s2.b (by omega) (by omega);unfold b8;rw[aY];unfold gi inB;rw[show wlV A=.tup [fV A.l,fV A.r,fV A.t,fV A.b] from rfl] at w1;rw[show wlV B=.tup [fV B.l,fV B.r,fV B.t,fV B.b] from rfl] at w2;by_cases c1:B.l<A.l <;> by_cases c2:A.r<B.r <;> by_cases c3:B.t<A.t <;> (simp only[c1,c2,c3,decide_true,decide_false] at l1 l2 l3;simp![w1,w2,l1,l2,l3,l4,c1,c2,c3])
def aj(p:Str×Bx):Val:=.tup [.str p.1,bV p.2]
structure RwOk(rows:List (Str×Bx)):Prop where
 ok:∀p∈rows,p.2.Ok
 sz:∀p∈rows,p.2.Sz 100
 nd:(rows.map (·.1)).Nodup
 st:∀p∈rows,PyData.strOk p.1=true
 ln:rows.length<=41
def arR(r:Str×Bx):Rat:=r.2.w*r.2.h
def pin(b:Bx)(r:Str×Bx):Bool:=decide (b.w*b.h<r.2.w*r.2.h)&&inB (wlB r.2) (wlB b)
def oS:Option (Str×Rat)->Val
 |none=>.non
 |some x=>.str x.1
def oQ:Option (Str×Rat)->Val
 |none=>.non
 |some x=>fV x.2
def vG{rows:List (Str×Bx)}(nd:(rows.map (·.1)).Nodup)(h:rows.length<=41):jg.G [.lst (rows.map aj)]=.new (.lst ((aH rows).map aj)):=by
 have e1:rows.map aj=(rows.map λp=>(p.1,[bV p.2])).map rwS:=by rw[H_];rfl
 have nd':((rows.map λp:Str×Bx=>(p.1,[bV p.2])).map (·.1)).Nodup:=by rw[H_];exact nd
 have e2:aH (rows.map λp:Str×Bx=>(p.1,[bV p.2]))=(aH rows).map λp=>(p.1,[bV p.2]):=(fE (a:=(aH rows).map λp:Str×Bx=>(p.1,[bV p.2])) nd' ((bI rows).map λp:Str×Bx=>(p.1,[bV p.2])) (Ij.mpr (ff rows))).symm;rw[e1,Bg _ nd' (by rw[v_];omega),e2,H_];rfl
def ql{b:Bx}{r:Str×Bx}{s:Option (Str×Rat)}{rv:Val}{s4 s5 s6:Sl}(hb:b.Ok)(hs:b.Sz 100)(ho:r.2.Ok)(hz:r.2.Sz 100)(hq:∀x,s=some x->Sz 201 x.2)(h4:s4.pl=true)(h5:s5.pl=true)(h6:s6.pl=true):
 ∃e1,(gtX (gtT 2 (aC (gtN 4) (aC (gtN 5) bR)))).G (aj r) [.sh (bV b),.sh rv,.sh (oS s),.sh (oQ s),s4,s5,s6]=some e1/\cn.G e1=.nx [.sh (bV b),.sh rv,.sh (oS (bM (pin b) arR s r)),.sh (oQ (bM (pin b) arR s r)),.sh (.str r.1),.sh (bV r.2),.sh (fV (r.2.w*r.2.h))]:=by
 refine⟨[.sh (bV b),.sh rv,.sh (oS s),.sh (oQ s),.sh (.str r.1),.sh (bV r.2),s6],?_,?_⟩
 .unfold aj;generalize bV r.2=x at *;simp![h4,h5]
 .have a1
   := pq ho hz (by omega)
  have a2:=pq hb hs (by omega);have z1:Sz 201 (r.2.w*r.2.h):=(hz.w.mul hz.h).mono (by omega);have z2:Sz 201 (b.w*b.h):=(hs.w.mul hs.h).mono (by omega);have l1:=cH z2 z1 (by omega) (by omega);have lw:=jW hz hs (by omega) (by omega);unfold bM pin arR;generalize inB (wlB r.2) (wlB b)=d2 at *;generalize bV b=x at *;generalize bV r.2=y at *;generalize r.2.w*r.2.h=q at *;generalize b.w*b.h=p at *;unfold cn;by_cases c1:p<q
  .rw[Hf c1] at l1 ⊢;cases d2 with
   |false=>rw[if_neg (by simp)];simp![h6,a1,a2,l1,lw]
   |
    true=>
    cases s with
    |none=>rw[if_pos (by simp)];unfold oS oQ;simp![h6,a1,a2,l1,lw]
    |
     some w=>
     have l2:=cH z1 (hq w rfl) (by omega) (by omega);obtain⟨n,w⟩:=w;dsimp only at l2;obtain⟨fx,fw⟩:∃xs,fV w=Val.tup xs:=⟨_,rfl⟩;by_cases c2:q<w
     .have t:(true&&true&&decide (q<(n,w).2))=true:=by rw[Hf c2];rfl
      rw[Hf c2] at l2;rw[if_pos t];unfold oS oQ;dsimp only;rw[fw] at l2 ⊢;simp![h6,a1,a2,l1,lw,l2]
     .have t:¬ (true&&true&&decide (q<(n,w).2))=true:=by rw[He c2];exact z_
      rw[He c2] at l2;rw[if_neg t];unfold oS oQ;dsimp only;rw[fw] at l2 ⊢;simp![h6,a1,a2,l1,lw,l2]
  .rw[He c1] at l1 ⊢;rw[if_neg (by simp)];simp![h6,a1,a2,l1]
def x9{p:Str×Bx->Bool}{ar:Str×Bx->Rat}{s:Option (Str×Rat)}{r:Str×Bx}{x:Str×Rat}(h:bM p ar s r=some x):x=(r.1,ar r)\/s=some x:=by
 have:∀c:Bool,(if c=true then some (r.1,ar r) else s)=some x->x=(r.1,ar r)\/s=some x:=λc h=>by
  cases c with
  |false=>exact .inr h
  |true=>exact .inl (Hc h).symm
 exact this _ h
def jK{b:Bx}{rows:List (Str×Bx)}(hb:b.Ok)(hs:b.Sz 100)(R:RwOk rows):bc.G [bV b,.lst (rows.map aj)]=.ok (.val (oS ((aH rows).foldl (bM (pin b) arR) none))) []:=by
 have sr:=vG R.nd R.ln;obtain⟨e',⟨s4,s5,s6,rfl,_⟩,fr⟩:=eO (g:=(gtX (gtT 2 (aC (gtN 4) (aC (gtN 5) bR)))).G) (B:=cn.G) aj (bM (pin b) arR) (λs e=>∃s4 s5 s6,e=[.sh (bV b),.sh (.lst (rows.map aj)),.sh (oS s),.sh (oQ s),s4,s5,s6]/\(s4.pl=true/\s5.pl=true/\s6.pl=true)/\∀x,s=some x->Sz 201 x.2) (aH rows) none [.sh (bV b),.sh (.lst (rows.map aj)),.sh .non,.sh .non,.no,.no,.no] ⟨.no,.no,.no,rfl,⟨rfl,rfl,rfl⟩,λ_ z=>nomatch z⟩ (by
  rintro r hr s e ⟨s4,s5,s6,rfl,⟨h4,h5,h6⟩,hq⟩;have mr:=(bI rows).mem_iff.mp hr;have zr:=R.sz r mr;obtain⟨e1,eg,eb⟩:=ql (rv:=.lst (rows.map aj)) hb hs (R.ok r mr) zr hq h4 h5 h6;refine⟨e1,_,eg,.inl eb,_,_,_,rfl,⟨rfl,rfl,rfl⟩,λx hx=>?_⟩;rcases x9 hx with rfl |hx
  .exact (zr.w.mul zr.h).mono (by omega)
  .exact hq x hx)
 generalize (aH rows).foldl (bM (pin b) arR) none=s at *;generalize (aH rows).map aj=sv at *;generalize rows.map aj=rv at *;generalize bV b=x at *;unfold bc;rw[aY];unfold fb;simp![sr,fr]
def rG{rows:List (Str×Bx)}(R:RwOk rows):dz.G [.lst (rows.map aj)]=.ok (.new (.lst (rows.map λr=>.tup [.str r.1,oS ((aH rows).foldl (bM (pin r.2) arR) none)]))) []:=by
 have la:∀r∈rows,bc.G [bV r.2,.lst (rows.map aj)]=.ok (.val (oS ((aH rows).foldl (bM (pin r.2) arR) none))) []:=λr hr=>jK (R.ok r hr) (R.sz r hr) R;have cb:∀r∈rows,bz.G [bV r.2]=.ok (.val .non) []:=λr hr=>gm (R.ok r hr);have ln:=R.ln;generalize hrv:Val.lst (rows.map aj)=rv at la ⊢;obtain⟨e',⟨s1,s2,rfl,_⟩,fr⟩:=eO (g:=(gtX (gtT 2 (aC (gtN 1) (aC (gtN 2) bR)))).G) (B:=fQ.G) aj (λ(u:Unit) _=>u) (λ_ e=>∃s1 s2:Sl,e=[.sh rv,s1,s2]/\s1.pl=true/\s2.pl=true) rows () [.sh rv,.no,.no] ⟨.no,.no,rfl,rfl,rfl⟩ (by
  rintro r hr _ e ⟨s1,s2,rfl,h1,h2⟩;have c:=cb r hr;refine⟨[.sh rv,.sh (.str r.1),.sh (bV r.2)],[.sh rv,.sh (.str r.1),.sh (bV r.2)],?_,.inl ?_,_,_,rfl,rfl,rfl⟩
  .unfold aj;generalize bV r.2=x at *;simp![h1,h2]
  .unfold fQ;generalize bV r.2=x at *;simp![c])
 obtain⟨e2,⟨t1,t2,rfl,_⟩,lc⟩:=fF (g:=(gtT 2 (aC (gtN 0) (aC (gtN 1) bR))).G) (F:=(bN (aa (af 0) (aa (ai bc (aa (af 1) (aa (af 2) ag))) ag))).G) aj (λr=>.tup [.str r.1,oS ((aH rows).foldl (bM (pin r.2) arR) none)]) (λe=>∃s1 s2:Sl,e=[s1,s2,.sh rv]/\s1.pl=true/\s2.pl=true) rows [] [.no,.no,.sh rv] ⟨.no,.no,rfl,rfl,rfl⟩ (by
  rintro r hr e ⟨s1,s2,rfl,h1,h2⟩;have l:=la r hr;generalize (aH rows).foldl (bM (pin r.2) arR) none=o at *;refine⟨[.sh (.str r.1),.sh (bV r.2),.sh rv],.val (.tup [.str r.1,oS o]),[.sh (.str r.1),.sh (bV r.2),.sh rv],?_,?_,rfl,_,_,rfl,rfl,rfl⟩
  .unfold aj;generalize bV r.2=x at *;simp![h1,h2]
  .generalize bV r.2=x at *;generalize oS o=y at *;simp![l]) (by rw[HV];omega)
 rw[HA] at lc;have ll:(rows.map λr=>Val.tup [.str r.1,oS ((aH rows).foldl (bM (pin r.2) arR) none)]).length<=16777216:=by rw[v_];omega
 clear la cb;generalize (rows.map λr=>Val.tup [.str r.1,oS ((aH rows).foldl (bM (pin r.2) arR) none)])=out at *;have it:c7 rv=some (rows.map aj):=by rw[<- hrv];rfl
 unfold dz;rw[aY];unfold kE;simp![it,fr,bL,inS,lc,ll]
theorem m7(x y:Val):∀(n one c_:Nat),c_<=n->(xWh (qOf (pOp bGt (af 3) (ah 0))) dH).G [.sh x,.sh y,.sh (.int (one:Nat)),.sh (.int (c_:Nat))]=.nx [.sh x,.sh y,.sh (.int (Nat.gcd one c_:Nat)),.sh (.int 0)]
 |
  n,one,0,_=>by
  rw[qf];simp![Nat.gcd_zero_right,Int.natCast_zero,Int.lt_irrefl]
 |0,one,c_+1,hl=>absurd hl (by omega)
 |
  n+1,one,c_+1,hl=>by
  rw[qf];have e:decide ((0:Int)<((c_+1:Nat):Int))=true:=Hf (by omega);have e1:bu.G (.int (one:Nat)) (.int ((c_+1:Nat):Int))=.val (.int (((one:Nat):Int).fmod ((c_+1:Nat):Int))):=dk (by omega);have e2:((one:Nat):Int).fmod ((c_+1:Nat):Int)=((one % (c_+1):Nat):Int):=by rw[Iw _ (by omega)];rfl
  have ih:=m7 x y n (c_+1) (one % (c_+1)) (by have:=Nat.mod_lt one (show c_+1>0 by omega);omega);rw[Fr.euc] at ih;rw[e2] at e1;have bb:dH.G [.sh x,.sh y,.sh (.int (one:Nat)),.sh (.int ((c_+1:Nat):Int))]=.nx [.sh x,.sh y,.sh (.int ((c_+1:Nat):Int)),.sh (.int ((one % (c_+1):Nat):Int))]:=by unfold dH;simp![e1]
  simp![e,bb,ih]
def fm{a b:Int}(hb:0<b)(hs:Sm 8000 b):bJ.G [.int a,.int b]=.ok (.val (fV ((a:Rat)/(b:Rat)))) []:=by
 unfold bJ;rw[aY];unfold lq;have hb0:b≠0:=by omega
 have lo:=m7 (.int a) (.int b) b.natAbs a.natAbs b.natAbs (y_ _);rw[show Nat.gcd a.natAbs b.natAbs=Int.gcd a b from rfl,show ((b.natAbs:Nat):Int)=b by omega] at lo;have c:∀x,CDivB x (Fr.dv a b):=λx=>CDivB.of (Fr.dv_ne hb0) (hs.of_le (by rw[Fr.dv_abs];exact Nat.le_of_dvd (by omega) (Nat.gcd_dvd_right a.natAbs b.natAbs)));have k1:=fP (c a);have k2:=fP (c b);have hh:=ji (a:=a) hb0;have g_:Val.tup [.int (a.fdiv (Fr.dv a b)),.int (b.fdiv (Fr.dv a b))]=fV ((a:Rat)/(b:Rat)):=by unfold fV;rw[<- hh.1,<- hh.2];rfl
 have hd:Fr.dv a b=((Int.gcd a b:Nat):Int):=by unfold Fr.dv;rw[if_neg (by omega)]
 rw[hd] at k1 k2 g_;simp![o4,lo,k1,k2,g_]
def mD{p q:Rat}{n m:Nat}(hp:Sz n p)(hq:Sz m q)(h:n+m<=8000):cK.G [fV p,fV q]=.ok (.val (fV (p*q))) []:=by have c1:=aW (CMulA.of hp.top hq.top (by omega) (by omega));have c2:=aW (CMulA.of hp.bot hq.bot (by omega) (by omega));have dp:=p.den_pos;have dq:=q.den_pos;have lo:=fm (a:=p.num*q.num) (b:=p.den*q.den) (Int.mul_pos (by omega) (by omega)) ((hp.bot.mul hq.bot).mono h);rw[<- ki] at lo;unfold cK;rw[aY];unfold iC;rw[show fV p=.tup [.int p.num,.int p.den] from rfl,show fV q=.tup [.int q.num,.int q.den] from rfl];simp![c1,c2,lo]
def dJ{p q:Rat}{n m:Nat}(hp:Sz n p)(hq:Sz m q)(h:n+m<=8000):cT.G [fV p,fV q]=.ok (.val (fV (p+q))) []:=by have c1:=aW (CMulA.of hp.top hq.bot (by omega) (by omega));have c2:=aW (CMulA.of hq.top hp.bot (by omega) (by omega));have c3:=aW (CMulA.of hp.bot hq.bot (by omega) (by omega));have dp:=p.den_pos;have dq:=q.den_pos;have lo:=fm (a:=p.num*q.den+q.num*p.den) (b:=p.den*q.den) (Int.mul_pos (by omega) (by omega)) ((hp.bot.mul hq.bot).mono h);rw[<- jY] at lo;unfold cT;rw[aY];unfold kF;rw[show fV p=.tup [.int p.num,.int p.den] from rfl,show fV q=.tup [.int q.num,.int q.den] from rfl];simp![c1,c2,c3,lo]
def cc{p q:Rat}{n m:Nat}(hp:Sz n p)(hq:Sz m q)(h1:n<=100000)(h2:m<=100000):bp.G [fV p,fV q]=.ok (.val (.bl (decide (p<q)))) []:=by have c1:=aW (CMulA.of hp.top hq.bot h1 h2);have c2:=aW (CMulA.of hq.top hp.bot h2 h1);unfold bp;rw[aY];unfold i7;rw[show fV p=.tup [.int p.num,.int p.den] from rfl,show fV q=.tup [.int q.num,.int q.den] from rfl];simp![c1,c2];rw[show decide (p.num*(q.den:Int)<q.num*(p.den:Int))=decide (p<q) from decide_eq_decide.mpr (sx p q).symm]
def bW(k:Nat)(x:Val)(xs:List Val):bX k (x::xs)=(wfV k x&&bX k xs):=by rw[cN,cN,List.all_cons]
def mO(k:Nat)(xs:List Val):wfV (k+1) (.tup xs)=bX k xs:=by simp [wfV]
def jc(k:Nat)(xs:List Val):wfV (k+1) (.lst xs)=bX k xs:=by simp [wfV]
def yT{x:Val}{xs:List Val}(h:wfV 60 (.lst (x::xs))=true):cx (.lst (x::xs)) (.lst [])=some false:=by rw[jx h (by rw[jc,cN];rfl)];simp [vq,vqs]
def p30:kd.G (.int 10) (.int 30)=.val (.int 1000000000000000000000000000000):=xF ⟨by decide,by decide,by decide⟩
def eI{β:Nat}{a b:Int}(h0:0<=a)(h:a<=b)(hb:Sm β b):Sm β a:=hb.of_le (by omega)
def oY{n β:Nat}{v:Val}{far:Int}(f:Fd n v)(hn:n<=800000000)(h1:1<=far)(hf:Sm β far)(h60:Sm β 60)(hβ:β<=8000):∃q v',cG.G [v,.int far]=.ok (.val (fV q)) [v']/\Fd (n+13) v'/\0<q/\Sz β q:=by
 obtain⟨w,v1,e1,f1,w0,w5⟩:=ay (m:=5) f (by omega) (by decide) (sm8 (by decide));unfold cG;rw[aY];unfold jo;by_cases h2:w<2
 .obtain⟨a,v2,e2,f2,a0,a1⟩:=ay (m:=12) f1 (by omega) (by decide) (sm8 (by decide));refine⟨((1+a:Int):Rat),v2,?_,f2.mono (by omega),ky (by omega),eI (by show (0:Int)<=1+a;omega) (by show 1+a<=60;omega) h60,eI (a:=1) (by decide) (by decide) h60⟩;have i1:fV ((1+a:Int):Rat)=.tup [.int (1+a),.int 1]:=rfl;rw[i1];simp![e1,e2,Hf h2]
 .have d2:=He h2;by_cases h3:w=2
  .subst h3;refine⟨1,v1,?_,f1.mono (by omega),by decide,eI (a:=1) (by decide) (by decide) h60,eI (a:=1) (by decide) (by decide) h60⟩;have i1:fV 1=.tup [.int 1,.int 1]:=rfl;rw[i1];simp![e1,d2]
  .have d3:(w==2)=false:=by rw[Hm];exact h3
   by_cases h4:w=3
   .subst h4;obtain⟨a,v2,e2,f2,a0,a1⟩:=ay (m:=60) f1 (by omega) (by decide) (sm8 (by decide));obtain⟨b,v3,e3,f3,b0,b1⟩:=ay (m:=12) f2 (by omega) (by decide) (sm8 (by decide));have sb:Sm β (1+b):=eI (by omega) (by omega) h60;have lo:=fm (a:=1+a) (b:=1+b) (by omega) (sb.mono hβ);refine⟨((1+a:Int):Rat)/((1+b:Int):Rat),v3,?_,f3.mono (by omega),m9 (by omega) (by omega),Sz.div (by omega) (eI (by omega) (by omega) h60) sb β (y_ _) (y_ _)⟩;simp![e1,e2,e3,d2,lo]
   .have d4:(w==3)=false:=by rw[Hm];exact h4
    obtain⟨a,v2,e2,f2,a0⟩:=sC f1 (by omega);obtain⟨b,v3,e3,f3,b0⟩:=sC f2 (by omega);have m1:∀x:Int,bu.G (.int x) (.int far)=.val (.int (x.fmod far)):=λx=>dk (by omega);have r1:=dh (a:=a) (m:=far) (by omega);have r2:=dh (a:=b) (m:=far) (by omega);have sb:Sm β (1+b.fmod far):=eI (by omega) (by omega) hf;have lo:=fm (a:=1+a.fmod far) (b:=1+b.fmod far) (by omega) (sb.mono hβ);refine⟨((1+a.fmod far:Int):Rat)/((1+b.fmod far:Int):Rat),v3,?_,f3.mono (by omega),m9 (by omega) (by omega),Sz.div (by omega) (eI (by omega) (by omega) hf) sb β (y_ _) (y_ _)⟩;simp![e1,e2,e3,d2,d3,d4,m1,lo]
def xJ:c9 [.int 2]=some [.int 0,.int 1]:=dP (i:=2) (by decide) (by decide)
def gF{b:Bx}{n:Nat}(hs:b.Sz n)(h:n+n<=8000):aF.G [bV b]=.ok (.val (fV (b.w*b.h))) []:=by have t:=mD hs.w hs.h h;unfold aF;rw[aY];unfold iy;rw[show bV b=.tup [fV b.l,fV b.t,fV b.w,fV b.h] from rfl] at *;simp![t]
def qx{a b:Bx}{n:Nat}(ha:a.Sz n)(hb:b.Sz n)(h:n+n<=8000):cq.G [bV a,bV b]=.ok (.val (.bl (inB (wlB a) (wlB b)))) []:=by
 have s1:=jy ha;have s2:=jy hb;have l1:=cc hb.l ha.l (by omega) (by omega);have l2:=cc s1.r s2.r (by omega) (by omega);have l3:=cc hb.t ha.t (by omega) (by omega);have l4:=cc s1.b s2.b (by omega) (by omega);have d1:=dJ ha.l ha.w h;have d2:=dJ hb.l hb.w h;have d3:=dJ ha.t ha.h h;have d4:=dJ hb.t hb.h h;unfold wlB at *;unfold inB;dsimp only at *;generalize a.l+a.w=ar at *;generalize b.l+b.w=br at *;generalize a.t+a.h=ab at *;generalize b.t+b.h=bb at *;generalize decide (b.l<a.l)=c1 at *;generalize decide (ar<br)=c2 at *;generalize decide (b.t<a.t)=c3 at *;generalize decide (ab<bb)=c4 at *;have g:∀(i:Int) (s:Sl),s.pl=true->(gtN 2).G (.int i) [.sh (bV a),.sh (bV b),s]=some [.sh (bV a),.sh (bV b),.sh (.int i)]:=λi s h=>by simp![h]
 have ea:bV a=.tup [fV a.l,fV a.t,fV a.w,fV a.h]:=rfl;have eb:bV b=.tup [fV b.l,fV b.t,fV b.w,fV b.h]:=rfl;have b1:cA.G [.sh (bV a),.sh (bV b),.sh (.int 0)]=if (c1 || c2)=true then .rt (.val (.bl false)) [.sh (bV a),.sh (bV b),.sh (.int 0)] else .nx [.sh (bV a),.sh (bV b),.sh (.int 0)]:=by
  unfold cA;rw[ea,eb];cases c1 with
  |true=>simp![l1]
  |false=>cases c2 <;> simp![l1,l2,d1,d2]
 have b2:cA.G [.sh (bV a),.sh (bV b),.sh (.int 1)]=if (c3 || c4)=true then .rt (.val (.bl false)) [.sh (bV a),.sh (bV b),.sh (.int 1)] else .nx [.sh (bV a),.sh (bV b),.sh (.int 1)]:=by
  unfold cA;rw[ea,eb];cases c3 with
  |true=>simp![l3]
  |false=>cases c4 <;> simp![l3,l4,d3,d4]
 clear l1 l2 l3 l4 d1 d2 d3 d4 ea eb;have rg:c9 [.int 2]=some [.int 0,.int 1]:=xJ;generalize bV a=x at *;generalize bV b=y at *;have fr:cM (gtN 2).G cA.G [.int 0,.int 1] [.sh x,.sh y,.no]=if (c1 || c2)=true then .rt (.val (.bl false)) [.sh x,.sh y,.sh (.int 0)] else if (c3 || c4)=true then .rt (.val (.bl false)) [.sh x,.sh y,.sh (.int 1)] else .nx [.sh x,.sh y,.sh (.int 1)]:=by
  rw[et,g 0 _ rfl];dsimp only;rw[b1];cases (c1 || c2) with
  |true=>rfl
  |false=>rw[if_neg z_,if_neg z_,lU,et,g 1 _ rfl];dsimp only;rw[b2];cases (c3 || c4) <;> rfl
 unfold cq;rw[aY];unfold kP;cases c1 <;> cases c2 <;> cases c3 <;> cases c4 <;> simp![rg,fr]
def cu(b:Bx)(rows:List (Str×Bx)):Val:=match rows.filter (pin b) with
 | []=>.non
 |r::_=>.str (mnS (((rows.filter (pin b)).filter λx=>decide (arR x=lsA arR (rows.filter (pin b)) (arR r))).map (·.1)))
def xU(b:Bx)(rows:List (Str×Bx)):oS ((aH rows).foldl (bM (pin b) arR) none)=cu b rows:=by
 unfold cu;rcases jb (p:=pin b) (ar:=arR) (rows:=rows) with ⟨e1,e2⟩ |⟨r,aw,e1,_,q,e2⟩
 .rw[e1,e2];rfl
 .rw[e2,e1];rfl
def Gk(k:Nat)(b:Bx):wfV (k+2) (bV b)=true:=by unfold bV;rw[mO,bW,bW,bW,bW,ig,ig,ig,ig];rfl
def pX{x:Str}(h:PyData.strOk x=true)(k:Nat):wfV k (.str x)=true:=by cases k <;> (simp only[wfV];exact h)
def zR{p:Str×Bx}(h:PyData.strOk p.1=true)(k:Nat):wfV (k+3) (aj p)=true:=by unfold aj;rw[mO,bW,bW,pX h,Gk];rfl
def nV{rows:List (Str×Bx)}(h:∀p∈rows,PyData.strOk p.1=true):wfV 60 (.lst (rows.map aj))=true:=by rw[jc,cN,List.all_map,Hd];intro p hp;exact zR (h p hp) 56
def Ds{b:Bx}{rows:List (Str×Bx)}(hs:b.Sz 100)(R:RwOk rows):bU.G [bV b,.lst (rows.map aj)]=.ok (.val (cu b rows)) []:=by
 have ln:=R.ln;have z2:Sz 201 (b.w*b.h):=(hs.w.mul hs.h).mono (by omega);have sp:=gF hs (by omega);have spr:∀r∈rows,aF.G [bV r.2]=.ok (.val (fV (arR r))) []:=λr hr=>gF (R.sz r hr) (by omega);have zr:∀r∈rows,Sz 201 (arR r):=λr hr=>(((R.sz r hr).w.mul (R.sz r hr).h).mono (by omega));have la:∀r∈rows,bp.G [fV (b.w*b.h),fV (arR r)]=.ok (.val (.bl (decide (b.w*b.h<r.2.w*r.2.h)))) []:=λr hr=>cc z2 (zr r hr) (by omega) (by omega);have lh:∀r∈rows,cq.G [bV r.2,bV b]=.ok (.val (.bl (inB (wlB r.2) (wlB b)))) []:=λr hr=>qx (R.sz r hr) hs (by omega);obtain⟨e',⟨s0,rfl,_⟩,lc⟩:=ie (g:=(gtN 0).G) (c:=(qAn (qOf (ai bp (aa (ai aF (aa (af 1) ag)) (aa (ai aF (aa (pOp bIx (af 0) (ah 1)) ag)) ag)))) (qOf (ai cq (aa (pOp bIx (af 0) (ah 1)) (aa (af 1) ag))))).G) (F:=(af 0).G) (pin b) aj aj (λe=>∃s,e=[s,.sh (bV b)]/\s.pl=true) rows [] [.no,.sh (bV b)] ⟨.no,rfl,rfl⟩ (by
  rintro r hr e ⟨s,rfl,h⟩;have l1:=la r hr;have l2:=lh r hr;have l3:=spr r hr;refine⟨[.sh (aj r),.sh (bV b)],[.sh (aj r),.sh (bV b)],?_,?_,⟨_,rfl,rfl⟩,λ_=>⟨.val (aj r),[.sh (aj r),.sh (bV b)],?_,rfl,_,rfl,rfl⟩⟩
  .generalize aj r=x;generalize bV b=y;simp![h]
  .have er:aj r=.tup [.str r.1,bV r.2]:=rfl;rw[er];unfold pin;generalize arR r=q at *;generalize decide (b.w*b.h<r.2.w*r.2.h)=c1 at *;generalize inB (wlB r.2) (wlB b)=c2 at *;generalize bV b=y at *;generalize bV r.2=x at *;generalize b.w*b.h=p at *;cases c1 <;> simp![sp,l1,l2,l3]
  .generalize aj r=x;generalize bV b=y;simp![dM]) (by rw[HV];omega)
 rw[HA] at lc;unfold cu;have sub:∀r∈rows.filter (pin b),r∈rows:=λr hr=>(HE.mp hr).1;have fl:(rows.filter (pin b)).length<=rows.length:=I_ ..;generalize rows.filter (pin b)=F at *;have lf:(F.map aj).length<=16777216:=by rw[v_];omega
 cases F with
 |
  nil=>
  dsimp only;have en:cx (.lst []) (.lst [])=some true:=by
   have w:wfV 60 (.lst [])=true:=by rw[jc,cN];rfl
   rw[jx w w,ij 60 _ w]
  rw[IK] at lc;generalize rows.map aj=rv at *;generalize bV b=y at *;unfold bU;rw[aY];unfold gn;simp![bL,inS,lc,en]
 |
  cons r aw=>
  dsimp only;have en:cx (.lst ((r::aw).map aj)) (.lst [])=some false:=by rw[D_];exact yT (by rw[<- D_];exact nV λp hp=>R.st p (sub p hp))
  have mr:=sub r (G5 ..);obtain⟨e2,⟨s4,s5,rfl,_,zq⟩,fr⟩:=eO (g:=(gtX (gtT 2 (aC (gtN 4) (aC (gtN 5) bR)))).G) (B:=fI.G) aj (λq r=>if arR r<q then arR r else q) (λq e=>∃s4 s5,e=[.sh (bV b),.sh (.lst (rows.map aj)),.sh (.lst ((r::aw).map aj)),.sh (fV q),s4,s5]/\(s4.pl=true/\s5.pl=true)/\Sz 201 q) (r::aw) (arR r) [.sh (bV b),.sh (.lst (rows.map aj)),.sh (.lst ((r::aw).map aj)),.sh (fV (arR r)),.no,.no] ⟨.no,.no,rfl,⟨rfl,rfl⟩,zr r mr⟩ (by
   rintro x hx q e ⟨s4,s5,rfl,⟨h4,h5⟩,zq⟩;have mx:=sub x hx;have l1:=cc (zr x mx) zq (by omega) (by omega);have l3:=spr x mx;refine⟨[.sh (bV b),.sh (.lst (rows.map aj)),.sh (.lst ((r::aw).map aj)),.sh (fV q),.sh (.str x.1),.sh (bV x.2)],[.sh (bV b),.sh (.lst (rows.map aj)),.sh (.lst ((r::aw).map aj)),.sh (fV (if arR x<q then arR x else q)),.sh (.str x.1),.sh (bV x.2)],?_,.inl ?_,_,_,rfl,⟨rfl,rfl⟩,?_⟩
   .unfold aj;generalize bV x.2=y;simp![h4,h5]
   .generalize (r::aw).map aj=lv;generalize rows.map aj=rv;generalize bV b=z;generalize bV x.2=y at *;generalize arR x=p at *;unfold fI;by_cases c:p<q
    .rw[Hf c] at l1;rw[if_pos c];simp![l1,l3]
    .rw[He c] at l1;rw[if_neg c];simp![l1,l3]
   .split
    .exact zr x mx
    .exact zq)
  change Sz 201 (lsA arR (r::aw) (arR r)) at zq;change cM _ _ _ _=.nx [_,_,_,.sh (fV (lsA arR (r::aw) (arR r))),s4,s5] at fr;generalize hq:lsA arR (r::aw) (arR r)=q at *;obtain⟨e3,⟨t0,t1,rfl,_⟩,lc2⟩:=ie (g:=(gtT 2 (aC (gtN 0) (aC (gtN 1) bR))).G) (c:=(qOf (pOp bEq (ai aF (aa (af 1) ag)) (af 2))).G) (F:=(af 0).G) (λx=>decide (arR x=q)) aj (λx=>.str x.1) (λe=>∃s0 s1,e=[s0,s1,.sh (fV q)]/\s0.pl=true/\s1.pl=true) (r::aw) [] [.no,.no,.sh (fV q)] ⟨.no,.no,rfl,rfl,rfl⟩ (by
   rintro x hx e ⟨s0,s1,rfl,h0,h1⟩;have l3:=spr x (sub x hx);have ef:=FY (arR x) q;refine⟨[.sh (.str x.1),.sh (bV x.2),.sh (fV q)],[.sh (.str x.1),.sh (bV x.2),.sh (fV q)],?_,?_,⟨_,_,rfl,rfl,rfl⟩,λ_=>⟨.val (.str x.1),[.sh (.str x.1),.sh (bV x.2),.sh (fV q)],?_,rfl,_,_,rfl,rfl,rfl⟩⟩
   .unfold aj;generalize bV x.2=y;generalize fV q=z;simp![h0,h1]
   .generalize decide (arR x=q)=d at *;generalize fV (arR x)=u at *;generalize fV q=z at *;generalize bV x.2=y at *;simp![l3,ef]
   .generalize bV x.2=y;generalize fV q=z;simp![dM]) (by rw[HV];have:=I_ (pin b) rows;omega)
  rw[HA] at lc2;have e4:((r::aw).filter λx=>decide (arR x=q)).map (λx=>Val.str x.1)=(((r::aw).filter λx=>decide (arR x=q)).map (·.1)).map Val.str:=by rw[H_];rfl
  rw[e4] at lc2;have ne:((r::aw).filter λx=>decide (arR x=q)).map (·.1)≠[]:=by obtain⟨_,_,h3⟩:=mL (ar:=arR) (r::aw) (arR r);rw[hq] at h3;have:∃x∈r::aw,q=arR x:=h3.elim (λz=>⟨r,G5 ..,z⟩) λz=>z;obtain⟨x,hx,e⟩:=this;exact List.ne_nil_of_mem (Je.mpr ⟨x,HE.mpr ⟨hx,Hf e.symm⟩,rfl⟩)
  have km:=DB ne;have lm:((((r::aw).filter λx=>decide (arR x=q)).map (·.1)).map Val.str).length<=16777216:=by
   rw[v_,v_]
   have:=I_ (λx=>decide (arR x=q)) (r::aw)
   omega
  have s1:=spr r mr;have lf2:(aw.map aj).length<=16777215:=by rw[Hr] at fl;rw[v_];omega
  generalize ((r::aw).filter λx=>decide (arR x=q)).map (·.1)=ns at *;have e5:(r::aw).map aj=.tup [.str r.1,bV r.2]::aw.map aj:=rfl;have it:∀xs:List Val,c7 (.lst xs)=some xs:=λ_=>rfl;clear la lh spr;rw[e5] at lc fr lf en lc2;generalize aw.map aj=lv at *;generalize rows.map aj=rv at *;generalize arR r=p at *;generalize bV b=y at *;generalize bV r.2=w at *;unfold bU;rw[aY];unfold gn;simp![bL,inS,lc,en,s1,fr,lc2,lm,km,lf2]
def zyx:Str:="abcdefghijklmnopqrstuvwxyz"
def abS:Str:="ab"
def ltr(i:Nat):Nat:=zyx.cps.toList.getD i 0
def ltb(i:Nat):Nat:=abS.cps.toList.getD i 0
def nmA(a m:Nat):Str:=Txt.mul ⟨#[ltr a]⟩ (m:Nat)
def nmK(a m k:Nat):Str:=nmA a m++⟨#[ltr ((7*k+3) % 26)]⟩++⟨#[ltb (k/26)]⟩
def m5(x:Str):List Nat:=x.cps.toList.reverse.take 2
def CB:((List.range 26).all λa=>(List.range 7).all λm=>decide ((nmA a m).length<=7)&&(List.range 42).all λk=>decide ((nmA a m++⟨#[ltr ((7*k+3) % 26)]⟩).length<=8)&&(PyData.strOk (nmK a m k)&&m5 (nmK a m k)==m5 (nmK 0 0 k)))=true:=by decide
def Fe:((List.range 42).map λk=>m5 (nmK 0 0 k)).Nodup:=by decide
def NmK(x:Str)(k:Nat):Prop:=PyData.strOk x=true/\m5 x=m5 (nmK 0 0 k)
def sQ{i:Nat}(h:i<26):iU.G (.str "abcdefghijklmnopqrstuvwxyz") (.int (i:Nat))=.val (.str ⟨#[ltr i]⟩):=xq (show zyx.length<=16777216 by decide) (eL (by omega) (by
 have h1:i<zyx.cps.toList.length:=by rw[show zyx.cps.toList.length=26 by decide];exact h
 show zyx.cps.toList[((i:Nat):Int).toNat]?=_;rw[Ih,A_ h1];unfold ltr;rw[Hu,A_ h1];rfl))
def An{i:Nat}(h:i<2):iU.G (.str "ab") (.int (i:Nat))=.val (.str ⟨#[ltb i]⟩):=xq (show abS.length<=16777216 by decide) (eL (by omega) (by
 have h1:i<abS.cps.toList.length:=by rw[show abS.cps.toList.length=2 by decide];exact h
 show abS.cps.toList[((i:Nat):Int).toNat]?=_;rw[Ih,A_ h1];unfold ltb;rw[Hu,A_ h1];rfl))
def DU(a b:Nat):((a:Nat):Int).fmod (b:Nat)=((a % b:Nat):Int):=by rw[Iw _ (by omega)];rfl
def C3(a b:Nat):((a:Nat):Int).fdiv (b:Nat)=((a/b:Nat):Int):=by rw[Int.fdiv_eq_ediv_of_nonneg _ (by omega)];rfl
def yM{n k:Nat}{v:Val}(f:Fd n v)(hn:n<=800000000)(hk:k<42):∃x v',c8.G [v,.int (k:Nat)]=.ok (.val (.str x)) [v']/\Fd (n+2) v'/\NmK x k:=by
 obtain⟨a,v1,e1,f1,a0,a1⟩:=ay (m:=26) f (by omega) (by decide) (sm8 (by decide));obtain⟨m,v2,e2,f2,m0,m1⟩:=ay (m:=7) f1 (by omega) (by decide) (sm8 (by decide));obtain⟨a,rfl⟩:=HB a0;obtain⟨m,rfl⟩:=HB m0;have al:=Hd.mp (Hd.mp CB a (Im.mpr (by omega))) m (Im.mpr (by omega));rw[x_,HD] at al;have al2:=Hd.mp al.2 k (Im.mpr hk);rw[x_,x_,HD,Hw] at al2;have x1:=sQ (i:=a) (by omega);have y1:lT.G (.str ⟨#[ltr a]⟩) (.int (m:Nat))=.val (.str (nmA a m)):=En ⟨by show (1:Nat)<=16;decide,by omega,by omega⟩;have mu:aO.G (.int 7) (.int (k:Nat))=.val (.int (7*(k:Int))):=aW (CMulA.left (by decide) (by decide));have mo:bu.G (.int (7*(k:Int)+3)) (.int 26)=.val (.int (((7*k+3) % 26:Nat):Int)):=by rw[dk (by decide)];exact HI (λx=>Bv.val (.int x)) (DU (7*k+3) 26)
 have dv:dC.G (.int (k:Nat)) (.int 26)=.val (.int ((k/26:Nat):Int)):=by rw[fP (CDivB.of (by decide) (sm8 (by decide)))];exact HI (λx=>Bv.val (.int x)) (C3 k 26)
 have x2:=sQ (i:=(7*k+3) % 26) (by omega);have x3:=An (i:=k/26) (by omega);have d1:gW.G (.str (nmA a m)) (.str ⟨#[ltr ((7*k+3) % 26)]⟩)=.val (.str (nmA a m++⟨#[ltr ((7*k+3) % 26)]⟩)):=tM (by show _+1<=_;omega);have d2:gW.G (.str (nmA a m++⟨#[ltr ((7*k+3) % 26)]⟩)) (.str ⟨#[ltb (k/26)]⟩)=.val (.str (nmK a m k)):=tM (by show _+1<=_;omega);refine⟨nmK a m k,v2,?_,f2,al2.2.1,al2.2.2⟩;clear al al2;generalize nmK a m k=r at *;generalize nmA a m++⟨#[ltr ((7*k+3) % 26)]⟩=r2 at *;generalize nmA a m=r1 at *;generalize ltr a=c1 at *;generalize ltr ((7*k+3) % 26)=c2 at *;generalize ltb (k/26)=c3 at *;generalize (((7*k+3) % 26:Nat):Int)=j2 at *;generalize ((k/26:Nat):Int)=j3 at *;unfold c8;rw[aY];unfold jm;simp![e1,e2,x1,y1,mu,mo,dv,x2,x3,d1,d2]
def jh{a:Int}(h0:0<=a)(h1:a<=9):∃q:Rat,fV q=.tup [.int a,.int 1]/\Sz 100 q/\(0<a->0<q):=by
 refine⟨⟨a,1,by decide,Nat.coprime_one_right _⟩,rfl,⟨?_,?_⟩,λh=>(Rat.lt_iff _ _).mpr (by show (0:Int)*1<a*1;omega)⟩
 .show a.natAbs<2^100;omega
 .show (1:Int).natAbs<2^100;decide
def bxQ(n:Nat)(r:SR3):Prop:=∃(b:Bx) (v':Val),b.Ok/\b.Sz 100/\Fd (n+40) v'/\pO [true,false] r=.ok (.val (bV b)) [v']
def rR{n:Nat}{v:Val}{j':Int}(f:Fd n v)(hn:n<=700000000)(w0:0<=j')(w1:j'<3):∃(b:Bx) (v':Val),b.Ok/\b.Sz 100/\Fd (n+40) v'/\dw.G [v,.int j']=.ok (.val (bV b)) [v']:=by
 show ∃(b:Bx) (v':Val),b.Ok/\b.Sz 100/\Fd (n+40) v'/\(fnP [true,false] 5 eJ).G [v,.int j']=_;rw[xH rfl];show bxQ n (eJ.G _);unfold eJ;rw[show sls [true,false] [v,.int j']++List.replicate (5-[v,.int j'].length) .no=[.mu v,.sh (.int j'),.no,.no,.no] from rfl];by_cases hw:j'=0
 .subst hw;obtain⟨a,v1,e1,f1,a0,a1⟩:=ay (m:=5) f (by omega) (by decide) (sm8 (by decide));obtain⟨b,v2,e2,f2,b0,b1⟩:=ay (m:=5) f1 (by omega) (by decide) (sm8 (by decide));obtain⟨c,v3,e3,f3,c0,c1⟩:=ay (m:=5) f2 (by omega) (by decide) (sm8 (by decide));obtain⟨d,v4,e4,f4,d0,d1⟩:=ay (m:=5) f3 (by omega) (by decide) (sm8 (by decide));obtain⟨qa,ha,za,_⟩:=jh (a:=a) a0 (by omega);obtain⟨qb,hb,zb,_⟩:=jh (a:=b) b0 (by omega);obtain⟨qc,hc,zc,pc⟩:=jh (a:=1+c) (by omega) (by omega);obtain⟨qd,hd,zd,pd⟩:=jh (a:=1+d) (by omega) (by omega);refine⟨⟨qa,qb,qc,qd⟩,v4,⟨pc (by omega),pd (by omega)⟩,⟨za,zb,zc,zd⟩,f4.mono (by omega),?_⟩;have eb:bV (⟨qa,qb,qc,qd⟩:Bx)=.tup [.tup [.int a,.int 1],.tup [.int b,.int 1],.tup [.int (1+c),.int 1],.tup [.int (1+d),.int 1]]:=by rw[<- ha,<- hb,<- hc,<- hd];rfl
  rw[eb];simp![e1,e2,e3,e4,rB]
 .have hw':(j'==0)=false:=by rw[Hm];exact hw
  refine eh (λe=>e=[.mu v,.sh (.int j'),.no,.no,.no]) ⟨_,by simp![hw'],rfl⟩ ?_;rintro _ rfl;refine eh (λe=>∃far:Int,60<=far/\Sm 100 far/\e=[.mu v,.sh (.int j'),.no,.no,.sh (.int far)]) ?_ ?_
  .obtain rfl |rfl:j'=1\/j'=2:=by omega
   .exact⟨_,by simp![p30],60,by decide,by show (60:Int).natAbs<2^100;decide,rfl⟩
   .exact⟨_,by simp![p30],999999999999999999999999999999,by decide,by show (999999999999999999999999999999:Int).natAbs<2^100;decide,rfl⟩
  rintro _ ⟨far,h60,hf,rfl⟩;obtain⟨b1,u1,g1,j1,b10,b11⟩:=ay (m:=9) f (by omega) (by decide) (sm8 (by decide));obtain⟨b2,u2,g2,j2,b20,b21⟩:=ay (m:=3) j1 (by omega) (by decide) (sm8 (by decide));obtain⟨b3,u3,g3,j3,b30,b31⟩:=ay (m:=9) j2 (by omega) (by decide) (sm8 (by decide));obtain⟨b4,u4,g4,j4,b40,b41⟩:=ay (m:=3) j3 (by omega) (by decide) (sm8 (by decide));have l1:=fm (a:=b1-4) (b:=1+b2) (by omega) (sm8 (by omega));have l2:=fm (a:=b3-4) (b:=1+b4) (by omega) (sm8 (by omega));have s60:Sm 100 (60:Int):=by show (60:Int).natAbs<2^100;decide
  have sl:∀a b:Int,0<=a->a<9->0<=b->b<3->Sz 100 (((a-4:Int):Rat)/((1+b:Int):Rat)):=λa b u1 u2 u3 u4=>Sz.div (by omega) (s60.of_le (by omega)) (s60.of_le (by omega)) 100 (y_ _) (y_ _);have sl1:=sl b1 b2 b10 b11 b20 b21;have sl2:=sl b3 b4 b30 b31 b40 b41;generalize ((b1-4:Int):Rat)/((1+b2:Int):Rat)=lf at *;generalize ((b3-4:Int):Rat)/((1+b4:Int):Rat)=tp at *;refine eh (λe=>e=[.mu u4,.sh (.int j'),.sh (fV lf),.sh (fV tp),.sh (.int far)]) ⟨_,by simp![xJ,bL,lcV,g1,g2,g3,g4,l1,l2],rfl⟩ ?_;rintro _ rfl;obtain⟨p,v3,e3,f3,p0,ps⟩:=oY j4 (by omega) (by omega) hf s60 (by omega);obtain⟨q,v4,e4,f4,q0,qs⟩:=oY f3 (by omega) (by omega) hf s60 (by omega);refine⟨⟨lf,tp,p,q⟩,v4,⟨p0,q0⟩,⟨sl1,sl2,ps,qs⟩,f4.mono (by omega),?_⟩;have eb:bV (⟨lf,tp,p,q⟩:Bx)=.tup [fV lf,fV tp,fV p,fV q]:=rfl;rw[eb];simp![e3,e4,rB]
def uc(n:Nat):ixN (n+1) (-1)=some n:=by unfold ixN;rw[if_neg (by omega),if_pos (by omega)];congr 1;omega
def GI(l:List Val)(x:Val):atI (l++[x]) (-1)=some x:=by unfold atI;rw[G8,HL,uc];show (l++[x])[l.length]?=_;rw[Hg (y_ _),Io];rfl
def RwI(rows:List (Str×Bx)):Prop:=∀j r,rows[j]?=some r->NmK r.1 j/\r.2.Ok/\r.2.Sz 100
def RwI.ok{rows:List (Str×Bx)}(h:RwI rows)(hl:rows.length<=41):RwOk rows:=by
 have g:∀p∈rows,∃j,NmK p.1 j/\p.2.Ok/\p.2.Sz 100:=λp hp=>by obtain⟨j,hj,e⟩:=List.getElem_of_mem hp;exact⟨j,h j p (by rw[A_ hj,e])⟩
 refine⟨λp hp=>(g p hp).choose_spec.2.1,λp hp=>(g p hp).choose_spec.2.2,?_,λp hp=>(g p hp).choose_spec.1.1,hl⟩;rw[List.nodup_iff_pairwise_ne,HZ];intro i j hi hj hij e;rw[v_] at hi hj;rw[Ir,Ir] at e;have a:=(h i rows[i] (A_ hi)).1.2;have b:=(h j rows[j] (A_ hj)).1.2;rw[e,b] at a;have nd:=Fe;rw[List.nodup_iff_pairwise_ne,HZ] at nd;refine nd i j (by simp;omega) (by simp;omega) hij ?_;rw[Ir,Ir,List.getElem_range,List.getElem_range];exact a.symm
def RwI.snoc{rows:List (Str×Bx)}(h:RwI rows){x:Str}{b:Bx}(hx:NmK x rows.length)(hb:b.Ok)(hs:b.Sz 100):RwI (rows++[(x,b)]):=by
 intro j r e;by_cases hj:j<rows.length
 .rw[G_ hj] at e;exact h j r e
 .rw[Hg (by omega)] at e;have:j-rows.length=0:=by
   cases z:j-rows.length with
   |zero=>rfl
   |succ m=>rw[z] at e;cases e
  rw[this] at e;cases e;have:j=rows.length:=by omega
  rw[this];exact⟨hx,hb,hs⟩
def RwI.set{rows:List (Str×Bx)}(h:RwI rows){i:Nat}{r:Str×Bx}{b:Bx}(hr:rows[i]?=some r)(hb:b.Ok)(hs:b.Sz 100):RwI (rows.set i (r.1,b)):=by
 intro j q e;have hi:i<rows.length:=(u_.mp hr).1;by_cases hj:i=j
 .subst hj;rw[IW hi] at e;cases e;exact⟨(h i r hr).1,hb,hs⟩
 .rw[Iq hj] at e;exact h j q e
def o1{rows:List (Str×Bx)}{j:Nat}{r:Str×Bx}(e:rows[j]?=some r):atI (rows.map aj) (j:Nat)=some (aj r):=eL (by omega) (by rw[Ih,Hj,e];rfl)
def uh{n k:Nat}{v s0:Val}{j':Int}{rows:List (Str×Bx)}{s5 s6 s7 s8 s9:Sl}(f:Fd n v)(hn:n<=100000)(w0:0<=j')(w1:j'<3)(R:RwI rows)(hk:rows.length=k)(h41:k<41):∃v' rows',Fd (n+50) v'/\RwI rows'/\rows'.length=k+1/\gw.G [.sh s0,.ow v,.sh (.int j'),.ow (.lst (rows.map aj)),.sh (.int (k:Nat)),s5,s6,s7,s8,s9]=.nx [.sh s0,.ow v',.sh (.int j'),.ow (.lst (rows'.map aj)),.sh (.int (k:Nat)),s5,s6,s7,s8,s9]:=by
 obtain⟨x,v1,e1,f1,hx⟩:=yM (k:=k) f (by omega) (by omega);obtain⟨b,v2,hb,hs,f2,e2⟩:=rR f1 (by omega) w0 w1;have ll:(rows.map aj).length<16777216:=by rw[v_];omega
 have R1:RwI (rows++[(x,b)]):=R.snoc (by rw[hk];exact hx) hb hs;have er:aj (x,b)=.tup [.str x,bV b]:=rfl;have ea:rows.map aj++[.tup [.str x,bV b]]=(rows++[(x,b)]).map aj:=by rw[Ic];rfl
 obtain⟨d,v3,e3,f3,d0,d1⟩:=ay (m:=6) f2 (by omega) (by decide) (sm8 (by decide));unfold gw;by_cases hd:d=0
 .subst hd;obtain⟨j,v4,e4,f4,j0,j1⟩:=ay (m:=((k:Nat):Int)+1) f3 (by omega) (by omega) (sm8 (by omega));obtain⟨j,rfl⟩:=HB j0;have hj:j<(rows++[(x,b)]).length:=by rw[G8,HL];omega
  have ej:=o1 (A_ hj);obtain⟨_,okj,szj⟩:=R1 j _ (A_ hj);generalize (rows++[(x,b)])[j]=rj at *;have el:(rows++[(x,b)])[rows.length]?=some (x,b):=by rw[Hg (y_ _),Io];rfl
  have R2:=R1.set el okj szj;refine⟨v4,(rows++[(x,b)]).set rows.length (x,rj.2),f4.mono (by omega),R2,by rw[G7,G8,HL,hk],?_⟩;have am:atI ((rows++[(x,b)]).map aj) (-1)=some (.tup [.str x,bV b]):=by rw[<- ea];exact GI _ _
  have ix:ixN ((rows++[(x,b)]).map aj).length (-1)=some rows.length:=by rw[v_,G8,HL];exact uc _
  have st:((rows++[(x,b)]).map aj).set rows.length (.tup [.str x,bV rj.2])=((rows++[(x,b)]).set rows.length (x,rj.2)).map aj:=by rw[List.map_set];rfl
  have ej2:atI ((rows++[(x,b)]).map aj) (j:Nat)=some (.tup [.str rj.1,bV rj.2]):=ej;clear R R1 R2 ej;generalize ((rows++[(x,b)]).set rows.length (x,rj.2)).map aj=L2 at *;generalize (rows++[(x,b)]).map aj=L at *;generalize rows.map aj=L0 at *;generalize bV rj.2=bj at *;generalize bV b=bb at *;simp![e1,e2,ll,ea,e3,am,e4,ej2,qN,ix,st]
 .have hd':(d==0)=false:=by rw[Hm];exact hd
  refine⟨v3,rows++[(x,b)],f3.mono (by omega),R1,by rw[G8,HL,hk],?_⟩;clear R R1;generalize (rows++[(x,b)]).map aj=L at *;generalize rows.map aj=L0 at *;generalize bV b=bb at *;simp![e1,e2,ll,ea,e3,hd']
def aR(rows:List (Str×Bx)):List Val:=rows.map λr=>.tup [.str r.1,cu r.2 rows]
def Dz{b:Bx}{rows:List (Str×Bx)}(R:RwOk rows)(k:Nat):wfV k (cu b rows)=true:=by
 unfold cu;split
 .cases k <;> simp [wfV]
 .rename_i r aw e;refine pX ?_ k;have ne:((rows.filter (pin b)).filter λx=>decide (arR x=lsA arR (rows.filter (pin b)) (arR r))).map (·.1)≠[]:=by
   rcases jb (p:=pin b) (ar:=arR) (rows:=rows) with ⟨e1,_⟩ |⟨r',rest',e1,ne,_⟩
   .rw[e] at e1;cases e1
   .rw[e] at e1;cases e1;exact ne
  obtain⟨x,hx,e2⟩:=Je.mp (kr ne);rw[<- e2];exact R.st x (HE.mp (HE.mp hx).1).1
def DF{rows:List (Str×Bx)}(R:RwOk rows):cx (.lst (aR rows)) (.lst (aR rows))=some true:=by
 have w:wfV 60 (.lst (aR rows))=true:=by unfold aR;rw[jc,cN,List.all_map,Hd];intro p hp;show wfV (58+1) (.tup [.str p.1,cu p.2 rows])=true;rw[mO,bW,bW,pX (R.st p hp),Dz R];rfl
 rw[jx w w,ij 60 _ w]
def uL{rows:List (Str×Bx)}(R:RwOk rows):cx (.lst (rows.map aj)) (.lst (rows.map aj))=some true:=by have w:=nV R.st;rw[jx w w,ij 60 _ w]
def Cf(rows:List (Str×Bx)):L3.flatC (.lst (aR rows))=true:=by
 rw[tN];unfold aR;have d:∀b,L3.flatV (cu b rows)=true:=λb=>by
  unfold cu;split
  .rfl
  .exact gr _
 generalize hg:(λr:Str×Bx=>Val.tup [.str r.1,cu r.2 rows])=g;have hf:∀r,L3.flatV (g r)=true:=λr=>by rw[<- hg];simp only[kK,eS,fR,gr,d,Bool.and_self]
 clear hg d;induction rows with
 |nil=>exact fR
 |cons r l ih=>rw[D_,eS,hf,ih];rfl
def tG{n i:Nat}{v s0:Val}{j':Int}{rows:List (Str×Bx)}{s4 s6 s7 s8 s9:Sl}(f:Fd n v)(hn:n<=100000)(w0:0<=j')(w1:j'<3)(I:RwI rows)(h41:rows.length<=41)(h6:s6.pl=true)(h7:s7.pl=true)(h8:s8.pl=true)(h9:s9.pl=true):∃v' rows' t6 t7 t8 t9,Fd (n+50) v'/\RwI rows'/\rows'.length<=41/\t6.pl=true/\t7.pl=true/\t8.pl=true/\t9.pl=true/\dZ.G [.sh s0,.ow v,.sh (.int j'),.ow (.lst (rows.map aj)),s4,.sh (.int (i:Nat)),s6,s7,s8,s9]=.nx [.sh s0,.ow v',.sh (.int j'),.ow (.lst (rows'.map aj)),s4,.sh (.int (i:Nat)),t6,t7,t8,t9]:=by
 have R:=I.ok h41;have li:=rG R;rw[show (λr:Str×Bx=>Val.tup [.str r.1,oS ((aH rows).foldl (bM (pin r.2) arR) none)])=λr=>.tup [.str r.1,cu r.2 rows] from funext λr=>by rw[xU],show (rows.map λr=>Val.tup [.str r.1,cu r.2 rows])=aR rows from rfl] at li;have du:∀r∈rows,bU.G [bV r.2,.lst (rows.map aj)]=.ok (.val (cu r.2 rows)) []:=λr hr=>Ds (R.sz r hr) R;have eo:=DF R;have er:=uL R;have fo:=Cf rows;obtain⟨e2,⟨t1,t2,rfl,_⟩,lc⟩:=fF (g:=(gtT 2 (aC (gtN 0) (aC (gtN 1) bR))).G) (F:=(bN (aa (af 0) (aa (ai bU (aa (af 1) (aa (af 2) ag))) ag))).G) aj (λr=>.tup [.str r.1,cu r.2 rows]) (λe=>∃s1 s2:Sl,e=[s1,s2,.sh (.lst (rows.map aj))]/\s1.pl=true/\s2.pl=true) rows [] [.no,.no,.sh (.lst (rows.map aj))] ⟨.no,.no,rfl,rfl,rfl⟩ (by
  rintro r hr e ⟨s1,s2,rfl,h1,h2⟩;have l:=du r hr;generalize cu r.2 rows=o at *;refine⟨[.sh (.str r.1),.sh (bV r.2),.sh (.lst (rows.map aj))],.val (.tup [.str r.1,o]),[.sh (.str r.1),.sh (bV r.2),.sh (.lst (rows.map aj))],?_,?_,rfl,_,_,rfl,rfl,rfl⟩
  .generalize rows.map aj=rv;unfold aj;generalize bV r.2=x at *;simp![h1,h2]
  .generalize rows.map aj=rv at *;generalize bV r.2=x at *;simp![l]) (by rw[HV];omega)
 rw[HA,show (rows.map λr=>Val.tup [.str r.1,cu r.2 rows])=aR rows from rfl] at lc;have i2:∀x∈aR rows,(cX d9).G [x,.ty "tuple"]=.val (.bl true):=λx hx=>by obtain⟨r,_,rfl⟩:=Je.mp hx;rfl
 have lo:(aR rows).length=rows.length:=v_ ..;have lr:((rows.map aj).length:Nat)=rows.length:=v_ ..;obtain⟨e3,⟨u1,rfl,_⟩,lc2⟩:=fF (g:=(gtN 0).G) (F:=(pFn (cX d9) (aa (af 0) (aa (pTy "tuple") ag))).G) (λx:Val=>x) (λ_=>.bl true) (λe=>∃s1:Sl,e=[s1]/\s1.pl=true) (aR rows) [] [.no] ⟨.no,rfl,rfl⟩ (by
  rintro x hx e ⟨s1,rfl,h1⟩;have l:=i2 x hx;refine⟨[.sh x],.val (.bl true),[.sh x],?_,?_,rfl,_,rfl,rfl⟩
  .simp![h1]
  .simp![l]) (by rw[HV];omega)
 rw[List.map_id',HA] at lc2;have bl:∀l:List Val,gD (l.map λ_=>Val.bl true)=some (l.map λ_=>true):=λl=>by
  induction l with
  |nil=>rfl
  |cons x l ih=>rw[D_,D_,gD,ih];rfl
 have al:((aR rows).map λ_=>true).all id=true:=by rw[List.all_map,Hd];intro _ _;rfl
 have bo:=bl (aR rows);have lb:((aR rows).map λ_=>Val.bl true).length<=16777216:=by rw[v_];omega
 have l1:(aR rows).length<16777216:=by omega
 have l2:(aR rows).length<=16777216:=by omega
 have l3:(rows.map aj).length<=16777216:=by omega
 have il:(cX d9).G [.lst (aR rows),.ty "list"]=.val (.bl true):=rfl;clear du i2;have lk:∀(a0 a1 a2 a3 a4 a5 a6 a7 a9:Sl) (x:Val),unlock (lock [a0,a1,a2,a3,a4,a5,a6,a7,.ow x,a9] 8) 8=[a0,a1,a2,a3,a4,a5,a6,a7,.ow x,a9]:=λ_ _ _ _ _ _ _ _ _ _=>rfl;have tail:∀(c:Bool) (hc:(((i:Nat):Int)==1)=c),c=false\/rows=[]\/(c=true/\rows≠[]):=λc _=>by
  cases c with
  |false=>exact .inl rfl
  |true=>by_cases h:rows=[];exact .inr (.inl h);exact .inr (.inr ⟨rfl,h⟩)
 rcases tail _ rfl with hc |hc |⟨hc,hne⟩
 .refine⟨v,rows,.sh (.lst (rows.map aj)),.sh (.lst (aR rows)),.ow (.lst (aR rows++[.tup [.str "a",.non]])),s9,f.mono (by omega),I,h41,rfl,rfl,rfl,h9,?_⟩;clear I R;generalize ((aR rows).map λ_=>true)=bs at *;generalize ((aR rows).map λ_=>Val.bl true)=B at *;generalize aR rows=O at *;generalize rows.map aj=L at *;unfold dZ;simp![h6,h7,h8,l1,l2,l3,bL,inS,lk,lc,li,fo,il,eo,er,lc2,lb,bo,al,hc]
 .subst hc;refine⟨v,[],.sh (.lst ([].map aj)),.sh (.lst (aR [])),.ow (.lst (aR []++[.tup [.str "a",.non]])),s9,f.mono (by omega),I,h41,rfl,rfl,rfl,h9,?_⟩;clear I R;have ne:=xj [];rw[IK] at *;generalize ((aR []).map λ_=>true)=bs at *;generalize ((aR []).map λ_=>Val.bl true)=B at *;generalize aR []=O at *;unfold dZ;cases hq:(((i:Nat):Int)==1) <;> simp![h6,h7,h8,l1,l2,l3,bL,inS,lk,lc,li,fo,il,eo,er,lc2,lb,bo,al,hq,ne]
 .obtain⟨j,v1,e1,f1,j0,j1⟩:=ay (m:=(rows.length:Nat)) f (by omega) (by have:=List.length_pos_iff.mpr hne;omega) (sm8 (by omega));obtain⟨b,v2,hb,hs,f2,e2⟩:=rR f1 (by omega) w0 w1;obtain⟨j,rfl⟩:=HB j0;have hj:j<rows.length:=by omega
  have ej:atI (rows.map aj) (j:Nat)=some (.tup [.str rows[j].1,bV rows[j].2]):=o1 (A_ hj);have I2:=I.set (A_ hj) hb hs;have ix:ixN rows.length (j:Nat)=some j:=AY (i:=(j:Nat)) (by omega) (by exact hj);have st:(rows.map aj).set j (.tup [.str rows[j].1,bV b])=(rows.set j (rows[j].1,b)).map aj:=by rw[List.map_set];rfl
  have ne:=xj (rows.map aj);have em:(rows.map aj).isEmpty=false:=by
   cases rows with
   |nil=>exact absurd rfl hne
   |cons=>rfl
  refine⟨v2,rows.set j (rows[j].1,b),.sh (.lst (rows.map aj)),.sh (.lst (aR rows)),.ow (.lst (aR rows++[.tup [.str "a",.non]])),.sh (.int (j:Nat)),f2.mono (by omega),I2,by rw[G7];exact h41,rfl,rfl,rfl,rfl,?_⟩;clear I R I2;generalize (rows.set j (rows[j].1,b)).map aj=L2 at *;generalize ((aR rows).map λ_=>true)=bs at *;generalize ((aR rows).map λ_=>Val.bl true)=B at *;generalize aR rows=O at *;generalize rows[j].1=nj at *;generalize bV rows[j].2=bj at *;generalize bV b=bb at *;generalize rows.map aj=L at *;unfold dZ;simp![h6,h7,h8,h9,l1,l2,l3,bL,inS,lk,lc,li,fo,il,eo,er,lc2,lb,bo,al,hc,ne,em,lr,e1,ej,e2,qN,ix,st]
def lwQ(r:SR3):Prop:=pO [false] r=.ok (.val (.bl true)) []
def CL(ns:List Int)(hl:ns.length<=63):p7.G [.kl (ns.map .int)]=.ok (.val (.bl true)) []:=by
 obtain⟨v,e1,f⟩:=zy hl;show (fnP [false] 10 lO).G [.kl (ns.map .int)]=_;rw[xH rfl];show lwQ (lO.G _);unfold lO;rw[show sls [false] [.kl (ns.map .int)]++List.replicate (10-[Val.kl (ns.map .int)].length) .no=[.sh (.kl (ns.map .int)),.no,.no,.no,.no,.no,.no,.no,.no,.no] from rfl];generalize Val.kl (ns.map .int)=s0 at *;refine eh (λe=>e=[.sh s0,.ow v,.no,.no,.no,.no,.no,.no,.no,.no]) ⟨_,by simp![e1],rfl⟩ ?_;rintro _ rfl;obtain⟨w,v1,e2,f1,w0,w1⟩:=ay (m:=4) f (by omega) (by decide) (sm8 (by decide));refine eh (λe=>∃j':Int,(0<=j'/\j'<3)/\e=[.sh s0,.ow v1,.sh (.int j'),.no,.no,.no,.no,.no,.no,.no]) ?_ ?_
 .obtain rfl |rfl |rfl |rfl:w=0\/w=1\/w=2\/w=3:=by omega
  .exact⟨_,by simp![e2],0,⟨by decide,by decide⟩,rfl⟩
  .exact⟨_,by simp![e2],0,⟨by decide,by decide⟩,rfl⟩
  .exact⟨_,by simp![e2],1,⟨by decide,by decide⟩,rfl⟩
  .exact⟨_,by simp![e2],2,⟨by decide,by decide⟩,rfl⟩
 rintro _ ⟨j',⟨y0,y1⟩,rfl⟩;refine eh (λe=>e=[.sh s0,.ow v1,.sh (.int j'),.ow (.lst []),.no,.no,.no,.no,.no,.no]) ⟨_,by simp![dM],rfl⟩ ?_;rintro _ rfl;obtain⟨g1,w1',i1,j1,g10,g11⟩:=ay (m:=42) f1 (by omega) (by decide) (sm8 (by decide));obtain⟨g2,w2',i2,j2,g20,g21⟩:=ay (m:=42) j1 (by omega) (by decide) (sm8 (by decide));obtain⟨g3,w3',i3,j3,g30,g31⟩:=ay (m:=12) j2 (by omega) (by decide) (sm8 (by decide));obtain⟨g4,w4',i4,j4,g40,g41⟩:=ay (m:=9) j3 (by omega) (by decide) (sm8 (by decide));refine eh (λe=>∃(v:Val) (rows:List (Str×Bx)) (s4:Sl),Fd 3000 v/\RwI rows/\rows.length<=41/\e=[.sh s0,.ow v,.sh (.int j'),.ow (.lst (rows.map aj)),s4,.no,.no,.no,.no,.no]) ?_ ?_
 .have loop:∀m:Nat,m<=41->∃e',(∃(v:Val) (rows:List (Str×Bx)) (s4:Sl),Fd 3000 v/\RwI rows/\rows.length<=41/\e'=[.sh s0,.ow v,.sh (.int j'),.ow (.lst (rows.map aj)),s4,.no,.no,.no,.no,.no])/\cM (gtN 4).G gw.G (rgV m) [.sh s0,.ow w4',.sh (.int j'),.ow (.lst []),.no,.no,.no,.no,.no,.no]=.nx e':=λm hm=>by obtain⟨e',⟨v,rows,s4,fv,R,hl,_,rfl⟩,fr⟩:=nG (g:=(gtN 4).G) (B:=gw.G) (e:=[.sh s0,.ow w4',.sh (.int j'),.ow (.lst []),.no,.no,.no,.no,.no,.no]) (λi e=>∃(v:Val) (rows:List (Str×Bx)) (s4:Sl),Fd (100+50*i) v/\RwI rows/\rows.length=i/\s4.pl=true/\e=[.sh s0,.ow v,.sh (.int j'),.ow (.lst (rows.map aj)),s4,.no,.no,.no,.no,.no]) m ⟨w4',[],.no,j4.mono (by omega),(λj r e=>nomatch e),rfl,rfl,rfl⟩ (by rintro i hi e ⟨v,rows,s4,fv,R,hl,h4,rfl⟩;obtain⟨v',rows',f',R',hl',eb⟩:=uh (s0:=s0) (s5:=.no) (s6:=.no) (s7:=.no) (s8:=.no) (s9:=.no) fv (by omega) y0 y1 R hl (by omega);exact⟨_,_,by simp![h4],.inl eb,v',rows',_,f'.mono (by omega),R',hl',rfl,rfl⟩);exact⟨_,⟨v,rows,s4,fv.mono (by omega),R,by omega,rfl⟩,fr⟩
  obtain rfl |rfl |rfl:j'=0\/j'=1\/j'=2:=by omega
  .obtain⟨m,rfl⟩:=HB g20;obtain⟨e',he,fr⟩:=loop m (by omega);have rg:c9 [.int (m:Nat)]=some (rgV m):=dP (i:=(m:Nat)) (by omega) (by omega);exact⟨e',by simp![i1,i2,i3,i4,rg,fr],he⟩
  .obtain⟨m,hm⟩:=HB (show 0<=1+g3 by omega);obtain⟨e',he,fr⟩:=loop m (by omega);have rg:c9 [.int (1+g3)]=some (rgV m):=by rw[hm];exact dP (i:=(m:Nat)) (by omega) (by omega)
   exact⟨e',by simp![i1,i2,i3,i4,rg,fr],he⟩
  .obtain⟨m,rfl⟩:=HB g40;obtain⟨e',he,fr⟩:=loop m (by omega);have rg:c9 [.int (m:Nat)]=some (rgV m):=dP (i:=(m:Nat)) (by omega) (by omega);exact⟨e',by simp![i1,i2,i3,i4,rg,fr],he⟩
 rintro _ ⟨v2,rows,s4,f2,R,h41,rfl⟩;obtain⟨e',⟨v3,rows3,s5,t6,t7,t8,t9,rfl⟩,fr⟩:∃e',(∃(v:Val) (rows:List (Str×Bx)) (s5 t6 t7 t8 t9:Sl),e'=[.sh s0,.ow v,.sh (.int j'),.ow (.lst (rows.map aj)),s4,s5,t6,t7,t8,t9])/\cM (gtN 5).G dZ.G (rgV 3) [.sh s0,.ow v2,.sh (.int j'),.ow (.lst (rows.map aj)),s4,.no,.no,.no,.no,.no]=.nx e':=by obtain⟨e',⟨v,rows,s5,t6,t7,t8,t9,_,_,_,_,_,_,_,_,rfl⟩,fr⟩:=nG (g:=(gtN 5).G) (B:=dZ.G) (e:=[.sh s0,.ow v2,.sh (.int j'),.ow (.lst (rows.map aj)),s4,.no,.no,.no,.no,.no]) (λi e=>∃(v:Val) (rows:List (Str×Bx)) (s5 t6 t7 t8 t9:Sl),Fd (3000+50*i) v/\RwI rows/\rows.length<=41/\s5.pl=true/\t6.pl=true/\t7.pl=true/\t8.pl=true/\t9.pl=true/\e=[.sh s0,.ow v,.sh (.int j'),.ow (.lst (rows.map aj)),s4,s5,t6,t7,t8,t9]) 3 ⟨v2,rows,.no,.no,.no,.no,.no,f2,R,h41,rfl,rfl,rfl,rfl,rfl,rfl⟩ (by rintro i hi e ⟨v,rows,s5,t6,t7,t8,t9,fv,R,h41,h5,h6,h7,h8,h9,rfl⟩;obtain⟨v',rows',u6,u7,u8,u9,f',R',hl',k6,k7,k8,k9,eb⟩:=tG (s0:=s0) (s4:=s4) (i:=i) fv (by omega) y0 y1 R h41 h6 h7 h8 h9;exact⟨_,_,by simp![h5],.inl eb,v',rows',_,u6,u7,u8,u9,f'.mono (by omega),R',hl',rfl,k6,k7,k8,k9,rfl⟩);exact⟨_,⟨v,rows,s5,t6,t7,t8,t9,rfl⟩,fr⟩
 have rg:c9 [.int 3]=some (rgV 3):=dP (i:=3) (by omega) (by omega);unfold lwQ;simp![rg,fr,rB]
end KK
namespace PySem.W.Fast
def q__:=trivial
def tw10170693296257314549:=q__
def tw10192241235023839202:=q__
def tw10315135057995782240:=q__
def tw10419471075135105126:=q__
def tw10436215443049255098:=q__
def tw10438339003936038042:=q__
def tw10537096582116581707:=q__
def tw10556828174364269686:=q__
def tw10616710475606377984:=q__
def tw10706081904368522392:=q__
def tw10757040542982881313:=q__
def tw10849477536670377701:=q__
def tw10854324586789554573:=q__
def tw10860774209256575423:=q__
def tw10940905350495062705:=q__
def tw1099930866069034785:=q__
def tw11074243083702297880:=q__
def tw11088754980299593379:=q__
def tw11281982082708408255:=q__
def tw11371119031912710568:=q__
def tw11427414540519228709:=q__
def tw11441388271773832810:=q__
def tw11449617136404387228:=q__
def tw11494869096521497929:=q__
def tw1150045689394170542:=q__
def tw11626099082421513469:=q__
def tw11852265255144364623:=q__
def tw11870723335095085111:=q__
def tw11952601841062924742:=q__
def tw11962133687544240646:=q__
def tw12005843801236180296:=q__
def tw12207894148106988460:=q__
def tw12219920170509025289:=q__
def tw1223547510263915371:=q__
def tw12433686288102892159:=q__
def tw12473032032333776613:=q__
def tw1262653308429262953:=q__
def tw12803813656355344738:=q__
def tw12959430947627359107:=q__
def tw13083664759031155389:=q__
def tw13118881357973808255:=q__
def tw13186782538927246334:=q__
def tw13195066720100533115:=q__
def tw13274811899690847638:=q__
def tw13278870083283274838:=q__
def tw13286995465383084850:=q__
def tw13316246770773365434:=q__
def tw13440440568349730284:=q__
def tw13485744835920553928:=q__
def tw13617025189644147809:=q__
def tw13651372832707344121:=q__
def tw13676638539558225600:=q__
def tw13832834897293959480:=q__
def tw14185355659209297950:=q__
def tw14205786177778314163:=q__
def tw14207813366148691991:=q__
def tw14288923909754427307:=q__
def tw14506228589010430862:=q__
def tw14533379256702838540:=q__
def tw14690808651709818263:=q__
def tw1478960422932199802:=q__
def tw14874965978103551136:=q__
def tw14937051974817522492:=q__
def tw15181200321059677987:=q__
def tw15327352025186998658:=q__
def tw1540736292200710603:=q__
def tw15517486493470035779:=q__
def tw15571319716101898123:=q__
def tw156351036344862896:=q__
def tw15691292613405626438:=q__
def tw15711479230251510761:=q__
def tw15742038520312966806:=q__
def tw15757960404768374853:=q__
def tw15793271954446517038:=q__
def tw15869489572765680746:=q__
def tw15890387122777856123:=q__
def tw15914507015156561533:=q__
def tw16239480804947697677:=q__
def tw16283801836512655695:=q__
def tw16443592972227968928:=q__
def tw16551333048940136911:=q__
def tw16574225401559301553:=q__
def tw16619417208142879712:=q__
def tw16676753569229274502:=q__
def tw16772344717360057402:=q__
def tw16810010047733527056:=q__
def tw16840261430256951414:=q__
def tw16883736117388709276:=q__
def tw16903066181058945269:=q__
def tw16916039793451201148:=q__
def tw16932364738856098548:=q__
def tw17079377228220451966:=q__
def tw17142966849853584111:=q__
def tw17387062271273148557:=q__
def tw17550793501024650841:=q__
def tw17570331223829459243:=q__
def tw17585766642364507371:=q__
def tw17668209056860084400:=q__
def tw17800593713471775370:=q__
def tw17898214660601589444:=q__
def tw17917856062416294760:=q__
def tw17948130573967833852:=q__
def tw17980239973478433403:=q__
def tw18141507812304764009:=q__
def tw18387290401226013885:=q__
def tw18389289260698236790:=q__
def tw18399379515351271189:=q__
def tw1917839333057183088:=q__
def tw204517044793171282:=q__
def tw2320381144452034634:=q__
def tw2448785191691664926:=q__
def tw2550908502206813725:=q__
def tw2584755093645807609:=q__
def tw2607547408186944292:=q__
def tw2620232171972151535:=q__
def tw26620348982957465:=q__
def tw2702438897508280842:=q__
def tw277745720502877801:=q__
def tw2904023446698270721:=q__
def tw2923197630400407858:=q__
def tw3003486376942107974:=q__
def tw3072267998149068105:=q__
def tw3177024106515027283:=q__
def tw3180181966912351351:=q__
def tw3253124723988383641:=q__
def tw3321661080453232344:=q__
def tw3588736674635651576:=q__
def tw36352897011416388:=q__
def tw363554356397307087:=q__
def tw3641716673143488557:=q__
def tw3772165736633152812:=q__
def tw4201031579488965213:=q__
def tw4220251487750739298:=q__
def tw4224214618122146755:=q__
def tw4379203905090100268:=q__
def tw4389298148010541293:=q__
def tw4470576074025388095:=q__
def tw4516061464714638311:=q__
def tw4783653309914293368:=q__
def tw4901666646071963562:=q__
def tw4914318234489734753:=q__
def tw4965219630625661291:=q__
def tw5017985373266099549:=q__
def tw5109982030407266617:=q__
def tw5209716406192627792:=q__
def tw5316301365580846239:=q__
def tw5442458634002862209:=q__
def tw5505443433812100451:=q__
def tw5506220518616582879:=q__
def tw5544833020858538922:=q__
def tw5588588077562399277:=q__
def tw5630996627095315227:=q__
def tw5725430012652798402:=q__
def tw5749749004372836416:=q__
def tw5792146853636412334:=q__
def tw5807074298900492184:=q__
def tw5909297602008493335:=q__
def tw5911955982780301111:=q__
def tw5919020355412772912:=q__
def tw5999778609357892870:=q__
def tw6005280115668407441:=q__
def tw6164749260725123968:=q__
def tw6244168533058022044:=q__
def tw6281657035278543862:=q__
def tw6290646597661727421:=q__
def tw6342877595606722997:=q__
def tw6399711225139831531:=q__
def tw6532300249389989395:=q__
def tw6554936124775060882:=q__
def tw6556518949702341273:=q__
def tw6575734740732634670:=q__
def tw6707363905947117286:=q__
def tw6717399534649059124:=q__
def tw678005672031470783:=q__
def tw6867609165397719864:=q__
def tw6903237746186165099:=q__
def tw6948237383800128784:=q__
def tw7109069063568697717:=q__
def tw7149912405927963849:=q__
def tw7216372786963218759:=q__
def tw7247199556958466221:=q__
def tw7266294285032760652:=q__
def tw743004772973591032:=q__
def tw7466767308972963465:=q__
def tw7542849714561496436:=q__
def tw7585921401110147974:=q__
def tw7614169255652898552:=q__
def tw7734685286312307724:=q__
def tw7787793076898674546:=q__
def tw7808116999523349445:=q__
def tw7904561570291925292:=q__
def tw8014152217300412577:=q__
def tw8075348016595033923:=q__
def tw8150063154539543516:=q__
def tw826910422767896777:=q__
def tw8316594689360115779:=q__
def tw8380006613945998981:=q__
def tw8466527039882542023:=q__
def tw8467300569403256976:=q__
def tw8483597112422722616:=q__
def tw8500030946594758924:=q__
def tw850186611025230851:=q__
def tw8571905931962894016:=q__
def tw8620348230648822128:=q__
def tw8734809941191604530:=q__
def tw8739629463862243745:=q__
def tw8778520213855727982:=q__
def tw8814196375566267674:=q__
def tw898371302900804615:=q__
def tw898420498105629613:=q__
def tw8992482290682853693:=q__
def tw9173124155469725702:=q__
def tw9316895617917112936:=q__
def tw9388938060446169109:=q__
def tw9409519659554630131:=q__
def tw9430529480699345176:=q__
def tw9484820561824721412:=q__
def tw9917007341149099709:=q__
def tw9957133127970856293:=q__
def tw9988687009335437489:=q__
end PySem.W.Fast
open PySem PySem.W PyProof.Rows L2 L3 KK
set_option maxRecDepth 100000 in
set_option maxHeartbeats 0 in
theorem PySem.Challenge.cw_weightrooms_k81_what_lies_in_what_holds : PySem.Challenge.rw_weightrooms_k81_what_lies_in_what.Holds := by
 w_on;o_law;k_head;(case hw=>w_witness2)
 k_fill
 refine L2.walk_lawT (l:=PySem.Challenge.rw_weightrooms_k81_what_lies_in_what) (x:="_law_script") (k:=8) rfl rfl ⟨rfl,by decide,by decide⟩ (λw h Y=>⟨W.km_in_of Y,yW (by kernel_rfl) (W.km_tabs_of Y)⟩) ?F ?D
 case F=>
  intro w mg h KX G base kb nb;refine t5 (yS ⟨⟨Fv KX G (by kernel_rfl),?_⟩,DC KX G (by kernel_rfl)⟩) (Cm KX G (by kernel_rfl)) (law3 p7 rfl CL);repeat first
   |exact trivial
   |refine⟨by refine' su KX G ?a ?l ?c ?k;(case a=>k_is);(case l=>k_is);(case c=>k_is);(case k=>k_is),?_⟩
 case D=>
  intro w mg h KX G;refine⟨top 36,?_,(λ_ _ _ _ _ _=>ar1 λ_=>rfl)⟩;refine' su KX G ?a ?l ?c ?k;case a|l|c|k=>k_is
