import PyProof.Rows.All
import Wide.All
import OpenK.AllK
import Wide.FinOn
import Lean
import PyProof.EqAt
import PyProof.EqKinds
import PyProof.TupleCall
import PyProof.Rows.SumAny
import PyProof.EnumMake
import PyProof.Draws
import PyProof.ZipIter
import KE.KNestM
import KE.KUnpack
import KE.KxIndex
import PyProof.SetRoads
import PyProof.SetNew
import PyProof.AutoSeq1
import KE.KRevSl
import PyProof.SeqI3
import PyProof.Rows.SortWalk
import PyProof.Rows.Range3
import KE.KSortTup
import KE.KLam
import PyProof.Rows.SetFrom
import PyProof.FactsAll.list_2
import PySem.Challenge.RW_weightrooms_k61_the_list_behind
local macro_rules|`(tactic|trivial)=>`(tactic|first|exact Or.inl rfl|exact Or.inr rfl)
local macro_rules|`(tactic|decide)=>`(tactic|decide +kernel)
set_option genSizeOf false
set_option genInjectivity false
set_option bootstrap.genMatcherCode false
noncomputable section
set_option Elab.async false
set_option linter.all false
def o_:=@List.length_map
def p_:=@List.getElem?_eq_some_iff
def r_:=@PySem.wpAny_bind
def s_:=@PySem.Heap.get?_push_of_some
def t_:=@Bool.and_eq_true
def u_:=@Bool.false_ne_true
def v_:=@Nat.le_refl
def w_:=@List.size_toArray
def x_:=@PySem.Heap.lt_size
def y_:=@List.length_set
def z_:=@List.map_cons
def A_:=@Nat.lt_of_lt_of_le
def B_:=@PySem.wpAny_pure
def C_:=@List.getElem?_append_left
def DP:=@List.getD_eq_getElem?_getD
def DQ:=@List.getElem?_eq_getElem
def DR:=@List.length_cons
def DU:=@Nat.le_trans
def DV:=@List.mem_cons_of_mem
def DX:=@Option.some.inj
def DY:=@List.length_append
def DZ:=@Option.map_eq_some_iff
def D1:=@List.replicate_succ
def D2:=@beq_eq_false_iff_ne
def D3:=@List.getElem?_map
def D4:=@List.all_eq_true
def D5:=@decide_eq_false
def D6:=@List.length_replicate
def D7:=@List.mem_cons_self
def D8:=@List.drop_zero
def D9:=@List.mem_append_right
def D_:=@Nat.ne_of_lt
def Ea:=@beq_iff_eq
def Eb:=@List.getElem?_append_right
def Ec:=@PySem.Heap.get?_push_size
def Ed:=@List.drop_of_length_le
def Ee:=@PySem.wpAny_mono
def Ef:=@Nat.zero_le
def Eg:=@List.mem_cons
def Eh:=@Option.bind_eq_some_iff
def Ei:=@List.mem_singleton
def Ej:=@List.sum_cons
def Ek:=@decide_eq_true
def El:=@PySem.wpAny_loadPart'
def Em:=@List.getElem?_replicate
def En:=@Nat.lt_irrefl
def Eo:=@List.take_of_length_le
def Ep:=@List.flatten_cons
def Er:=@List.contains_iff_mem
def Es:=@List.take_nil
def Et:=@List.nil_append
def Eu:=@PySem.mem_of_lookup
def Ew:=@List.find?_cons
def Ex:=@Option.isSome_iff_exists
def Ey:=@congrArg
def Ez:=@PySem.wpAny_truthy_bool
def EA:=@Int.mul_assoc
def EB:=@List.any_cons
def EC:=@List.filterMap_cons
def ED:=@List.lookup_cons
def EE:=@Bool.false_eq_true
def EF:=@List.getElem?_zipWith
def EG:=@List.length_nil
def EH:=@PySem.wpAny_passesOwn
def EI:=@PySem.wpAny_holding
def EJ:=@PySem.wpAny_newObj_type
def EK:=@List.mem_of_getElem?
def EL:=@List.mem_range
def EM:=@Nat.min_eq_right
def EN:=@List.length_zipWith
def EO:=@List.all_cons
def ER:=@List.map_drop
def ET:=@List.map_append
def EU:=@List.mem_append
def EV:=@List.mem_replicate
def EW:=@Nat.min_eq_left
def EX:=@Nat.not_lt_zero
def EY:=@Int.mul_left_comm
def EZ:=@Int.toNat_natCast
def E1:=@List.append_assoc
def E2:=@List.mapM_cons
def E4:=@if_true
def E5:=@PyProof.Rows.callWith_type1
def E6:=@List.length_drop
def E7:=@beq_self_eq_true
def E8:=@if_false
def E9:=@List.drop_nil
def E_:=@Classical.byContradiction
def Fb:=@List.append_nil
def Fc:=@List.drop_eq_getElem_cons
def Fe:=@List.getElem?_eq_none_iff
def Fg:=@List.mem_or_eq_of_mem_set
def Fh:=@List.sum_append
def Fi:=@Int.mul_comm
def Fj:=@PySem.F.args_tuple_add_2
def Fl:=@PySem.F.entry_tuple_add
def Fm:=@Bool.not_eq_true'
def Fo:=@List.getElem?_set
def Fp:=@of_decide_eq_true
def Fq:=@PySem.Heap.get?_update_other
def Fs:=@List.range_succ_eq_map
def Ft:=@PySem.F.slot_tuple_add
def Fu:=@List.length_singleton
def Fv:=@PySem.Heap.get?_none_of_le
def Fw:=@List.drop_left'
def Fx:=@List.getElem?_append
def Fy:=@List.getElem?_set_ne
def Fz:=@List.nodup_cons
def FA:=@List.sum_nil
def FC:=@Nat.lt_trans
def FD:=@Nat.sub_self
def FE:=@PySem.wpAny_execs_nil
def FF:=@Array.length_toList
def FG:=@PySem.Heap.SameBut.update
def FH:=@Int.natAbs_mul
def FI:=@PySem.wpAny_standAt
set_option maxRecDepth 100000
namespace L2
open PySem PySem.Spec PyProof.Rows
abbrev _root_.Ga:=Str->Option Value
abbrev _root_.Gb:=List (Addr×Obj)
abbrev _root_.Gd:=Value->Shared->Prop
abbrev _root_.Ge:=List (Option Nat)
abbrev Key:=Sum Int Str
noncomputable def fF:Key->Value->Bool
 |.inl k,v=>Value.isInt k v
 |.inr x,v=>Value.isStrOf x v
noncomputable def keyH(w:World):Key->Int
 |.inl k=>hashInt k
 |.inr x=>hashStr w x
theorem a9:∀{k:Key}{v:Value},fF k v=true->(∃i t,k=Sum.inl i/\v=Value.int i t)\/(∃x t,k=Sum.inr x/\v=Value.str x t)
 |
  .inl i,v,h=>by
  obtain⟨t,e⟩:=Value.isInt_shape (k:=i) (v:=v) h;exact .inl ⟨i,t,rfl,e⟩
 |
  .inr x,v,h=>by
  obtain⟨t,e⟩:=Value.isStrOf_shape (x:=x) (v:=v) h;exact .inr ⟨x,t,rfl,e⟩
def oa(i:Int)(t:Tok):fF (.inl i) (.int i t)=true:=by simp [fF,Value.isInt]
def om(x:Str)(t:Tok):fF (.inr x) (.str x t)=true:=by simp [fF,Value.isStrOf]
def Af(a b:Int):decide ((Sum.inl a:Key)=Sum.inl b)=(a==b):=by
 by_cases e:a=b
 .subst e;simp
 .have h:¬ (Sum.inl a:Key)=Sum.inl b:=λq=>e (Sum.inl.inj q);rw[D5 h];exact (D2.mpr e).symm
def zD(a b:Str):decide ((Sum.inr a:Key)=Sum.inr b)=decide (a=b):=by
 by_cases e:a=b
 .subst e;simp
 .have h:¬ (Sum.inr a:Key)=Sum.inr b:=λq=>e (Sum.inr.inj q);rw[D5 h,D5 e]
def zx(a:Int)(b:Str):decide ((Sum.inl a:Key)=Sum.inr b)=false:=D5 (λq=>nomatch q)
def yc(a:Str)(b:Int):decide ((Sum.inr a:Key)=Sum.inl b)=false:=D5 (λq=>nomatch q)
noncomputable def aX(prog:Program)(w:World):PySem.KeyKind prog w Key where
 is:=fF
 hash:=keyH w
 inj
  := λv a b ha hb=>by
  rcases a9 ha with ⟨i,t,rfl,rfl⟩ |⟨x,t,rfl,rfl⟩
  .rcases a9 hb with ⟨j,u,rfl,e⟩ |⟨y,u,rfl,e⟩
   .injection e with e1 _;rw[e1]
   .exact nomatch e
  .rcases a9 hb with ⟨j,u,rfl,e⟩ |⟨y,u,rfl,e⟩
   .exact nomatch e
   .injection e with e1 _;rw[e1]
 byValue:=λk v h=>by rcases a9 h with ⟨i,t,rfl,rfl⟩ |⟨x,t,rfl,rfl⟩ <;> rfl
 pyHash:=λhv h=>by
  rcases a9 hv with ⟨i,t,rfl,rfl⟩ |⟨x,t,rfl,rfl⟩
  .exact wpAny_pyHash_int h
  .exact wpAny_pyHash_str h
 eqBool:=λhu hv h=>by
  rcases a9 hu with ⟨i,t,rfl,rfl⟩ |⟨x,t,rfl,rfl⟩
  .rcases a9 hv with ⟨j,u,rfl,rfl⟩ |⟨y,u,rfl,rfl⟩
   .rw[Af] at h;exact wpAny_eqBool_int h
   .rw[zx] at h;exact SeqAt.EqAt.int_str i t y u _ _ _ _ h
  .rcases a9 hv with ⟨j,u,rfl,rfl⟩ |⟨y,u,rfl,rfl⟩
   .rw[yc] at h;exact SeqAt.EqAt.str_int x t j u _ _ _ _ h
   .rw[zD] at h;exact wpAny_eqBool_str h
 «strs»:=λk x t v h=>by
  rcases a9 h with ⟨i,u,rfl,e⟩ |⟨y,u,rfl,e⟩
  .exact nomatch e
  .injection e with e1 _;subst e1;cases v <;> rfl
def lL(prog:Program)(w:World)(i:Int)(t:Tok):(aX prog w).is (.inl i) (.int i t)=true:=oa i t
def lH(prog:Program)(w:World)(x:Str)(t:Tok):(aX prog w).is (.inr x) (.str x t)=true:=om x t
inductive V where
 |non |bl (b:Bool) |int (i:Int) |str (x:Str) |byt (b:Array UInt8) |flt (b:UInt64) |ref (a:Addr) |ty (n:String)
 deriving DecidableEq
def RelV:V->Value->Prop
 |.non,u=>u=Value.none
 |.bl b,u=>u=Value.bool b
 |.int i,u=>∃t,u=Value.int i t
 |.str x,u=>∃t,u=Value.str x t
 |.byt b,u=>∃t,u=Value.bytes b t
 |.flt b,u=>∃t,u=Value.float b t
 |.ref a,u=>u=Value.ref a
 |.ty n,u=>u=Value.type n
abbrev Vals:List V->List Value->Prop:=Paired RelV
def Vals.length(r:Vals xs us):xs.length=us.length:=Paired.length r
def Vals.get{xs:List V}{us:List Value}{i:Nat}{x:V}(r:Vals xs us)(e:xs[i]?=some x):∃u,us[i]?=some u/\RelV x u:=by
 induction r generalizing i with
 |nil=>rw[List.getElem?_nil] at e;cases e
 |
  cons r t ih=>
  cases i with
  |zero=>cases e;exact⟨_,rfl,r⟩
  |succ i=>exact ih (i:=i) e
def Vals.set(r:RelV x u)(i:Nat)(q:Vals xs us):Vals (xs.set i x) (us.set i u):=by
 induction q generalizing i with
 |nil=>exact .nil
 |
  cons q t ih=>
  cases i with
  |zero=>exact .cons r t
  |succ i=>exact .cons q (ih i)
def Vals.append(r:Vals xs us)(s:Vals ys ws):Vals (xs++ys) (us++ws):=by
 induction r with
 |nil=>exact s
 |cons r t ih=>exact .cons r ih
def Vals.take(n:Nat)(r:Vals xs us):Vals (xs.take n) (us.take n):=by
 induction r generalizing n with
 |nil=>rw[Es,Es];exact .nil
 |
  cons r t ih=>
  cases n with
  |zero=>exact .nil
  |succ n=>exact .cons r (ih n)
def Vals.drop(n:Nat)(r:Vals xs us):Vals (xs.drop n) (us.drop n):=by
 induction r generalizing n with
 |nil=>rw[E9,E9];exact .nil
 |
  cons r t ih=>
  cases n with
  |zero=>exact .cons r t
  |succ n=>exact ih n
def RelO:Option V->Option Value->Prop
 |some v,some u=>RelV v u
 |none,none=>True
 |_,_=>False
def KV{κ:Type}:List (κ×V)->List (κ×Value)->Prop:=Paired λ(p:κ×V) (q:κ×Value)=>p.1=q.1/\RelV p.2 q.2
noncomputable def kV:Key->V
 |.inl i=>.int i
 |.inr x=>.str x
inductive HO where
 |lst (xs:List V)
 |tup (xs:List V)
 |dK (kvs:List (Key×V)) |dT (kvs:List (List Key×V))
 |set (S:Int->Bool) (n:Nat)
 |ins (C dx:Addr) (fs:List (Str×V))
 |own (x:Addr)
 |xd (fs:List (Str×V))
 |met (f x:Addr)
 |rng (lo hi:Int)
 |frz (o:Obj) (u:HO)
 |tbl (ps:Array Value)
 |ext (φ:Heap->Prop)
abbrev Hp:=Addr->Option HO
noncomputable def upd(H:Hp)(a:Addr)(o:HO):Hp:=λb=>if b=a then some o else H b
def ba:upd H a o a=some o:=by unfold upd;rw[if_pos rfl]
def aq(h:b≠a):upd H a o b=H b:=by unfold upd;rw[if_neg h]
def Bw{H:Hp}{a b:Addr}{o u:HO}(h:H a=some o)(h':H b=some u)(d:o≠u):a≠b:=by intro e;subst e;rw[h] at h';exact d (DX h')
def aK{H:Hp}{a b:Addr}{o:HO}(h:H a=some o)(h':H b=none):a≠b:=by intro e;subst e;rw[h] at h';cases h'
section
variable(P:Program)(w:World)
def ObjOk(H:Hp)(h:Heap)(a:Addr):HO->Prop
 |.lst xs=>xs.length<=sizeLine/\∃(its:List Value) (n:Nat),Vals xs its/\h.get? a=some { cls:=.type "list",data:=.seq its.toArray n }
 |.tup xs=>xs.length<=sizeLine/\∃its:List Value,Vals xs its/\IsTup h a its.toArray
 |.dK kvs=>kvs.length<=sizeLine/\(a==sysModules)=false/\∃vs,KV kvs vs/\h.DictOf (aX P w) a vs
 |.dT kvs=>kvs.length<=sizeLine/\(a==sysModules)=false/\∃xs:List (List Key×Addr×Value),
  Paired (λ(p:List Key×V) (q:List Key×Addr×Value)=>p.1=q.1/\H q.2.1=some (.tup (p.1.map kV))/\RelV p.2 q.2.2) kvs xs/\
  ∃o es ep,h.get? a=some o/\o.ExactDict/\o.data=.dict es ep/\es.toList=xs.map (entryOfKey (tupleKind (aX P w)))/\(xs.map (·.1)).Nodup
 |.set S n=>h.SetOf (intKind P w) a S n
 |.ins C dx fs=>H dx=some (.own a)/\fs.length<=1000/\dx≠a/\h.get? a=some (W.instObj C dx)/\
  ∃mA,h.Ns1 dx mA/\(∀f,RelO (fs.lookup f) (mA f))/\PySem.Within mA (fs.map (·.1))
 |.own _=>∃o,h.get? a=some o
 |.xd fs=>∃mA,h.Ns1 a mA/\∀f,RelO (fs.lookup f) (mA f)
 |.rng lo hi=>∃t u v,h.get? a=some { cls:=.type "range",data:=.fields #[.int lo t,.int hi u,.int 1 v] }
 |.frz o u=>h.get? a=some o/\ObjOk H h a u
 |.tbl ps=>h.get? a=some { cls:=.none,data:=.fields ps }
 |.met f x=>h.get? a=some (W.methodObj (.ref f) (.ref x))
 |.ext φ=>φ h/\(∃o,h.get? a=some o)/\∀h1 h2:Heap,φ h1->(∀o,h1.get? a=some o->h2.get? a=some o)->φ h2
def HOk(H:Hp)(h:Heap):Prop:=∀a o,H a=some o->ObjOk P w H h a o
end
section
variable{P:Program}{w:World}{H H':Hp}{h h':Heap}{a:Addr}{o:HO}
def ObjOk.lt(x:ObjOk P w H h a o):a<h.objs.size:=by
 cases o with
 |lst xs=>obtain⟨_,_,_,_,e⟩:=x;exact x_ e
 |tup xs=>obtain⟨_,_,_,p⟩:=x;exact p.lt
 |dK kvs=>obtain⟨_,_,_,_,o,_,_,e,_⟩:=x;exact x_ e
 |dT kvs=>obtain⟨_,_,_,_,o,_,_,e,_⟩:=x;exact x_ e
 |set S n=>obtain⟨o,_,_,_,e,_⟩:=x;exact x_ e
 |ins C dx fs=>obtain⟨_,_,_,e,_⟩:=x;exact x_ e
 |own y=>obtain⟨_,e⟩:=x;exact x_ e
 |xd fs=>obtain⟨_,⟨_,_,_,e,_⟩,_⟩:=x;exact x_ e
 |rng lo hi=>obtain⟨_,_,_,e⟩:=x;exact x_ e
 |frz ob u=>obtain⟨e,_⟩:=x;exact x_ e
 |tbl ps=>exact x_ (show h.get? a=some _ from x)
 |met f y=>exact x_ (show h.get? a=some _ from x)
 |ext φ=>obtain⟨_,⟨_,e⟩,_⟩:=x;exact x_ e
def Paired.mapP(r:Paired F l₁ l₂)(f:∀a b,F a b->G a b):Paired G l₁ l₂:=by
 induction r with
 |nil=>exact .nil
 |cons r t ih=>exact .cons (f _ _ r) ih
def ObjOk.stay(x:ObjOk P w H h a o)(k:∀b u,(b=a\/H b=some (.own a))->h.get? b=some u->h'.get? b=some u)
 (ho:∀b,H b=some (.own a)->H' b=some (.own a)) (ht:∀b xs,H b=some (.tup xs)->H' b=some (.tup xs)):ObjOk P w H' h' a o:=by
 induction o with
 |lst xs=>obtain⟨z,its,n,r,e⟩:=x;exact⟨z,its,n,r,k _ _ (.inl rfl) e⟩
 |tup xs=>obtain⟨z,its,r,ob,e,c⟩:=x;exact⟨z,its,r,ob,k _ _ (.inl rfl) e,c⟩
 |dK kvs=>obtain⟨z,y,vs,r,ob,es,ep,e,c⟩:=x;exact⟨z,y,vs,r,ob,es,ep,k _ _ (.inl rfl) e,c⟩
 |dT kvs=>obtain⟨z,y,xs,r,ob,es,ep,e,c⟩:=x;exact⟨z,y,xs,Paired.mapP r λp q z=>⟨z.1,ht _ _ z.2.1,z.2.2⟩,ob,es,ep,k _ _ (.inl rfl) e,c⟩
 |set S n=>obtain⟨ob,es,ep,t,e,c⟩:=x;exact⟨ob,es,ep,t,k _ _ (.inl rfl) e,c⟩
 |ins C dx fs=>obtain⟨d,z,ne,e,mA,⟨od,es,ep,e2,c⟩,r⟩:=x;exact⟨ho _ d,z,ne,k _ _ (.inl rfl) e,mA,⟨od,es,ep,k _ _ (.inr d) e2,c⟩,r⟩
 |own y=>obtain⟨ob,e⟩:=x;exact⟨ob,k _ _ (.inl rfl) e⟩
 |xd fs=>obtain⟨mA,⟨od,es,ep,e,c⟩,r⟩:=x;exact⟨mA,⟨od,es,ep,k _ _ (.inl rfl) e,c⟩,r⟩
 |rng lo hi=>obtain⟨t,u,v,e⟩:=x;exact⟨t,u,v,k _ _ (.inl rfl) e⟩
 |frz ob u ih=>obtain⟨e,q⟩:=x;exact⟨k _ _ (.inl rfl) e,ih q⟩
 |tbl ps=>have e:h.get? a=some { cls:=.none,data:=.fields ps }:=x;show h'.get? a=some { cls:=.none,data:=.fields ps };exact k a _ (.inl rfl) e
 |met f y=>have e:h.get? a=some (W.methodObj (.ref f) (.ref y)):=x;show h'.get? a=some (W.methodObj (.ref f) (.ref y));exact k a _ (.inl rfl) e
 |ext φ=>obtain⟨p,⟨o,e⟩,st⟩:=x;exact⟨st _ _ p λo q=>k _ _ (.inl rfl) q,⟨o,k _ _ (.inl rfl) e⟩,st⟩
def HOk.lt(x:HOk P w H h)(e:H a=some o):a<h.objs.size:=(x a o e).lt
def HOk.fresh(x:HOk P w H h)(e:h.objs.size<=a):H a=none:=by
 cases q:H a with
 |none=>rfl
 |some u=>exact absurd (A_ (x.lt q) e) (En _)
def HOk.kept(x:HOk P w H h)(k:∀b u,h.get? b=some u->h'.get? b=some u):HOk P w H h':=λa o e=>
 (x a o e).stay (λb u _ q=>k b u q) (λ_ q=>q) λ_ _ q=>q
def HOk.laid(x:HOk P w H h)(k:∀b u,h.get? b=some u->h'.get? b=some u)(hp:h.objs.size<=a)(new:ObjOk P w (upd H a o) h' a o):HOk P w (upd H a o) h':=λb u e=>by
 have hn:=x.fresh hp;by_cases hb:b=a
 .subst hb;rw[ba] at e;cases e;exact new
 .rw[aq hb] at e;exact (x b u e).stay (λc v _ q=>k c v q) (λc q=>by rw[aq (aK q hn)];exact q) λc xs q=>by rw[aq (aK q hn)];exact q
end
def Rd(H:Hp)(a:Addr)(u:HO):Prop:=H a=some u\/∃o,H a=some (.frz o u)
def Rd.ok(r:Rd H a u)(x:HOk P w H h):ObjOk P w H h a u:=by
 rcases r with r |⟨o,r⟩
 .exact x a u r
 .obtain⟨_,q⟩:=x a _ r;exact q
def Mut:Option HO->Prop
 |some (.lst _)=>True
 |some (.dK _)=>True
 |some (.dT _)=>True
 |some (.set _ _)=>True
 |some (.ins _ _ _)=>True
 |some (.ext _)=>True
 |_=>False
section
variable{P:Program}{w:World}{H:Hp}{h h':Heap}{x e:Addr}{o':HO}
def HOk.write(ok:HOk P w H h)(mu:Mut (H x))(he:e=x\/H e=some (.own x))(k:∀b u,b≠e->h.get? b=some u->h'.get? b=some u)(heo:∃u,h'.get? e=some u)
 (new:ObjOk P w (upd H x o') h' x o'):HOk P w (upd H x o') h':=λb u q=>by
 have nown:∀c y,H c=some (.own y)->c≠x:=λc y r z=>by subst z;rw[r] at mu;exact mu
 have ntup:∀c xs,H c=some (.tup xs)->c≠x:=λc xs r z=>by subst z;rw[r] at mu;exact mu
 by_cases hb:b=x
 .subst hb;rw[ba] at q;cases q;exact new
 .rw[aq hb] at q;by_cases hbe:b=e
  .have q':H b=some (.own x):=by
    rcases he with z |z
    .exact absurd (hbe.trans z) hb
    .rw[hbe];exact z
   rw[q] at q';cases q';obtain⟨v,hv⟩:=heo;exact⟨v,by rw[hbe];exact hv⟩
  .refine (ok b u q).stay (λc v hc r=>k c v ?_ r) (λc r=>by rw[aq (nown c b r)];exact r) λc xs r=>by rw[aq (ntup c xs r)];exact r
   rcases hc with rfl |hc
   .exact hbe
   .rintro rfl;rcases he with z |z
    .exact nown c b hc z
    .rw[hc] at z;cases z;exact hb rfl
end
structure Un(fs ex:List Addr)(H H':Hp)(h h':Heap):Prop where
 keep:∀b o,h.get? b=some o->H b=none->b∉fs->b∉ex->h'.get? b=some o
 slot:∀b o,h.get? b=some o->H b=none->b∈fs->b∉ex->∃sl,h'.get? b=some { o with slots:=sl }
 free:∀b o,h.get? b=some o->H b=none->b∉ex->H' b=none
 there:∀b o,h.get? b=some o->b∉ex->∃o',h'.get? b=some o'
 tups:∀b xs,H b=some (.tup xs)->H' b=some (.tup xs)
 frzs:∀b o u,H b=some (.frz o u)->H' b=some (.frz o u)
 tbls:∀b ps,H b=some (.tbl ps)->∃more,H' b=some (.tbl (ps++more))
section
variable{fs ex:List Addr}{H H1:Hp}{h h1 h':Heap}{a x e:Addr}{o:HO}
def Un.any(u:Un fs ex H H1 h h1)(q:h.get? b=some ob)(n:H b=none)(hx:b∉ex):∃sl,h1.get? b=some { ob with slots:=sl }:=by
 by_cases hb:b∈fs
 .exact u.slot b ob q n hb hx
 .exact⟨ob.slots,u.keep b ob q n hb hx⟩
def Un.kept(k:∀b u,h.get? b=some u->h'.get? b=some u):Un fs ex H H h h':=
 ⟨λb ob q _ _ _=>k b ob q,λb ob q _ _ _=>⟨ob.slots,k b ob q⟩,λ_ _ _ n _=>n,λb ob q _=>⟨ob,k b ob q⟩,λ_ _ q=>q,λ_ _ _ q=>q,λ_ ps q=>⟨#[],by rw[q];simp⟩⟩
def Un.refl:Un fs ex H H h h:=Un.kept λ_ _ q=>q
def Un.laid(k:∀b u,h.get? b=some u->h'.get? b=some u)(hp:h.objs.size<=a)(hn:H a=none):Un fs ex H (upd H a o) h h' where
 keep:=λb u q _ _ _=>k b u q
 slot:=λb u q _ _ _=>⟨u.slots,k b u q⟩
 free:=λb u q n _=>by rw[aq (D_ (A_ (x_ q) hp))];exact n
 there:=λb u q _=>⟨u,k b u q⟩
 tups:=λb xs q=>by rw[aq (aK q hn)];exact q
 frzs:=λb u xs q=>by rw[aq (aK q hn)];exact q
 tbls:=λb ps q=>⟨#[],by rw[aq (aK q hn),q];simp⟩
def Un.write(mu:Mut (H x))(he:e=x\/H e=some (.own x))(k:∀b u,b≠e->h.get? b=some u->h'.get? b=some u)(heo:∃u,h'.get? e=some u):Un fs ex H (upd H x o) h h':=by
 have hx:∀b,H b=none->b≠x:=λb n z=>by subst z;rw[n] at mu;exact mu
 have hb:∀b,H b=none->b≠e:=λb n z=>by
  subst z;rcases he with r |r
  .exact hx b n r
  .rw[n] at r;cases r
 have hm:∀b u,H b=some u->¬ Mut (some u)->b≠x:=λb u q nm z=>by subst z;rw[q] at mu;exact nm mu
 refine⟨λb u q n _ _=>k b u (hb b n) q,λb u q n _ _=>⟨u.slots,k b u (hb b n) q⟩,λb u q n _=>by rw[aq (hx b n)];exact n,λb u q _=>?_,
  λb xs q=>by rw[aq (hm b _ q λz=>z)];exact q,λb u xs q=>by rw[aq (hm b _ q λz=>z)];exact q,λb ps q=>⟨#[],by rw[aq (hm b _ q λz=>z),q];simp⟩⟩
 by_cases hbe:b=e
 .subst hbe;exact heo
 .exact⟨u,k b u hbe q⟩
end
noncomputable def trk(h:Heap)(H:Hp):List Addr:=(List.range h.objs.size).filter λa=>(H a).isSome
noncomputable def en(h:Heap)(H:Hp):Heap:=W.hideAll h (trk h H)
def qg(h:Heap)(H:Hp):(en h H).objs.size=h.objs.size:=W.hideAll_size _ _
def rp(e:h.get? b=some o)(n:H b=none):(en h H).get? b=some o:=
 W.hideAll_get _ e λhm=>by have q:(H b).isSome=true:=(List.mem_filter.mp hm).2;rw[n] at q;simp at q
def wM(e:(en h H).get? b=some o):h.get? b=some o/\H b=none:=by
 have e':h.get? b=some o:=W.of_hideAll (trk h H) e;refine⟨e',?_⟩;cases q:H b with
 |none=>rfl
 |some x=>have hm:b∈trk h H:=List.mem_filter.mpr ⟨EL.mpr (x_ e'),by simp [q]⟩;have z:(en h H).get? b=none:=W.hideAll_none (trk h H) hm;rw[z] at e;cases e
noncomputable def wI(g h:Heap)(L:Addr):List (Addr×Obj):=(List.range h.objs.size).filterMap λa=>if a=L\/(g.get? a).isSome=true then none else (h.get? a).map λo=>(a,o)
noncomputable def cF(g h:Heap)(L d:Addr):List (Addr×Obj):=(wI g h L).filter λp=>decide (p.1≠d)
structure Mod(K:W.Frag)(mg:Ga)(base:Heap):Prop where
 kin:K.In base
 glob:base.Ns mainGlobals mg
 blt:∃mb,base.Ns builtinsNs mb/\∀x:Str,x ≠ "__name__"->mb x=bootBuiltins x
 nolimit:base.NoLimit
structure Cx where
 prog:Program
 w:World
 K:W.Frag
 mg:Str->Option Value
 base:Heap
 A:Around
 N:List Str
 s₀:Shared
 H₀:Hp
 env:Env
 outer:List Env
 stack:List Env
 ex:List Addr
 fn:Str->Bool
 calm:Bool
 pn:List (Addr×Obj)
 xe:Value->Shared->Prop
noncomputable def frs(l:List Env):List Addr:=l.filterMap (·.frame)
abbrev Cx.fs(X:Cx):List Addr:=frs X.outer
def Vis(sc:Scope)(x:Str):Prop:=sc.names.lookup x=some .local\/sc.names.lookup x=some .cell\/sc.names.lookup x=some .free
def Loc(sc:Scope)(x:Str):Prop:=sc.names.lookup x=some .local\/sc.names.lookup x=some .cell
def Look(env:Env)(h:Heap)(m:Ga)(x:Str)(u:Value):Prop:=
 (env.kindOf x=some .local/\m x=some u)\/((env.kindOf x=some .cell\/env.kindOf x=some .free)/\∃c,env.cells.lookup x=some c/\h.IsCell c (some u))
structure Cx.Ok(X:Cx):Prop where
 mod:Mod X.K X.mg X.base
 kind:X.env.scope.kind=.function
 glob:X.env.globals=mainGlobals
 blt:X.env.builtins=builtinsNs
 above:X.s₀.heap.objs.size<=X.env.locals
 inj:∀x y c,X.env.cells.lookup x=some c->X.env.cells.lookup y=some c->x=y
 has:∀x,(X.env.kindOf x=some .cell\/X.env.kindOf x=some .free)->∃c,X.env.cells.lookup x=some c
 cab:∀x c,X.fn x=true->X.env.cells.lookup x=some c->X.s₀.heap.objs.size<=c
 hd:X.calm=true->X.A.handled=none
 frames:X.A.frames=some X.stack
 stk:X.stack=X.outer\/(X.stack=X.env::X.outer/\X.env.frame=some X.env.locals)
 exf:∀b∈X.ex,b≠X.env.locals/\∀x c,X.env.cells.lookup x=some c->c≠b
 bs:∀b o,X.base.get? b=some o->X.s₀.heap.get? b=some o/\X.H₀ b=none
 bsz:X.base.objs.size<=X.s₀.heap.objs.size
 noex:∀b o,X.base.get? b=some o->b∉X.ex
 exfs:∀b∈X.ex,b∉X.fs
 funs:X.s₀.heap.FunFrames X.base X.outer
 frf:∀b∈X.fs,X.H₀ b=none
structure Inv(X:Cx)(pins:Gb)(σ:List (Option V))(H:Hp)(s:Shared):Prop where
 ok:X.Ok
 os:s.os=X.s₀.os
 bare:AllBare s.gens
 base:Un X.fs X.ex X.H₀ H X.s₀.heap s.heap
 loc:∃m,s.heap.Ns X.env.locals m/\∀(i:Nat) (x:Str) (v:V),X.N[i]?=some x->σ[i]?=some (some v)->Vis X.env.scope x->∃u,RelV v u/\Look X.env s.heap m x u
 cell:∀x c,X.env.cells.lookup x=some c->∃v,s.heap.IsCell c v
 free:H X.env.locals=none
 freeC:∀x c,X.env.cells.lookup x=some c->H c=none
 pin:∀p∈X.pn++pins,s.heap.get? p.1=some p.2/\H p.1=none/\p.1≠X.env.locals/\p.1∉X.fs/\∀v,p.2.data ≠ .cell v
 hok:HOk X.prog X.w H s.heap
 len:σ.length=X.N.length
section
variable{X:Cx}{pins:Gb}{σ:List (Option V)}{H H':Hp}{s:Shared}{h':Heap}
def Cx.Ok.nofr(ok:X.Ok)(e:X.base.get? b=some o):b∉X.fs:=λhb=>by
 have:=(ok.funs.mem hb).1
 rw[e] at this;cases this
def Inv.bs(I:Inv X pins σ H s):∀b o,X.base.get? b=some o->s.heap.get? b=some o/\H b=none:=λb o e=>
 ⟨I.base.keep b o (I.ok.bs b o e).1 (I.ok.bs b o e).2 (I.ok.nofr e) (I.ok.noex b o e),I.base.free b o (I.ok.bs b o e).1 (I.ok.bs b o e).2 (I.ok.noex b o e)⟩
def Inv.bk(I:Inv X pins σ H s):∀b o,X.base.get? b=some o->s.heap.get? b=some o:=λb o e=>(I.bs b o e).1
def Inv.mod(I:Inv X pins σ H s):Mod X.K X.mg X.base:=I.ok.mod
def Inv.kIn(I:Inv X pins σ H s):X.K.In s.heap:=I.ok.mod.kin.keeps I.bk
def Inv.lt(I:Inv X pins σ H s):X.env.locals<s.heap.objs.size:=let ⟨_,hn,_⟩:=I.loc;hn.lt
def Inv.sz(I:Inv X pins σ H s):X.s₀.heap.objs.size<=s.heap.objs.size:=DU I.ok.above (Nat.le_of_lt I.lt)
def Inv.nofs(I:Inv X pins σ H s)(h:s.heap.objs.size<=a):a∉X.fs:=λhb=>by obtain⟨_,o,ho,_⟩:=I.ok.funs.mem hb;exact absurd (A_ (x_ ho) (DU I.sz h)) (En _)
def Inv.cne(I:Inv X pins σ H s):∀x c,X.env.cells.lookup x=some c->c≠X.env.locals:=λx c e z=>by obtain⟨v,o,ho,hd⟩:=I.cell x c e;obtain⟨m,⟨o',es,ep,ho',hd',_⟩,_⟩:=I.loc;rw[z,ho'] at ho;cases ho;rw[hd'] at hd;cases hd
def Inv.funs(I:Inv X pins σ H s):s.heap.FunFrames X.base X.outer:=by
 have all:∀(l:List Env),(∀b∈frs l,b∈X.fs)->X.s₀.heap.FunFrames X.base l->s.heap.FunFrames X.base l:=by
  intro l;induction l with
  |nil=>intro _ _;trivial
  |cons env r ih=>intro hs hl;obtain⟨hk,⟨L,o,hf,hn,ho,hd⟩,hr⟩:=hl;have hL:L∈X.fs:=hs L (by unfold frs;rw[EC,hf];exact D7);obtain⟨sl,e⟩:=I.base.slot L o ho (I.ok.frf L hL) hL λz=>I.ok.exfs L z hL;exact⟨hk,⟨L,_,hf,hn,e,hd⟩,ih (λb hb=>hs b (by unfold frs;rw[EC,hf];exact DV _ hb)) hr⟩
 exact all X.outer (λ_ hb=>hb) I.ok.funs
def Inv.stack(I:Inv X pins σ H s):s.heap.FunFrames X.base X.stack:=by
 rcases I.ok.stk with e |⟨e,hf⟩
 .rw[e];exact I.funs
 .rw[e];obtain⟨m,hn,_⟩:=I.loc;refine .cons (by rw[I.ok.kind];decide) hf hn ?_ I.funs;exact Fv (DU I.ok.bsz I.ok.above)
def Inv.stkSub(I:Inv X pins σ H s):∀b∈frs X.stack,b∈X.env.locals::X.fs:=λb hb=>by
 rcases I.ok.stk with e |⟨e,hf⟩
 .rw[e] at hb;exact DV _ hb
 .rw[e] at hb;unfold frs at hb;rw[EC,hf] at hb;exact hb
def Inv.stkFree(I:Inv X pins σ H s):∀b∈frs X.stack,H b=none:=λb hb=>by
 rcases Eg.mp (I.stkSub b hb) with e |hb
 .rw[e];exact I.free
 .obtain⟨_,o,ho,_⟩:=I.ok.funs.mem hb;exact I.base.free b o ho (I.ok.frf b hb) λz=>I.ok.exfs b z hb
def Inv.step{g':Array GenState}{t':Nat}{d':Drawn}{ch:List Addr}(I:Inv X pins σ H s)
 (hch:∀b∈ch,(b∈X.ex\/X.s₀.heap.objs.size<=b)/\b≠X.env.locals/\(∀x c,X.env.cells.lookup x=some c->c≠b)/\∀p∈X.pn++pins,p.1≠b)
 (keep:∀b o,b≠X.env.locals->b∉X.fs->b∉ch->s.heap.get? b=some o->H b=none->h'.get? b=some o)
 (slot:∀b o,b≠X.env.locals->b∈X.fs->b∉ch->s.heap.get? b=some o->H b=none->∃sl,h'.get? b=some { o with slots:=sl }) (free:∀b o,b∉ch->s.heap.get? b=some o->H b=none->H' b=none)
 (there:∀b o,b∉ch->s.heap.get? b=some o->∃o',h'.get? b=some o')
 (tups:∀b xs,H b=some (.tup xs)->H' b=some (.tup xs)) (frzs:∀b o u,H b=some (.frz o u)->H' b=some (.frz o u)) (tbls:∀b ps,H b=some (.tbl ps)->∃more,H' b=some (.tbl (ps++more)))
 (ns:∀m,s.heap.Ns X.env.locals m->h'.Ns X.env.locals m) (hok:HOk X.prog X.w H' h') (hg:AllBare g'):
 Inv X pins σ H' { s with heap:=h',gens:=g',drawn:=d',toks:=t' }:=by
 have neL:∀b o,X.s₀.heap.get? b=some o->b≠X.env.locals:=λb o e=>D_ (A_ (x_ e) I.ok.above);have neC:∀b o,X.s₀.heap.get? b=some o->b∉X.ex->b∉ch:=λb o e hx hb=>by
  rcases (hch b hb).1 with z |z
  .exact hx z
  .exact absurd (A_ (x_ e) z) (En _)
 have cellK:∀x c,X.env.cells.lookup x=some c->∀v,s.heap.IsCell c v->h'.IsCell c v:=λx c e v ⟨o,ho,hd⟩=>by
  have nch:c∉ch:=λz=>(hch c z).2.2.1 x c e rfl;by_cases hc:c∈X.fs
  .obtain⟨sl,q⟩:=slot c o (I.cne x c e) hc nch ho (I.freeC x c e);exact⟨_,q,hd⟩
  .exact⟨o,keep c o (I.cne x c e) hc nch ho (I.freeC x c e),hd⟩
 refine⟨I.ok,I.os,hg,⟨λb o e n hb hx=>?_,λb o e n hb hx=>?_,λb o e n hx=>?_,λb o e hx=>?_,λb xs e=>tups b xs (I.base.tups b xs e),λb o xs e=>frzs b o xs (I.base.frzs b o xs e),λb ps e=>?_⟩,?_,λx c e=>?_,?_,λx c e=>?_,λp hp=>?_,hok,I.len⟩
 .exact keep b o (neL b o e) hb (neC b o e hx) (I.base.keep b o e n hb hx) (I.base.free b o e n hx)
 .obtain⟨sl,e1⟩:=I.base.slot b o e n hb hx;obtain⟨sl',e2⟩:=slot b _ (neL b o e) hb (neC b o e hx) e1 (I.base.free b o e n hx);exact⟨sl',e2⟩
 .obtain⟨o',e1⟩:=I.base.there b o e hx;exact free b o' (neC b o e hx) e1 (I.base.free b o e n hx)
 .obtain⟨o',e1⟩:=I.base.there b o e hx;exact there b o' (neC b o e hx) e1
 .obtain⟨m1,e1⟩:=I.base.tbls b ps e;obtain⟨m2,e2⟩:=tbls b _ e1;exact⟨m1++m2,by rw[e2,Array.append_assoc]⟩
 .obtain⟨m,hn,hl⟩:=I.loc;refine⟨m,ns m hn,λi x v e1 e2 e3=>?_⟩;obtain⟨u,r,l⟩:=hl i x v e1 e2 e3;refine⟨u,r,?_⟩;rcases l with l |⟨k,c,e,z⟩
  .exact .inl l
  .exact .inr ⟨k,c,e,cellK x c e _ z⟩
 .obtain⟨v,z⟩:=I.cell x c e;exact⟨v,cellK x c e v z⟩
 .obtain⟨m,⟨o,_,_,ho,_⟩,_⟩:=I.loc;exact free _ o (λz=>(hch _ z).2.1 rfl) ho I.free
 .obtain⟨v,o,ho,hd⟩:=I.cell x c e;exact free c o (λz=>(hch c z).2.2.1 x c e rfl) ho (I.freeC x c e)
 .obtain⟨e,n,ne,nf,d⟩:=I.pin p hp;have nch:p.1∉ch:=λz=>(hch p.1 z).2.2.2 p hp rfl;exact⟨keep p.1 p.2 ne nf nch e n,free p.1 p.2 nch e n,ne,nf,d⟩
def Inv.un{t':Nat}(I:Inv X pins σ H s)(u:Un X.fs [] H H' s.heap h')(hok:HOk X.prog X.w H' h'):Inv X pins σ H' { s with heap:=h',toks:=t' }:=by obtain⟨m,⟨o,es,ep,ho,r⟩,_⟩:=id I.loc;obtain⟨sl,hL⟩:=u.any ho I.free (by simp);exact I.step (g':=s.gens) (d':=s.drawn) (ch:=[]) (λ_ z=>nomatch z) (λb o _ hb _ e n=>u.keep b o e n hb (by simp)) (λb o _ hb _ e n=>u.slot b o e n hb (by simp)) (λb o _ e n=>u.free b o e n (by simp)) (λb o _ e=>u.there b o e (by simp)) u.tups u.frzs u.tbls (λm' hm=>by obtain⟨o',es',ep',ho',r'⟩:=hm;rw[ho] at ho';cases ho';exact⟨_,es',ep',hL,r'⟩) hok I.bare
def Inv.call{g':Array GenState}{t':Nat}{d':Drawn}{ch:List Addr}(I:Inv X pins σ H s)(u:Un (frs X.stack) ch H H' s.heap h')(hok:HOk X.prog X.w H' h')(hg:AllBare g')
 (hch:∀b∈ch,(b∈X.ex\/X.s₀.heap.objs.size<=b)/\b≠X.env.locals/\(∀x c,X.env.cells.lookup x=some c->c≠b)/\∀p∈X.pn++pins,p.1≠b):
 Inv X pins σ H' { s with heap:=h',gens:=g',drawn:=d',toks:=t' }:=by
 obtain⟨m,⟨o,es,ep,ho,r⟩,_⟩:=id I.loc;obtain⟨sl,hL⟩:=u.any ho I.free λz=>(hch _ z).2.1 rfl;exact I.step (ch:=ch) hch (λb o hL hb hc e n=>u.keep b o e n (λz=>(Eg.mp (I.stkSub b z)).elim hL hb) hc) (λb o _ _ hc e n=>u.any e n hc) (λb o hc e n=>u.free b o e n hc) (λb o hc e=>u.there b o e hc) u.tups u.frzs u.tbls (λm' hm=>by obtain⟨o',es',ep',ho',r'⟩:=hm;rw[ho] at ho';cases ho';exact⟨_,es',ep',hL,r'⟩) hok hg
def Inv.turned{t':Nat}{it:Addr}(I:Inv X pins σ H s)(k:∀b o,b≠it->s.heap.get? b=some o->h'.get? b=some o)(hn:H it=none)(hL:it≠X.env.locals)
 (h1:it∈X.ex\/X.s₀.heap.objs.size<=it) (h2:∀x c,X.env.cells.lookup x=some c->c≠it) (h3:∀p∈X.pn++pins,p.1≠it):Inv X pins σ H { s with heap:=h',toks:=t' }:=by
 have nit:∀b u,H b=some u->b≠it:=λb u e z=>by rw[z,hn] at e;cases e
 refine I.step (g':=s.gens) (d':=s.drawn) (ch:=[it]) (λb hb=>?_) (λb o _ _ hc e _=>k b o (λz=>hc (by simp [z])) e) (λb o _ _ hc e _=>⟨o.slots,k b o (λz=>hc (by simp [z])) e⟩) (λ_ _ _ _ n=>n)
  (λb o hc e=>⟨o,k b o (λz=>hc (by simp [z])) e⟩) (λ_ _ e=>e) (λ_ _ _ e=>e) (λb ps e=>⟨#[],by rw[e];simp⟩) (λm hm=>?_) (λb u e=>?_) I.bare
 .have e:b=it:=by simpa using hb
  subst e;exact⟨h1,hL,h2,h3⟩
 .obtain⟨o,es,ep,ho,r⟩:=hm;exact⟨o,es,ep,k _ o (Ne.symm hL) ho,r⟩
 .refine (I.hok b u e).stay (λc v hc q=>k c v ?_ q) (λ_ q=>q) λ_ _ q=>q;rcases hc with z |z
  .rw[z];exact nit b u e
  .exact nit c _ z
def Inv.tok(I:Inv X pins σ H s)(t:Nat):Inv X pins σ H { s with toks:=t }:=I.un (h':=s.heap) (t':=t) Un.refl I.hok
def Inv.kept(I:Inv X pins σ H s)(k:∀b u,s.heap.get? b=some u->h'.get? b=some u):Inv X pins σ H { s with heap:=h',toks:=t' }:=I.un (Un.kept k) (I.hok.kept k)
def Inv.laid(I:Inv X pins σ H s)(k:∀b u,s.heap.get? b=some u->h'.get? b=some u)(hp:s.heap.objs.size<=a)(new:ObjOk X.prog X.w (upd H a o) h' a o):
 Inv X pins σ (upd H a o) { s with heap:=h',toks:=t' }:=I.un (Un.laid k hp (I.hok.fresh hp)) (I.hok.laid k hp new)
def Inv.write(I:Inv X pins σ H s)(mu:Mut (H x))(he:e=x\/H e=some (.own x))(k:∀b u,b≠e->s.heap.get? b=some u->h'.get? b=some u)(heo:∃u,h'.get? e=some u)
 (new:ObjOk X.prog X.w (upd H x o) h' x o):Inv X pins σ (upd H x o) { s with heap:=h',toks:=t' }:=I.un (Un.write mu he k heo) (I.hok.write mu he k heo new)
def Inv.pins_of(I:Inv X pins σ H s)(h:∀p∈pins',s.heap.get? p.1=some p.2/\H p.1=none/\p.1≠X.env.locals/\p.1∉X.fs/\∀v,p.2.data ≠ .cell v):Inv X pins' σ H s:=
 ⟨I.ok,I.os,I.bare,I.base,I.loc,I.cell,I.free,I.freeC,λp hp=>(EU.mp hp).elim (λz=>I.pin p (List.mem_append_left _ z)) (h p),I.hok,I.len⟩
def jX{N:List Str}(hN:N.Nodup){i j:Nat}{x:Str}(a:N[i]?=some x)(b:N[j]?=some x):i=j:=by obtain⟨h1,e1⟩:=p_.mp a;obtain⟨h2,e2⟩:=p_.mp b;exact (List.getElem_inj hN).mp (e1.trans e2.symm)
def jg(I:Inv X pins σ H s)(hN:X.N.Nodup)(hi:X.N[i]?=some x)(hx:Loc X.env.scope x)(r:RelV v u)
 (h:∀s',Inv X pins (σ.set i (some v)) H s'->(∃a,Heap.SameBut a s.heap s'.heap/\(a=X.env.locals\/X.env.cells.lookup x=some a))->Q () s') (hf:X.fn x=true\/X.env.scope.names.lookup x=some .local):wpAny M A (storeName X.env x u) Q E s:=by
 obtain⟨m,hn,hl⟩:=id I.loc;have hcls:(X.env.scope.kind == .class || (X.env.scope.kind == .module&&X.env.locals != X.env.globals))=false:=by rw[I.ok.kind];rfl
 have hiσ:i<σ.length:=by rw[I.len];exact (p_.mp hi).1
 have cne:=I.cne;have tracked:∀{a:Addr}{h':Heap},(∃o,s.heap.get? a=some o/\H a=none)->Heap.SameBut a s.heap h'->HOk X.prog X.w H h':=λ{a h'} ha hs b ob e=>by
  obtain⟨_,_,hfree⟩:=ha;refine (I.hok b ob e).stay (λc w' hc q=>(hs.2 c ?_).trans q) (λ_ q=>q) λ_ _ q=>q;rintro rfl;rcases hc with rfl |hc
  .rw[hfree] at e;cases e
  .rw[hfree] at hc;cases hc
 rcases hx with hk |hk
 .refine wpAny_storeName_local hk hn (λh' hn' hs=>?_) hcls;obtain⟨oL,_,_,hoL,_⟩:=id hn;refine h _ ⟨I.ok,I.os,I.bare,⟨λb o e n hb hx=>?_,λb o e n hb hx=>?_,I.base.free,λb o e hx=>?_,I.base.tups,I.base.frzs,I.base.tbls⟩,⟨_,hn',λj y v' e1 e2 e3=>?_⟩,λy c e=>?_,I.free,I.freeC,λp hp=>?_,tracked ⟨oL,hoL,I.free⟩ hs,by simpa using I.len⟩ ⟨_,hs,.inl rfl⟩
  .exact (hs.2 b (D_ (A_ (x_ e) I.ok.above))).trans (I.base.keep b o e n hb hx)
  .obtain⟨sl,e1⟩:=I.base.slot b o e n hb hx;exact⟨sl,(hs.2 b (D_ (A_ (x_ e) I.ok.above))).trans e1⟩
  .obtain⟨o',e1⟩:=I.base.there b o e hx;exact⟨o',(hs.2 b (D_ (A_ (x_ e) I.ok.above))).trans e1⟩
  .by_cases hj:j=i
   .subst hj;rw[hi] at e1;cases e1;rw[List.getElem?_set_self hiσ] at e2;cases e2;exact⟨u,r,.inl ⟨hk,by simp⟩⟩
   .rw[Fy (Ne.symm hj)] at e2;obtain⟨u',r',q⟩:=hl j y v' e1 e2 e3;refine⟨u',r',?_⟩;rcases q with ⟨k,e⟩ |⟨k,c,e,z⟩
    .refine .inl ⟨k,?_⟩;have:y≠x:=λe=>hj (jX hN e1 (e ▸ hi));simp [this,e]
    .exact .inr ⟨k,c,e,z.sameBut hs (cne y c e)⟩
  .obtain⟨w',z⟩:=I.cell y c e;exact⟨w',z.sameBut hs (cne y c e)⟩
  .obtain⟨e,n,ne,nf,d⟩:=I.pin p hp;exact⟨(hs.2 p.1 ne).trans e,n,ne,nf,d⟩
 .have hfn:X.fn x=true:=by
   rcases hf with z |z
   .exact z
   .rw[z] at hk;cases hk
  obtain⟨c,hc⟩:=I.ok.has x (.inl hk);obtain⟨w',z⟩:=I.cell x c hc;refine wpAny_storeName_cell I.ok.kind hk hc z (λh' hc' hs=>?_);obtain⟨oc,hoc,hocd⟩:=id z;refine h { s with heap:=h' } ⟨I.ok,I.os,I.bare,⟨λb o e n hb hx=>?_,λb o e n hb hx=>?_,I.base.free,λb o e hx=>?_,I.base.tups,I.base.frzs,I.base.tbls⟩,⟨m,hn.sameBut hs (Ne.symm (cne x c hc)),λj y v' e1 e2 e3=>?_⟩,λy c' e=>?_,I.free,I.freeC,λp hp=>?_,tracked ⟨oc,hoc,I.freeC x c hc⟩ hs,by simpa using I.len⟩ ⟨c,hs,.inr hc⟩
  .exact (hs.2 b (D_ (A_ (x_ e) (I.ok.cab x c hfn hc)))).trans (I.base.keep b o e n hb hx)
  .obtain⟨sl,e1⟩:=I.base.slot b o e n hb hx;exact⟨sl,(hs.2 b (D_ (A_ (x_ e) (I.ok.cab x c hfn hc)))).trans e1⟩
  .obtain⟨o',e1⟩:=I.base.there b o e hx;exact⟨o',(hs.2 b (D_ (A_ (x_ e) (I.ok.cab x c hfn hc)))).trans e1⟩
  .by_cases hj:j=i
   .subst hj;rw[hi] at e1;cases e1;rw[List.getElem?_set_self hiσ] at e2;cases e2;exact⟨u,r,.inr ⟨.inl hk,c,hc,hc'⟩⟩
   .rw[Fy (Ne.symm hj)] at e2;obtain⟨u',r',q⟩:=hl j y v' e1 e2 e3;refine⟨u',r',?_⟩;rcases q with q |⟨k,c',e,z'⟩
    .exact .inl q
    .refine .inr ⟨k,c',e,z'.sameBut hs ?_⟩;rintro rfl;exact hj (jX hN e1 (I.ok.inj _ _ _ e hc ▸ hi))
  .by_cases hcc:c'=c
   .subst hcc;exact⟨_,hc'⟩
   .obtain⟨w2,z2⟩:=I.cell y c' e;exact⟨w2,z2.sameBut hs hcc⟩
  .obtain⟨e,n,ne,nf,d⟩:=I.pin p hp;refine⟨(hs.2 p.1 ?_).trans e,n,ne,nf,d⟩;intro q;rw[q,hoc] at e;have q':oc=p.2:=DX e;exact d w' (by rw[<- q'];exact hocd)
def ek(I:Inv X pins σ H s)(hN:X.N.Nodup)(hi:X.N[i]?=some x)(hx:Loc X.env.scope x)(r:RelV v u)
 (h:∀s',Inv X pins (σ.set i (some v)) H s'->Q () s') (hf:X.fn x=true\/X.env.scope.names.lookup x=some .local):wpAny M A (storeName X.env x u) Q E s:=
 jg I hN hi hx r (λs' I' _=>h s' I') hf
def Inv.call'(I:Inv X pins σ H s)(ho:s'.os=s.os)(u:Un (frs X.stack) ch H H' s.heap s'.heap)(hok:HOk X.prog X.w H' s'.heap)(hg:AllBare s'.gens)
 (hch:∀b∈ch,(b∈X.ex\/X.s₀.heap.objs.size<=b)/\b≠X.env.locals/\(∀x c,X.env.cells.lookup x=some c->c≠b)/\∀p∈X.pn++pins,p.1≠b):Inv X pins σ H' s':=by
 obtain⟨h',g',d',t',o'⟩:=s';have e:o'=s.os:=ho;subst e;exact I.call (g':=g') (t':=t') (d':=d') u hok hg hch
end
abbrev XK:=Value->Option Addr->Hp->Prop
abbrev St:=List (Option V)
abbrev VK:=V->Hp->Prop
abbrev TE:=St->Hp->VK->Prop
abbrev TT:=St->Hp->(Bool->Hp->Prop)->Prop
abbrev TA:=St->Hp->(List V->Hp->Prop)->Prop
structure Ends where
 nx:St->Hp->Prop
 rt:VK
 bk:St->Hp->Prop:=λ_ _=>False
 ct:St->Hp->Prop:=λ_ _=>False
abbrev TS:=Ends->St->Hp->Prop
def EP(X:Cx)(pins:Gb)(σ:St)(Q:VK)(u:Value)(s':Shared):Prop:=∃v H',Inv X pins σ H' s'/\RelV v u/\Q v H'
def TP(X:Cx)(pins:Gb)(σ:St)(Q:Bool->Hp->Prop)(b:Bool)(s':Shared):Prop:=∃H',Inv X pins σ H' s'/\Q b H'
def AP(X:Cx)(pins:Gb)(σ:St)(Q:List V->Hp->Prop)(us:List Value)(s':Shared):Prop:=∃vs H',Inv X pins σ H' s'/\Vals vs us/\Q vs H'
def SP(X:Cx)(pins:Gb)(D:Ends)(f:Flow)(s':Shared):Prop:=
 match f with
 |.next=>∃σ' H',Inv X pins σ' H' s'/\D.nx σ' H'
 |.brk=>∃σ' H',Inv X pins σ' H' s'/\D.bk σ' H'
 |.cont=>∃σ' H',Inv X pins σ' H' s'/\D.ct σ' H'
 |.ret u=>∃v σ' H',Inv X pins σ' H' s'/\RelV v u/\D.rt v H'
def PE(X:Cx)(e:Expr)(t:TE):Prop:=
 ∀(pins:Gb) (s:Shared) (σ:St) (H:Hp) (Q:VK),Inv X pins σ H s->t σ H Q->wpAny (model X.prog X.w) X.A (eval e X.env) (EP X pins σ Q) X.xe s
def PT(X:Cx)(e:Expr)(t:TT):Prop:=
 ∀(pins:Gb) (s:Shared) (σ:St) (H:Hp) (Q:Bool->Hp->Prop),Inv X pins σ H s->t σ H Q->wpAny (model X.prog X.w) X.A (isTrue e X.env (eval e X.env)) (TP X pins σ Q) X.xe s
def PW(X:Cx)(e:Expr)(t:TT):Prop:=
 ∀(l_:Sem Value) (pins:Gb) (s:Shared) (σ:St) (H:Hp) (Q:Bool->Hp->Prop),Inv X pins σ H s->t σ H Q->wpAny (model X.prog X.w) X.A (isTrue e X.env l_) (TP X pins σ Q) X.xe s
def PW.pt(h:PW X e t):PT X e t:=h _
def PA(X:Cx)(es:List Expr)(t:TA):Prop:=
 ∀(pos:Pos) (pins:Gb) (s:Shared) (σ:St) (H:Hp) (Q:List V->Hp->Prop),Inv X pins σ H s->t σ H Q->wpAny (model X.prog X.w) X.A (spliced (backTo pos (starEach es X.env))) (AP X pins σ Q) X.xe s
def PS(X:Cx)(st:Stmt)(t:TS):Prop:=
 ∀(pins:Gb) (s:Shared) (σ:St) (H:Hp) (D:Ends),Inv X pins σ H s->t D σ H->wpAny (model X.prog X.w) X.A (exec st X.env) (SP X pins D) X.xe s
def PSs(X:Cx)(st:List Stmt)(t:TS):Prop:=
 ∀(pins:Gb) (s:Shared) (σ:St) (H:Hp) (D:Ends),Inv X pins σ H s->t D σ H->wpAny (model X.prog X.w) X.A (execs st X.env) (SP X pins D) X.xe s
def thn(h:wpAny M A t Q E s)(hQ:∀a s,Q a s->Q' a s):wpAny M A t Q' E s:=Ee h hQ λ_ _ x=>x
section
variable{X:Cx}
def tVar(i:Nat):TE:=λσ H Q=>∃v,σ[i]?=some (some v)/\Q v H
def tC(v:V):TE:=λ_ H Q=>Q v H
def yi(hN:X.N[i]?=some x)(hv:Vis X.env.scope x)(hd:(x==("__debug__" : Str))=false)(hcd:(x==("__classdict__" : Str))=false):PE X (.Name x pos) (tVar i):=by
 intro pins s σ H Q I h;obtain⟨v,e,h⟩:=h;obtain⟨m,hn,hl⟩:=I.loc;obtain⟨u,r,l⟩:=hl i x v hN e hv;have k_:EP X pins σ Q u s:=⟨v,H,I,r,h⟩;rcases l with ⟨hk,hm⟩ |⟨hk,c,hc,hcell⟩
 .exact wpAny_Name (wpAny_loadName_local I.ok.kind hk hn hm k_) hd
 .rcases hk with hk |hk
  .exact wpAny_Name (wpAny_loadName_cell I.ok.kind hk hc hcell k_) hd
  .exact wpAny_Name (wpAny_loadName_free I.ok.kind hk hc hcell k_ hcd) hd
def zL{i j pos}:PE X (.Constant (.int i) j pos) (tC (.int i)):=λ_ _ _ H _ I h=>wpAny_Constant_int ⟨.int i,H,I.tok _,⟨_,rfl⟩,h⟩
def CD{b j pos}:PE X (.Constant (.bool b) j pos) (tC (.bl b)):=λ_ _ _ H _ I h=>Constant_bool ⟨.bl b,H,I,rfl,h⟩
def pV{x j pos}:PE X (.Constant (.str x) j pos) (tC (.str x)):=λ_ _ _ H _ I h=>Calls.Constant_str ⟨.str x,H,I.tok _,⟨_,rfl⟩,h⟩
def Gl(X:Cx)(x:Str):Prop:=X.env.kindOf x=some .globalImplicit
def iU(I:Inv X pins σ H s)(hg:Gl X x)(hm:X.mg x=some u)(h:Q u s)
 (hd:(x==("__debug__" : Str))=false):wpAny (model X.prog X.w) X.A (eval (.Name x pos) X.env) Q E s:=
 Calls.Name_function_global I.ok.kind hg (Calls.loadGlobal_global (by rw[I.ok.glob];exact I.mod.glob.keeps I.bk) hm h) hd
def fi(I:Inv X pins σ H s)(hg:Gl X x)(hm:X.mg x=none)(hv:bootBuiltins x=some u)(h:Q u s)
 (hn:x ≠ "__name__":=by decide) (hd:(x==("__debug__" : Str))=false:=by decide):wpAny (model X.prog X.w) X.A (eval (.Name x pos) X.env) Q E s:=by
 obtain⟨mb,h1,h2⟩:=I.mod.blt;exact Calls.Name_function_global I.ok.kind hg (Calls.loadGlobal_builtin (by rw[I.ok.glob];exact I.mod.glob.keeps I.bk) hm (by rw[I.ok.blt];exact h1.keeps I.bk) ((h2 x hn).trans hv) h) hd
def uF(hg:Gl X x)(hm:X.mg x=some u)(r:RelV v u)(hd:(x==("__debug__" : Str))=false):PE X (.Name x pos) (tC v):=
 λ_ _ _ H _ I h=>iU I hg hm ⟨v,H,I,r,h⟩ hd
def u9(hg:Gl X x)(hm:X.mg x=none)(hv:bootBuiltins x=some u)(r:RelV v u)(hn:x ≠ "__name__")(hd:(x==("__debug__" : Str))=false):PE X (.Name x pos) (tC v):=
 λ_ _ _ H _ I h=>fi I hg hm hv ⟨v,H,I,r,h⟩ hn hd
variable{a b:Expr}{ta tb:TE}{pos:Pos}
def tB(t:TE):TT:=λσ H Q=>t σ H λx H1=>∃c,x=.bl c/\Q c H1
def xK(h:PE X e t)(he:∀l_,isTrue e X.env l_=(do let v <- l_;standAt e.pos;holding [v] (truthy v))):PT X e (tB t):=by intro pins s σ H Q I hw;refine isTrue_plain (thn (h pins s σ H _ I hw) λv s1 ⟨x,H1,I1,r1,q1⟩=>?_) (he _);obtain⟨d,rfl,q⟩:=q1;cases r1;exact Ez ⟨H1,I1,q⟩
variable{tA tB':TT}{cF:List Expr}
def tAnd(t u:TT):TT:=λσ H Q=>t σ H λc H1=>if c=true then u σ H1 Q else Q false H1
def tOr(t u:TT):TT:=λσ H Q=>t σ H λc H1=>if c=true then Q true H1 else u σ H1 Q
def tNot(t:TT):TT:=λσ H Q=>t σ H λc H1=>Q (!c) H1
def vh(ha:PT X a tA):PW X (.BoolOp .And [a] pos) tA:=by
 intro wh pins s σ H Q I h;refine isTrue_and (thn (ha pins s σ H Q I h) λc s1 e=>?_);cases c with
 |true=>exact isTrue_and_nil e
 |false=>exact e
def xn(ha:PT X a tA):PW X (.BoolOp .Or [a] pos) tA:=by
 intro wh pins s σ H Q I h;refine isTrue_or (thn (ha pins s σ H Q I h) λc s1 e=>?_);cases c with
 |false=>exact isTrue_or_nil e
 |true=>exact e
def xf(ha:PT X a tA)(hb:PW X (.BoolOp .And (b::cF) pos) tB'):PW X (.BoolOp .And (a::b::cF) pos) (tAnd tA tB'):=by
 intro wh pins s σ H Q I h;refine isTrue_and (thn (ha pins s σ H _ I h) λc s1 ⟨H1,I1,q1⟩=>?_);cases c with
 |true=>exact hb wh pins s1 σ H1 Q I1 q1
 |false=>exact⟨H1,I1,q1⟩
def B7(ha:PT X a tA)(hb:PW X (.BoolOp .Or (b::cF) pos) tB'):PW X (.BoolOp .Or (a::b::cF) pos) (tOr tA tB'):=by
 intro wh pins s σ H Q I h;refine isTrue_or (thn (ha pins s σ H _ I h) λc s1 ⟨H1,I1,q1⟩=>?_);cases c with
 |true=>exact⟨H1,I1,q1⟩
 |false=>exact hb wh pins s1 σ H1 Q I1 q1
def AS(ha:PT X a tA):PT X (.UnaryOp .Not a pos) (tNot tA):=by intro pins s σ H Q I h;exact isTrue_not (ha pins s σ H (λc H1=>Q (!c) H1) I h)
def Cp(ta tb:TE):TE:=λσ H Q=>ta σ H λx H1=>∃c,x=.bl c/\if c=true then tb σ H1 Q else Q (.bl false) H1
def tOrV(ta tb:TE):TE:=λσ H Q=>ta σ H λx H1=>∃c,x=.bl c/\if c=true then Q (.bl true) H1 else tb σ H1 Q
def CY(ta:TE):TE:=λσ H Q=>ta σ H λx H1=>∃c,x=.bl c/\Q (.bl (!c)) H1
def yD{op}(h:PE X a t):PE X (.BoolOp op [a] pos) t:=λpins s σ H Q I hw=>BoolOp_one (h pins s σ H Q I hw)
def zT(ha:PE X a ta)(hb:PE X (.BoolOp .And (b::cF) pos) tb):PE X (.BoolOp .And (a::b::cF) pos) (Cp ta tb):=by
 intro pins s σ H Q I h;refine BoolOp_and (thn (ha pins s σ H _ I h) λv s1 ⟨x,H1,I1,r1,q1⟩=>?_);obtain⟨c,rfl,q1⟩:=q1;cases r1;refine Ez ?_;cases c with
 |true=>exact hb pins s1 σ H1 Q I1 q1
 |false=>exact⟨.bl false,H1,I1,rfl,q1⟩
def Ck(ha:PE X a ta)(hb:PE X (.BoolOp .Or (b::cF) pos) tb):PE X (.BoolOp .Or (a::b::cF) pos) (tOrV ta tb):=by
 intro pins s σ H Q I h;refine BoolOp_or (thn (ha pins s σ H _ I h) λv s1 ⟨x,H1,I1,r1,q1⟩=>?_);obtain⟨c,rfl,q1⟩:=q1;cases r1;refine Ez ?_;cases c with
 |false=>exact hb pins s1 σ H1 Q I1 q1
 |true=>exact⟨.bl true,H1,I1,rfl,q1⟩
def yF(ha:PE X a ta):PE X (.UnaryOp .Not a pos) (CY ta):=by intro pins s σ H Q I h;refine UnaryOp_ (thn (ha pins s σ H _ I h) λv s1 ⟨x,H1,I1,r1,q1⟩=>?_);obtain⟨c,rfl,q1⟩:=q1;cases r1;exact not_of (Ez ⟨.bl (!c),H1,I1,rfl,q1⟩)
end
def SqL(K:W.Frag)(H:Hp)(a:Addr)(xs:List V):Prop:=
 Rd H a (.lst xs)\/
  ∃(o:Obj) (its:Array Value) (n:Nat),K.lookup a=some o/\o.cls=.type "list" /\ o.dict=none/\o.data=.seq its n/\its.size<=sizeLine/\Vals xs its.toList
def SqT(K:W.Frag)(H:Hp)(a:Addr)(xs:List V):Prop:=
 Rd H a (.tup xs)\/
  ∃(o:Obj) (its:Array Value) (n:Nat),K.lookup a=some o/\o.cls=.type "tuple" /\ o.data=.seq its n/\its.size<=sizeLine/\Vals xs its.toList
noncomputable def absV:Value->Option V
 |.none=>some .non
 |.bool b=>some (.bl b)
 |.int i _=>some (.int i)
 |.str x _=>some (.str x)
 |.bytes b _=>some (.byt b)
 |.float b _=>some (.flt b)
 |.ref a=>some (.ref a)
 |.type n=>some (.ty n)
 |_=>none
def RelV.abs(r:RelV x u):absV u=some x:=by
 cases x with
 |non=>cases r;rfl
 |bl _=>cases r;rfl
 |int _=>obtain⟨t,rfl⟩:=r;rfl
 |str _=>obtain⟨t,rfl⟩:=r;rfl
 |byt _=>obtain⟨t,rfl⟩:=r;rfl
 |flt _=>obtain⟨t,rfl⟩:=r;rfl
 |ref _=>cases r;rfl
 |ty _=>cases r;rfl
def RelV.inj(r:RelV x u)(q:RelV y u):x=y:=DX (r.abs.symm.trans q.abs)
def Vals.inj(r:Vals xs us)(q:Vals ys us):xs=ys:=by
 induction r generalizing ys with
 |nil=>cases q;rfl
 |
  cons r t ih=>
  cases q with
  |cons q t'=>rw[r.inj q,ih t']
section
variable{X:Cx}{pins:Gb}{σ:St}{H:Hp}{s:Shared}{a:Addr}{xs ys:List V}
def SqL.of{K:W.Frag}(h:H a=some (.lst xs)):SqL K H a xs:=.inl (.inl h)
def SqT.of{K:W.Frag}(h:H a=some (.tup xs)):SqT K H a xs:=.inl (.inl h)
def Inv.list(I:Inv X pins σ H s)(h:SqL X.K H a xs):∃its:List Value,Vals xs its/\PlainL s.heap a its.toArray/\xs.length<=sizeLine:=by
 rcases h with h |⟨o,its,n,hk,hc,hd,hs,hz,r⟩
 .obtain⟨z,its,n,r,e⟩:=h.ok I.hok;exact⟨its,r,⟨_,n,e,rfl,rfl,rfl⟩,z⟩
 .refine⟨its.toList,r,⟨o,n,I.kIn a o hk,hc,hd,by simpa using hs⟩,?_⟩;have e:=r.length;simp only[FF] at e;omega
def Inv.tuple(I:Inv X pins σ H s)(h:SqT X.K H a xs):∃its:List Value,Vals xs its/\IsTup s.heap a its.toArray/\xs.length<=sizeLine:=by
 rcases h with h |⟨o,its,n,hk,hc,hs,hz,r⟩
 .obtain⟨z,its,r,p⟩:=h.ok I.hok;exact⟨its,r,p,z⟩
 .refine⟨its.toList,r,⟨o,I.kIn a o hk,hc,n,by simpa using hs⟩,?_⟩;have e:=r.length;simp only[FF] at e;omega
def Inv.list_inj(I:Inv X pins σ H s)(h:SqL X.K H a xs)(h':SqL X.K H a ys):xs=ys:=by
 obtain⟨its,r,⟨o,n,e,_,_,d⟩,_⟩:=I.list h;obtain⟨its',r',⟨o',n',e',_,_,d'⟩,_⟩:=I.list h';rw[e] at e';cases e';rw[d] at d';injection d' with d1 _;have:its=its':=by simpa using Ey Array.toList d1
 subst this;exact r.inj r'
def Inv.tuple_inj(I:Inv X pins σ H s)(h:SqT X.K H a xs)(h':SqT X.K H a ys):xs=ys:=by
 obtain⟨its,r,⟨o,e,_,n,d⟩,_⟩:=I.tuple h;obtain⟨its',r',⟨o',e',_,n',d'⟩,_⟩:=I.tuple h';rw[e] at e';cases e';rw[d] at d';injection d' with d1 _;have:its=its':=by simpa using Ey Array.toList d1
 subst this;exact r.inj r'
end
section
variable{X:Cx}{st:Stmt}{cF:List Stmt}{t u:TS}{e:Expr}{te:TE}{pos:Pos}
def B0:TS:=λD σ H=>D.nx σ H
def tSeq(t u:TS):TS:=λD σ H=>t { D with nx:=u D } σ H
def vF:PSs X [] B0:=λ_ _ σ H _ I h=>FE ⟨σ,H,I,h⟩
def sk(h1:PS X st t)(h2:PSs X cF u):PSs X (st::cF) (tSeq t u):=by
 intro pins s σ H D I h;refine wpAny_execs_cons (thn (h1 pins s σ H { D with nx:=u D } I h) λf s1 q=>?_);cases f with
 |next=>obtain⟨σ',H',I',q⟩:=q;exact h2 pins s1 σ' H' D I' q
 |ret v=>exact q
 |brk=>exact q
 |cont=>exact q
def u4(h1:PS X st t):PSs X [st] t:=by
 intro pins s σ H D I h;refine wpAny_execs_cons (thn (h1 pins s σ H D I h) λf s1 q=>?_);cases f with
 |next=>exact FE q
 |ret v=>exact q
 |brk=>exact q
 |cont=>exact q
def Inv.quiet(I:Inv X pins σ H s):interactive X.env=false:=by simp [interactive,I.ok.kind]
def C0(te:TE):TS:=λD σ H=>te σ H λ_ H1=>D.nx σ H1
def uJ(he:PE X e te)(hs:swapsWith e none pos.line X.env=pure false):PS X (.Expr e pos) (C0 te):=by intro pins s σ H D I h;exact wpAny_Expr_any (thn (he pins s σ H _ I h) λv s1 ⟨x,H1,I1,r1,q1⟩=>⟨σ,H1,I1,q1⟩) I.quiet hs
def tRet(te:TE):TS:=λD σ H=>te σ H D.rt
def zW(he:PE X e te):PS X (.Return (some e) pos) (tRet te):=by intro pins s σ H D I h;exact wpAny_Return_some (thn (he pins s σ H _ I h) λv s1 ⟨x,H1,I1,r1,q1⟩=>⟨x,σ,H1,I1,r1,q1⟩)
def tIfS(c:TT)(t u:TS):TS:=λD σ H=>c σ H λb H1=>if b=true then t D σ H1 else u D σ H1
def CO(hc:PT X c tc)(ha:PSs X a t)(hb:PSs X b u):PS X (.If c a b pos) (tIfS tc t u):=by
 intro pins s σ H D I h;refine wpAny_If (thn (hc pins s σ H _ I h) λd s1 ⟨H1,I1,q1⟩=>?_);cases d with
 |true=>exact ha pins s1 σ H1 D I1 q1
 |false=>exact hb pins s1 σ H1 D I1 q1
end
abbrev TG:=V->St->Hp->(St->Hp->Prop)->Prop
abbrev TGs:=List V->St->Hp->(St->Hp->Prop)->Prop
def PG(X:Cx)(target:Expr)(t:TG):Prop:=
 ∀
  (pins:Gb) (s:Shared) (σ:St) (H:Hp) (v:V) (u:Value) (Q:St->Hp->Prop),Inv X pins σ H s->RelV v u->t v σ H Q->
  wpAny (model X.prog X.w) X.A (assign target X.env u) (λ_ s'=>∃σ' H',Inv X pins σ' H' s'/\Q σ' H') X.xe s
def PGs(X:Cx)(ts:List Expr)(t:TGs):Prop:=
 ∀
  (pins:Gb) (s:Shared) (σ:St) (H:Hp) (vs:List V) (us:List Value) (Q:St->Hp->Prop),Inv X pins σ H s->Vals vs us->t vs σ H Q->
  wpAny (model X.prog X.w) X.A (assignInOrder ((assignEach ts X.env).map (·.2)) us) (λ_ s'=>∃σ' H',Inv X pins σ' H' s'/\Q σ' H') X.xe s
abbrev nA:=V->V->V->Hp->(Hp->Prop)->Prop
def ku(X:Cx)(t:nA):Prop:=
 ∀
  (pins:Gb) (s:Shared) (σ:St) (H:Hp) (o i v:V) (ov iv u:Value) (Q:Hp->Prop),Inv X pins σ H s->RelV o ov->RelV i iv->RelV v u->t o i v H Q->
  wpAny (model X.prog X.w) X.A (setItem ov iv u) (λ_ s'=>∃H',Inv X pins σ H' s'/\Q H') X.xe s
section
variable{X:Cx}{pos:Pos}
def gY(i:Nat):TG:=λv σ H Q=>Q (σ.set i (some v)) H
def vt(hN:X.N.Nodup)(hi:X.N[i]?=some x)(hx:Loc X.env.scope x)(hf:X.fn x=true\/X.env.scope.names.lookup x=some .local):PG X (.Name x pos) (gY i):=by intro pins s σ H v u Q I r h;exact wpAny_assign_Name (ek I hN hi hx r (λs' I'=>⟨_,H,I',h⟩) hf)
def gSub(to ti:TE)(t:nA):TG:=λv σ H Q=>to σ H λo H1=>ti σ H1 λi H2=>t o i v H2 λH3=>Q σ H3
def xB(ho:PE X o to)(hi:PE X i ti)(hs:ku X t)
 (ha:∀v,assign (.Subscript o i pos) X.env v=(do
  let ov <- holding [v] (eval o X.env)
  let iv <- holding [v,ov] (eval i X.env)
  standAt pos
  holding [v,ov,iv] (setItem ov iv v)
  release [v,ov,iv] [])):PG X (.Subscript o i pos) (gSub to ti t):=by
 intro pins s σ H v u Q I r h;rw[ha];refine r_ (EI (thn (ho pins s σ H _ I h) λov s1 ⟨x,H1,I1,r1,q1⟩=>?_));refine r_ (EI (thn (hi pins s1 σ H1 _ I1 q1) λiv s2 ⟨y,H2,I2,r2,q2⟩=>?_));refine r_ (FI (r_ (EI (thn (hs pins s2 σ H2 x y v ov iv u _ I2 r1 r2 r q2) λ_ s3 ⟨H3,I3,q3⟩=>?_))));exact wpAny_release ⟨σ,H3,I3,q3⟩
def ke(te:TE)(g:TG):TS:=λD σ H=>te σ H λx H1=>g x σ H1 D.nx
def xq(he:PE X e te)(hg:PG X tg g)(hs:swapsWithSole [tg] e pos.line X.env=pure false)(hw:swappedStores [tg] e X.env=pure none)
 (h1:(assignEach [tg] X.env).map (·.2)=[assign tg X.env]):PS X (.Assign [tg] e pos) (ke te g):=by
 intro pins s σ H D I h;refine wpAny_Assign_stores (thn (he pins s σ H _ I h) λv s1 ⟨x,H1,I1,r1,q1⟩=>?_) hs hw;rw[h1];exact thn (hg pins s1 σ H1 x v _ I1 r1 q1) λ_ s2 q=>q
def yW(hN:X.N.Nodup)(hi:X.N[i]?=some x)(hx:Loc X.env.scope x)(he:PE X e te)(hs:swapsWith e (some (.Name x pos')) pos.line X.env=pure false)(hf:X.fn x=true\/X.env.scope.names.lookup x=some .local):
 PS X (.Assign [.Name x pos'] e pos) (ke te (gY i)):=by
 intro pins s σ H D I h;refine wpAny_Assign_Name (thn (he pins s σ H _ I h) λv s1 ⟨y,H1,I1,r1,q1⟩=>?_) hs;exact ek I1 hN hi hx r1 (λs2 I2=>⟨_,H1,I2,q1⟩) hf
def tPar(i j:Nat)(ta:TA):TS:=λD σ H=>ta σ H λvs H1=>∃v w,vs=[v,w]/\D.nx ((σ.set i (some v)).set j (some w)) H1
def zC{kt k2 pt2}(hc:X.calm=true)(hN:X.N.Nodup)(hi:X.N[i]?=some x)(hj:X.N[j]?=some y)(hij:i≠j)
 (hx:X.env.scope.names.lookup x=some .local) (hy:X.env.scope.names.lookup y=some .local) (ha:PA X [a,b] ta)
 (hw:swappedStores [.Tuple [.Name x px,.Name y py] kt pt] (.Tuple [a,b] k2 pt2) X.env=pure (some [x,y]))
 (hs:swapsWithSole [.Tuple [.Name x px,.Name y py] kt pt] (.Tuple [a,b] k2 pt2) pos.line X.env=pure false):
 PS X (.Assign [.Tuple [.Name x px,.Name y py] kt pt] (.Tuple [a,b] k2 pt2) pos) (tPar i j ta):=by
 intro pins s σ H D I h;rw[exec_Assign_arm];refine r_ (FI ?_);rw[hs];refine r_ (B_ ?_);rw[if_neg (by decide)];refine r_ (Tuple_ (thn (ha _ pins s σ H _ I h) λus s1 ⟨vs,H1,I1,r1,q1⟩=>?_));obtain⟨v,w,e1,q1⟩:=q1;subst e1;obtain⟨u1,u2,rfl,rv,rw'⟩:∃u1 u2,us=[u1,u2]/\RelV v u1/\RelV w u2:=by
  cases r1 with
  |
   cons p q=>
   cases q with
   |cons p' q'=>cases q';exact⟨_,_,rfl,p,p'⟩
 refine EJ ?_ (by show 2<=sizeLine;decide);have I2:Inv X pins σ H1 { s1 with heap:=s1.heap.push { cls:=.type "tuple",data:=.seq [u1,u2].toArray } }:=I1.kept (t':=s1.toks) λb o e=>s_ _ e;rw[hw];refine r_ (B_ ?_);show wpAny (model X.prog X.w) X.A (do rule "assign.swapped-stores";let items <- unpackItems (.ref s1.heap.objs.size) 2 none;assignInOrder [λv=>bindName X.env y v,λv=>bindName X.env x v] items.reverse;pure Flow.next) _ _ _;refine r_ (wpAny_rule (r_ (unpackItems_tuple (items:=#[u1,u2]) (I.ok.hd hc) (IsTup.new s1.heap _) λh' hx'=>?_)));have I3:=I2.kept (h':=h') (t':=s1.toks) λb o e=>hx' b o (D_ (x_ e)) e;show wpAny _ _ (assignInOrder [λv=>bindName X.env y v,λv=>bindName X.env x v] [u2,u1] >>= λ_=>pure Flow.next) _ _ _;refine r_ (assignInOrder_cons (wpAny_bindName (ek I3 hN hj (.inl hy) rw' (λs2 I4=>?_) (.inr hy))));refine assignInOrder_cons (wpAny_bindName (ek I4 hN hi (.inl hx) rv (λs3 I5=>assignInOrder_nil (B_ ?_)) (.inr hx)));rw[List.set_comm _ _ (Ne.symm hij)] at I5;exact⟨_,H1,I5,q1⟩
def AN(c:TT)(tb:TS):TS:=λD σ H=>∃W:Nat->St->Hp->Prop,(∃m,W m σ H)/\∀m σ H,W m σ H->
 c σ H λb H1=>if b=true then ∃N:St->Hp->Prop,(∀σ' H',N σ' H'->∃m',m'<m/\W m' σ' H')/\tb { D with nx:=N,ct:=N,bk:=D.nx } σ H1 else D.nx σ H1
def qQ(hp:PassesOwn (model X.prog X.w) X.A X.env X.xe)(hc:PT X c tc)(hb:PSs X body tb):PS X (.While c body [] pos) (AN tc tb):=by
 intro pins s σ H D I h;obtain⟨W,⟨m0,w0⟩,turn⟩:=h;refine wpAny_While (codeAny_whileLoop (λn s'=>∃σ' H',Inv X pins σ' H' s'/\W n σ' H') ?_ m0 ⟨σ,H,I,w0⟩);rintro n s1 ⟨σ1,H1,I1,w1⟩;refine EH hp (thn (hc pins s1 σ1 H1 _ I1 (turn n σ1 H1 w1)) λb s2 ⟨H2,I2,q2⟩=>?_);cases b with
 |
  true=>
  obtain⟨N,hN,q2⟩:=q2;rw[if_pos rfl];refine EH hp (thn (hb pins s2 σ1 H2 _ I2 q2) λf s3 q3=>?_);cases f with
  |next=>obtain⟨σ3,H3,I3,n3⟩:=q3;obtain⟨m',hm,w3⟩:=hN σ3 H3 n3;exact⟨m',hm,σ3,H3,I3,w3⟩
  |cont=>obtain⟨σ3,H3,I3,n3⟩:=q3;obtain⟨m',hm,w3⟩:=hN σ3 H3 n3;exact⟨m',hm,σ3,H3,I3,w3⟩
  |brk=>exact q3
  |ret v=>exact q3
 |false=>rw[if_neg u_];exact FE ⟨σ1,H2,I2,q2⟩
end
structure It where
 go:Nat->Hp->Prop
 yld:Nat->Hp->V->Hp->Prop
 stop:Nat->Hp->Prop
def gf(X:Cx)(pins:Gb)(H:Hp)(b:Addr):Prop:=
 H b=none/\b≠X.env.locals/\b∉X.fs/\(b∈X.ex\/X.s₀.heap.objs.size<=b)/\(∀x c,X.env.cells.lookup x=some c->c≠b)/\∀p∈X.pn++pins,p.1≠b
def Inv.fpOk(I:Inv X pins σ H s)(hb:s.heap.objs.size<=b)(hn:H' b=none):gf X pins H' b:=by
 refine⟨hn,Nat.ne_of_gt (A_ I.lt hb),I.nofs hb,.inr (DU I.sz hb),λx c e z=>?_,λp hp z=>?_⟩
 .obtain⟨v,q⟩:=I.cell x c e;exact absurd (A_ q.lt (by rw[z];exact hb)) (En _)
 .exact absurd (A_ (x_ (I.pin p hp).1) (by rw[z];exact hb)) (En _)
structure Turn(P:Program)(w:World)(K:W.Frag)(tg:Expr)(J:It)(fp:List Addr)(it:Addr)(tn:Nat->Heap->Prop):Prop where
 mem:it∈fp
 obj:∀i h,tn i h->∀b∈fp,∃o,h.get? b=some o/\∀v,o.data ≠ .cell v
 keep:∀i h h',tn i h->(∀b∈fp,∀o,h.get? b=some o->h'.get? b=some o)->tn i h'
 item:∀(X:Cx),X.prog=P->X.w=w->X.K=K->X.calm=true->∀(i:Nat) (pins:Gb) (s:Shared) (σ:St) (H:Hp) (E:Gd),Inv X pins σ H s->(∀b∈fp,gf X pins H b)->tn i s.heap->J.go i H->
  wpAny (model P w) X.A (pyNext (.ref it)) (λr s1=>∃u,r=some u/\
   wpAny (model P w) X.A (letOwnedTupleGo tg (.ref it) u) (λ_ s2=>∃x H',Inv X pins σ H' s2/\RelV x u/\J.yld i H x H'/\tn (i+1) s2.heap/\∀b∈fp,H' b=none) E s1) E s
 done:∀(X:Cx),X.prog=P->X.w=w->X.K=K->X.calm=true->∀(i:Nat) (pins:Gb) (s:Shared) (σ:St) (H:Hp) (E:Gd),Inv X pins σ H s->(∀b∈fp,gf X pins H b)->tn i s.heap->J.stop i H->
  wpAny (model P w) X.A (pyNext (.ref it)) (λr s1=>r=none/\Inv X pins σ H s1) E s
 self:∀(A:Around) (i:Nat) (s:Shared) (Q:Gd) (E:Gd),tn i s.heap->Q (.ref it) s->wpAny (model P w) A (pyIter (.ref it)) Q E s
abbrev TI:=St->Hp->(It->Hp->Prop)->Prop
def PIE(X:Cx)(pins:Gb)(σ:St)(tg:Expr)(R:It->Hp->Prop)(itv:Value)(s2:Shared):Prop:=
 ∃(it:Addr) (fp:List Addr) (tn:Nat->Heap->Prop) (J:It) (H':Hp),itv=.ref it/\Inv X pins σ H' s2/\Turn X.prog X.w X.K tg J fp it tn/\tn 0 s2.heap/\(∀b∈fp,gf X pins H' b)/\R J H'
def PI(X:Cx)(tg a_:Expr)(wi:TI):Prop:=
 ∀
  (pins:Gb) (s:Shared) (σ:St) (H:Hp) (R:It->Hp->Prop),Inv X pins σ H s->wi σ H R->
  wpAny (model X.prog X.w) X.A (eval a_ X.env) (λv s1=>wpAny (model X.prog X.w) X.A (pyIter v) (PIE X pins σ tg R) X.xe s1) X.xe s
def jM(ho:s.heap.get? it=some o)(hc:o.cls=.type n)(hd:o.data=.fields vs)
 (hn:["enumerate", "zip", "dict_itemiterator", "dict_reverseitemiterator", "odict_iterator", "itertools.zip_longest", "itertools.pairwise"].contains n=false) (hQ:Q () s):wpAny M A (letOwnedTupleGo tg (.ref it) u) Q E s:=by
 unfold letOwnedTupleGo;cases tg
  <;> first
  |exact B_ hQ
  |(cases u <;> first
   |exact B_ hQ
   |(
    refine r_ (wpAny_load ho ?_);rw[hc,hd];show wpAny M A (if (["enumerate", "zip", "dict_itemiterator", "dict_reverseitemiterator", "odict_iterator", "itertools.zip_longest", "itertools.pairwise"].contains n&&vs[0]?==some (rawInt _))=true then _ else _) Q E s;rw[if_neg (by intro h;rw[hn,Bool.false_and] at h;cases h)];exact B_ hQ))
noncomputable def Itl(K:W.Frag)(a:Addr):It:=
 ⟨λi H=>∃xs x,SqL K H a xs/\xs[i]?=some x,λi H x H'=>H'=H/\∀xs,SqL K H a xs->xs[i]?=some x,λi H=>∃xs,SqL K H a xs/\xs.length<=i⟩
noncomputable def Itt(K:W.Frag)(a:Addr):It:=
 ⟨λi H=>∃xs x,SqT K H a xs/\xs[i]?=some x,λi H x H'=>H'=H/\∀xs,SqT K H a xs->xs[i]?=some x,λi H=>∃xs,SqT K H a xs/\xs.length<=i⟩
noncomputable def Itr(lo:Int)(n:Nat):It:=⟨λi _=>i<n,λi H x H'=>H'=H/\x=.int (lo+i),λi _=>n<=i⟩
def oz{P:Program}{w:World}{K:W.Frag}{tg:Expr}(a it:Addr):Turn P w K tg (Itl K a) [it] it (λi h=>h.IsListIter it a i) where
 mem:=by simp
 obj:=λi h st b hb=>by
  have e:b=it:=by simpa using hb
  subst e;obtain⟨o,e,c,d⟩:=st;exact⟨o,e,λv z=>by rw[d] at z;cases z⟩
 keep:=λi h h' st k=>st.at λo e=>k it (by simp) o e
 item:=by intro X hP hw hK hc i pins s σ H E I hf st hg;subst hP hw hK;obtain⟨xs,x,hq,hx⟩:=hg;obtain⟨its,rv,p,hz⟩:=I.list hq;obtain⟨u,hu,ru⟩:=rv.get hx;obtain⟨f0,f1,f2,f3,f4,f5⟩:=hf it (by simp);refine wpAny_pyNext_list_item st p.isList (x:=u) (by simpa using hu) λh' st' sb=>?_;have I1:Inv X pins σ H { s with heap:=h' }:=I.turned (t':=s.toks) (λb o hb e=>(sb.2 b hb).trans e) f0 f1 f3 f4 f5;obtain⟨o,e,c,d⟩:=id st';exact⟨u,rfl,jM (s:={ s with heap:=h' }) e c d (by decide) ⟨x,H,I1,ru,⟨rfl,λys hy=>by rw[I.list_inj hy hq];exact hx⟩,st',λb hb=>(hf b hb).1⟩⟩
 done:=by intro X hP hw hK hc i pins s σ H E I hf st hg;subst hP hw hK;obtain⟨xs,hq,hx⟩:=hg;obtain⟨its,rv,p,hz⟩:=I.list hq;obtain⟨f0,f1,f2,f3,f4,f5⟩:=hf it (by simp);have hl:=rv.length;exact wpAny_pyNext_list_end (I.ok.hd hc) st p.isList (by simp;omega) λh' eb=>⟨rfl,I.turned (t':=s.toks) (λb o hb e=>eb b o hb e) f0 f1 f3 f4 f5⟩
 self:=λ_ _ _ _ _ st h=>wpAny_pyIter_listiter st h
def mR{P:Program}{w:World}{K:W.Frag}{tg:Expr}(a it:Addr):Turn P w K tg (Itt K a) [it] it (λi h=>h.IsTupleIter it a i) where
 mem:=by simp
 obj:=λi h st b hb=>by
  have e:b=it:=by simpa using hb
  subst e;obtain⟨o,e,c,d⟩:=st;exact⟨o,e,λv z=>by rw[d] at z;cases z⟩
 keep:=λi h h' st k=>st.at λo e=>k it (by simp) o e
 item:=by intro X hP hw hK hc i pins s σ H E I hf st hg;subst hP hw hK;obtain⟨xs,x,hq,hx⟩:=hg;obtain⟨its,rv,p,hz⟩:=I.tuple hq;obtain⟨u,hu,ru⟩:=rv.get hx;obtain⟨f0,f1,f2,f3,f4,f5⟩:=hf it (by simp);refine wpAny_pyNext_tuple_item st (show s.heap.IsTuple a its.toArray from p) (x:=u) (by simpa using hu) λh' st' sb=>?_;have I1:Inv X pins σ H { s with heap:=h' }:=I.turned (t':=s.toks) (λb o hb e=>(sb.2 b hb).trans e) f0 f1 f3 f4 f5;obtain⟨o,e,c,d⟩:=id st';exact⟨u,rfl,jM (s:={ s with heap:=h' }) e c d (by decide) ⟨x,H,I1,ru,⟨rfl,λys hy=>by rw[I.tuple_inj hy hq];exact hx⟩,st',λb hb=>(hf b hb).1⟩⟩
 done:=by intro X hP hw hK hc i pins s σ H E I hf st hg;subst hP hw hK;obtain⟨xs,hq,hx⟩:=hg;obtain⟨its,rv,p,hz⟩:=I.tuple hq;obtain⟨f0,f1,f2,f3,f4,f5⟩:=hf it (by simp);have hl:=rv.length;exact wpAny_pyNext_tuple_end (I.ok.hd hc) st (show s.heap.IsTuple a its.toArray from p) (by simp;omega) λh' eb=>⟨rfl,I.turned (t':=s.toks) (λb o hb e=>eb b o hb e) f0 f1 f3 f4 f5⟩
 self:=λ_ _ _ _ _ st h=>wpAny_pyIter_tupleiter st h
def n1{P:Program}{w:World}{K:W.Frag}{tg:Expr}(it:Addr)(lo:Int)(n:Nat):Turn P w K tg (Itr lo n) [it] it (λi h=>IsRangeIter h it (lo+(i:Nat)*1) ((n:Int)-(i:Nat)) 1) where
 mem:=by simp
 obj
  := λi h st b hb=>by
  have e:b=it:=by simpa using hb
  subst e;exact⟨_,st,λv z=>by have z':Data.fields _=Data.cell v:=z;cases z'⟩
 keep:=λi h h' st k=>k it (by simp) _ st
 item:=by intro X hP hw hK hc i pins s σ H E I hf st hg;subst hP hw hK;obtain⟨f0,f1,f2,f3,f4,f5⟩:=hf it (by simp);have W:=Walks.range (prog:=X.prog) (w:=X.w) (I.ok.hd hc) it lo 1 n;refine W.item i s _ _ hg st λv h' tk hv st' kk=>?_;obtain⟨t,rfl⟩:=hv;have I1:Inv X pins σ H { s with heap:=h',toks:=tk }:=I.turned (λb o hb e=>kk b o (by simpa using hb) e) f0 f1 f3 f4 f5;refine⟨_,rfl,jM (s:={ s with heap:=h',toks:=tk }) (n:="range_iterator") st' rfl rfl (by decide) ⟨.int (lo+i),H,I1,⟨t,?_⟩,⟨rfl,rfl⟩,st',λb hb=>(hf b hb).1⟩⟩;rw[Int.mul_one]
 done:=by intro X hP hw hK hc i pins s σ H E I hf st hg;subst hP hw hK;obtain⟨f0,f1,f2,f3,f4,f5⟩:=hf it (by simp);exact wpAny_pyNext_range_end (I.ok.hd hc) st (by have:n<=i:=hg;omega) λh' eb=>⟨rfl,I.turned (t':=s.toks) (λb o hb e=>eb b o hb e) f0 f1 f3 f4 f5⟩
 self:=λ_ _ _ _ _ st h=>wpAny_pyIter_rangeiter st h
section
variable{X:Cx}{tg:Expr}
def sy{pins:Gb}{σ:St}{H:Hp}{s:Shared}{R:It->Hp->Prop}{E:Gd}{lo hi:Int}{t u v:Tok}{tk:Nat}(I:Inv X pins σ H s)(h1:-(2^62)<=lo)(h2:lo<2^62)(h3:-(2^62)<=hi)(h4:hi<2^62)
 (q:R (Itr lo (hi-lo).toNat) H):wpAny (model X.prog X.w) X.A (pyIter (.ref s.heap.objs.size)) (PIE X pins σ tg R) E { s with heap:=s.heap.push { cls:=.type "range",data:=.fields #[.int lo t,.int hi u,.int 1 v] },toks:=tk }:=by
 refine wpAny_pyIter_range (IsRange.new ..) (small_one h1 h2 h3 h4) ?_;have I1:Inv X pins σ H { s with heap:=s.heap.push { cls:=.type "range",data:=.fields #[.int lo t,.int hi u,.int 1 v] },toks:=tk }:=I.kept λb o e=>s_ _ e;refine⟨(s.heap.push { cls:=.type "range",data:=.fields #[.int lo t,.int hi u,.int 1 v] }).objs.size,[(s.heap.push { cls:=.type "range",data:=.fields #[.int lo t,.int hi u,.int 1 v] }).objs.size],_,_,H,rfl,
  I1.kept (t':=tk) λb o e=>s_ _ e,n1 _ lo (hi-lo).toNat,?_,λb hb=>?_,q⟩
 .have e1:lo+((0:Nat):Int)*1=lo:=by simp
  have e2:(((hi-lo).toNat:Nat):Int)-((0:Nat):Int)=Builtin.Range.rangeSize lo hi 1:=by rw[rangeSize_one];split <;> omega
  show IsRangeIter _ _ (lo+((0:Nat):Int)*1) ((((hi-lo).toNat:Nat):Int)-((0:Nat):Int)) 1;rw[e1,e2];exact Ec _ rfl
 .have e:b=(s.heap.push { cls:=.type "range",data:=.fields #[.int lo t,.int hi u,.int 1 v] }).objs.size:=by simpa using hb
  subst e;exact I1.fpOk (v_ _) (I1.hok.fresh (v_ _))
def B8(ta:TA):TI:=λσ H R=>ta σ H λvs H1=>∃j:Int,vs=[.int j]/\-(2^62)<=j/\j<2^62/\R (Itr 0 j.toNat) H1
def pO(hg:Gl X "range")(hm:X.mg "range"=none)(ha:PA X [a] ta)(hs:starEach [a] X.env=[(false,eval a X.env)]):PI X tg (.Call (.Name "range" p) [a] [] pos) (B8 ta):=by
 intro pins s σ H R I h;refine Call_ (fi I hg hm boot_range (E5 (thn (ha pos pins s σ H _ I h) λus s1 ⟨vs,H1,I1,r1,q1⟩=>?_) hs rfl));obtain⟨j,e,q1,q2,q⟩:=q1;subst e;cases r1 with
 |cons r rr=>cases rr;obtain⟨t,rfl⟩:=r;exact call_range_1 (sy I1 (by omega) (by omega) q1 q2 (by simpa using q))
def tFor(wi:TI)(g:TG)(tb:TS):TS:=λD σ H=>wi σ H λJ H1=>∃W:Nat->Nat->St->Hp->Prop,(∃m,W 0 m σ H1)/\∀i m σ H,W i m σ H->
 (J.stop i H/\D.nx σ H)\/(J.go i H/\∃N:St->Hp->Prop,(∀σ' H',N σ' H'->∃m',m'<m/\W (i+1) m' σ' H')/\∀x H',J.yld i H x H'->g x σ H' λσ2 H2=>tb { D with nx:=N,ct:=N,bk:=D.nx } σ2 H2)
noncomputable def eS(fp:List Addr)(h:Heap):List (Addr×Obj):=fp.filterMap λb=>(h.get? b).map λo=>(b,o)
def cX(hb:b∈fp)(e:h.get? b=some o):(b,o)∈eS fp h:=List.mem_filterMap.mpr ⟨b,hb,by rw[e];rfl⟩
def pb(hp:p∈eS fp h):p.1∈fp/\h.get? p.1=some p.2:=by
 obtain⟨b,hb,e⟩:=List.mem_filterMap.mp hp;cases q:h.get? b with
 |none=>rw[q] at e;cases e
 |some o=>rw[q] at e;have e':(b,o)=p:=DX e;subst e';exact⟨hb,q⟩
def Inv.pinned(I:Inv X pins σ H s)(hf:∀b∈fp,gf X pins H b)(ho:∀b∈fp,∃o,s.heap.get? b=some o/\∀v,o.data ≠ .cell v):Inv X (pins++eS fp s.heap) σ H s:=
 I.pins_of λp hp=>(EU.mp hp).elim (λz=>I.pin p (D9 _ z)) λz=>by obtain⟨hb,e⟩:=pb z;obtain⟨f0,f1,f2,_⟩:=hf p.1 hb;obtain⟨o,e',d⟩:=ho p.1 hb;rw[e] at e';cases e';exact⟨e,f0,f1,f2,d⟩
def Inv.unpinned(I:Inv X (pins++pl) σ H s):Inv X pins σ H s:=I.pins_of λp hp=>I.pin p (D9 _ (List.mem_append_left _ hp))
def ye(hp:PassesOwn (model X.prog X.w) X.A X.env X.xe)(hc:X.calm=true)(hi:PI X tg a_ wi)(hg:PG X tg g)(hb:PSs X body tb)
 (hs:∀x,foldedSetIterable a_ X.env x=pure x):PS X (.For tg a_ body [] pos) (tFor wi g tb):=by
 intro pins s σ H D I h;refine wpAny_For (thn (hi pins s σ H _ I h) λv s1 h1=>thn h1 λitv s2 h2=>?_) hs;obtain⟨it,fp,tn,J,H2,e,I2,T,st2,f2,W,⟨m0,w0⟩,turn⟩:=h2;subst e;have stat:∀{H':Hp},(∀b∈fp,H' b=none)->∀b∈fp,gf X pins H' b:=λhn b hb=>⟨hn b hb,(f2 b hb).2⟩;refine codeAny_forLoop_any (λn s'=>∃i σ' H',Inv X pins σ' H' s'/\tn i s'.heap/\(∀b∈fp,H' b=none)/\W i n σ' H') ?_ m0 ⟨0,σ,H2,I2,st2,λb hb=>(f2 b hb).1,w0⟩;rintro n s3 ⟨i,σ3,H3,I3,st3,fr3,w3⟩;rcases turn i n σ3 H3 w3 with ⟨stop,qn⟩ |⟨go,N,hN,step⟩
 .refine EH hp (thn (T.done X rfl rfl rfl hc i pins s3 σ3 H3 X.xe I3 (stat fr3) st3 stop) λr s4 ⟨hr,I4⟩=>?_);subst hr;exact FE ⟨σ3,H3,I4,qn⟩
 .refine EH hp (thn (T.item X rfl rfl rfl hc i pins s3 σ3 H3 X.xe I3 (stat fr3) st3 go) λr s4 ⟨u,hr,h4⟩=>?_);subst hr;refine EH hp (thn h4 λ_ s5 ⟨x,H5,I5,r5,y5,st5,fr5⟩=>?_);have I5':=I5.pinned (stat fr5) (T.obj _ _ st5);refine EH hp (thn (hg _ s5 σ3 H5 x u _ I5' r5 (step x H5 y5)) λ_ s6 ⟨σ6,H6,I6,q6⟩=>?_);refine EH hp (thn (hb _ s6 σ6 H6 _ I6 q6) λf s7 q7=>?_);have again:∀{σ7:St}{H7:Hp},Inv X (pins++eS fp s5.heap) σ7 H7 s7->N σ7 H7->∃m,m<n/\∃i σ' H',Inv X pins σ' H' s7/\tn i s7.heap/\(∀b∈fp,H' b=none)/\W i m σ' H':=λ{σ7 H7} I7 n7=>by obtain⟨m',hm,w7⟩:=hN σ7 H7 n7;refine⟨m',hm,i+1,σ7,H7,I7.unpinned,T.keep _ _ _ st5 λb hb o e=>(I7.pin (b,o) (D9 _ (D9 _ (cX hb e)))).1,λb hb=>?_,w7⟩;obtain⟨o,e,d⟩:=T.obj _ _ st5 b hb;exact (I7.pin (b,o) (D9 _ (D9 _ (cX hb e)))).2.1
  cases f with
  |next=>obtain⟨σ7,H7,I7,n7⟩:=q7;exact again I7 n7
  |cont=>obtain⟨σ7,H7,I7,n7⟩:=q7;exact again I7 n7
  |brk=>obtain⟨σ7,H7,I7,q7⟩:=q7;exact⟨σ7,H7,I7.unpinned,q7⟩
  |ret v=>obtain⟨x7,σ7,H7,I7,r7,q7⟩:=q7;exact⟨x7,σ7,H7,I7.unpinned,r7,q7⟩
end
abbrev R2:=V->V->Hp->VK->Prop
def OpR(X:Cx)(f:Value->Value->Sem Value)(r:R2):Prop:=
 ∀
  (pins:Gb) (s:Shared) (σ:St) (H:Hp) (x y:V) (v u:Value) (Q:VK),Inv X pins σ H s->RelV x v->RelV y u->r x y H Q->
  wpAny (model X.prog X.w) X.A (f v u) (EP X pins σ Q) X.xe s
def UnR(X:Cx)(f:Value->Sem Value)(r:V->Hp->VK->Prop):Prop:=
 ∀
  (pins:Gb) (s:Shared) (σ:St) (H:Hp) (x:V) (v:Value) (Q:VK),Inv X pins σ H s->RelV x v->r x H Q->
  wpAny (model X.prog X.w) X.A (f v) (EP X pins σ Q) X.xe s
def CallR(X:Cx)(f:Value)(r:List V->Hp->VK->Prop):Prop:=
 ∀
  (pins:Gb) (s:Shared) (σ:St) (H:Hp) (xs:List V) (us:List Value) (Q:VK),Inv X pins σ H s->Vals xs us->r xs H Q->
  wpAny (model X.prog X.w) X.A (call f us) (EP X pins σ Q) X.xe s
def tOp(r:R2)(ta tb:TE):TE:=λσ H Q=>ta σ H λx H1=>tb σ H1 λy H2=>r x y H2 Q
def tUn(r:V->Hp->VK->Prop)(ta:TE):TE:=λσ H Q=>ta σ H λx H1=>r x H1 Q
def rI(C:Int->Int->Prop)(g:Int->Int->V):R2:=λx y H Q=>∃i j,x=.int i/\y=.int j/\C i j/\Q (g i j) H
def rI0(g:Int->Int->V):R2:=λx y H Q=>∃i j,x=.int i/\y=.int j/\Q (g i j) H
def rU(g:Int->V):V->Hp->VK->Prop:=λx H Q=>∃i,x=.int i/\Q (g i) H
section
variable{X:Cx}{a b:Expr}{ta tb:TE}{pos:Pos}
def sU(ha:PE X a ta)(hb:PE X b tb){pins:Gb}{s:Shared}{σ:St}{H:Hp}{R:V->V->Hp->Prop}(I:Inv X pins σ H s)
 (h:ta σ H λx H1=>tb σ H1 λy H2=>R x y H2) {Q:Gd}{f:Value->Value->Sem Value}
 (hf:∀v u s2 x y H2,Inv X pins σ H2 s2->RelV x v->RelV y u->R x y H2->wpAny (model X.prog X.w) X.A (f v u) Q X.xe s2):
 wpAny (model X.prog X.w) X.A (eval a X.env) (λv s₁=>wpAny (model X.prog X.w) X.A (eval b X.env) (λu s₂=>wpAny (model X.prog X.w) X.A (f v u) Q X.xe s₂) X.xe s₁) X.xe s:=by
 refine thn (ha pins s σ H _ I h) λv s1 ⟨x,H1,I1,r1,q1⟩=>?_;refine thn (hb pins s1 σ H1 _ I1 q1) λu s2 ⟨y,H2,I2,r2,q2⟩=>?_;exact hf v u s2 x y H2 I2 r1 r2 q2
def B1(ho:OpR X (binaryOp op) r)(ha:PE X a ta)(hb:PE X b tb):PE X (.BinOp a op b pos) (tOp r ta tb):=by intro pins s σ H Q I h;exact wpAny_BinOp (sU ha hb I h λv u s2 x y H2 I2 rx ry q=>ho pins s2 σ H2 x y v u Q I2 rx ry q)
def Dv(ho:UnR X (unaryOp op) r)(ha:PE X a ta):PE X (.UnaryOp op a pos) (tUn r ta):=by intro pins s σ H Q I h;exact UnaryOp_ (thn (ha pins s σ H _ I h) λv s1 ⟨x,H1,I1,r1,q1⟩=>ho pins s1 σ H1 x v Q I1 r1 q1)
def opI{f:Value->Value->Sem Value}{C:Int->Int->Prop}{g:Int->Int->Int}
 (rule:∀(i j:Int) (t u:Tok) (s:Shared) (Q:Gd) (E:Gd),C i j->Q (.int (g i j) s.toks) { s with toks:=s.toks+1 }->wpAny (model X.prog X.w) X.A (f (.int i t) (.int j u)) Q E s):
 OpR X f (rI C λi j=>.int (g i j)):=by
 intro pins s σ H x y v u Q I rx ry h;obtain⟨i,j,rfl,rfl,hc,q⟩:=h;obtain⟨t,rfl⟩:=rx;obtain⟨t',rfl⟩:=ry;exact rule i j t t' s _ _ hc ⟨.int (g i j),H,I.tok _,⟨_,rfl⟩,q⟩
def opI0{f:Value->Value->Sem Value}{g:Int->Int->Int}
 (rule:∀(i j:Int) (t u:Tok) (s:Shared) (Q:Gd) (E:Gd),Q (.int (g i j) s.toks) { s with toks:=s.toks+1 }->wpAny (model X.prog X.w) X.A (f (.int i t) (.int j u)) Q E s):
 OpR X f (rI0 λi j=>.int (g i j)):=by
 intro pins s σ H x y v u Q I rx ry h;obtain⟨i,j,rfl,rfl,q⟩:=h;obtain⟨t,rfl⟩:=rx;obtain⟨t',rfl⟩:=ry;exact rule i j t t' s _ _ ⟨.int (g i j),H,I.tok _,⟨_,rfl⟩,q⟩
def mT{f:Value->Value->Sem Value}{g:Int->Int->Bool}
 (rule:∀(i j:Int) (t u:Tok) (s:Shared) (Q:Gd) (E:Gd),Q (.bool (g i j)) s->wpAny (model X.prog X.w) X.A (f (.int i t) (.int j u)) Q E s):
 OpR X f (rI0 λi j=>.bl (g i j)):=by
 intro pins s σ H x y v u Q I rx ry h;obtain⟨i,j,rfl,rfl,q⟩:=h;obtain⟨t,rfl⟩:=rx;obtain⟨t',rfl⟩:=ry;exact rule i j t t' s _ _ ⟨.bl (g i j),H,I,rfl,q⟩
def iz(i j:Int):Prop:=0<=j/\j<=1000000/\i.natAbs<2^64
def CMul(i j:Int):Prop:=(-(2^64)<i/\i<2^64)\/(-(2^64)<j/\j<2^64)
def CMul.ok(h:CMul i j):IntMulOk i j:=by
 rcases h with ⟨h1,h2⟩ |⟨h1,h2⟩
 .exact .of_left (intBits_le_64 h1 h2)
 .exact .of_right (intBits_le_64 h1 h2)
def zF:OpR X (binaryOp .Add) (rI0 λi j=>.int (i+j)):=opI0 λ_ _ _ _ _ _ _ q=>add_int q
def A6:OpR X (binaryOp .Sub) (rI0 λi j=>.int (i-j)):=opI0 λ_ _ _ _ _ _ _ q=>sub_int q
def yC:OpR X (binaryOp .Mult) (rI CMul λi j=>.int (i*j)):=opI λ_ _ _ _ _ _ _ hc q=>mul_int q hc.ok
def uE:OpR X (binaryOp .Mod) (rI (λ_ j=>j≠0) λi j=>.int (i.fmod j)):=opI λ_ _ _ _ _ _ _ hc q=>mod_int' hc q
def Ar:OpR X (binaryOp .Pow) (rI iz λi j=>.int (i^j.toNat)):=opI λ_ _ _ _ _ _ _ hc q=>pow_int_small hc.1 hc.2.1 hc.2.2 q
def unI{f:Value->Sem Value}{g:Int->Int}
 (rule:∀(i:Int) (t:Tok) (s:Shared) (Q:Gd) (E:Gd),Q (.int (g i) s.toks) { s with toks:=s.toks+1 }->wpAny (model X.prog X.w) X.A (f (.int i t)) Q E s):
 UnR X f (rU λi=>.int (g i)):=by
 intro pins s σ H x v Q I rx h;obtain⟨i,rfl,q⟩:=h;obtain⟨t,rfl⟩:=rx;exact rule i t s _ _ ⟨.int (g i),H,I.tok _,⟨_,rfl⟩,q⟩
def yj:UnR X (unaryOp .USub) (rU λi=>.int (-i)):=unI λ_ _ _ _ _ q=>neg_int q
end
section
variable{X:Cx}{a b c:Expr}{ta tb:TE}{pos:Pos}
def pj(I:Inv X pins σ H s)(q:Q (.bl k) H)(e:k=k'):EP X pins σ Q (.bool k') s:=by subst e;exact⟨.bl k,H,I,rfl,q⟩
def uh:OpR X (compareOp .Lt) (rI0 λi j=>.bl (decide (i<j))):=mT λ_ _ _ _ _ _ _ q=>lt_int q
def B2:OpR X (compareOp .LtE) (rI0 λi j=>.bl (decide (i<=j))):=mT λ_ _ _ _ _ _ _ q=>le_int q
def BR:OpR X (compareOp .Gt) (rI0 λi j=>.bl (decide (j<i))):=mT λ_ _ _ _ _ _ _ q=>gt_int q
def tV:OpR X (compareOp .GtE) (rI0 λi j=>.bl (decide (j<=i))):=mT λ_ _ _ _ _ _ _ q=>ge_int q
def OpR.or(h:OpR X f r)(h':OpR X f r'):OpR X f (λx y H Q=>r x y H Q\/r' x y H Q):=by
 intro pins s σ H x y v u Q I rx ry q;rcases q with q |q
 .exact h pins s σ H x y v u Q I rx ry q
 .exact h' pins s σ H x y v u Q I rx ry q
def o6(b:Expr)(h:op ≠ .In:=by decide)(h2:op ≠ .NotIn:=by decide):behindInMarks op b=false:=by
 have e1:(op==CmpOp.In)=false:=by cases op <;> first |rfl |exact absurd rfl h
 have e2:(op==CmpOp.NotIn)=false:=by cases op <;> first |rfl |exact absurd rfl h2
 cases b <;> simp [behindInMarks,e1,e2]
def wx(ho:OpR X (compareOp op) r)(ha:PE X a ta)(hb:PE X b tb)(hm:behindInMarks op b=false):PE X (.Compare a [op] [b] pos) (tOp r ta tb):=by intro pins s σ H Q I h;exact wpAny_Compare1 (sU ha hb I h λv u s2 x y H2 I2 rx ry q=>ho pins s2 σ H2 x y v u Q I2 rx ry q) hm
def DF(t:TE):TT:=λσ H Q=>t σ H λx H'=>∃k,x=.bl k/\Q k H'
def vx(ho:OpR X (compareOp op) r)(ha:PE X a ta)(hb:PE X b tb)(hm:behindInMarks op b=false):PT X (.Compare a [op] [b] pos) (DF (tOp r ta tb)):=by
 intro pins s σ H Q I h;refine wpAny_isTrue_Compare1 (thn (ha pins s σ H _ I h) λv s1 ⟨x,H1,I1,r1,q1⟩=>thn (hb pins s1 σ H1 _ I1 q1) λu s2 ⟨y,H2,I2,r2,q2⟩=>
  thn (ho pins s2 σ H2 x y v u _ I2 r1 r2 q2) λc s3 ⟨z,H3,I3,r3,k,e,q3⟩=>?_) hm
 subst e;cases r3;exact Ez ⟨H3,I3,q3⟩
def eU:(sizeLine:Nat)<2^63:=by rw[sizeLine_eq];decide
def eP(r:Vals [x] us):∃u,us=[u]/\RelV x u:=by
 cases r with
 |cons r1 r2=>cases r2;exact⟨_,rfl,r1⟩
def mW(r:Vals [x,y] us):∃u w',us=[u,w']/\RelV x u/\RelV y w':=by
 cases r with
 |
  cons r1 r2=>
  cases r2 with
  |cons r3 r4=>cases r4;exact⟨_,_,rfl,r1,r3⟩
def pI(hc:X.calm=true):CallR X (.builtin "min") (λxs H Q=>∃i j,xs=[.int i,.int j]/\Q (.int (if j<i then j else i)) H):=by
 intro pins s σ H xs us Q I r h;obtain⟨i,j,rfl,q⟩:=h;obtain⟨u,w',rfl,⟨t,rfl⟩,⟨t',rfl⟩⟩:=mW r;refine min_two_ints (I.ok.hd hc) λh' tk k=>⟨_,H,I.kept k,?_,q⟩;by_cases hj:j<i
 .rw[if_pos hj,if_pos hj];exact⟨_,rfl⟩
 .rw[if_neg hj,if_neg hj];exact⟨_,rfl⟩
end
structure ObjM(h:Heap)(x dx C:Addr)(mA:Ga):Prop where
 obj:h.get? x=some (W.instObj C dx)
 ns:h.Ns1 dx mA
 ne:dx≠x
def qa{h:Heap}{dx:Addr}{mA:Ga}(n:h.Ns1 dx mA):∃od,h.get? dx=some od/\∀name,W.lookIn name od=some (mA name):=by
 obtain⟨o,es,ep,ho,hd,hk,_,hm⟩:=n;refine⟨o,ho,λname=>?_⟩;have e:=hm name;unfold nsFind findBy at e;rw[<- Array.find?_toList] at e;unfold W.lookIn;rw[hd];dsimp only;split
 .rename_i y q;rw[q] at e;exact Ey some e
 .rename_i q;rw[q] at e;have a:es.toList.any (·.refKey)=false:=by rw[List.any_eq_false];intro y hy;obtain⟨z,t,hkey⟩:=hk y (Array.mem_toList_iff.mp hy);simp [DictEntry.refKey,hkey]
  have a':¬ es.toList.any (·.refKey)=true:=by rw[a];exact u_
  rw[if_neg a'];exact Ey some e
def ObjM.look(I:ObjM h x dx C mA):∃od,W.InstAt h x (W.instObj C dx) C (some od)/\∀name,W.lookIn name od=some (mA name):=
 let ⟨od,ho,hl⟩:=qa I.ns
 ⟨od,⟨I.obj,rfl,rfl,ho⟩,hl⟩
def RelO.some_of(r:RelO (some v) o):∃u,o=some u/\RelV v u:=by
 cases o with
 |none=>exact (show False from r).elim
 |some u=>exact⟨u,rfl,r⟩
section
variable{P:Program}{w:World}{H:Hp}{h:Heap}{a C dx:Addr}{fs:List (Str×V)}
def va(hok:HOk P w H h)(e:H a=some (.ins C dx fs)):∃mA,ObjM h a dx C mA/\(∀f,RelO (fs.lookup f) (mA f))/\PySem.Within mA (fs.map (·.1))/\fs.length<=1000/\H dx=some (.own a):=by obtain⟨d,z,ne,ob,mA,n,r,q⟩:=(show ObjOk P w H h a (.ins C dx fs) from hok a _ e);exact⟨mA,⟨ob,n,ne⟩,r,q,z,d⟩
end
structure Cls(K:W.Frag)(C:Addr):Prop where
 pg:W.plainGet K C Str.empty=true
 hd:W.hasDictIn K C=true
 po:W.plainOver K C=true
 sa:W.findIn K (.ref C) "__setattr__"=some (some (.builtin "object.__setattr__"))
def Cls.get{K:W.Frag}{C:Addr}(c:Cls K C)(f:Str):W.plainGet K C f=true:=c.pg
section
variable{H:Hp}
inductive TyOf(K:W.Frag)(H:Hp):V->Value->Prop where
 |non:TyOf K H .non (.type "NoneType")
 |bl (x:Bool):TyOf K H (.bl x) (.type "bool")
 |int (i:Int):TyOf K H (.int i) (.type "int")
 |str (x:Str):TyOf K H (.str x) (.type "str")
 |flt (x:UInt64):TyOf K H (.flt x) (.type "float")
 |lst {a:Addr}{xs:List V} (e:H a=some (.lst xs)):TyOf K H (.ref a) (.type "list")
 |frz {a:Addr}{o:Obj}{xs:List V} (e:H a=some (.frz o (.lst xs))):TyOf K H (.ref a) (.type "list")
 |tup {a:Addr}{xs:List V} (e:H a=some (.tup xs)):TyOf K H (.ref a) (.type "tuple")
 |dK {a:Addr}{kvs:List (Key×V)} (e:H a=some (.dK kvs)):TyOf K H (.ref a) (.type "dict")
 |dT {a:Addr}{kvs:List (List Key×V)} (e:H a=some (.dT kvs)):TyOf K H (.ref a) (.type "dict")
 |ins {a C dx:Addr}{fs:List (Str×V)} (e:H a=some (.ins C dx fs)) (cl:Cls K C) (ha:W.findIn K (.ref C) "__class__"=some (some (.builtin "object.__class__")))
  (hn:W.specialIn K (.builtin "object.__class__") "__get__"=some (some (.builtin "getset_descriptor.__get__"))) (htk:W.takesIn K (.builtin "object.__class__")=some true)
  (hm:W.mroIn K C (.type "object")=some true):TyOf K H (.ref a) (.ref C)
end
structure Room(k:Nat)(A:Around):Prop where
 hd:A.handled=none
 dp:A.depth+3*k+5<recursionLimit
 un:A.units+16*k+200<cLine
def Room.mono(r:Room k A)(h:j<=k):Room j A:=⟨r.hd,by have:=r.dp;omega,by have:=r.un;omega⟩
def Room.deeper(r:Room (k+1) A)(env:Env):Room k (A.deeper env):=
 ⟨r.hd,by have:=r.dp;show A.depth+1+3*k+5<_;omega,by have:=r.un;show A.units+3+16*k+200<_;omega⟩
def Room.depth(r:Room k A):A.depth<recursionLimit:=by have:=r.dp;omega
def Room.units(r:Room k A):A.units+64<cLine:=by have:=r.un;omega
def tNil:TA:=λ_ H Q=>Q [] H
def BE(ta:TE)(tr:TA):TA:=λσ H Q=>ta σ H λx H1=>tr σ H1 λxs H2=>Q (x::xs) H2
section
variable{X:Cx}{e:Expr}{es:List Expr}{te:TE}{t:TA}{pos:Pos}
def xU:PA X [] tNil:=λ_ _ _ _ H Q I h=>Calls.spliced_nil ⟨[],H,I,.nil,h⟩
def uI(ha:PE X e te)(hr:PA X es t)(hs:starEach (e::es) X.env=(false,eval e X.env)::starEach es X.env):PA X (e::es) (BE te t):=by intro pos pins s σ H Q I h;rw[hs];show wpAny _ _ (spliced ((false,eval e X.env)::backTo pos (starEach es X.env))) _ _ s;refine Calls.spliced_cons (thn (ha pins s σ H _ I h) λu s1 ⟨x,H1,I1,r1,q1⟩=>?_);exact thn (hr pos pins s1 σ H1 _ I1 q1) λus s2 ⟨xs,H2,I2,r2,q2⟩=>⟨x::xs,H2,I2,.cons r1 r2,q2⟩
def tTup(t:TA):TE:=λσ H Q=>t σ H λxs H1=>xs.length<=sizeLine/\∀p,H1 p=none->Q (.ref p) (upd H1 p (.tup xs))
def tLst(t:TA):TE:=λσ H Q=>t σ H λxs H1=>xs.length<=sizeLine/\∀p,H1 p=none->Q (.ref p) (upd H1 p (.lst xs))
def AK{x1}(h:PA X es t):PE X (.Tuple es x1 pos) (tTup t):=by intro pins s σ H Q I hq;refine wpAny_Tuple_spliced (thn (h pos pins s σ H _ I hq) λus s1 ⟨xs,H1,I1,r,z,q⟩=>⟨by rw[<- r.length];exact z,?_⟩);have hf:H1 s1.heap.objs.size=none:=I1.hok.fresh (v_ _);refine⟨.ref s1.heap.objs.size,upd H1 s1.heap.objs.size (.tup xs),I1.laid (t':=s1.toks) (λb u e=>s_ _ e) (v_ _) ?_,rfl,q _ hf⟩;exact⟨z,us,r,⟨_,Ec _ rfl,rfl,_,rfl⟩⟩
def Ac(h:PA X es t):PE X (.List es pos) (tLst t):=by intro pins s σ H Q I hq;refine wpAny_List_spliced (thn (h pos pins s σ H _ I hq) λus s1 ⟨xs,H1,I1,r,z,q⟩=>⟨by rw[<- r.length];exact z,?_⟩);have hf:H1 s1.heap.objs.size=none:=I1.hok.fresh (v_ _);refine⟨.ref s1.heap.objs.size,upd H1 s1.heap.objs.size (.lst xs),I1.laid (t':=s1.toks) (λb u e=>s_ _ e) (v_ _) ?_,rfl,q _ hf⟩;exact⟨z,us,0,r,Ec _ rfl⟩
end
abbrev Sp:=List V->Hp->VK->XK->Prop
abbrev CXT:=List Env->Hp->Shared->XK->Value->Shared->Prop
structure Env0(P:Program)(w:World)(K:W.Frag)(mg:Ga)(base:Heap)(A:Around)(outer:List Env)(s:Shared)(H:Hp):Prop where
 frames:A.frames=some outer
 mod:Mod K mg base
 bs:∀b o,base.get? b=some o->s.heap.get? b=some o/\H b=none
 bsz:base.objs.size<=s.heap.objs.size
 funs:s.heap.FunFrames base outer
 frf:∀b∈frs outer,H b=none
 hok:HOk P w H s.heap
 bare:AllBare s.gens
def CE(outer:List Env)(P:Program)(w:World)(H:Hp)(s:Shared)(Q:VK)(u:Value)(s':Shared):Prop:=
 ∃v H',s'.os=s.os/\AllBare s'.gens/\Un (frs outer) [] H H' s.heap s'.heap/\HOk P w H' s'.heap/\RelV v u/\Q v H'
def CR(CX:CXT)(outer:List Env)(P:Program)(w:World)(H:Hp)(s:Shared)(Q:VK)(E:XK)(r:Result)(s':Shared):Prop:=
 match r with
 |.ok (.ret u)=>CE outer P w H s Q u s'
 |.ok _=>False
 |.error e=>CX outer H s E e s'
structure FnOk(P:Program)(w:World)(K:W.Frag)(mg:Ga)(base:Heap)(CX:CXT)(k:Nat)(f:Addr)(fd:FuncData)(ps:List Str)(sp:Sp):Prop where
 len:∀vs H Q E,sp vs H Q E->vs.length=ps.length
 run:∀(A:Around) (outer:List Env) (s:Shared) (H:Hp) (args:Args) (us:List Value) (vs:List V) (Q:VK) (E:XK),Room k A->Env0 P w K mg base A outer s H->BindsTo s fd args (ps.zip us)->Vals vs us->sp vs H Q E->
  codeAny (model P w) A (.call (.ref f) args) (CR CX outer P w H s Q E) s
def FnOk.imp{P:Program}{w:World}{K:W.Frag}{mg:Ga}{base:Heap}{CX:CXT}{k:Nat}{f:Addr}{fd:FuncData}{ps:List Str}{sp sp':Sp}(F:FnOk P w K mg base CX k f fd ps sp)
 (h:∀vs H Q E,sp' vs H Q E->sp vs H Q E):FnOk P w K mg base CX k f fd ps sp':=
 ⟨λvs H Q E q=>F.len vs H Q E (h _ _ _ _ q),λA outer s H args us vs Q E hr he hb hv hs=>F.run A outer s H args us vs Q E hr he hb hv (h _ _ _ _ hs)⟩
section
variable{X:Cx}{pins:Gb}{σ:St}{H:Hp}{s s':Shared}
def Inv.env0(I:Inv X pins σ H s):Env0 X.prog X.w X.K X.mg X.base X.A X.stack s H:=
 ⟨I.ok.frames,I.ok.mod,I.bs,DU I.ok.bsz I.sz,I.stack,I.stkFree,I.hok,I.bare⟩
def Inv.after(I:Inv X pins σ H s)(h:CE X.stack X.prog X.w H s Q u s'):EP X pins σ Q u s':=by obtain⟨v,H',os,bare,un,hok,r,q⟩:=h;obtain⟨hh,g,d,t,os'⟩:=s';obtain rfl:os'=s.os:=os;exact⟨v,H',I.call (h':=hh) (g':=g) (d':=d) (t':=t) (ch:=[]) un hok bare (λb z=>absurd z (by simp)),r,q⟩
end
def Binds(K:W.Frag)(fd:FuncData)(ps:List Str)(ds:List Value):Prop:=
 ∀(s:Shared) (us:List Value),K.In s.heap->(us++ds).length=ps.length->BindsTo s fd ⟨us,[]⟩ (ps.zip (us++ds))
def Binds.all{K:W.Frag}{fd:FuncData}{ps:List Str}(h:∀us:List Value,us.length=ps.length->bindArgs fd ⟨us,[]⟩=pure (ps.zip us)):Binds K fd ps []:=λs us _ hl=>by rw[Fb] at hl ⊢;exact .of_eq (h us hl)
def kX(CX:CXT)(X:Cx)(E:XK):Prop:=∀(pins:Gb) (σ:St) (H:Hp) (s:Shared) (e:Value) (s':Shared),Inv X pins σ H s->CX X.stack H s E e s'->X.xe e s'
structure FnScope(N P:List Str)(sc:Scope):Prop where
 kind:sc.kind=.function
 co:sc.isCoroutine=false
 gen:sc.isGenerator=false
 nd:N.Nodup
 pre:N.take P.length=P
 par:∀x∈P,sc.names.lookup x=some .local\/sc.names.lookup x=some .cell
 nofree:∀y∈sc.names,y.2 ≠ .free
theorem i8{kindOf:Str->Option NameKind}{x:Str}:∀{binds:List (Str×Value)}{m:Ga},(∀v,(x,v)∉binds)->bindL kindOf binds m x=m x
 | [],_,_=>rfl
 |
  (n,v)::r,m,h=>by
  unfold bindL;rw[i8 λw hw=>h w (DV _ hw)];split
  .have:x≠n:=by rintro rfl;exact h v D7
   simp [this]
  .rfl
theorem ji{kindOf:Str->Option NameKind}{x:Str}:∀{binds:List (Str×Value)}{m:Ga},(∀v,(x,v)∉binds)->bindC kindOf binds m x=m x
 | [],_,_=>rfl
 |
  (n,v)::r,m,h=>by
  unfold bindC;rw[ji λw hw=>h w (DV _ hw)];split
  .rfl
  .have:x≠n:=by rintro rfl;exact h v D7
   simp [this]
theorem jc{kindOf:Str->Option NameKind}{x:Str}{v:Value}:∀{P:List Str}{vs:List Value}{i:Nat}{m:Ga},P.Nodup->P[i]?=some x->vs[i]?=some v->kindOf x=some .local->
 bindL kindOf (P.zip vs) m x=some v
 | [],_,_,_,_,h,_,_=>by simp at h
 |_::_,[],_,_,_,_,h,_=>by simp at h
 |
  p::P,w::vs,0,m,nd,h1,h2,hk=>by
  simp at h1 h2;subst h1;subst h2;show bindL kindOf ((p,w)::P.zip vs) m p=_;unfold bindL;rw[i8 λv hv=>(Fz.mp nd).1 (List.of_mem_zip hv).1,if_pos hk];simp
 |
  p::P,w::vs,i+1,m,nd,h1,h2,hk=>by
  show bindL kindOf ((p,w)::P.zip vs) m x=_;unfold bindL;exact jc (i:=i) (Fz.mp nd).2 (by simpa using h1) (by simpa using h2) hk
theorem jj{kindOf:Str->Option NameKind}{x:Str}{v:Value}:∀{P:List Str}{vs:List Value}{i:Nat}{m:Ga},P.Nodup->P[i]?=some x->vs[i]?=some v->kindOf x≠some .local->
 bindC kindOf (P.zip vs) m x=some v
 | [],_,_,_,_,h,_,_=>by simp at h
 |_::_,[],_,_,_,_,h,_=>by simp at h
 |
  p::P,w::vs,0,m,nd,h1,h2,hk=>by
  simp at h1 h2;subst h1;subst h2;show bindC kindOf ((p,w)::P.zip vs) m p=_;unfold bindC;rw[ji λv hv=>(Fz.mp nd).1 (List.of_mem_zip hv).1,if_neg hk];simp
 |
  p::P,w::vs,i+1,m,nd,h1,h2,hk=>by
  show bindC kindOf ((p,w)::P.zip vs) m x=_;unfold bindC;exact jj (i:=i) (Fz.mp nd).2 (by simpa using h1) (by simpa using h2) hk
noncomputable def cu(N:List Str)(vs:List V):St:=vs.map some++List.replicate (N.length-vs.length) none
noncomputable def bV(CX:CXT)(P:Program)(w:World)(K:W.Frag)(mg:Ga)(base:Heap)(N:List Str)(qual:Str)(scope:Scope)(f:Addr)(cd:Value)(A:Around)(outer:List Env)(s:Shared)(H:Hp)(E:XK):Cx where
 prog:=P
 w:=w
 K:=K
 mg:=mg
 base:=base
 A:=A.deeper (envOfC qual scope s.heap.objs.size f cd)
 N:=N
 s₀:=s
 H₀:=H
 env:=envOfC qual scope s.heap.objs.size f cd
 outer:=outer
 stack:=envOfC qual scope s.heap.objs.size f cd::outer
 ex:=[]
 calm:=true
 fn:=λ_=>true
 pn:=[]
 xe:=λe s'=>wpAny (model P w) (A.deeper (envOfC qual scope s.heap.objs.size f cd)) (leaving (envOfC qual scope s.heap.objs.size f cd) e) (λ_ s''=>CX outer H s E e s'') (λe' s''=>CX outer H s E e' s'') s'
def kR{sc:Scope}{n:Nat}{x:Str}(h:sc.names.lookup x=some .cell):∃c,(cellsFrom n sc.names []).lookup x=some c:=by have q:=W.cellsFrom_some sc.names n [] (.inl h);exact Ex.mp q
def pY{CX:CXT}{P:Program}{w:World}{K:W.Frag}{mg:Ga}{base:Heap}{N ps:List Str}{qual:Str}{scope:Scope}{f:Addr}{cd:Value}{A:Around}{outer:List Env}{s s1:Shared}{H:Hp}{E:XK}{us:List Value}{vs:List V}
 (S:FnScope N ps scope) (hd:A.handled=none) (e0:Env0 P w K mg base A outer s H) (hl:vs.length=ps.length) (r:Vals vs us)
 (x:InCallC s s.heap.objs.size (bindL (envOfC qual scope s.heap.objs.size f cd).kindOf (ps.zip us) λ_=>none) (cellsFrom (s.heap.objs.size+1) scope.names []) (bindC (envOfC qual scope s.heap.objs.size f cd).kindOf (ps.zip us) λ_=>none) s1):
 Inv (bV CX P w K mg base N qual scope f cd A outer s H E) [] (cu N vs) H s1:=by
 have hpl:ps.length<=N.length:=by have:=Ey List.length S.pre;rw[List.length_take] at this;omega
 obtain⟨h1,tk,rfl,hk⟩:=x.done;have noA:∀b:Addr,b∉(bV CX P w K mg base N qual scope f cd A outer s H E).ex:=λb z=>absurd (show b∈([]:List Addr) from z) (by simp);refine⟨⟨e0.mod,S.kind,rfl,rfl,v_ _,λy z c h1 h2=>?_,λy hy=>?_,λy c _ h=>?_,λ_=>hd,Around.frames_deeper e0.frames,.inr ⟨rfl,rfl⟩,λb z=>absurd z (noA b),e0.bs,e0.bsz,λb _ _=>noA b,λb z=>absurd z (noA b),e0.funs,e0.frf⟩,
  rfl,e0.bare,Un.kept hk,⟨_,x.toInCall.ns,λi y v h1 h2 h3=>?_⟩,λy c h=>⟨_,x.cell y c h⟩,e0.hok.fresh (v_ _),λy c h=>?_,λp hp=>absurd (show p∈([]:Gb) from hp) (by simp),e0.hok.kept hk,?_⟩
 .exact name_of_addr x.apart (Eu h1) (Eu h2)
 .have hy:scope.names.lookup y=some .cell\/scope.names.lookup y=some .free:=hy;rcases hy with hy |hy
  .exact kR hy
  .exact absurd rfl (S.nofree _ (Eu hy))
 .exact Nat.le_of_lt (x.above y c (Eu h))
 .have hi:i<vs.length:=by
   unfold cu at h2;by_cases hi:i<vs.length
   .exact hi
   .rw[Eb (by simpa using hi)] at h2;rw[Em] at h2;split at h2 <;> cases h2
  have ha:vs[i]?=some v:=by
   unfold cu at h2;rw[C_ (by simpa using hi),D3] at h2;cases e:vs[i]? with
   |none=>rw[e] at h2;cases h2
   |some a=>rw[e] at h2;cases h2;rfl
  obtain⟨u,hu,rv⟩:=r.get ha;have hp:ps[i]?=some y:=by rw[<- S.pre,List.getElem?_take_of_lt (by omega)];exact h1
  have ndP:ps.Nodup:=by rw[<- S.pre];exact S.nd.sublist (List.take_sublist _ _)
  refine⟨u,rv,?_⟩;rcases S.par y (EK hp) with k |k
  .exact .inl ⟨k,jc ndP hp hu k⟩
  .obtain⟨c,e⟩:=kR (n:=s.heap.objs.size+1) k;refine .inr ⟨.inl k,c,e,?_⟩;have q:=x.cell y c e;rw[jj ndP hp hu (by show scope.names.lookup y≠_;rw[k];decide)] at q;exact q
 .exact e0.hok.fresh (Nat.le_of_lt (x.above y c (Eu h)))
 .unfold cu;show _=N.length;rw[DY,o_,D6];omega
def BK{CX:CXT}{P:Program}{w:World}{K:W.Frag}{mg:Ga}{base:Heap}{k:Nat}{f:Addr}{name qual:Str}{params:Arguments}{body:List Stmt}{scope:Scope}{dV kV doc pm cdv ct oc:Value}{an od:Option Addr}
 {osl:Array (Option Value)}{N ps:List Str}{sp:Sp} (lk:K.lookup f=some ⟨oc,od,.func (W.fnOf name qual params body scope dV kV doc pm an cdv ct),osl⟩) (hcd:W.codeIn K cdv qual=true) (S:FnScope N ps scope)
 (len:∀vs H Q E,sp vs H Q E->vs.length=ps.length)
 (j_:∀(A:Around) (outer:List Env) (s:Shared) (H:Hp) (vs:List V) (Q:VK) (E:XK),Room k (A.deeper (envOfC qual scope s.heap.objs.size f cdv))->sp vs H Q E->
  ∃t,PSs (bV CX P w K mg base N qual scope f cdv A outer s H E) body t/\t { nx:=λ_ H'=>Q .non H',rt:=Q } (cu N vs) H):
 FnOk P w K mg base CX (k+1) f (W.fnOf name qual params body scope dV kV doc pm an cdv ct) ps sp:=by
 refine⟨len,λA outer s H args us vs Q E hr e0 hb r hsp=>?_⟩;have hl:=len _ _ _ _ hsp;have KX:K.In s.heap:=e0.mod.kin.keeps λb o e=>(e0.bs b o e).1;have lim:s.heap.NoLimit:=e0.mod.nolimit.keeps λb o e=>(e0.bs b o e).1;have hkind:∀y∈ps.zip us,scope.names.lookup y.1=some .local\/(scope.names.lookup y.1=some .cell/\((cellsFrom (s.heap.objs.size+1) scope.names []).lookup y.1).isSome=true):=λ⟨n,v⟩ hy=>by
  rcases S.par n (List.of_mem_zip hy).1 with q |q
  .exact .inl q
  .exact .inr ⟨q,W.cellsFrom_some _ _ _ (.inl q)⟩
 refine codeAny_call_function hr.depth (KX _ _ lk) rfl S.co S.gen rfl (W.codeRec_of KX hcd) (hb _ _ _ _ ?_);refine wpAny_newFunctionEnv_cells S.kind hkind λenv he s1 x=>?_;subst he;refine⟨lim.keeps x.toInCall.keep,codeAny_func ?_⟩;obtain⟨t,ht,hq⟩:=j_ A outer s H vs Q E (hr.deeper _) hsp;have I:Inv (bV CX P w K mg base N qual scope f cdv A outer s H E) [] (cu N vs) H s1:=pY S hr.hd e0 hl r x;refine Ee (ht [] s1 (cu N vs) H _ I hq) (λfl s' hs=>?_) λe s' hs=>hs;have k_:∀{σ':St}{H':Hp}{v:V}{u:Value},Inv (bV CX P w K mg base N qual scope f cdv A outer s H E) [] σ' H' s'->RelV v u->Q v H'->CE outer P w H s Q u s':=
  λ{σ' H' v u} J rv q=>⟨v,H',J.os,J.bare,J.base,J.hok,rv,q⟩
 cases fl with
 |ret u=>obtain⟨v,σ',H',J,rv,q⟩:=hs;exact k_ J rv q
 |next=>obtain⟨σ',H',J,q⟩:=hs;exact k_ (v:=V.non) (u:=Value.none) J rfl q
 |brk=>obtain⟨_,_,_,q⟩:=hs;exact False.elim q
 |cont=>obtain⟨_,_,_,q⟩:=hs;exact False.elim q
section
variable{X:Cx}{x:Str}{p pos:Pos}{e:Expr}{es:List Expr}{t:TA}{id T:String}{r:List V->Hp->VK->Prop}
def tCB(r:List V->Hp->VK->Prop)(t:TA):TE:=λσ H Q=>t σ H λvs H1=>r vs H1 Q
def sr(hc:CallR X (.builtin id) r)(hg:Gl X x)(hm:X.mg x=none)(hv:bootBuiltins x=some (.builtin id))(ha:PA X (e::es) t)(hn:x ≠ "__name__")(hdb:(x==("__debug__" : Str))=false)
 (he:starEach (e::es) X.env=(false,eval e X.env)::starEach es X.env) (hpl:(backTo pos (starEach es X.env)).any (·.1)=false):PE X (.Call (.Name x p) (e::es) [] pos) (tCB r t):=by
 intro pins s σ H Q I h;refine wpAny_Call_Name_kw (fi I hg hm hv ?_ hn hdb);exact PyProof.Rows.callWith_builtin1 (thn (ha pos pins s σ H _ I h) λus s1 ⟨vs,H1,I1,r1,q1⟩=>hc pins s1 σ H1 vs us Q I1 r1 q1) he hpl
def pJ(hc:CallR X (.type T) r)(hg:Gl X x)(hm:X.mg x=none)(hv:bootBuiltins x=some (.type T))(ha:PA X (e::es) t)(hn:x ≠ "__name__")(hdb:(x==("__debug__" : Str))=false)
 (he:starEach (e::es) X.env=(false,eval e X.env)::starEach es X.env) (hpl:(backTo pos (starEach es X.env)).any (·.1)=false):PE X (.Call (.Name x p) (e::es) [] pos) (tCB r t):=by
 intro pins s σ H Q I h;refine wpAny_Call_Name_kw (fi I hg hm hv ?_ hn hdb);exact E5 (thn (ha pos pins s σ H _ I h) λus s1 ⟨vs,H1,I1,r1,q1⟩=>hc pins s1 σ H1 vs us Q I1 r1 q1) he hpl
end
end L2
namespace HT
open PySem PyProof.Rows
section
variable{prog:Program}{w:World}{A:Around}{E:Gd}{s:Shared}
def cat_tup(ht:IsTup s.heap t vs.toArray)(hb:IsTup s.heap b ws.toArray)(hv:vs≠[])
 (h1:ws=[]->Q (.ref t) s) (h2:ws≠[]->Q (.ref s.heap.objs.size) { s with heap:=s.heap.push { cls:=.type "tuple",data:=.seq (vs++ws).toArray } })
 (hsz:vs.length+ws.length<=sizeLine):wpAny (model prog w) A (binaryOp .Add (.ref t) (.ref b)) Q E s:=by
 obtain⟨⟨cls,dd,data,sl⟩,ho,hc,n,hd⟩:=id ht;obtain⟨⟨cls2,dd2,data2,sl2⟩,ho2,hc2,n2,hd2⟩:=id hb;simp only at hc hd hc2 hd2;subst hc hd hc2 hd2;have e:vs.toArray++ws.toArray=(vs++ws).toArray:=by simp
 by_cases hw:ws=[]
 .exact concat_meets ⟨_,ho,rfl⟩ ⟨_,ho2,rfl⟩ noFill_tuple_add seq_tuple_add Ft Fl (Fj _ _)
   (tuple_addW1 t b vs.toArray ws.toArray n n2 dd dd2 sl sl2 (by simpa using hv) (by simp [hw])) ⟨ho,ho2,h1 hw⟩
 .refine concat_meets ⟨_,ho,rfl⟩ ⟨_,ho2,rfl⟩ noFill_tuple_add seq_tuple_add Ft Fl (Fj _ _)
   (tuple_addW2 t b vs.toArray ws.toArray n n2 dd dd2 sl sl2 (by simpa using hv) (by simpa using hw) (by rw[w_,w_];exact hsz)) ⟨ho,ho2,?_⟩
  rw[e];exact h2 hw
noncomputable def sIx(n d:Nat):Option Int->Nat
 |none=>d
 |some v=>if v<0 then (v+(n:Int)).toNat else min v.toNat n
def sIx_none(n d:Nat):sIx n d none=d:=rfl
def sIx_nat(n d k:Nat):sIx n d (some (k:Int))=min k n:=by show (if (k:Int)<0 then ((k:Int)+(n:Int)).toNat else min (k:Int).toNat n)=min k n;rw[if_neg (by omega),EZ]
def Be(n d:Nat)(hd:d<=n)(o:Option Int):sIx n d o<=n:=by
 cases o with
 |none=>exact hd
 |
  some v=>
  show (if v<0 then (v+(n:Int)).toNat else min v.toNat n)<=n;by_cases hv:v<0
  .rw[if_pos hv];omega
  .rw[if_neg hv];exact Nat.min_le_right _ _
def mH(v:Int)(n d:Nat):(if v<0 then max (v+(n:Int)) 0 else min v (n:Int))=((sIx n d (some v):Nat):Int):=by
 show (if v<0 then max (v+(n:Int)) 0 else min v (n:Int))=(((if v<0 then (v+(n:Int)).toNat else min v.toNat n):Nat):Int);by_cases hv:v<0
 .simp only[if_pos hv];omega
 .simp only[if_neg hv];omega
def mV(lo hi:Option Int)(n:Nat):Builtin.Slice.sliceAdjust lo hi 1 (n:Int)=(((sIx n 0 lo:Nat):Int),((sIx n n hi:Nat):Int)):=by
 have h1:¬ ((1:Int)<0):=by omega
 unfold Builtin.Slice.sliceAdjust;simp only[h1,E8];refine Prod.ext ?_ ?_
 .cases lo with
  |none=>rfl
  |some v=>exact mH v n 0
 .cases hi with
  |none=>rfl
  |some v=>exact mH v n n
def nZ(i j:Nat):Builtin.Slice.slicePlaces (i:Int) (j:Int) 1=j-i:=by
 unfold Builtin.Slice.slicePlaces;have h1:(1:Int)>0:=by omega
 simp only[h1,E4,Int.ediv_one];split <;> omega
def gR(p:IsPart v o)(h:Q o s):wpAny (model prog w) A (Builtin.Slice.slicePartIndex v) Q E s:=by
 cases p with
 |none=>exact slicePart_none h
 |int i t=>exact slicePart_int h
def gC{sl:Addr}{vl vu:Value}{lo hi:Option Int}{n:Nat}{Q:Int×Int×Nat->Shared->Prop}(hs:s.heap.IsSliceOf sl vl vu .none)(pl:IsPart vl lo)(pu:IsPart vu hi)
 (h:Q (((sIx n 0 lo:Nat):Int),1,sIx n n hi-sIx n 0 lo) s):wpAny (model prog w) A (Builtin.Slice.sliceApplied (.ref sl) (pure (n:Int))) Q E s:=by
 obtain⟨os,hos,hcs,hds⟩:=id hs;unfold Builtin.Slice.sliceApplied Builtin.Slice.sliceFields;refine r_ (r_ (wpAny_field hos hds (x:=vl) rfl (r_ (wpAny_field hos hds (x:=vu) rfl (r_ (wpAny_field hos hds (x:=.none) rfl (B_ ?_)))))));refine r_ (slicePart_none ?_);show wpAny _ _ (if ((1:Int)==0)=true then _ else _) _ _ s;rw[if_neg (by decide)];refine r_ (gR pl (r_ (gR pu (r_ (B_ ?_)))));show wpAny _ _ (match Builtin.Slice.sliceAdjust lo hi 1 (n:Int) with |(lo,hi)=>pure (lo,(1:Int),Builtin.Slice.slicePlaces lo hi 1)) _ _ s;rw[mV lo hi n];show wpAny _ _ (pure (((sIx n 0 lo:Nat):Int),(1:Int),Builtin.Slice.slicePlaces ((sIx n 0 lo:Nat):Int) ((sIx n n hi:Nat):Int) 1)) _ _ s;rw[nZ];exact B_ h
def rH(xs:Array Value)(i k:Nat):((List.range k).filterMap λ(m:Nat)=>xs[((i:Int)+(m:Int)*1).toNat]?).toArray=((xs.toList.drop i).take k).toArray:=by
 have e:(λ(m:Nat)=>xs[((i:Int)+(m:Int)*1).toNat]?)=λm=>xs[i+m]?:=by
  funext m;have:((i:Int)+(m:Int)*1).toNat=i+m:=by omega
  rw[this]
 rw[e]
 have:=pick_run xs i k
 rw[List.filterMap_map] at this;have e2:((λx=>xs[x]?) ∘ λx=>i+x)=λm=>xs[i+m]?:=rfl;rw[e2] at this;rw[this]
def getItem_tuple_cut{t sl:Addr}{items:Array Value}{vl vu:Value}{lo hi:Option Int}{Q:Gd}(ht:IsTup s.heap t items)(hs:s.heap.IsSliceOf sl vl vu .none)(pl:IsPart vl lo)(pu:IsPart vu hi)
 (hw:¬ (sIx items.size 0 lo=0/\sIx items.size items.size hi=items.size))
 (h:Q (.ref s.heap.objs.size) { s with heap:=s.heap.push { cls:=.type "tuple",data:=.seq ((items.toList.drop (sIx items.size 0 lo)).take (sIx items.size items.size hi-sIx items.size 0 lo)).toArray } })
 (hsz:items.size<=sizeLine):wpAny (model prog w) A (getItem (.ref t) (.ref sl)) Q E s:=by
 have htake:sizeOk (.seq ((items.toList.drop (sIx items.size 0 lo)).take (sIx items.size items.size hi-sIx items.size 0 lo)).toArray):=by show ((items.toList.drop (sIx items.size 0 lo)).take (sIx items.size items.size hi-sIx items.size 0 lo)).toArray.size<=sizeLine;rw[w_,List.length_take,E6,FF];omega
 have hj:sIx items.size items.size hi<=items.size:=Be _ _ (v_ _) hi;obtain⟨os,hos,hcs,hds⟩:=id hs;have hTs:s.TypeIs (.ref sl) "slice":=⟨os,hos,hcs⟩;unfold getItem;try with_reducible refine EI ?_
 first |refine r_ (B_ ?_) |skip
 refine r_ (wpAny_sequenceKey ht.typeIs (by decide) ?_);refine r_ (wpAny_callSpecial?_slot (name:=Str.ofString "__getitem__") ht.typeIs PyProof.Rows.slot_tuple_getitem
  (wpAny_call_entry PyProof.Rows.slot_tuple_getitem ht.typeIs entry_tuple_getitem ?_ (args_tuple_getitem _ _)))
 show wpAny _ _ (Builtin.Tuple.tupleItemsOf (.ref t) >>= _) _ _ s;refine r_ (tupleItemsOf_ ht ?_);refine r_ (wpAny_typeOf hTs ?_);rw[if_pos (by decide)];refine r_ (gC hs pl pu ?_);have hno:¬ ((((sIx items.size 0 lo:Nat):Int)==0&&(1:Int)==1&&(sIx items.size items.size hi-sIx items.size 0 lo)==items.size)=true):=by intro q;rw[t_,t_] at q;have q1:((sIx items.size 0 lo:Nat):Int)=0:=eq_of_beq q.1.1;have q2:sIx items.size items.size hi-sIx items.size 0 lo=items.size:=eq_of_beq q.2;exact hw ⟨by omega,by omega⟩
 show wpAny _ _ (if (((sIx items.size 0 lo:Nat):Int)==0&&(1:Int)==1&&(sIx items.size items.size hi-sIx items.size 0 lo)==items.size)=true then _ else _) _ _ s;rw[if_neg hno,rH];first
  |exact r_ (m:=Builtin.Tuple.tupleExact _) (EJ (B_ ⟨_,rfl,B_ h⟩) htake)
  |exact r_ (m:=Builtin.Tuple.tupleExact _) (EJ (r_ (B_ (B_ ⟨_,rfl,B_ h⟩))) htake)
  |exact r_ (r_ (m:=Builtin.Tuple.tupleExact _) (EJ (B_ (B_ ⟨_,rfl,B_ h⟩)) htake))
  |exact r_ (r_ (m:=Builtin.Tuple.tupleExact _) (EJ (B_ ⟨_,rfl,B_ h⟩) htake))
end
end HT
namespace L2
open PySem PySem.Spec PyProof.Rows
abbrev TO:=St->Hp->(Option Int->Hp->Prop)->Prop
def PO(X:Cx)(e:Option Expr)(t:TO):Prop:=
 ∀
  (pins:Gb) (s:Shared) (σ:St) (H:Hp) (Q:Option Int->Hp->Prop),Inv X pins σ H s->t σ H Q->
  wpAny (model X.prog X.w) X.A (evalPart e X.env) (λu s'=>∃o H',Inv X pins σ H' s'/\IsPart u o/\Q o H') X.xe s
def uy:TO:=λ_ H Q=>Q none H
def Ca(t:TE):TO:=λσ H Q=>t σ H λx H1=>∃i,x=.int i/\Q (some i) H1
section
variable{X:Cx}{e:Expr}{te:TE}{lo hi:Option Expr}{tl th:TO}{pos p2:Pos}
def uS:PO X none uy:=by intro pins s σ H Q I h;rw[evalPart_none];exact B_ ⟨none,H,I,.none,h⟩
def u5(h:PE X e te):PO X (some e) (Ca te):=by intro pins s σ H Q I hw;rw[evalPart_some];refine thn (h pins s σ H _ I hw) λu s1 ⟨x,H1,I1,r1,q1⟩=>?_;obtain⟨i,rfl,q⟩:=q1;obtain⟨t,rfl⟩:=r1;exact⟨some i,H1,I1,.int i t,q⟩
def SlR(X:Cx)(r:V->Option Int->Option Int->Hp->VK->Prop):Prop:=
 ∀
  (pins:Gb) (s:Shared) (σ:St) (H:Hp) (x:V) (v vl vu:Value) (lo hi:Option Int) (sl:Addr) (Q:VK),Inv X pins σ H s->RelV x v->s.heap.IsSliceOf sl vl vu .none->IsPart vl lo->IsPart vu hi->r x lo hi H Q->
  ∃T id,typeLookup (.type T) "__getitem__"=pure (some (.builtin id))/\s.TypeIs v T/\wpAny (model X.prog X.w) X.A (getItem v (.ref sl)) (EP X pins σ Q) X.xe s
def SlR.or(h:SlR X r)(h':SlR X r'):SlR X (λx lo hi H Q=>r x lo hi H Q\/r' x lo hi H Q):=by
 intro pins s σ H x v vl vu lo hi sl Q I rx hs pl pu q;rcases q with q |q
 .exact h pins s σ H x v vl vu lo hi sl Q I rx hs pl pu q
 .exact h' pins s σ H x v vl vu lo hi sl Q I rx hs pl pu q
def tSl(r:V->Option Int->Option Int->Hp->VK->Prop)(te:TE)(tl th:TO):TE:=λσ H Q=>te σ H λx H1=>tl σ H1 λl H2=>th σ H2 λu H3=>r x l u H3 Q
def qx(hr:SlR X r)(he:PE X e te)(hl:PO X lo tl)(hu:PO X hi th):PE X (.Subscript e (.Slice lo hi none p2) pos) (tSl r te tl th):=by intro pins s σ H Q I h;refine Subscript_ (thn (he pins s σ H _ I h) λv s1 ⟨x,H1,I1,r1,q1⟩=>?_);refine wpAny_Slice (thn (hl pins s1 σ H1 _ I1 q1) λvl s2 ⟨l,H2,I2,pl,q2⟩=>thn (hu pins s2 σ H2 _ I2 q2) λvu s3 ⟨u,H3,I3,pu,q3⟩=>?_);rw[evalPart_none];refine B_ ?_;have I4:Inv X pins σ H3 { s3 with heap:=s3.heap.push { cls:=.type "slice",data:=.fields #[vl,vu,.none] } }:=I3.kept (t':=s3.toks) λb ob q=>s_ _ q;obtain⟨T,id,hT,ht,hg⟩:=hr pins { s3 with heap:=s3.heap.push { cls:=.type "slice",data:=.fields #[vl,vu,.none] } } σ H3 x v vl vu l u s3.heap.objs.size Q I4 r1 (Heap.IsSliceOf.new ..) pl pu q3;show wpAny (model X.prog X.w) X.A (subscriptTail e (.Slice lo hi none p2) v (.ref s3.heap.objs.size)) (EP X pins σ Q) X.xe { s3 with heap:=s3.heap.push { cls:=.type "slice",data:=.fields #[vl,vu,.none] } };exact tail_any (ops:=[.ref s3.heap.objs.size,v]) ht hT hg (by with_unfolding_all rfl)
noncomputable def fk(xs:List V)(lo hi:Option Int):List V:=(xs.drop (HT.sIx xs.length 0 lo)).take (HT.sIx xs.length xs.length hi-HT.sIx xs.length 0 lo)
def fV(xs:List V)(lo hi:Option Int):(fk xs lo hi).length<=xs.length:=by unfold fk;rw[List.length_take,E6];omega
def rSlT(K:W.Frag):V->Option Int->Option Int->Hp->VK->Prop:=λx lo hi H Q=>∃a xs,x=.ref a/\SqT K H a xs/\
 ¬ (HT.sIx xs.length 0 lo=0/\HT.sIx xs.length xs.length hi=xs.length)/\∀p,H p=none->Q (.ref p) (upd H p (.tup (fk xs lo hi)))
def xC:SlR X (rSlT X.K):=by
 intro pins s σ H x v vl vu lo hi sl Q I rx hs pl pu h;obtain⟨a,xs,rfl,hx,hw,q⟩:=h;cases rx;obtain⟨its,r,ht,hz⟩:=I.tuple hx;have hlen:its.toArray.size=xs.length:=by rw[w_];exact r.length.symm
 refine⟨"tuple",_,PyProof.Rows.slot_tuple_getitem.lookup,ht.typeIs,?_⟩;refine HT.getItem_tuple_cut ht hs pl pu (by rw[hlen];exact hw) ?_ (by rw[hlen];exact hz);rw[hlen];refine⟨.ref s.heap.objs.size,_,I.laid (t':=s.toks) (o:=.tup (fk xs lo hi)) (λb ob q=>s_ _ q) (v_ _) ?_,rfl,q _ (I.hok.fresh (v_ _))⟩;exact⟨DU (fV xs lo hi) hz,_,(r.drop (HT.sIx xs.length 0 lo)).take (HT.sIx xs.length xs.length hi-HT.sIx xs.length 0 lo),IsTup.new _ _⟩
def fG(K:W.Frag):R2:=λx y H Q=>∃a b xs ys,x=.ref a/\y=.ref b/\SqT K H a xs/\SqT K H b ys/\xs≠[]/\xs.length+ys.length<=sizeLine/\
 (ys=[]->Q (.ref a) H)/\(ys≠[]->∀p,H p=none->Q (.ref p) (upd H p (.tup (xs++ys))))
def Vals.nil_iff(r:Vals xs us):us=[] ↔ xs=[]:=by
 cases r with
 |nil=>simp
 |cons _ _=>simp
def vZ:OpR X (binaryOp .Add) (fG X.K):=by intro pins s σ H x y v u Q I rx ry h;obtain⟨a,b,xs,ys,rfl,rfl,ha,hb,hx,hz,q1,q2⟩:=h;cases rx;cases ry;obtain⟨its,r1,p1,_⟩:=I.tuple ha;obtain⟨its2,r2,p2,_⟩:=I.tuple hb;refine HT.cat_tup p1 p2 (λz=>hx (r1.nil_iff.mp z)) (λz=>⟨.ref a,H,I,rfl,q1 (r2.nil_iff.mp z)⟩) (λz=>?_) (by rw[<- r1.length,<- r2.length];exact hz);refine⟨.ref s.heap.objs.size,_,I.laid (t':=s.toks) (o:=.tup (xs++ys)) (λb ob q=>s_ _ q) (v_ _) ?_,rfl,q2 (λw=>z (r2.nil_iff.mpr w)) _ (I.hok.fresh (v_ _))⟩;exact⟨by rw[DY];exact hz,_,r1.append r2,IsTup.new _ _⟩
end
noncomputable def ixN(n:Nat)(i:Int):Option Nat:=if 0<=i then (if i<n then some i.toNat else none) else if -(n:Int)<=i then some (i+n).toNat else none
noncomputable def atI{α:Type}(xs:List α)(i:Int):Option α:=(ixN xs.length i).bind λj=>xs[j]?
def my(h:ixN n i=some j):seqIndex? i n=some j/\j<n/\-(n:Int)<=i/\i<n:=by
 unfold ixN at h;by_cases h0:0<=i
 .rw[if_pos h0] at h;by_cases h1:i<n
  .rw[if_pos h1] at h;have e:i.toNat=j:=DX h;exact⟨by rw[seqIndex_of h0 h1,e],by omega,by omega,h1⟩
  .rw[if_neg h1] at h;cases h
 .rw[if_neg h0] at h;by_cases h1:-(n:Int)<=i
  .rw[if_pos h1] at h;have e:(i+n).toNat=j:=DX h;exact⟨by rw[seqIndex_neg (by omega) h1,e],by omega,h1,by omega⟩
  .rw[if_neg h1] at h;cases h
def me(h:atI xs i=some v):∃j,seqIndex? i xs.length=some j/\xs[j]?=some v/\j<xs.length/\-(xs.length:Int)<=i/\i<xs.length:=by
 unfold atI at h;cases e:ixN xs.length i with
 |none=>rw[e] at h;cases h
 |some j=>rw[e] at h;obtain⟨h1,h2,h3,h4⟩:=my e;exact⟨j,h1,h,h2,h3,h4⟩
def iN(b:Expr):Prop:=∀o i,subscripted b false o i=operate [o,i] (getItem o i)
def IxR(X:Cx)(r:R2):Prop:=
 ∀
  (value h_:Expr) (pins:Gb) (s:Shared) (σ:St) (H:Hp) (x y:V) (v u:Value) (Q:VK),Inv X pins σ H s->RelV x v->RelV y u->r x y H Q->
  subscripted h_ false v u=operate [v,u] (getItem v u)->wpAny (model X.prog X.w) X.A (subscriptTail value h_ v u) (EP X pins σ Q) X.xe s
def MtR(X:Cx)(id:String)(r:V->List V->Hp->VK->Prop):Prop:=
 ∀
  (pins:Gb) (s:Shared) (σ:St) (H:Hp) (x:V) (xs:List V) (v:Value) (us:List Value) (Q:VK),Inv X pins σ H s->RelV x v->Vals xs us->r x xs H Q->
  wpAny (model X.prog X.w) X.A (call (.builtin id) (v::us)) (EP X pins σ Q) X.xe s
section
variable{X:Cx}{a b:Expr}{ta tb:TE}{pos:Pos}
def IxR.or(h:IxR X r)(h':IxR X r'):IxR X (λx y H Q=>r x y H Q\/r' x y H Q):=by
 intro value h_ pins s σ H x y v u Q I rx ry q hs;rcases q with q |q
 .exact h value h_ pins s σ H x y v u Q I rx ry q hs
 .exact h' value h_ pins s σ H x y v u Q I rx ry q hs
def CU(hr:IxR X r)(ha:PE X a ta)(hb:PE X b tb)(hs:iN b):PE X (.Subscript a b pos) (tOp r ta tb):=by intro pins s σ H Q I h;exact Subscript_ (sU ha hb I h λv u s2 x y H2 I2 rx ry q=>hr a b pins s2 σ H2 x y v u Q I2 rx ry q (hs _ _))
def m8(K:W.Frag):R2:=λx y H Q=>∃p xs i v,x=.ref p/\y=.int i/\SqL K H p xs/\atI xs i=some v/\Q v H
def nY(K:W.Frag):R2:=λx y H Q=>∃p xs i v,x=.ref p/\y=.int i/\SqT K H p xs/\atI xs i=some v/\Q v H
def wb:IxR X (m8 X.K):=by
 intro value h_ pins s σ H x y v u Q I rx ry h hs;obtain⟨p,xs,i,z,rfl,rfl,hq,he,q⟩:=h;cases rx;obtain⟨t,rfl⟩:=ry;obtain⟨its,r,pl,hz⟩:=I.list hq;obtain⟨j,h1,h2,h3,h4,h5⟩:=me he;obtain⟨w,ew,rw'⟩:=r.get h2;have hl:=r.length;have hn:=eU;have k_:EP X pins σ Q w s:=⟨z,H,I,rw',q⟩;by_cases h0:0<=i
 .have hj:i.toNat=j:=by rw[seqIndex_of h0 h5] at h1;exact DX h1
  exact item_listR pl.isList h0 (by omega) (by rw[hj];simpa using ew) k_ hs
 .have hj:(i+(its.toArray.size:Int)).toNat=j:=by rw[seqIndex_neg (by omega) h4] at h1;rw[w_,<- hl];exact DX h1
  exact subscriptTail_builtinR (x:=w) pl.isList.typeIs slot_list_getitem.lookup
   (wpAny_getItem_list_neg (Q:=λr s'=>r=w/\EP X pins σ Q r s') pl.isList (by omega) (by rw[w_] <;> omega) (by omega) (by rw[hj];simpa using ew) ⟨rfl,k_⟩) hs
def y9:IxR X (nY X.K):=by
 intro value h_ pins s σ H x y v u Q I rx ry h hs;obtain⟨p,xs,i,z,rfl,rfl,hq,he,q⟩:=h;cases rx;obtain⟨t,rfl⟩:=ry;obtain⟨its,r,pl,hz⟩:=I.tuple hq;obtain⟨j,h1,h2,h3,h4,h5⟩:=me he;obtain⟨w,ew,rw'⟩:=r.get h2;have hl:=r.length;have hn:=eU;have k_:EP X pins σ Q w s:=⟨z,H,I,rw',q⟩;exact subscriptTail_builtinR (x:=w) pl.typeIs slot_tuple_getitem.lookup
  (getItem_tuple (j:=j) (Q:=λr s'=>r=w/\EP X pins σ Q r s') pl (by omega) (by omega) (by rw[w_,<- hl];exact h1) (by simpa using ew) ⟨rfl,k_⟩) hs
def mX(its:List Value)(n j:Nat)(u:Value):Obj.mapSeq (·.setIfInBounds j u) { cls:=.type "list",data:=.seq its.toArray n }={ cls:=.type "list",data:=.seq (its.set j u).toArray n }:=by simp [Obj.mapSeq]
def Inv.lst(I:Inv X pins σ H s)(h:H p=some (.lst xs)):
 ∃(its:List Value) (n:Nat),Vals xs its/\s.heap.get? p=some { cls:=.type "list",data:=.seq its.toArray n }/\xs.length<=sizeLine:=by
 obtain⟨z,its,n,r,e⟩:=I.hok p _ h;exact⟨its,n,r,e,z⟩
def Inv.lstUpd{pins:Gb}{σ:St}{H:Hp}{s:Shared}{p:Addr}{xs ys:List V}{its its':List Value}{n n':Nat}{f:Obj->Obj}(I:Inv X pins σ H s)(h:H p=some (.lst xs))
 (ho:s.heap.get? p=some { cls:=.type "list",data:=.seq its.toArray n }) (hf:f { cls:=.type "list",data:=.seq its.toArray n }={ cls:=.type "list",data:=.seq its'.toArray n' }) (r:Vals ys its') (hz:ys.length<=sizeLine) (t:Nat):
 Inv X pins σ (upd H p (.lst ys)) { s with heap:=s.heap.update p f,toks:=t }:=by
 have e:(s.heap.update p f).get? p=some { cls:=.type "list",data:=.seq its'.toArray n' }:=by rw[Heap.get?_update_self f ho (by rw[hf] <;> rfl),hf]
 refine I.write (x:=p) (e:=p) (by rw[h];trivial) (.inl rfl) (λb u hb q=>(Fq _ _ (Ne.symm hb)).trans q) ⟨_,e⟩ ?_;exact⟨hz,its',n',r,e⟩
def nU:V->V->V->Hp->(Hp->Prop)->Prop:=λo i v H Q=>∃p xs k j,o=.ref p/\i=.int k/\H p=some (.lst xs)/\ixN xs.length k=some j/\Q (upd H p (.lst (xs.set j v)))
def qw:ku X nU:=by
 intro pins s σ H o i v ov iv u Q I ro ri rv h;obtain⟨p,xs,k,j,rfl,rfl,hp,hj,q⟩:=h;cases ro;obtain⟨t,rfl⟩:=ri;obtain⟨its,n,r,ho,hz⟩:=I.lst hp;obtain⟨h1,h2,h3,h4⟩:=my hj;have hl:=r.length;have hn:=eU;have I':Inv X pins σ (upd H p (.lst (xs.set j v))) { s with heap:=s.heap.update p (Obj.mapSeq (·.setIfInBounds j u)) }:=
  I.lstUpd hp ho (mX its n j u) (r.set rv j) (by rw[y_];exact hz) s.toks
 by_cases h0:0<=k
 .have hk:k.toNat=j:=by rw[seqIndex_of h0 h4] at h1;exact DX h1
  exact W.ki_setAt ho h0 (by omega) (by rw[w_,<- hl];exact h4) (by rw[hk];exact⟨_,I',q⟩)
 .have hk:(k+(its.toArray.size:Int)).toNat=j:=by rw[seqIndex_neg (by omega) h3] at h1;rw[w_,<- hl];exact DX h1
  exact W.ki_setBack ho (by omega) (by rw[w_,<- hl];exact h3) (by omega) (by rw[hk];exact⟨_,I',q⟩)
def kK(lo hi:Option Int)(n:Nat):(sliceBounds lo hi none n).1=((HT.sIx n 0 lo:Nat):Int)/\(sliceBounds lo hi none n).2.1=((HT.sIx n n hi:Nat):Int)/\(sliceBounds lo hi none n).2.2=1:=by
 refine⟨?_,?_,rfl⟩
 .cases lo with
  |none=>simp [sliceBounds,HT.sIx]
  |
   some i=>
   simp only[sliceBounds,HT.sIx,Option.getD_none,show (1:Int)>0 by decide,E4];by_cases h:i<0
   .simp only[h,E4] <;> omega
   .simp only[h,E8] <;> omega
 .cases hi with
  |none=>simp [sliceBounds,HT.sIx]
  |
   some i=>
   simp only[sliceBounds,HT.sIx,Option.getD_none,show (1:Int)>0 by decide,E4];by_cases h:i<0
   .simp only[h,E4] <;> omega
   .simp only[h,E8] <;> omega
def jt(its:List Value)(lo hi:Option Int):slicePick its.toArray lo hi none=((its.drop (HT.sIx its.length 0 lo)).take (HT.sIx its.length its.length hi-HT.sIx its.length 0 lo)).toArray:=by obtain⟨h1,h2,h3⟩:=kK lo hi its.toArray.size;unfold slicePick;rw[h1,h2,h3];simp only[sliceRange_one,pick_run,w_] <;> rfl
def rSlL(K:W.Frag):V->Option Int->Option Int->Hp->VK->Prop:=λx lo hi H Q=>∃a xs,x=.ref a/\SqL K H a xs/\∀p,H p=none->Q (.ref p) (upd H p (.lst (fk xs lo hi)))
def u6:SlR X (rSlL X.K):=by intro pins s σ H x v vl vu lo hi sl Q I rx hs pl pu h;obtain⟨a,xs,rfl,hx,q⟩:=h;cases rx;obtain⟨its,r,ht,hz⟩:=I.list hx;have hlen:=r.length;refine⟨"list",_,slot_list_getitem.lookup,ht.isList.typeIs,?_⟩;refine wpAny_getItem_list_slice ht.isList hs pl pu .none (by simp) ?_ (by rw[w_] <;> omega);rw[jt,<- hlen];refine⟨.ref s.heap.objs.size,_,I.laid (t':=s.toks) (o:=.lst (fk xs lo hi)) (λb ob q=>s_ _ q) (v_ _) ?_,rfl,q _ (I.hok.fresh (v_ _))⟩;exact⟨DU (fV xs lo hi) hz,_,0,(r.drop (HT.sIx xs.length 0 lo)).take (HT.sIx xs.length xs.length hi-HT.sIx xs.length 0 lo),Ec _ rfl⟩
noncomputable def aJ:V->Bool
 |.non=>true
 |.bl _=>true
 |.int _=>true
 |.str _=>true
 |_=>false
noncomputable def eqV:V->V->Bool
 |.non,.non=>true
 |.bl a,.bl b=>a==b
 |.bl a,.int b=>(if a then 1 else 0)==b
 |.int a,.bl b=>a==(if b then 1 else 0)
 |.int a,.int b=>a==b
 |.str a,.str b=>a==b
 |_,_=>false
def xj(ry:RelV y u)(rx:RelV x v)(fy:aJ y=true)(fx:aJ x=true):SeqAt.EqAt A s u v (eqV y x):=by
 cases y with
 |
  non=>
  cases ry;cases x with
  |non=>cases rx;exact SeqAt.EqAt.same _
  |bl b=>cases rx;exact SeqAt.EqAt.none_bool b
  |int b=>obtain⟨t,rfl⟩:=rx;exact SeqAt.EqAt.none_int b t
  |str b=>obtain⟨t,rfl⟩:=rx;exact SeqAt.EqAt.none_str b t
  |_=>exact absurd (show false=true from fx) u_
 |
  bl a=>
  cases ry;cases x with
  |non=>cases rx;exact SeqAt.EqAt.bool_none a
  |bl b=>cases rx;exact SeqAt.EqAt.bool_bool a b
  |int b=>obtain⟨t,rfl⟩:=rx;exact SeqAt.EqAt.bool_int a b t
  |str b=>obtain⟨t,rfl⟩:=rx;exact SeqAt.EqAt.bool_str a b t
  |_=>exact absurd (show false=true from fx) u_
 |
  int a=>
  obtain⟨t',rfl⟩:=ry;cases x with
  |non=>cases rx;exact SeqAt.EqAt.int_none a t'
  |bl b=>cases rx;exact SeqAt.EqAt.int_bool a t' b
  |int b=>obtain⟨t,rfl⟩:=rx;exact SeqAt.EqAt.int_int a t' b t
  |str b=>obtain⟨t,rfl⟩:=rx;exact SeqAt.EqAt.int_str a t' b t
  |_=>exact absurd (show false=true from fx) u_
 |
  str a=>
  obtain⟨t',rfl⟩:=ry;cases x with
  |non=>cases rx;exact SeqAt.EqAt.str_none a t'
  |bl b=>cases rx;exact SeqAt.EqAt.str_bool a t' b
  |int b=>obtain⟨t,rfl⟩:=rx;exact SeqAt.EqAt.str_int a t' b t
  |str b=>obtain⟨t,rfl⟩:=rx;exact SeqAt.EqAt.str_str a t' b t
  |_=>exact absurd (show false=true from fx) u_
 |_=>exact absurd (show false=true from fy) u_
noncomputable def eqU(x:V)(u:Value):Bool:=match u with
 |.none=>eqV .non x
 |.bool b=>eqV (.bl b) x
 |.int i _=>eqV (.int i) x
 |.str z _=>eqV (.str z) x
 |_=>false
def pq(r:RelV y u)(f:aJ y=true):eqU x u=eqV y x:=by
 cases y with
 |non=>cases r;rfl
 |bl b=>cases r;rfl
 |int i=>obtain⟨t,rfl⟩:=r;rfl
 |str z=>obtain⟨t,rfl⟩:=r;rfl
 |_=>exact absurd (show false=true from f) u_
theorem iP:∀{xs:List V}{us:List Value},Vals xs us->xs.all aJ=true->us.any (eqU x)=xs.any λy=>eqV y x
 |_,_,.nil,_=>rfl
 |
  y::xs,u::us,.cons r t,f=>by
  rw[EO,t_] at f;rw[EB,EB,pq r f.1,iP t f.2]
theorem gB(rx:RelV x v)(fx:aJ x=true):∀{xs:List V}{us:List Value},Vals xs us->xs.all aJ=true->∀u∈us,SeqAt.EqAt A s u v (eqU x u)
 |_,_,.nil,_=>λu hu=>by cases hu
 |
  y::xs,u::us,.cons r t,f=>λu' hu=>by
  rw[EO,t_] at f;rcases Eg.mp hu with rfl |hu
  .rw[pq r f.1];exact xj r rx f.1 fx
  .exact gB rx fx t f.2 u' hu
noncomputable def inV(x:V)(xs:List V):Bool:=xs.any λy=>eqV y x
def rIn(K:W.Frag)(neg:Bool):R2:=λx y H Q=>∃p xs,y=.ref p/\(SqL K H p xs\/SqT K H p xs)/\aJ x=true/\xs.all aJ=true/\Q (.bl (if neg then !inV x xs else inV x xs)) H
def oo:OpR X (compareOp .In) (rIn X.K false):=by
 intro pins s σ H x y v u Q I rx ry h;obtain⟨p,xs,rfl,hq,fx,fs,q⟩:=h;cases ry;rcases hq with hq |hq
 .obtain⟨its,r,pl,hz⟩:=I.list hq;refine SeqAt.in_listAt (eqU x) pl.isList (λw hw=>gB rx fx r fs w (by simpa using hw)) ⟨.bl _,H,I,rfl,?_⟩;rw[show its.toArray.any (eqU x)=its.any (eqU x) by simp,iP r fs];exact q
 .obtain⟨its,r,pl,hz⟩:=I.tuple hq;refine SeqAt.in_tupleAt (eqU x) pl (λw hw=>gB rx fx r fs w (by simpa using hw)) ⟨.bl _,H,I,rfl,?_⟩;rw[show its.toArray.any (eqU x)=its.any (eqU x) by simp,iP r fs];exact q
def kJ:CallR X (.builtin "len") (λxs H Q=>∃p ys,xs=[.ref p]/\(SqL X.K H p ys\/SqT X.K H p ys)/\Q (.int ys.length) H):=by
 intro pins s σ H xs us Q I r h;obtain⟨p,ys,rfl,hq,q⟩:=h;obtain⟨u,rfl,rx⟩:=eP r;cases rx;have hn:=eU;rcases hq with hq |hq
 .obtain⟨its,r',pl,hz⟩:=I.list hq;have hlen:=r'.length;exact Calls.call_len_list pl.isList (by simp only[w_] <;> omega) ⟨.int ys.length,H,I.tok _,⟨s.toks+1,by rw[w_,hlen]⟩,q⟩
 .obtain⟨its,r',pl,hz⟩:=I.tuple hq;have hlen:=r'.length;exact len_tuple pl (by simp only[w_] <;> omega) ⟨.int ys.length,H,I.tok _,⟨s.toks+1,by rw[w_,hlen]⟩,q⟩
def kF:CallR X (.builtin "len") (λxs H Q=>∃z,xs=[.str z]/\z.length<=sizeLine/\Q (.int z.length) H):=by intro pins s σ H xs us Q I r h;obtain⟨z,rfl,hz,q⟩:=h;obtain⟨u,rfl,t,rfl⟩:=eP r;have hn:=eU;exact len_str (by omega) ⟨.int z.length,H,I.tok _,⟨_,rfl⟩,q⟩
def CallR.or(h:CallR X f r)(h':CallR X f r'):CallR X f (λxs H Q=>r xs H Q\/r' xs H Q):=by
 intro pins s σ H xs us Q I rs q;rcases q with q |q
 .exact h pins s σ H xs us Q I rs q
 .exact h' pins s σ H xs us Q I rs q
def kq:CallR X (.type "list") (λxs H Q=>∃p ys,xs=[.ref p]/\(SqL X.K H p ys\/SqT X.K H p ys)/\∀l,H l=none->Q (.ref l) (upd H l (.lst ys))):=by
 intro pins s σ H xs us Q I r h;obtain⟨p,ys,rfl,hq,q⟩:=h;obtain⟨u,rfl,rx⟩:=eP r;cases rx;have k_:∀(its:List Value),Vals ys its->ys.length<=sizeLine->∀(h':Heap) (c':Nat),(∀b o',s.heap.get? b=some o'->h'.get? b=some o')->
  h'.get? s.heap.objs.size=some { cls:=.type "list",dict:=none,data:=.seq its.toArray c',slots:=#[] }->EP X pins σ Q (.ref s.heap.objs.size) { s with heap:=h' }:=λits r' hz h' c' kp e=>
  ⟨.ref s.heap.objs.size,_,I.laid (t':=s.toks) kp (v_ _) (show ObjOk X.prog X.w _ h' _ (.lst ys) from ⟨hz,its,c',r',e⟩),rfl,q _ (I.hok.fresh (v_ _))⟩
 rcases hq with hq |hq
 .obtain⟨its,r',pl,hz⟩:=I.list hq;have hlen:=r'.length;obtain⟨o,ho,hc,n,hd⟩:=pl.isList;exact call_list_seq p (.inl rfl) ho hc hd (λh' c' kp e=>k_ its r' hz h' c' kp e) (by simp only[w_] <;> omega)
 .obtain⟨its,r',pl,hz⟩:=I.tuple hq;have hlen:=r'.length;obtain⟨o,ho,hc,n,hd⟩:=pl;exact call_list_seq p (.inr rfl) ho hc hd (λh' c' kp e=>k_ its r' hz h' c' kp e) (by simp only[w_] <;> omega)
def tyV(K:W.Frag)(T:String)(x:V)(H:Hp):Prop:=match x with
 |.str _=>T="str"
 |.int _=>T="int"
 |.ref p=>(T="list" /\ ∃xs,SqL K H p xs)\/(T="tuple" /\ ∃o,K.lookup p=some o/\o.cls=.type "tuple" /\ o.dict=none)\/
  (T="dict" /\ ((∃kvs,H p=some (.dK kvs))\/∃kvs,H p=some (.dT kvs)))\/(T="set" /\ ∃S n,H p=some (.set S n))
 |_=>False
def zG(I:Inv X pins σ H s)(r:RelV x v)(ty:tyV X.K T x H):
 s.TypeIs v T/\∀a,v=.ref a->∃ob,s.heap.get? a=some ob/\ob.dict=none:=by
 cases x with
 |str z=>obtain⟨t,rfl⟩:=r;cases (show T="str" from ty);exact⟨typeIs_str s z t,λ_ e=>nomatch e⟩
 |int i=>obtain⟨t,rfl⟩:=r;cases (show T="int" from ty);exact⟨typeIs_int s i t,λ_ e=>nomatch e⟩
 |
  ref p=>
  cases r;rcases ty with ⟨rfl,xs,hq⟩ |⟨rfl,o,hk,hc,hd⟩ |⟨rfl,hk⟩ |⟨rfl,S,n,hk⟩
  .obtain⟨its,_,pl,_⟩:=I.list hq;refine⟨pl.isList.typeIs,λa e=>?_⟩;cases e;obtain⟨o,n,e,c,hd,_⟩:=pl;exact⟨o,e,hd⟩
  .refine⟨⟨o,I.kIn p o hk,hc⟩,λa e=>?_⟩;cases e;exact⟨o,I.kIn _ o hk,hd⟩
  .have z:∃o,s.heap.get? p=some o/\o.ExactDict:=by
    rcases hk with ⟨kvs,hk⟩ |⟨kvs,hk⟩
    .obtain⟨_,_,_,_,o,_,_,e,ex,_⟩:=I.hok p _ hk;exact⟨o,e,ex⟩
    .obtain⟨_,_,_,_,o,_,_,e,ex,_⟩:=I.hok p _ hk;exact⟨o,e,ex⟩
   obtain⟨o,e,ex⟩:=z;refine⟨⟨o,e,ex.1⟩,λa e2=>?_⟩;cases e2;exact⟨o,e,ex.2.1⟩
  .obtain⟨o,_,_,_,e,ex,_⟩:=I.hok p _ hk;refine⟨⟨o,e,ex.1⟩,λa e2=>?_⟩;cases e2;exact⟨o,e,ex.2.1⟩
 |_=>exact False.elim ty
def tBM(K:W.Frag)(T:String)(r:V->List V->Hp->VK->Prop)(to:TE)(t:TA):TE:=λσ H Q=>to σ H λx H1=>tyV K T x H1/\t σ H1 λxs H2=>r x xs H2 Q
variable{o e:Expr}{es:List Expr}{to:TE}{t:TA}{name:Str}{apos cpos:Pos}{T id:String}{r:V->List V->Hp->VK->Prop}
def C4(pa:PlainAttrs T)(slot:Slot T name id)(hty:typeOf (.builtin id)=pure (.type "method_descriptor"))(hm:MtR X id r)(ho:PE X o to)(ha:PA X (e::es) t)
 (hbase:attributeBase o name X.env (eval o X.env)=eval o X.env)
 (hfew:((backTo cpos (starEach (e::es) X.env)).all (λx=>!x.1)&&(backToKw cpos (keywordEach [] X.env)).all (λx=>x.1.isSome)
  && decide ((e::es).length+([]:List Keyword).length+(if ([]:List Keyword).isEmpty then 0 else 1)<30))=true)
 (hline:(apos.endLine==cpos.line)=true) (hs:starEach (e::es) X.env=(false,eval e X.env)::starEach es X.env) (f_:(backTo cpos (starEach es X.env)).any (·.1)=false):
 PE X (.Call (.Attribute o name apos) (e::es) [] cpos) (tBM X.K T r to t):=by
 intro pins s σ H Q I h;refine wpAny_Call_method_late hbase hfew hline rfl (thn (ho pins s σ H _ I h) λv s1 ⟨x,H1,I1,r1,ty,q1⟩=>?_);obtain⟨h1,h2⟩:=zG I1 r1 ty;refine⟨T,id,pa,slot,hty,h1,h2,?_⟩;have hA:=ha cpos pins s1 σ H1 _ I1 q1;rw[hs] at hA ⊢;refine Calls.callWith_builtin (by show (false || (backTo cpos (starEach es X.env)).any (·.1))=false;rw[f_] <;> rfl) (Calls.evalArgs_plain ?_);exact thn hA λus s2 ⟨vs,H2,I2,r2,q2⟩=>hm pins s2 σ H2 x vs v us Q I2 r1 r2 q2
end
def MtM(X:Cx)(id:String)(r:V->List V->Hp->VK->Prop):Prop:=
 ∀
  (pins:Gb) (s:Shared) (σ:St) (H:Hp) (x:V) (xs:List V) (v:Value) (us:List Value) (Q:VK),Inv X pins σ H s->RelV x v->Vals xs us->r x xs H Q->
  wpAny (model X.prog X.w) X.A (call (.builtin id) (v::us)) (EP X pins σ Q) X.xe s
def Vals.one(r:Vals [x] us):∃u,us=[u]/\RelV x u:=by
 cases r with
 |cons r t=>cases t;exact⟨_,rfl,r⟩
theorem Vals.rep(h:Vals xs us):∀k:Nat,Vals (List.replicate k xs).flatten (List.replicate k us).flatten
 |0=>.nil
 |
  k+1=>by
  rw[D1,D1,Ep,Ep];exact Vals.append h (Vals.rep h k)
theorem jk(its:List Value):∀(k:Nat) (acc:List Value),
 List.foldl (λx1 x2=>x1++x2) acc.toArray (List.replicate k its.toArray)=(acc++(List.replicate k its).flatten).toArray
 |0,acc=>by simp
 |
  k+1,acc=>by
  have e:acc.toArray++its.toArray=(acc++its).toArray:=by simp
  have e2:(acc++its)++(List.replicate k its).flatten=acc++(List.replicate (k+1) its).flatten:=by rw[D1,Ep,E1]
  rw[<- e2,<- jk its k (acc++its),<- e,D1,List.foldl_cons]
section
variable{X:Cx}{pins:Gb}{σ:St}{H:Hp}{s:Shared}{l:Addr}{xs ys:List V}
def Inv.lset{its its':List Value}{n:Nat}{f:Array Value->Array Value}{t':Nat}(I:Inv X pins σ H s)(hH:H l=some (.lst xs))
 (e:s.heap.get? l=some { cls:=.type "list",data:=.seq its.toArray n }) (hf:f its.toArray=its'.toArray) (hv:Vals ys its') (hz:ys.length<=sizeLine):
 Inv X pins σ (upd H l (.lst ys)) { s with heap:=s.heap.update l (Obj.mapSeq f),toks:=t' }:=by
 have q:=PySem.IsL.update e f;rw[hf] at q;refine I.write (x:=l) (e:=l) (by rw[hH];exact trivial) (.inl rfl) (λb' u hb hu=>(Fq s.heap (Obj.mapSeq f) (Ne.symm hb)).trans hu) ⟨_,q⟩ ?_;exact⟨hz,its',_,hv,q⟩
def Inv.lnew(I:Inv X pins σ H s)(hv:Vals ys its)(hz:ys.length<=sizeLine):
 Inv X pins σ (upd H s.heap.objs.size (.lst ys)) { s with heap:=s.heap.push { cls:=.type "list",data:=.seq its.toArray },toks:=t' }:=
 I.laid (λ_ _ q=>s_ _ q) (v_ _) ⟨hz,its,0,hv,Ec _ rfl⟩
def Inv.fresh(I:Inv X pins σ H s):H s.heap.objs.size=none:=I.hok.fresh (v_ _)
def Inv.lstM(I:Inv X pins σ H s)(hH:H l=some (.lst xs)):xs.length<=sizeLine/\∃(its:List Value) (n:Nat),Vals xs its/\xs.length=its.length/\s.heap.get? l=some { cls:=.type "list",data:=.seq its.toArray n }:=by obtain⟨z,its,n,r,e⟩:=I.hok l _ hH;exact⟨z,its,n,r,r.length,e⟩
def qS{n:Nat}(h:n<=sizeLine):Builtin.List.listTooLong n=false:=by unfold Builtin.List.listTooLong;exact D5 (by omega)
end
section
variable{X:Cx}
def iR:V->List V->Hp->VK->Prop:=λx vs H Q=>∃l xs y,x=.ref l/\vs=[y]/\H l=some (.lst xs)/\xs.length<sizeLine/\Q .non (upd H l (.lst (xs++[y])))
def oT:MtM X "list.append" iR:=by intro pins s σ H x vs v us Q I rx rv h;obtain⟨l,xs,y,rfl,rfl,hH,hz,q⟩:=h;cases rx;obtain⟨u,rfl,ru⟩:=rv.one;obtain⟨z,its,n,r,hl,e⟩:=I.lstM hH;refine call_meets F.slot_list_append ⟨_,e,rfl⟩ F.entry_list_append (F.args_list_append_2 _ _) (PySem.list_append l its.toArray n u (by rw[w_];omega)) ⟨e,?_⟩;refine⟨.non,_,I.lset (its':=its++[u]) hH e (by simp) (r.append (.cons ru .nil)) ?_,rfl,q⟩;rw[DY,Fu];omega
def i6:R2:=λx y H Q=>∃l b xs zs,x=.ref l/\y=.ref b/\H l=some (.lst xs)/\H b=some (.lst zs)/\xs.length+zs.length<=sizeLine/\∀p,H p=none->Q (.ref p) (upd H p (.lst (xs++zs)))
def yZ:OpR X (binaryOp .Add) i6:=by
 intro pins s σ H x y v u Q I rx ry h;obtain⟨l,b,xs,zs,rfl,rfl,hH,hB,hz,q⟩:=h;cases rx;cases ry;obtain⟨z,its,n,r,hl,e⟩:=I.lstM hH;obtain⟨z2,its2,n2,r2,hl2,e2⟩:=I.lstM hB;refine PySem.P.add_list e e2 ?_ (by rw[w_,w_];omega);have ea:its.toArray++its2.toArray=(its++its2).toArray:=by simp
 rw[ea];exact⟨.ref _,_,I.lnew (t':=s.toks) (r.append r2) (by rw[DY];omega),rfl,q _ I.fresh⟩
def tf:R2:=λx y H Q=>∃l k xs,x=.ref l/\y=.int k/\H l=some (.lst xs)/\-(2^63)<=k/\k<2^63/\xs.length*k.toNat<=sizeLine/\
 ∀p,H p=none->Q (.ref p) (upd H p (.lst (List.replicate k.toNat xs).flatten))
def vO(xs:List α)(k:Nat):(List.replicate k xs).flatten.length=k*xs.length:=by
 induction k with
 |zero=>simp
 |succ k ih=>rw[D1,Ep,DY,ih,Nat.succ_mul,Nat.add_comm]
def yO:OpR X (binaryOp .Mult) tf:=by
 intro pins s σ H x y v u Q I rx ry h;obtain⟨l,k,xs,rfl,rfl,hH,h1,h2,hz,q⟩:=h;cases rx;obtain⟨t,rfl⟩:=ry;obtain⟨z,its,n,r,hl,e⟩:=I.lstM hH;have hlen:its.toArray.size*k.toNat<=sizeLine:=by rw[w_,<- hl];exact hz
 have hcap:¬ its.toArray.size*k.toNat>(2^63-1)/8:=by
  have:(sizeLine:Nat)<=(2^63-1)/8:=by decide
  omega
 have hfit:¬ (!Builtin.List.listFitsIndex k)=true:=by rw[fitsIndex_both h1 h2];exact u_
 have hlong:¬ Builtin.List.listTooLong (its.toArray.size*k.toNat)=true:=by rw[qS hlen];exact u_
 have hnew:List.foldl (λx1 x2=>x1++x2) #[] (List.replicate (if its.toArray.isEmpty=true then 0 else k.toNat) its.toArray)=(List.replicate k.toNat its).flatten.toArray:=by
  have f0:∀m:Nat,List.foldl (λx1 x2=>x1++x2) #[] (List.replicate m its.toArray)=(List.replicate m its).flatten.toArray:=λm=>by
   have:=jk its m []
   rw[Et] at this;exact this
  rw[f0];cases its with
  |nil=>simp
  |cons a r'=>rw[if_neg (by simp)]
 refine wpAny_binaryOp_repeat_ref (T:="list") (U:="int") (by decide) ⟨_,e,rfl⟩ (λs'=>typeIs_int s' k t) noFill_list_mul F.fills_int_mul F.slot_int_rmul repeat_list F.slot_int_index.lookup
  (call_meets F.slot_int_rmul (typeIs_int s k t) F.entry_int_rmul (F.args_int_rmul_2 _ _) (int___rmul___int_list k t l its.toArray n)
   ⟨e,rfl,⟨_,e,rfl⟩,call_meets F.slot_list_mul ⟨_,e,rfl⟩ F.entry_list_mul (F.args_list_mul_2 _ _) (AutoListH.list___mul___list_int_3 l its.toArray n k t hfit hcap hlong) ⟨e,?_⟩⟩)
 rw[hnew];exact⟨.ref _,_,I.lnew (t':=s.toks) (r.rep k.toNat) (by rw[vO,Nat.mul_comm];exact hz),rfl,q _ I.fresh⟩
end
section
set_option maxRecDepth 100000 in
end
end L2
namespace Att
open PySem PySem.W PySem.Calls PyProof.Rows
def gT:∀(ns:List Int) (vs:List Value),WellAll P h vs (ns.map WData.int)->IntsAre vs ns:=by
 intro ns;induction ns with
 |nil=>intro vs w;rw[List.map_nil] at w;cases w;exact .nil
 |
  cons n ns ih=>
  intro vs w;rw[z_] at w;cases w with
  |cons a b=>cases a;exact .cons _ _ (ih _ b)
def pE{l:OpenLaw}{n:Nat}(hn:l.most=some n){P:Params}{h:Heap}{args:List WData}{vals:List Value}
 (hpre:l.row.toRowW.claim.pre args=true) (hwl:WellAll P h vals args):
 ∃a vs ns,vals=[Value.ref a]/\args=[WData.list (ns.map WData.int)]/\h.get? a=some { cls:=.type "list",data:=.seq vs.toArray }/\IntsAre vs ns/\ns.length<=n:=by
 have hsh:WShape.hasAll [] args [.list .int]=true:=(pre_splitW hpre).1;have hc:l.pre.holds [] { args:=args }=true:=(pre_splitW hpre).2;obtain⟨d,r,rfl,h1,h2⟩:=hasAllW_cons hsh;obtain rfl:=hasAllW_nil h2;obtain⟨xs,rfl,h3⟩:=hasW_list h1;obtain⟨ns,rfl⟩:=items_int h3;have hlen:ns.length<=n:=by
  unfold OpenLaw.pre at hc;have h4:(WTm.not (.lt (.lit (.int (n:Int))) (.len (.arg 0)))).holds [] { args:=[.list (ns.map .int)] }=true:=by have h4:=(holds_andW hc).1;rw[hn] at h4;exact h4
  have h5:=condW_of h4 (w_not (w_lt w_lit (w_len_list (w_arg rfl))));rw[o_] at h5;refine Nat.le_of_not_lt λq=>?_;have q':(n:Int)<((ns.length:Nat):Int):=by omega
  first
   |(rw[Ek q'] at h5;exact absurd h5 (by decide))
   |(simp at h5;omega)
 cases hwl with
 |
  cons w1 w2=>
  cases w2;cases w1 with
  |list ho hall=>exact⟨_,_,ns,rfl,rfl,ho,gT ns _ hall,hlen⟩
def pT(l:OpenLaw)(args:List WData):l.row.toRowW.claim.post args (.bool true) args=true:=
 postW_of (r:=l.row.toRowW) (X:=(true==true))
  (show WShape.has [] (.bool true) .bool=true by first |rfl |decide |simp [WShape.has,WShape.arms,WShape.armsAll])
  (show (WTm.eq .res (.lit (.bool true))).value [] { args:=args,res:=some (.bool true),after:=args }=some (.bool (true==true)) from w_eq_bool (w_res rfl) w_lit) rfl
def attach_call{l:OpenLaw}{n:Nat}{q:Program}{loose:List Str}{XP:(Str->Option Value)->Heap->Prop}{YP:World->Heap->Prop}{d:DefRec}
 (hn:l.most=some n) (hdf:d.params.defaults=[])
 (call:∀(w:World) (s₀ s₁:Shared) (mg mb:Ga) (fa:Addr) (o:Obj) (pm cd doc:Value) (a:Addr) (vs:List Value) (ns:List Int),
  Ground q loose [] XP w s₀ mg mb s₁.heap->YP w s₁.heap->
  s₁.heap.get? fa=some o->o.data=.func (docDef d.name d.params d.body d.scope pm cd doc)->s₁.heap.CodeRec cd d.name->mg d.name=some (.ref fa)->
  s₁.heap.get? a=some { cls:=.type "list",data:=.seq vs.toArray }->IntsAre vs ns->ns.length<=n->s₁.gens=#[]->
  codeAny (model l.prog w) callerA (.call (.ref fa) ⟨[.ref a],[]⟩) (λr s'=>r=.ok (.ret (.bool true))/\OldK s₁.heap s'.heap/\s'.os=s₁.os/\AllBare s'.gens) s₁):
 WalkO q loose XP YP l.row.toRowW d [] (λf vs=>PySem.call f vs):=by
 intro w s₀ s₁ mg mb G Y fa o pm cd doc dV kV ho hd hcd hD hmg hg args vals as hpre hlay hrd hwl hlo;obtain rfl:dV=.none:=Dflts.none hD hdf;obtain rfl:kV=.none:=Dflts.noKw hD;obtain⟨a,vs,ns,rfl,rfl,hobj,hints,hlen⟩:=pE hn hpre hwl;refine enter_call (codeAny_mono (call w s₀ s₁ mg mb fa o pm cd doc a vs ns G Y ho (fd_plain hd) hcd hmg hobj hints hlen hg) λr s' hq=>?_);obtain⟨rfl,h2,h3,h4⟩:=hq;exact⟨.inl ⟨.bool true,.bool true,[],rfl,λ_=>rfl,.bool true,pT l _,λ_=>⟨List.Pairwise.nil,λ_ hm=>(nomatch hm)⟩⟩,h2,h3,h4⟩
section
def ledger(h:Heap)(L d:Addr):List (Addr×Obj):=(List.range h.objs.size).filterMap λa=>if a=L\/a=d then none else (h.get? a).map λo=>(a,o)
end
end Att
namespace L2
open PySem PySem.Spec PyProof.Rows
theorem jb:∀{vs:List Value}{ns:List Int},IntsAre vs ns->Vals (ns.map V.int) vs
 |_,_,.nil=>.nil
 |_,_,.cons n t h=>.cons ⟨t,rfl⟩ (jb h)
def i0(H:Hp):Prop:=∀b,H b=none\/∃o xs,H b=some (.frz o (.lst xs))
def qG{P:Program}{w:World}{K:W.Frag}{mg mb:Ga}{CX:CXT}{k:Nat}{fa a:Addr}{fd:FuncData}{x:Str}{sp:Sp}{s₁:Shared}{vs:List Value}{ns:List Int}
 (KX:K.In s₁.heap) (hns:s₁.heap.Ns mainGlobals mg) (hb:s₁.heap.Ns builtinsNs mb) (hbb:∀x:Str,x ≠ "__name__"->mb x=bootBuiltins x) (hlim:s₁.heap.NoLimit) (hg:s₁.gens=#[])
 (ha:s₁.heap.get? a=some { cls:=.type "list",data:=.seq vs.toArray }) (hi:IntsAre vs ns) (hl:ns.length<=sizeLine) (hr:Room k callerA)
 (F:∀base:Heap,K.In base->base.Ns mainGlobals mg->FnOk P w K mg base CX k fa fd [x] sp) (hbind:∀(s:Shared) (u:Value),BindsTo s fd ⟨[u],[]⟩ [(x,u)])
 (hsp:∀H:Hp,i0 H->SqL K H a (ns.map V.int)->sp [.ref a] H (λv _=>v=.bl true) λ_ _ _=>False)
 (hCX:∀H e s',CX [] H s₁ (λ_ _ _=>False) e s'->False):
 codeAny (model P w) callerA (.call (.ref fa) ⟨[.ref a],[]⟩) (λr s'=>r=.ok (.ret (.bool true))/\OldK s₁.heap s'.heap/\s'.os=s₁.os/\AllBare s'.gens) s₁:=by
 have rv:=jb hi;have lenV:=hi.length;have core
  : ∀H:Hp,i0 H->SqL K H a (ns.map V.int)->HOk P w H s₁.heap->(∀b,H b≠none->b=a)->(H a≠none->K.lookup a=none)->
  codeAny (model P w) callerA (.call (.ref fa) ⟨[.ref a],[]⟩) (λr s'=>r=.ok (.ret (.bool true))/\OldK s₁.heap s'.heap/\s'.os=s₁.os/\AllBare s'.gens) s₁:=by
  intro H hO hS hok hA hK;have base_of:∀{b:Addr}{o:Obj},s₁.heap.get? b=some o->H b=none->(en s₁.heap H).get? b=some o:=λe n=>rp e n;have noA:∀{b:Addr}{o:Obj}{es:Array DictEntry}{ep:Nat},s₁.heap.get? b=some o->o.data=.dict es ep->H b=none:=λ{b o es ep} e d=>by
   cases q:H b with
   |none=>rfl
   |some u=>have e':b=a:=hA b (by rw[q];simp);subst e';rw[ha] at e;cases e;have d':Data.seq vs.toArray _=Data.dict es ep:=d;cases d'
  have nsK:∀{b:Addr}{m:Ga},s₁.heap.Ns b m->(en s₁.heap H).Ns b m:=λ{b m} ⟨o,es,ep,e,d,r⟩=>⟨o,es,ep,base_of e (noA e d),d,r⟩;have hKb:K.In (en s₁.heap H):=λb o e=>base_of (KX b o e) (by
   cases q:H b with
   |none=>rfl
   |some u=>have e':b=a:=hA b (by rw[q];simp);subst e';rw[hK (by rw[q];simp)] at e;cases e)
  have hM:Mod K mg (en s₁.heap H):=⟨hKb,nsK hns,⟨mb,nsK hb,hbb⟩,let ⟨mc,h1,h2⟩:=hlim;⟨mc,nsK h1,h2⟩⟩;have e0:Env0 P w K mg (en s₁.heap H) callerA [] s₁ H:=⟨rfl,hM,λb o e=>wM e,Nat.le_of_eq (qg _ _),trivial,λb hb=>absurd (show b∈([]:List Addr) from hb) (by simp),hok,.of_eq hg⟩;refine codeAny_mono ((F _ hKb (nsK hns)).run callerA [] s₁ H ⟨[.ref a],[]⟩ [.ref a] [.ref a] _ _ hr e0 (hbind s₁ (.ref a)) (.cons rfl .nil) (hsp H hO hS)) λr s' h=>?_;cases r with
  |error e=>exact (hCX H e s' h).elim
  |
   ok fl=>
   cases fl with
   |next=>exact False.elim h
   |brk=>exact False.elim h
   |cont=>exact False.elim h
   |
    ret u=>
    obtain⟨v,H',os,bare,un,hok',r',q⟩:=h;have q':v=.bl true:=q;subst q';obtain rfl:u=Value.bool true:=r';refine⟨rfl,OldK.of_keep λb o e=>?_,os,bare⟩;cases q:H b with
    |none=>exact un.keep b o e q (by intro z;exact absurd (show b∈([]:List Addr) from z) (by simp)) (by simp)
    |
     some u=>
     rcases hO b with z |⟨ob,xs,z⟩
     .rw[q] at z;cases z
     .have z2:=un.frzs b ob _ z;obtain⟨e1,_⟩:=hok b _ z;obtain⟨e2,_⟩:=hok' b _ z2;rw[e] at e1;cases e1;exact e2
 cases hk:K.lookup a with
 |some o=>have e:=KX a o hk;rw[ha] at e;cases e;refine core (λ_=>none) (λ_=>.inl rfl) (.inr ⟨_,vs.toArray,_,hk,rfl,rfl,rfl,by rw[w_,lenV];exact hl,by simpa using rv⟩) (λb u z=>by have z':(none:Option HO)=some u:=z;cases z') (λb z=>absurd rfl z) λz=>absurd rfl z
 |
  none=>
  refine core (λb=>if b=a then some (.frz { cls:=.type "list",data:=.seq vs.toArray } (.lst (ns.map V.int))) else none) (λb=>?_) (.inl (.inr ⟨{ cls:=.type "list",data:=.seq vs.toArray },if_pos rfl⟩)) (λb u z=>?_) (λb z=>?_) λ_=>hk
  .by_cases hb:b=a
   .exact .inr ⟨_,_,if_pos hb⟩
   .exact .inl (if_neg hb)
  .by_cases hb:b=a
   .have z':=(if_pos hb).symm.trans z;cases z';subst hb;exact⟨ha,by rw[o_];exact hl,vs,_,rv,ha⟩
   .have z':=(if_neg hb).symm.trans z;cases z'
  .by_cases hb:b=a
   .exact hb
   .exact absurd (if_neg hb) z
abbrev KOf{K:W.Frag}{h:Heap}(_:K.In h):W.Frag:=K
def walk_of{l:W.OpenLaw}{n k:Nat}{q:Program}{loose:List Str}{XP:(Str->Option Value)->Heap->Prop}{YP:World->Heap->Prop}{d:DefRec}{K:Params->W.Frag}{CX:World->CXT}{sp:World->Sp}{x:Str}
 (hn:l.most=some n) (hn2:n<=sizeLine) (hdf:d.params.defaults=[]) (hr:Room k callerA)
 (hY:∀(w:World) (h:Heap),YP w h->(K w.params).In h)
 (F:∀(w:World) (mg:Ga) (fa:Addr) (h:Heap),(K w.params).In h->h.Ns mainGlobals mg->mg d.name=some (.ref fa)->
  ∃
   fd:FuncData,(∀(s:Shared) (u:Value),BindsTo s fd ⟨[u],[]⟩ [(x,u)])/\
   ∀base:Heap,(K w.params).In base->base.Ns mainGlobals mg->FnOk l.prog w (K w.params) mg base (CX w) k fa fd [x] (sp w))
 (hsp:∀(w:World) (H:Hp) (a:Addr) (ns:List Int),ns.length<=n->i0 H->SqL (K w.params) H a (ns.map V.int)->sp w [.ref a] H (λv _=>v=.bl true) λ_ _ _=>False)
 (hCX:∀(w:World) (H:Hp) (s:Shared) (e:Value) (s':Shared),CX w [] H s (λ_ _ _=>False) e s'->False):
 W.WalkO q loose XP YP l.row.toRowW d [] (λf vs=>PySem.call f vs):=by
 refine Att.attach_call hn hdf λw s₀ s₁ mg mb fa o pm cd doc a vs ns G Y ho hd hcd hmg hobj hints hlen hg=>?_;have KX:=hY w _ Y;obtain⟨fd,hb,hF⟩:=F w mg fa _ KX G.T.g hmg;exact qG KX G.T.g G.T.b G.T.builtins G.T.nolimit hg hobj hints (DU hlen hn2) hr hF hb (λH hO hS=>hsp w H a ns hlen hO hS) λH e s'=>hCX w H s₁ e s'
noncomputable def bF(s:Stmt):Arguments:=match s with
 |.FunctionDef _ a _ _ _ _ _ _ _ _=>a
 |_=>{ posonlyargs:=[],args:=[],vararg:=none,kwonlyargs:=[],kw_defaults:=[],kwarg:=none,defaults:=[] }
noncomputable def aV(s:Stmt):List Stmt:=match s with
 |.FunctionDef _ _ b _ _ _ _ _ _ _=>b
 |_=>[]
noncomputable def aj(s:Stmt):Scope:=match s with
 |.FunctionDef _ _ _ _ _ _ sc _ _ _=>sc
 |_=>{ kind:=.function,names:=[],isGenerator:=false,isCoroutine:=false }
abbrev E0:XK:=λ_ _ _=>False
structure Fun(K:W.Frag)(x qual:Str)(st:Stmt)(f:Addr)(fd:FuncData):Prop where
 ex:∃(oc:Value) (od:Option Addr) (kV doc pm:Value) (an:Option Addr) (cdv ct:Value) (osl:Array (Option Value)),
  fd=W.fnOf x qual (bF st) (aV st) (aj st) .none kV doc pm an cdv ct/\K.lookup f=some ⟨oc,od,.func fd,osl⟩/\W.codeIn K cdv qual=true
 kp:W.keepIn K (.ref f)=true
section
variable{K:W.Frag}
def Fun.binds{x qual:Str}{st:Stmt}{f:Addr}{fd:FuncData}{ps:List Str}(F:Fun K x qual st f fd)
 (h:∀(kV doc pm:Value) (an:Option Addr) (cdv ct:Value) (us:List Value),us.length=ps.length->bindArgs (W.fnOf x qual (bF st) (aV st) (aj st) .none kV doc pm an cdv ct) ⟨us,[]⟩=pure (ps.zip us)):Binds K fd ps []:=by
 obtain⟨oc,od,kV,doc,pm,an,cdv,ct,osl,rfl,lk,hcd⟩:=F.ex;exact .all (h kV doc pm an cdv ct)
def yQ{x qual:Str}{st:Stmt}{f:Addr}{oc:Value}{od an:Option Addr}{osl:Array (Option Value)}{kV doc pm cdv ct:Value}(l:K.lookup f=some ⟨oc,od,.func (W.fnOf x qual (bF st) (aV st) (aj st) .none kV doc pm an cdv ct),osl⟩)
 (c:W.codeIn K cdv qual=true) (k:W.keepIn K (.ref f)=true):Fun K x qual st f (W.fnOf x qual (bF st) (aV st) (aj st) .none kV doc pm an cdv ct):=⟨⟨oc,od,kV,doc,pm,an,cdv,ct,osl,rfl,l,c⟩,k⟩
end
def Dl(hr:Room k A):A.units+1<cLine:=Nat.lt_of_le_of_lt (Nat.add_le_add_left (by decide:1<=64) _) hr.units
section
variable{X:Cx}{pins:Gb}{σ:St}{H:Hp}{s:Shared}
def Inv.track{a:Addr}{o:HO}(I:Inv X pins σ H s)(hn:H a=none)(h0:X.s₀.heap.get? a=none)(hL:a≠X.env.locals)(hc:∀x c,X.env.cells.lookup x=some c->c≠a)
 (hp:∀p∈X.pn++pins,p.1≠a) (new:ObjOk X.prog X.w (upd H a o) s.heap a o):Inv X pins σ (upd H a o) s:=by
 have ne:∀b u,H b=some u->b≠a:=λb u e z=>by rw[z,hn] at e;cases e
 have ne0:∀b u,X.s₀.heap.get? b=some u->b≠a:=λb u e z=>by rw[z,h0] at e;cases e
 refine⟨I.ok,I.os,I.bare,⟨I.base.keep,I.base.slot,λb u e n hx=>?_,I.base.there,λb xs e=>?_,λb u xs e=>?_,λb ps e=>?_⟩,I.loc,I.cell,?_,λx c e=>?_,λp hp'=>?_,λb u e=>?_,I.len⟩
 .rw[aq (ne0 b u e)];exact I.base.free b u e n hx
 .have q:=I.base.tups b xs e;rw[aq (ne _ _ q)];exact q
 .have q:=I.base.frzs b u xs e;rw[aq (ne _ _ q)];exact q
 .obtain⟨m,q⟩:=I.base.tbls b ps e;exact⟨m,by rw[aq (ne _ _ q)];exact q⟩
 .rw[aq (Ne.symm hL)];exact I.free
 .rw[aq (hc x c e)];exact I.freeC x c e
 .obtain⟨e,n,r⟩:=I.pin p hp';exact⟨e,by rw[aq (hp p hp')];exact n,r⟩
 .by_cases hb:b=a
  .subst hb;rw[ba] at e;cases e;exact new
  .rw[aq hb] at e;exact (I.hok b u e).stay (λc v _ q=>q) (λc q=>by rw[aq (ne _ _ q)];exact q) λc xs q=>by rw[aq (ne _ _ q)];exact q
end
theorem eE{env:Env}:∀{names:List (Str×NameKind)} (cs:List (Str×Addr)),(∀x∈names,x.2=.free->∃c,env.cells.lookup x.1=some c)->(∀x c,cs.lookup x=some c->env.cells.lookup x=some c)->
 ∃
  cl,(forIn names cs λ(x:Str×NameKind) (r:List (Str×Addr))=>if (x.2==NameKind.free)=true then do let a <- cellOf env x.1;pure (ForInStep.yield ((x.1,a)::r)) else pure (ForInStep.yield r):Sem (List (Str×Addr)))=pure cl/\
  (∀x c,cl.lookup x=some c->env.cells.lookup x=some c)/\(∀x c,cs.lookup x=some c->∃c',cl.lookup x=some c')/\∀x∈names,x.2=.free->∃c,cl.lookup x.1=some c
 | [],cs,_,h=>⟨cs,by simp,h,λx c e=>⟨c,e⟩,λ_ hx=>nomatch hx⟩
 |
  (n,k)::r,cs,hf,h=>by
  rw[List.forIn_cons];by_cases hk:k=.free
  .subst hk;obtain⟨c,hc⟩:=hf (n,.free) D7 rfl;have hcell:cellOf env n=pure c:=by unfold cellOf;rw[hc]
   have h':∀x d,((n,c)::cs).lookup x=some d->env.cells.lookup x=some d:=λx d e=>by
    rw[ED] at e;cases q:x==n with
    |true=>rw[q] at e;cases e;rw[Ea.mp q];exact hc
    |false=>rw[q] at e;exact h x d e
   obtain⟨cl,e1,e2,e3,e4⟩:=eE (env:=env) (names:=r) ((n,c)::cs) (λx hx=>hf x (DV _ hx)) h';have top:∃c',cl.lookup n=some c':=e3 n c (by rw[ED];simp);refine⟨cl,?_,e2,λx d e=>?_,λx hx j'=>?_⟩
   .simp only[E7,E4,hcell];exact e1
   .by_cases q:x=n
    .rw[q];exact top
    .exact e3 x d (by rw[ED,(D2.mpr q:(x==n)=false)];exact e)
   .rcases Eg.mp hx with rfl |hx
    .exact top
    .exact e4 x hx j'
  .have hb:(k==NameKind.free)=false:=by simpa using hk
   obtain⟨cl,e1,e2,e3,e4⟩:=eE (env:=env) (names:=r) cs (λx hx=>hf x (DV _ hx)) h;refine⟨cl,?_,e2,e3,λx hx j'=>?_⟩
   .simp only[hb,EE,E8];exact e1
   .rcases Eg.mp hx with rfl |hx
    .exact absurd j' hk
    .exact e4 x hx j'
def jr{env:Env}{scope:Scope}(hf:∀x∈scope.names,x.2=.free->∃c,env.cells.lookup x.1=some c):
 ∃cl,closureFor scope env=pure cl/\(∀x c,cl.lookup x=some c->env.cells.lookup x=some c)/\∀x∈scope.names,x.2=.free->∃c,cl.lookup x.1=some c:=by
 obtain⟨cl,e1,e2,_,e4⟩:=eE (env:=env) (names:=scope.names) [] hf (λx c e=>by simp at e);refine⟨cl,?_,e2,e4⟩;unfold closureFor;simp only[e1];rfl
noncomputable def ao(X:Cx)(N:List Str)(scope:Scope)(cl:List (Str×Addr))(C:Addr)(s₂:Shared)(H:Hp)(fp:List Addr):Cx:=
 { X with N:=N,s₀:=s₂,H₀:=H,env:=compEnvC scope cl C X.env,outer:=X.stack,stack:=X.stack,ex:=fp,fn:=λ_=>false,pn:=[],xe:=λ_ _=>False }
noncomputable def cJ(sub:Ge)(σ:St):St:=sub.map λo=>o.bind λi=>(σ[i]?).bind id
def LcW(J:It)(sub:Ge)(g:TG)(tc:TT)(te:TE)(σ:St)(H1:Hp)(Q:VK):Prop:=∃W:Nat->Nat->List V->St->Hp->Prop,(∃m,W 0 m [] (cJ sub σ) H1)/\∀i m ys σ H,W i m ys σ H->
 (J.stop i H/\ys.length<=sizeLine/\∀D,H D=none->Q (.ref D) (upd H D (.lst ys)))\/
 (J.go i H/\ys.length<sizeLine/\∃Nx:List V->St->Hp->Prop,(∀ys' σ' H',Nx ys' σ' H'->∃m',m'<m/\W (i+1) m' ys' σ' H')/\
  ∀x H',J.yld i H x H'->g x σ H' λσ2 H2=>tc σ2 H2 λb H3=>if b=true then te σ2 H3 λy H4=>Nx (ys++[y]) σ2 H4 else Nx ys σ2 H3)
def dG(wi:TI)(sub:Ge)(g:TG)(tc:TT)(te:TE):TE:=λσ H Q=>wi σ H λJ H1=>LcW J sub g tc te σ H1 Q
abbrev rF:TT:=λ_ H Q=>Q true H
section
variable{prog:Program}{w:World}{A:Around}{R:Result->Shared->Prop}{s:Shared}
def j5{e_ target a_:Expr}{ifs:List Expr}{scope:Scope}{pos:Pos}{it acc:Value}{env:Env}(I:Nat->Shared->Prop)
 (turn
  : ∀n s,I n s->wpAny (model prog w) A (pyNext it) (λr s₁=>match r with
  |none=>R (.ok .next) s₁
  |some v=>wpAny (model prog w) A (letOwnedTupleGo target it v) (λ_ s₁'=>wpAny (model prog w) A (assign target env v) (λ_ s₂=>
   wpAny (model prog w) A (forIn ifs true λc r=>if r=true then do let ok <- isTrue c env (eval c env);pure (ForInStep.yield ok) else pure (ForInStep.yield r))
    (λok s₃=>if ok=true then wpAny (model prog w) A (eval e_ env) (λx s₄=>wpAny (model prog w) A (call (.builtin "list.append") [acc,x]) (λ_ s₅=>∃m,m<n/\I m s₅) (λ_ _=>False) s₄) (λ_ _=>False) s₃
     else ∃m,m<n/\I m s₃) (λ_ _=>False) s₂) (λ_ _=>False) s₁') (λ_ _=>False) s₁) (λ_ _=>False) s)
 (n:Nat) (h:I n s):
 codeAny (model prog w) A (.compLoop (.ListComp e_ [⟨target,a_,ifs,0⟩] scope pos) 0 it acc env) R s:=by
 refine codeAny_loop rfl I (λn s hI=>?_) n h;show wpAny _ _ ((compTurn (.ListComp e_ [⟨target,a_,ifs,0⟩] scope pos) 0 it acc env).onRaise (λx=>do noteFrame x env;theTreesLotGoes x)) _ _ s;refine wpAny_noted ?_;rw[compTurn_list];refine Ee (E:=λ_ _=>False) ?_ (λ_ _ q=>q) λ_ _ q=>q.elim;refine r_ (FI (r_ (Ee (turn n s hI) (λr s₁ h₁=>?_) λ_ _ h'=>h')));cases r with
 |none=>exact B_ h₁
 |
  some v=>
  refine r_ (Ee h₁ (λ_ s₁' h₁'=>?_) λ_ _ h'=>h');refine r_ (Ee h₁' (λ_ s₂ h₂=>?_) λ_ _ h'=>h');refine r_ (Ee h₂ (λok s₃ h₃=>?_) λ_ _ h'=>h');cases ok with
  |true=>simp only[E4] at h₃ ⊢;refine r_ (r_ (Ee h₃ (λx s₄ h₄=>?_) λ_ _ h'=>h'));refine r_ (Ee h₄ (λ_ s₅ h₅=>?_) λ_ _ h'=>h');exact B_ (B_ ⟨rfl,h₅⟩)
  |
   false=>
   simp only[EE,E8] at h₃ ⊢;first
    |exact r_ (B_ (B_ ⟨rfl,h₃⟩))
    |exact B_ ⟨rfl,h₃⟩
end
section
variable{X:Cx}
def PTs(X:Cx)(ifs:List Expr)(t:TT):Prop:=
 ∀
  (pins:Gb) (s:Shared) (σ:St) (H:Hp) (Q:Bool->Hp->Prop),Inv X pins σ H s->t σ H Q->
  wpAny (model X.prog X.w) X.A (forIn ifs true λc r=>if r=true then do let ok <- isTrue c X.env (eval c X.env);pure (ForInStep.yield ok) else pure (ForInStep.yield r)) (TP X pins σ Q) X.xe s
def mf:PTs X [] (λ_ H Q=>Q true H):=λpins s σ H Q I h=>by rw[List.forIn_nil];exact B_ ⟨H,I,h⟩
def vA{c:Expr}{tc:TT}(hc:PT X c tc):PTs X [c] tc:=λpins s σ H Q I h=>by rw[List.forIn_cons];simp only[E4];refine r_ (r_ (thn (hc pins s σ H Q I h) λb s1 q=>B_ ?_));dsimp only;rw[List.forIn_nil];exact B_ q
structure LcEnd(X:Cx)(pins:Gb)(σ:St)(Q:VK)(D C:Addr)(s4:Shared):Prop where
 ns:∃m,s4.heap.Ns C m
 dc:D<C
 fr:X.env.locals<D
 cell:∀x c,X.env.cells.lookup x=some c->c<D
 pin:∀p∈X.pn++pins,p.1<D
 sz:X.s₀.heap.objs.size<=D
 inv:∃H',H' C=none/\Q (.ref D) H'/\∀h',Heap.SameBut C s4.heap h'->Inv X pins σ H' { s4 with heap:=h' }
def ma{e_ a_ tg:Expr}{ifs:List Expr}{scope:Scope}{pos:Pos}{wi:TI}{g:TG}{tc:TT}{te:TE}{N:List Str}{sub:Ge}{use:Option (Value->Sem Unit)}{R:Gd}{pins:Gb}{s:Shared}{σ:St}{H:Hp}{Q:VK}{fpos:Pos}
 (hc:X.calm=true) (hi:PI X tg a_ wi)
 (hk:scope.kind=.function) (m_:∀x∈scope.names,x.2 ≠ .cell) (b_:∀x∈scope.names,x.2=.local->scope.names.lookup x.1=some .local)
 (j':∀x∈scope.names,x.2=.free->X.env.kindOf x.1=some .cell\/X.env.kindOf x.1=some .free)
 (n_:sub.length=N.length) (d_:∀(j i:Nat) (x:Str),sub[j]?=some (some i)->N[j]?=some x->X.N[i]?=some x/\scope.names.lookup x=some .free)
 (hg:∀cl C s₂ H fp,PG (ao X N scope cl C s₂ H fp) tg g) (ht:∀cl C s₂ H fp,PTs (ao X N scope cl C s₂ H fp) ifs tc) (he:∀cl C s₂ H fp,PE (ao X N scope cl C s₂ H fp) e_ te)
 (hs:∀x,foldedSetIterable a_ X.env x=pure x) (I:Inv X pins σ H s) (h:dG wi sub g tc te σ H Q)
 (k_:∀D C s4,LcEnd X pins σ Q D C s4->compPost (model X.prog X.w) X.A X.xe use R (.ref D) C (.ok .next) s4):
 wpAny (model X.prog X.w) X.A (comprehension (.ListComp e_ [⟨tg,a_,ifs,0⟩] scope pos) scope X.env fpos (newList []) false (eval a_ X.env) use) R X.xe s:=by
 obtain⟨cl,hclos,hcl,hclf⟩:=jr (env:=X.env) (scope:=scope) λx hx hf=>I.ok.has x.1 (j' x hx hf);refine wpAny_comprehension_free rfl hs hclos hk b_ ?_;show wpAny _ _ (eval a_ X.env) _ _ _;refine thn (hi pins s σ H _ I h) λv s1 h1=>thn h1 λitv s2 h2=>?_;obtain⟨it,fp,tn,J,H2,e,I2,T,st2,f2,W,⟨m0,w0⟩,turn⟩:=h2;subst e;refine EJ (wpAny_newFunctionEnv m_ (by intro y hy;simp at hy) (λh₁ hns₁ hsb₁=>?_) hk);dsimp only at hns₁ hsb₁ ⊢;generalize hH2:s2.heap.push { cls:=.type "list",dict:=none,data:=.seq ([]:List Value).toArray }=G2 at hns₁ hsb₁ ⊢;have hC:G2.objs.size=s2.heap.objs.size+1:=by rw[<- hH2,Heap.size_push]
 have hDC:s2.heap.objs.size≠G2.objs.size:=by omega
 have below:∀b,b<s2.heap.objs.size->b≠G2.objs.size/\b≠s2.heap.objs.size:=λb hb=>⟨by omega,by omega⟩;have old:∀b o,s2.heap.get? b=some o->h₁.get? b=some o:=λb o e=>hsb₁.extBut b o (below b (x_ e)).1 (s_ _ (hH2 ▸ s_ _ e));have hD₁:h₁.get? s2.heap.objs.size=some { cls:=.type "list",dict:=none,data:=.seq ([]:List Value).toArray }:=hsb₁.extBut _ _ hDC (s_ _ (hH2 ▸ Ec _ rfl));have fresh:∀a,s2.heap.objs.size<=a->s2.heap.get? a=none:=λa ha=>Fv ha;have cellOld:∀x c,cl.lookup x=some c->c<s2.heap.objs.size:=λx c e=>by obtain⟨v,z⟩:=I2.cell x c (hcl x c e);exact z.lt
 have fpOld:∀b∈fp,b<s2.heap.objs.size:=λb hb=>by obtain⟨o,e,_⟩:=T.obj _ _ st2 b hb;exact x_ e
 let Y:Cx:=ao X N scope cl G2.objs.size s2 H2 fp
 have okY:Y.Ok
  := by
  refine⟨I2.ok.mod,?_,I2.ok.glob,I2.ok.blt,?_,λx y c e1 e2=>I2.ok.inj x y c (hcl x c e1) (hcl y c e2),λx hx=>?_,λx c hfn _=>absurd hfn u_,I2.ok.hd,I2.ok.frames,.inl rfl,
   λb hb=>⟨?_,λx c e z=>?_⟩,I2.bs,DU I2.ok.bsz I2.sz,λb o e hb=>?_,λb hb hf=>?_,I2.stack,I2.stkFree⟩
  .show (relabel scope X.env).kind=.function;exact hk
  .show s2.heap.objs.size<=G2.objs.size;omega
  .have hx':(
    relabel scope X.env).names.lookup x=some .cell\/(relabel scope X.env).names.lookup x=some .free:=hx
   have:∃k,
    (x,k)∈scope.names/\k=.free:=by
    have gen:∀(names:List (Str×NameKind)),(∀y∈names,y.2 ≠ .cell)->∀kk,(kk=NameKind.cell\/kk=NameKind.free)->(names.map λ(n,k)=>if (k==NameKind.free&&X.env.scope.kind == .function&&X.env.kindOf n==some .cell) then (n,NameKind.cell) else (n,k)).lookup x=some kk->∃k,(x,k)∈names/\k=.free:=by
     intro names;induction names with
     |nil=>intro _ kk _ e;simp at e
     |
      cons y r ih=>
      intro hn kk hkk e;obtain⟨n,k⟩:=y;rw[z_,ED] at e;by_cases hkf:k=.free
      .subst hkf;by_cases hxn:x=n
       .exact⟨.free,by rw[hxn];exact D7,rfl⟩
       .have hb:(x==(if (NameKind.free==NameKind.free&&X.env.scope.kind == .function&&X.env.kindOf n==some .cell)=true then (n,NameKind.cell) else (n,NameKind.free)).1)=false:=by split <;> exact D2.mpr hxn
        rw[hb] at e;obtain⟨k',m,q⟩:=ih (λz hz=>hn z (DV _ hz)) kk hkk e;exact⟨k',DV _ m,q⟩
      .have hb0:(k==NameKind.free&&X.env.scope.kind == .function&&X.env.kindOf n==some .cell)=false:=by
        have:(k==NameKind.free)=false:=by simpa using hkf
        rw[this];rfl
       rw[hb0] at e;simp only[EE,E8] at e;cases q:x==n with
       |
        true=>
        rw[q] at e;have e':k=kk:=DX e;subst e';rcases hkk with z |z
        .exact absurd z (hn (n,k) D7)
        .exact absurd z hkf
       |false=>rw[q] at e;obtain⟨k',m,q⟩:=ih (λz hz=>hn z (DV _ hz)) kk hkk e;exact⟨k',DV _ m,q⟩
    rcases hx' with z |z
    .exact gen scope.names m_ _ (.inl rfl) z
    .exact gen scope.names m_ _ (.inr rfl) z
   obtain⟨k,m,q⟩:=this;exact hclf (x,k) m q
  .show b≠G2.objs.size;exact (below b (fpOld b hb)).1
  .exact (f2 b hb).2.2.2.2.1 x c (hcl x c e) z
  .rcases (f2 b hb).2.2.2.1 with z |z
   .exact I2.ok.noex b o e z
   .exact absurd (A_ (x_ e) (DU I2.ok.bsz z)) (En _)
  .have hf':b∈frs X.stack:=hf;rcases Eg.mp (I2.stkSub b hf') with z |z
   .exact (f2 b hb).2.1 z
   .exact (f2 b hb).2.2.1 z
 have startLoc
  : ∃m,h₁.Ns G2.objs.size m/\∀(i:Nat) (x:Str) (v:V),N[i]?=some x->(cJ sub σ)[i]?=some (some v)->Vis (relabel scope X.env) x->∃u,RelV v u/\Look Y.env h₁ m x u:=by
  refine⟨_,hns₁,λj x v e1 e2 e3=>?_⟩;unfold cJ at e2;rw[D3] at e2;cases q:sub[j]? with
  |none=>rw[q] at e2;cases e2
  |
   some o=>
   rw[q] at e2;cases o with
   |none=>cases e2
   |
    some i=>
    obtain⟨hNi,hfree⟩:=d_ j i x q e1;have e2':(σ[i]?).bind id=some v:=DX e2;have e2'':σ[i]?=some (some v):=by
     cases z:σ[i]? with
     |none=>rw[z] at e2';cases e2'
     |some y=>rw[z] at e2';rw[show y=some v from e2']
    obtain⟨m2,hn2,hl2⟩:=I2.loc;have hkx:=j' (x,.free) (Eu hfree) rfl;obtain⟨u,r,l⟩:=hl2 i x v hNi e2'' (by rcases hkx with z |z;exact .inr (.inl z);exact .inr (.inr z));refine⟨u,r,.inr ⟨?_,?_⟩⟩
    .rcases e3
      with z |z |z
     .exfalso;have gen:∀(names:List (Str×NameKind)),names.lookup x=some .free->(names.map λ(n,k)=>if (k==NameKind.free&&X.env.scope.kind == .function&&X.env.kindOf n==some .cell) then (n,NameKind.cell) else (n,k)).lookup x=some .local->False:=by
       intro names;induction names with
       |nil=>intro e _;simp at e
       |
        cons y r ih=>
        intro e1 e2;obtain⟨n,k⟩:=y;rw[ED] at e1;rw[z_,ED] at e2;by_cases hxn:x=n
        .have hb1:(x==n)=true:=Ea.mpr hxn;rw[hb1] at e1;have:k=.free:=DX e1;subst this;split at e2
         .rename_i hq;split at e2 <;> cases e2
         .rename_i hq;split at hq <;> (rw[hb1] at hq;cases hq)
        .have hb1:(x==n)=false:=D2.mpr hxn;rw[hb1] at e1;refine ih e1 ?_;split at e2
         .rename_i hq;split at hq <;> (rw[hb1] at hq;cases hq)
         .exact e2
      exact gen scope.names hfree z
     .exact .inl z
     .exact .inr z
    .obtain⟨c,hc'⟩:=hclf (x,.free) (Eu hfree) rfl;refine⟨c,hc',?_⟩;rcases l with ⟨k,_⟩ |⟨_,c2,ec2,z⟩
     .rcases hkx with z |z <;> (rw[k] at z;cases z)
     .have:=hcl x c hc'
      rw[ec2] at this;cases this;obtain⟨oc,hoc,hd⟩:=z;exact⟨oc,old _ _ hoc,hd⟩
 have pinD:∀{σ':St}{H':Hp}{s':Shared}{pl:Gb}{o:Obj},Inv Y pl σ' H' s'->s'.heap.get? s2.heap.objs.size=some o->(∀v,o.data ≠ .cell v)->H' s2.heap.objs.size=none->Inv Y [(s2.heap.objs.size,o)] σ' H' s':=λ{σ' H' s' pl o} IY e d n=>
  IY.pins_of λp hp=>by
   have e':p=(s2.heap.objs.size,o):=by simpa using hp
   subst e';refine⟨e,n,?_,?_,d⟩
   .show s2.heap.objs.size≠G2.objs.size;omega
   .intro hf;have hf':s2.heap.objs.size∈frs X.stack:=hf;obtain⟨_,o',ho',_⟩:=I2.stack.mem hf';exact absurd (x_ ho') (En _)
 have fpY:∀{H':Hp}{pl:Gb},(∀b∈fp,H' b=none)->(∀p∈pl,p.1∉fp)->∀b∈fp,gf Y pl H' b:=λ{H' pl} hn hp b hb=>by
  refine⟨hn b hb,?_,?_,.inl hb,λx c e=>?_,λp hp'=>?_⟩
  .exact (okY.exf b hb).1
  .exact okY.exfs b hb
  .exact (okY.exf b hb).2 x c e
  .intro z;have hp'':p∈pl:=by simpa [Y,ao] using hp'
   exact hp p hp'' (by rw[z];exact hb)
 have hDfp:s2.heap.objs.size∉fp:=λz=>En _ (fpOld _ z);have loop
  : ∀s₃:Shared,s₃={ s2 with heap:=h₁,toks:=s2.toks+([]:List (Str×Value)).length }->
  codeAny (model X.prog X.w) X.A (.compLoop (.ListComp e_ [⟨tg,a_,ifs,0⟩] scope pos) 0 (.ref it) (.ref s2.heap.objs.size) (compEnvC scope cl G2.objs.size X.env))
   (compPost (model X.prog X.w) X.A X.xe use R (.ref s2.heap.objs.size) G2.objs.size) s₃:=by
  rintro s₃ rfl;have IY0:Inv Y [(s2.heap.objs.size,{ cls:=.type "list",dict:=none,data:=.seq ([]:List Value).toArray })] (cJ sub σ) H2 { s2 with heap:=h₁,toks:=s2.toks+([]:List (Str×Value)).length }:=by
   have J0:Inv Y [] (cJ sub σ) H2 { s2 with heap:=h₁,toks:=s2.toks+([]:List (Str×Value)).length }:=by
    refine⟨okY,rfl,I2.bare,Un.kept old,startLoc,λx c e=>?_,I2.hok.fresh (by show s2.heap.objs.size<=G2.objs.size;omega),λx c e=>I2.freeC x c (hcl x c e),λp hp=>absurd (show p∈([]:Gb) from hp) (by simp),I2.hok.kept old,?_⟩
    .obtain⟨v,oc,hoc,hd⟩:=I2.cell x c (hcl x c e);exact⟨v,oc,old _ _ hoc,hd⟩
    .show (cJ sub σ).length=N.length;unfold cJ;rw[o_];exact n_
   exact pinD J0 hD₁ (λv z=>by cases z) I2.fresh
  refine j5 (λn s'=>∃(i:Nat) (ys:List V) (its:List Value) (k:Nat) (σ':St) (H':Hp),Inv Y [(s2.heap.objs.size,{ cls:=.type "list",dict:=none,data:=.seq its.toArray k })] σ' H' s'/\Vals ys its/\tn i s'.heap/\(∀b∈fp,H' b=none)/\W i n ys σ' H') ?_ m0
   ⟨0,[],[],0,cJ sub σ,H2,IY0,.nil,T.keep _ _ _ st2 (λb hb o e=>old b o e),λb hb=>(f2 b hb).1,w0⟩
  rintro n s3 ⟨i,ys,its,k,σ3,H3,I3,rv,st3,fr3,w3⟩;have npl:∀(o:Obj),∀p∈[(s2.heap.objs.size,o)],p.1∉fp:=λo p hp=>by
   have e':p=(s2.heap.objs.size,o):=by simpa using hp
   subst e';exact hDfp
  rcases turn i n ys σ3 H3 w3 with ⟨stop,hz,qn⟩ |⟨go,hz,Nx,hNx,step⟩
  .refine Ee (T.done Y rfl rfl rfl hc i _ s3 σ3 H3 (λ_ _=>False) I3 (fpY fr3 (npl _)) st3 stop) (λr s4 ⟨hr,I4⟩=>?_) λ_ _ z=>z;subst hr;obtain⟨m4,hn4,_⟩:=I4.loc;have hCfree:H3 G2.objs.size=none:=I4.free;have hD4:=I4.pin (s2.heap.objs.size,{ cls:=.type "list",dict:=none,data:=.seq its.toArray k }) (D9 _ D7);have un4:Un (frs X.stack) fp H2 H3 s2.heap s4.heap:=I4.base;have ne2:∀b o,s2.heap.get? b=some o->b≠G2.objs.size:=λb o e=>(below b (x_ e)).1;have hDfree:H3 s2.heap.objs.size=none:=hD4.2.1;have sz0:X.s₀.heap.objs.size<=s2.heap.objs.size:=I2.sz;refine k_ s2.heap.objs.size G2.objs.size s4 ⟨⟨m4,hn4⟩,by rw[hC];exact Nat.lt_succ_self _,I2.lt,λx c e=>?_,λp hp=>x_ (I2.pin p hp).1,sz0,upd H3 s2.heap.objs.size (.lst ys),by rw[aq (Ne.symm hDC)];exact hCfree,qn _ hDfree,λh' hs'=>?_⟩
   .obtain⟨v,q⟩:=I2.cell x c e;exact q.lt
   have up:∀b o,b≠G2.objs.size->s4.heap.get? b=some o->h'.get? b=some o:=λb o hb e=>hs'.extBut b o hb e;have un5:Un (frs X.stack) fp H2 H3 s2.heap h':=by
    refine⟨λb o e n hb hx=>up b o (ne2 b o e) (un4.keep b o e n hb hx),λb o e n hb hx=>?_,un4.free,λb o e hx=>?_,un4.tups,un4.frzs,un4.tbls⟩
    .obtain⟨sl,q⟩:=un4.slot b o e n hb hx;exact⟨sl,up b _ (ne2 b o e) q⟩
    .obtain⟨o',q⟩:=un4.there b o e hx;exact⟨o',up b _ (ne2 b o e) q⟩
   have hok5:HOk X.prog X.w H3 h':=λb u e=>(I4.hok b u e).stay (λc v hcc q=>up c v (λz=>by
    rcases hcc with zz |zz
    .rw[zz] at z;rw[z,hCfree] at e;cases e
    .rw[z,hCfree] at zz;cases zz) q) (λ_ q=>q) λ_ _ q=>q
   have I5:Inv X pins σ H3 { s4 with heap:=h' }:=I2.call' (s':={ s4 with heap:=h' }) (ch:=fp) I4.os un5 hok5 I4.bare λb hb=>by obtain⟨_,g1,_,g3,g4,g5⟩:=f2 b hb;exact⟨g3,g1,g4,g5⟩
   refine I5.track (o:=.lst ys) hDfree (Fv sz0) (Nat.ne_of_gt I2.lt) (λx c e z=>?_) (λp hp z=>?_) ?_
   .obtain⟨v,q⟩:=I2.cell x c e;exact absurd q.lt (by rw[z];exact En _)
   .exact absurd (x_ (I2.pin p hp).1) (by rw[z];exact En _)
   .exact⟨hz,its,k,rv,up _ _ hDC hD4.1⟩
  .refine Ee (T.item Y rfl rfl rfl hc i _ s3 σ3 H3 (λ_ _=>False) I3 (fpY fr3 (npl _)) st3 go) (λr s4 ⟨u,hr,h4⟩=>?_) λ_ _ z=>z;subst hr;refine Ee h4 (λ_ s5 ⟨x,H5,I5,r5,y5,st5,fr5⟩=>?_) λ_ _ z=>z;have I5':=I5.pinned (fpY fr5 (npl _)) (T.obj _ _ st5);refine Ee (hg cl G2.objs.size s2 H2 fp _ s5 σ3 H5 x u _ I5' r5 (step x H5 y5)) (λ_ s6 ⟨σ6,H6,I6,q6⟩=>?_) λ_ _ z=>z;refine Ee (ht cl G2.objs.size s2 H2 fp _ s6 σ6 H6 _ I6 q6) (λok s7 ⟨H7,I7,q7⟩=>?_) λ_ _ z=>z;have back:∀{σ':St}{H':Hp}{s':Shared},Inv Y ([(s2.heap.objs.size,{ cls:=.type "list",dict:=none,data:=.seq its.toArray k })]++eS fp s5.heap) σ' H' s'->tn (i+1) s'.heap/\∀b∈fp,H' b=none:=λ{σ' H' s'} IB=>by refine⟨T.keep _ _ _ st5 λb hb o e=>(IB.pin (b,o) (D9 _ (D9 _ (cX hb e)))).1,λb hb=>?_⟩;obtain⟨o,e,d⟩:=T.obj _ _ st5 b hb;exact (IB.pin (b,o) (D9 _ (D9 _ (cX hb e)))).2.1
   cases ok with
   |false=>rw[if_neg u_] at q7;obtain⟨m',hm,w7⟩:=hNx _ _ _ q7;rw[if_neg u_];obtain⟨t7,f7⟩:=back I7;exact⟨m',hm,i+1,ys,its,k,σ6,H7,I7.unpinned,rv,t7,f7,w7⟩
   |
    true=>
    rw[if_pos rfl] at q7;rw[if_pos rfl];refine Ee (he cl G2.objs.size s2 H2 fp _ s7 σ6 H7 _ I7 q7) (λy s8 ⟨yv,H8,I8,r8,q8⟩=>?_) λ_ _ z=>z;obtain⟨m',hm,w8⟩:=hNx _ _ _ q8;obtain⟨t8,f8⟩:=back I8;have I9:=I8.unpinned;have hD9:=I9.pin (s2.heap.objs.size,{ cls:=.type "list",dict:=none,data:=.seq its.toArray k }) (D9 _ D7);have e9:s8.heap.get? s2.heap.objs.size=some { cls:=.type "list",dict:=none,data:=.seq its.toArray k }:=hD9.1;have hlen:=rv.length;refine call_meets F.slot_list_append ⟨_,e9,rfl⟩ F.entry_list_append (F.args_list_append_2 _ _) (PySem.list_append _ its.toArray k y (by rw[w_];omega)) ⟨e9,?_⟩;have q9:=PySem.IsL.update e9 (λxs=>xs.push y);have ea:its.toArray.push y=(its++[y]).toArray:=by simp
    rw[ea] at q9;have k9:∀b o,b≠s2.heap.objs.size->s8.heap.get? b=some o->(s8.heap.update s2.heap.objs.size (Obj.mapSeq λxs=>xs.push y)).get? b=some o:=λb o hb e=>(Fq _ _ (Ne.symm hb)).trans e;have I10:Inv Y [] σ6 H8 { s8 with heap:=s8.heap.update s2.heap.objs.size (Obj.mapSeq λxs=>xs.push y) }:=
     (I9.pins_of (pins':=[]) (λp hp=>nomatch hp)).turned (t':=s8.toks) k9 hD9.2.1 hD9.2.2.1 (.inr (v_ _)) (λx c e z=>absurd (cellOld x c e) (by rw[z];exact En _))
      (λp hp=>absurd (show p∈([]:Gb) from hp) (by simp))
    refine⟨m',hm,i+1,ys++[yv],its++[y],_,σ6,H8,pinD I10 q9 (λv z=>by cases z) hD9.2.1,rv.append (.cons r8 .nil),?_,f8,w8⟩;exact T.keep _ _ _ t8 λb hb o e=>k9 b o (λz=>hDfp (by rw[<- z];exact hb)) e
 exact codeAny_compStart_list (loop _ rfl) (T.self _ 0 _ _ _ (T.keep _ _ _ st2 λb hb o e=>old b o e) (loop _ rfl))
def oP{e_ a_ tg:Expr}{ifs:List Expr}{scope:Scope}{pos:Pos}{wi:TI}{g:TG}{tc:TT}{te:TE}{N:List Str}{sub:Ge}
 (hc:X.calm=true) (hi:PI X tg a_ wi)
 (hk:scope.kind=.function) (m_:∀x∈scope.names,x.2 ≠ .cell) (b_:∀x∈scope.names,x.2=.local->scope.names.lookup x.1=some .local)
 (j':∀x∈scope.names,x.2=.free->X.env.kindOf x.1=some .cell\/X.env.kindOf x.1=some .free)
 (n_:sub.length=N.length) (d_:∀(j i:Nat) (x:Str),sub[j]?=some (some i)->N[j]?=some x->X.N[i]?=some x/\scope.names.lookup x=some .free)
 (hg:∀cl C s₂ H fp,PG (ao X N scope cl C s₂ H fp) tg g) (ht:∀cl C s₂ H fp,PTs (ao X N scope cl C s₂ H fp) ifs tc) (he:∀cl C s₂ H fp,PE (ao X N scope cl C s₂ H fp) e_ te)
 (hs:∀x,foldedSetIterable a_ X.env x=pure x):
 PE X (.ListComp e_ [⟨tg,a_,ifs,0⟩] scope pos) (dG wi sub g tc te):=by
 intro pins s σ H Q I h;rw[eval_ListComp];refine ma hc hi hk m_ b_ j' n_ d_ hg ht he hs I h λD C s4 e=>?_;obtain⟨m,hm⟩:=e.ns;obtain⟨H',_,q,i⟩:=e.inv;exact⟨m,hm,λh' hs'=>⟨.ref D,H',i h' hs',rfl,q⟩⟩
noncomputable def bK(M:List Str)(names:List (Str×NameKind))(sub:Ge)(N:List Str):Bool:=(sub.zip N).all λp=>match p.1 with
 |none=>true
 |some i=>M[i]?==some p.2&&names.lookup p.2==some .free
def gk{M:List Str}{names:List (Str×NameKind)}{sub:Ge}{N:List Str}(h:bK M names sub N=true)(j i:Nat)(x:Str)(h1:sub[j]?=some (some i))(h2:N[j]?=some x):
 M[i]?=some x/\names.lookup x=some .free:=by
 unfold bK at h;rw[D4] at h;have hm:(some i,x)∈sub.zip N:=by refine EK (i:=j) ?_;rw[List.getElem?_zip_eq_some];exact⟨h1,h2⟩
 have q:=h _ hm;simp only[t_,Ea] at q;exact q
noncomputable def cc(kn names:List (Str×NameKind)):Bool:=names.all λx=>x.2 != .free || kn.lookup x.1==some .cell || kn.lookup x.1==some .free
def iy{kn names:List (Str×NameKind)}(h:cc kn names=true):∀x∈names,x.2=.free->kn.lookup x.1=some .cell\/kn.lookup x.1=some .free:=λx hx hf=>by unfold cc at h;rw[D4] at h;have q:=h x hx;rw[hf] at q;simpa using q
def wz{e_ a_ tg c:Expr}{scope:Scope}{pos:Pos}{wi:TI}{g:TG}{tc:TT}{te:TE}(M:List Str)(kn:List (Str×NameKind))(N:List Str)(sub:Ge)
 (hc:X.calm=true) (hi:PI X tg a_ wi)
 (hg:∀cl C s₂ H fp,PG (ao X N scope cl C s₂ H fp) tg g) (ht:∀cl C s₂ H fp,PT (ao X N scope cl C s₂ H fp) c tc) (he:∀cl C s₂ H fp,PE (ao X N scope cl C s₂ H fp) e_ te)
 (hM:X.N=M) (hkn:X.env.scope.names=kn) (d_:bK M scope.names sub N=true)
 (hk:scope.kind=.function) (m_:∀x∈scope.names,x.2 ≠ .cell) (b_:∀x∈scope.names,x.2=.local->scope.names.lookup x.1=some .local)
 (j':cc kn scope.names=true)
 (n_:sub.length=N.length) (hs:∀x,foldedSetIterable a_ X.env x=pure x):
 PE X (.ListComp e_ [⟨tg,a_,[c],0⟩] scope pos) (dG wi sub g tc te):=
 oP hc hi hk m_ b_ (by subst hkn;exact iy j') n_ (by subst hM;exact gk d_) hg (λcl C s₂ H fp=>vA (ht cl C s₂ H fp)) he hs
def Bt{e_ a_ tg:Expr}{scope:Scope}{pos:Pos}{wi:TI}{g:TG}{te:TE}(M:List Str)(kn:List (Str×NameKind))(N:List Str)(sub:Ge)
 (hc:X.calm=true) (hi:PI X tg a_ wi)
 (hg:∀cl C s₂ H fp,PG (ao X N scope cl C s₂ H fp) tg g) (he:∀cl C s₂ H fp,PE (ao X N scope cl C s₂ H fp) e_ te)
 (hM:X.N=M) (hkn:X.env.scope.names=kn) (d_:bK M scope.names sub N=true)
 (hk:scope.kind=.function) (m_:∀x∈scope.names,x.2 ≠ .cell) (b_:∀x∈scope.names,x.2=.local->scope.names.lookup x.1=some .local)
 (j':cc kn scope.names=true)
 (n_:sub.length=N.length) (hs:∀x,foldedSetIterable a_ X.env x=pure x):
 PE X (.ListComp e_ [⟨tg,a_,[],0⟩] scope pos) (dG wi sub g rF te):=
 oP hc hi hk m_ b_ (by subst hkn;exact iy j') n_ (by subst hM;exact gk d_) hg (λcl C s₂ H fp=>mf) he hs
end
open PySem PySem.Spec PyProof.Rows PySem.W PySem.Builtin PySem.Builtin.ObjectAttr PySem.Builtin.Getset_descriptor
structure XCls(K:W.Frag)(C:Addr):Prop where
 cls:(clsIn K C).isSome=true
 ga:findIn K (.ref C) "__getattribute__"=some (some (.builtin "BaseException.__getattribute__"))
 gt:findIn K (.ref C) "__getattr__"=some none
 at_:findIn K (.ref C) "__class__"=some (some (.builtin "object.__class__"))
 gs:specialIn K (.builtin "object.__class__") "__get__"=some (some (.builtin "getset_descriptor.__get__"))
 tk:takesIn K (.builtin "object.__class__")=some true
 mo:mroIn K C (.type "object")=some true
 mb:mroIn K C (.type "BaseException")=some true
section
variable{prog:Program}{w:World}{A:Around}{E:Gd}{K:W.Frag}{x C:Addr}{o:Obj}
def eg(hx:h.get? x=some o)(hc:o.cls=.ref C):Looks M h (typeOf (.ref x)) (.ref C):=hc ▸ (Looks.ld hx).andThen .now
def tq(X:K.In h)(T:XCls K C):Looks M h (find (.ref x) (.ref C) "__class__") (.bind (.builtin "getset_descriptor.__get__") (.builtin "object.__class__")):=by have L1:=looks_findIn (M:=M) X T.at_;have L2:Looks M h (getOf (some (.builtin "object.__class__"))) (some (.builtin "getset_descriptor.__get__")):=looks_specialIn X T.gs;have L3:=looks_takesIn (M:=M) X T.tk;refine L1.andThen (L2.andThen ?_);exact (show Looks M h (dataDescriptor? (some (.builtin "object.__class__")) (some (.builtin "getset_descriptor.__get__"))) (some (.builtin "getset_descriptor.__get__",.builtin "object.__class__")) from L3.andThen .now).andThen (Looks.tag .now)
def jv(X:K.In s.heap)(hx:s.heap.get? x=some o)(hc:o.cls=.ref C)(T:XCls K C)
 (h:R (.ok (.ret (.ref C))) s):codeAny (model prog w) A (.call (.builtin "getset_descriptor.__get__") ⟨[.builtin "object.__class__",.ref x,tp],[]⟩) R s:=by
 obtain⟨hh,g,dr,t,os⟩:=s;have L0:=eg (M:=model prog w) hx hc;have L1:=looks_mroIn (M:=model prog w) X T.mo;refine codeAny_call_builtin KF.slot_gs.plain KF.entry_gs (KF.slot_gs.check _ _ _ _ _ _ _ _ KF.type_class (KF.args_gs _ _ _) ?_);unfold Builtin.«getset_descriptor.__get__» descrGet;rw[dga_obj];refine r_ (B_ ?_);unfold descrGetter descrCheckInstance descrNameAndClass isInstance;simp only[KF.owner_class];repeat lk
 refine⟨Code.quiet_builtin _ (by decide),codeAny_builtin KF.entry_class ?_⟩;unfold Builtin.«object.__class__» shownTypeOf;repeat lk
 exact h
def oG(X:K.In s.heap)(hx:s.heap.get? x=some o)(hc:o.cls=.ref C)(T:XCls K C)(hq:Q () s):
 wpAny M A (checkBuiltinCall "BaseException.__getattribute__" ⟨[.ref x,nameV],[]⟩) Q E s:=by
 obtain⟨h,g,dr,t,os⟩:=s;have hk:builtinKind "BaseException.__getattribute__"=some .slot:=by decide
 have hsplit:splitId "BaseException.__getattribute__"=some ("BaseException", "__getattribute__"):=by decide
 have ha:=PySem.F.args_bexc_ga (.ref x) nameV;have L0:=eg (M:=M) hx hc;have LM:=looks_mroIn (M:=M) X T.mb;have LI:Looks M h (isInstance (.ref x) (.type "BaseException")) true:=L0.andThen LM;simp only[checkBuiltinCall,hk,hsplit];refine r_ ?_;refine LI.at ?_;repeat (first |wp_step)
 all_goals exact hq
def Ae(X:K.In s.heap)(hx:s.heap.get? x=some o)(hc:o.cls=.ref C)(T:XCls K C)(h:Q (some (.ref C)) { s with toks:=s.toks+1 }):
 wpAny (model prog w) A (getAttr? (.ref x) "__class__") Q E s:=by
 obtain⟨hh,g,d,t,os⟩:=s;have L0:=eg (M:=model prog w) hx hc;have L1:=looks_findIn (M:=model prog w) X T.ga;have L2:=looks_findIn (M:=model prog w) X T.gt;have LF:=tq (M:=model prog w) (x:=x) X T;have f3:=PySem.F.excAttr_ValueError.ga.bind (.ref x);have hx2:(Value.builtin "BaseException.__getattribute__" == Value.builtin "object.__getattribute__")=false:=by decide
 unfold getAttr? getAttrBy? getAttrBy;refine r_ (wpAny_mkText (r_ (wpAny_attempt (EI (r_ (L0.at (r_ (L1.at ?_))))))));dsimp only;rw[if_neg (by rw[hx2];simp)];unfold getAttrByItsOwn hookBefore;rw[if_pos (show onTheHeap (Value.ref C)=true from rfl)];refine r_ (L2.at ?_);unfold callGetattribute;refine r_ (wpAny_attempt (EI ?_));rw[if_neg (by simp)];unfold boundAndCalled;refine r_ (wpAny_of_eq f3 ?_);refine wpAny_call (codeAny_call_builtin PySem.F.excAttr_ValueError.ga.plain PySem.F.entry_bexc_ga (oG X hx hc T ?_));unfold Builtin.«object.__getattribute__»;repeat (first |(refine r_ (L0.at ?_)) |(refine r_ (LF.at ?_)) |wp_step)
 refine jv (s:=⟨hh,g,d,t+1,os⟩) X hx hc T ?_;repeat (first |exact h |wp_step)
def sA(x:Addr)(C:Addr)(h:Heap):Prop:=∃o vs,h.get? x=some o/\o.cls=.ref C/\o.data=.fields vs
def rB(T:XCls K C):KitX K (.ref x) (.ref C) (sA x C) where
 ty:=λM h _ ⟨o,_,hx,hc,_⟩=>eg hx hc
 it:=λM h X _=>by
  obtain⟨cd,hcd⟩:=Ex.mp T.cls;unfold clsIn at hcd;split at hcd
  .rename_i c' d' cd' sl' ho;intro A' Q' E' s' k q;unfold isType loadHead;exact r_ (wpAny_loadPart (k _ _ (X _ _ ho)) (B_ q))
  .cases hcd
 ne:=λh tp dd its n sl X htp=>by
  obtain⟨cd,hcd⟩:=Ex.mp T.cls;refine Bool.eq_false_iff.mpr λq=>?_;have e:C=tp:=Value.ref.inj (Ea.mp q);subst e;unfold clsIn at hcd;split at hcd
  .rename_i c' d' cd' sl' ho;have z:=(X _ _ ho).symm.trans htp;cases z
  .cases hcd
 ca:=λX ⟨o,_,hx,hc,_⟩ k=>Ae X hx hc T k
end
inductive TyX(K:W.Frag)(H:Hp):V->Value->Prop where
 |of {x:V}{t:Value} (h:TyOf K H x t):TyX K H x t
 |exc {a C:Addr} (e:H a=some (.ext (sA a C))) (T:XCls K C):TyX K H (.ref a) (.ref C)
 |sqT {a:Addr}{xs:List V} (h:SqT K H a xs):TyX K H (.ref a) (.type "tuple")
 |sqL {a:Addr}{xs:List V} (h:SqL K H a xs):TyX K H (.ref a) (.type "list")
section
variable{X:Cx}{pins:Gb}{σ:St}{H:Hp}{s:Shared}{c:Value}
def mq(I:Inv X pins σ H s)(rx:RelV x u)(ty:TyX X.K H x t):∃Hh:Heap->Prop,KitX X.K u t Hh/\Hh s.heap/\u ≠ .builtin "__main__.__loader__#opaque":=by
 cases ty with
 |exc ea T=>cases (show u=Value.ref _ from rx);exact⟨_,rB T,(I.hok _ _ ea).1,λz=>nomatch z⟩
 |sqT h=>cases (show u=Value.ref _ from rx);obtain⟨its,rv,⟨o,e,c,_⟩,_⟩:=I.tuple h;exact⟨_,kitx_tuple,⟨o,e,c⟩,λz=>nomatch z⟩
 |sqL h=>cases (show u=Value.ref _ from rx);obtain⟨its,rv,⟨o,n,e,c,_⟩,_⟩:=I.list h;exact⟨_,kitx_list,⟨o,e,c⟩,λz=>nomatch z⟩
 |
  of ty=>
  cases ty with
  |non=>cases (show u=Value.none from rx);exact⟨_,kitx_none,True.intro,λz=>nomatch z⟩
  |bl y=>cases (show u=Value.bool y from rx);exact⟨_,kitx_bool,True.intro,λz=>nomatch z⟩
  |int i=>obtain⟨t,q⟩:=(show ∃t,u=Value.int i t from rx);cases q;exact⟨_,kitx_int,True.intro,λz=>nomatch z⟩
  |str y=>obtain⟨t,q⟩:=(show ∃t,u=Value.str y t from rx);cases q;exact⟨_,kitx_str,True.intro,λz=>nomatch z⟩
  |flt y=>obtain⟨t,q⟩:=(show ∃t,u=Value.float y t from rx);cases q;exact⟨_,kitx_float,True.intro,λz=>nomatch z⟩
  |@lst a xs ea=>cases (show u=Value.ref a from rx);obtain⟨_,_,n,_,h1⟩:=(show ObjOk X.prog X.w H s.heap a (.lst xs) from I.hok a _ ea);exact⟨_,kitx_list,⟨_,h1,rfl⟩,λz=>nomatch z⟩
  |@frz a ob xs ea=>cases (show u=Value.ref a from rx);obtain⟨_,_,_,n,_,h1⟩:=(show ObjOk X.prog X.w H s.heap a (.frz ob (.lst xs)) from I.hok a _ ea);exact⟨_,kitx_list,⟨_,h1,rfl⟩,λz=>nomatch z⟩
  |@tup a xs ea=>cases (show u=Value.ref a from rx);obtain⟨_,_,_,p⟩:=(show ObjOk X.prog X.w H s.heap a (.tup xs) from I.hok a _ ea);obtain⟨o,h1,h2,_⟩:=p;exact⟨_,kitx_tuple,⟨o,h1,h2⟩,λz=>nomatch z⟩
  |@dK a kvs ea=>cases (show u=Value.ref a from rx);obtain⟨_,_,vs,_,p⟩:=(show ObjOk X.prog X.w H s.heap a (.dK kvs) from I.hok a _ ea);obtain⟨o,es,ep,h1,h2,_⟩:=p;exact⟨_,kitx_dict,⟨o,h1,h2.1⟩,λz=>nomatch z⟩
  |@dT a kvs ea=>cases (show u=Value.ref a from rx);obtain⟨_,_,xs,_,o,es,ep,h1,h2,_⟩:=(show ObjOk X.prog X.w H s.heap a (.dT kvs) from I.hok a _ ea);exact⟨_,kitx_dict,⟨o,h1,h2.1⟩,λz=>nomatch z⟩
  |@ins a C dx fs ea cl ha hn htk hm=>cases (show u=Value.ref a from rx);obtain⟨mA,O,_⟩:=va I.hok ea;obtain⟨od,J,_⟩:=O.look;exact⟨_,kitx_own (cl.get _) cl.hd ha hn htk hm,J,λz=>nomatch z⟩
end
section
variable{X:Cx}
noncomputable def cn:V->Option Value
 |.ref C=>some (.ref C)
 |.ty T=>some (.type T)
 |_=>none
def jS(h:cn c=some v)(r:RelV c u):u=v:=by
 cases c with
 |ref C=>cases r;exact DX h
 |ty T=>cases r;exact DX h
 |_=>cases h
theorem jm:∀{cs:List V}{us vs:List Value},cs.mapM cn=some vs->Vals cs us->us=vs
 |
  [],_,vs,h,.nil=>by
  have h':some ([]:List Value)=some vs:=h;exact DX h'
 |
  c::cs,_,vs,h,.cons r rr=>by
  rw[E2] at h;cases q:cn c with
  |none=>rw[q] at h;cases h
  |
   some v=>
   rw[q] at h;cases q2:cs.mapM cn with
   |none=>rw[q2] at h;cases h
   |some vs'=>rw[q2] at h;have h':some (v::vs')=some vs:=h;cases h';rw[jS q r,jm q2 rr]
def rW:CallR X (.builtin "isinstance") (λxs H Q=>∃x c t v b,xs=[x,c]/\TyX X.K H x t/\cn c=some v/\kitOne X.K t v=some b/\Q (.bl b) H):=by intro pins s σ H xs us Q I r h;obtain⟨x,c,t,v,b,rfl,ty,hc,hk,q⟩:=h;obtain⟨u,w',rfl,rx,rc⟩:=mW r;obtain rfl:=jS hc rc;obtain⟨Hh,Z,p,hne⟩:=mq I rx ty;exact kia_one Z I.kIn p hk hne λtk=>⟨.bl b,H,I.tok _,rfl,q⟩
end
def ObjOk.there(x:ObjOk P w H h a o):∃u,h.get? a=some u:=by
 cases o with
 |lst xs=>obtain⟨_,_,_,_,e⟩:=x;exact⟨_,e⟩
 |tup xs=>obtain⟨_,_,_,ob,e,_⟩:=x;exact⟨_,e⟩
 |dK kvs=>obtain⟨_,_,_,_,o,_,_,e,_⟩:=x;exact⟨_,e⟩
 |dT kvs=>obtain⟨_,_,_,_,o,_,_,e,_⟩:=x;exact⟨_,e⟩
 |set S n=>obtain⟨o,_,_,_,e,_⟩:=x;exact⟨_,e⟩
 |ins C dx fs=>obtain⟨_,_,_,e,_⟩:=x;exact⟨_,e⟩
 |own y=>exact x
 |xd fs=>obtain⟨_,⟨_,_,_,e,_⟩,_⟩:=x;exact⟨_,e⟩
 |rng lo hi=>obtain⟨_,_,_,e⟩:=x;exact⟨_,e⟩
 |frz ob u=>obtain⟨e,_⟩:=x;exact⟨_,e⟩
 |tbl ps=>exact⟨_,show h.get? a=some _ from x⟩
 |met f y=>exact⟨_,show h.get? a=some _ from x⟩
 |ext φ=>obtain⟨_,e,_⟩:=x;exact e
structure Fly(P:Program)(w:World)(outer:List Env)(H:Hp)(h₀:Heap)(H':Hp)(ea:Addr)(cls:Value)(h:Heap)(B:Heap)(t:Addr):Prop where
 un:Un (frs outer) [] H H' h₀ h
 hok:HOk P w H' h
 fl:Heap.FlyingW B outer ea cls (.ref t) h
 old:∀b o,h₀.get? b=some o->b∉frs outer->∃o',B.get? b=some o'
 trk:∀b o,H' b=some o->∃o',B.get? b=some o'
def CX1(P:Program)(w:World):CXT:=λouter H s E e s'=>∃(ea t:Addr) (cls:Value) (H':Hp) (B:Heap),e=.ref ea/\s'.os=s.os/\AllBare s'.gens/\Fly P w outer H s.heap H' ea cls s'.heap B t/\E cls none H'
def kh(h:env.frame=some L):frs (env::outer)=L::frs outer:=by unfold frs;rw[EC,h]
section
variable{P:Program}{w:World}{outer:List Env}{H H':Hp}{h₀ h h' B:Heap}{ea t:Addr}{cls:Value}
def Fly.step(F:Fly P w outer H h₀ H' ea cls h B t)(fl':Heap.FlyingW B outer' ea cls (.ref t) h')(up:h.UpToSlots h'):
 Un (frs outer) [] H H' h₀ h'/\HOk P w H' h':=by
 have st:=F.fl.1;have same:∀b o,(∃o',B.get? b=some o')->h.get? b=some o->h'.get? b=some o:=λb o ⟨o',e⟩ q=>by have z:=st b o' e;rw[q] at z;cases z;exact fl'.1 b _ e
 have frame:∀b o,b∈frs outer->h.get? b=some o->∃sl,h'.get? b=some { o with slots:=sl }:=λb o hb q=>by obtain⟨_,o',ho',hd⟩:=F.fl.2.2.1.mem hb;rw[q] at ho';cases ho';exact up b o q hd
 refine⟨⟨λb o e n hb hx=>same b o (F.old b o e hb) (F.un.keep b o e n hb hx),λb o e n hb hx=>?_,F.un.free,λb o e hx=>?_,F.un.tups,F.un.frzs,F.un.tbls⟩,λa o e=>?_⟩
 .obtain⟨sl,q⟩:=F.un.slot b o e n hb hx;obtain⟨sl',q'⟩:=frame b _ hb q;exact⟨sl',q'⟩
 .obtain⟨o',q⟩:=F.un.there b o e hx;by_cases hb:b∈frs outer
  .obtain⟨sl,q'⟩:=frame b _ hb q;exact⟨_,q'⟩
  .exact⟨o',same b o' (F.old b o e hb) q⟩
 .refine (F.hok a o e).stay (λb u hb q=>same b u ?_ q) (λ_ q=>q) λ_ _ q=>q;rcases hb with z |z
  .rw[z];exact F.trk a o e
  .exact F.trk b _ z
end
structure Cx.Top(X:Cx):Prop where
 ex:X.ex=[]
 stk:X.stack=X.env::X.outer
 fr:X.env.frame=some X.env.locals
section
variable{X:Cx}{pins:Gb}{σ:St}{H:Hp}{s s':Shared}{E:XK}{e:Value}
def oZ(T:X.Top)(hA:A.frames=some X.stack)(I:Inv X pins σ H s)(h:CX1 X.prog X.w X.stack H s E e s'):
 wpAny (model X.prog X.w) A (leaving X.env e) (λ_ s''=>CX1 X.prog X.w X.outer X.H₀ X.s₀ E e s'') E' s':=by
 obtain⟨ea,t,cls,H',B,rfl,os,bare,F,q⟩:=h;have F0:=F;rw[T.stk] at F;have hf:=kh (outer:=X.outer) T.fr;refine wpAny_leaves_onW (by rw[hA,T.stk]) T.fr F.fl λh'' fl'' up=>?_;obtain⟨un2,hok2⟩:=F.step fl'' up;have exn:∀b,b∉X.ex:=λb z=>by rw[T.ex] at z;cases z
 have neL:∀b o,X.s₀.heap.get? b=some o->b≠X.env.locals:=λb o e=>D_ (A_ (x_ e) I.ok.above);have notin:∀b o,X.s₀.heap.get? b=some o->b∉frs X.outer->b∉frs (X.env::X.outer):=λb o e hb z=>by
  rw[hf] at z;rcases Eg.mp z with z |z
  .exact neL b o e z
  .exact hb z
 refine⟨ea,t,cls,H',B,rfl,os.trans I.os,bare,⟨⟨λb o e n hb hx=>?_,λb o e n hb hx=>?_,λb o e n hx=>?_,λb o e hx=>?_,λb xs e=>un2.tups b xs (I.base.tups b xs e),λb o xs e=>un2.frzs b o xs (I.base.frzs b o xs e),λb ps e=>?_⟩,hok2,fl'',λb o e hb=>?_,F.trk⟩,q⟩
 .exact un2.keep b o (I.base.keep b o e n hb (exn b)) (I.base.free b o e n (exn b)) (notin b o e hb) (by simp)
 .obtain⟨sl,e1⟩:=I.base.slot b o e n hb (exn b);obtain⟨sl',e2⟩:=un2.slot b _ e1 (I.base.free b o e n (exn b)) (by rw[hf];exact DV _ hb) (by simp);exact⟨sl',e2⟩
 .obtain⟨o',e1⟩:=I.base.there b o e (exn b);exact un2.free b o' e1 (I.base.free b o e n (exn b)) (by simp)
 .obtain⟨o',e1⟩:=I.base.there b o e (exn b);exact un2.there b o' e1 (by simp)
 .obtain⟨m1,e1⟩:=I.base.tbls b ps e;obtain⟨m2,e2⟩:=un2.tbls b _ e1;exact⟨m1++m2,by rw[e2,Array.append_assoc]⟩
 .obtain⟨o',e1⟩:=I.base.there b o e (exn b);exact F.old b o' e1 (notin b o e hb)
def sQ(T:X.Top)(hA:A.frames=some X.stack)(I:Inv X pins σ H s)(hx:Heap.MadeExcOf s.heap h' ea cls args)(q:E cls none H):
 wpAny (model X.prog X.w) A (leaving X.env (.ref ea)) (λ_ s''=>CX1 X.prog X.w X.outer X.H₀ X.s₀ E (.ref ea) s'') E' { s with heap:=h' }:=by
 have hf:=kh (outer:=X.outer) T.fr;have stk:=I.stack;rw[T.stk] at stk;have hin:∀env∈(X.env::X.outer),∀b,env.frame=some b->b∈frs (X.env::X.outer):=λenv he b hb=>List.mem_filterMap.mpr ⟨env,he,hb⟩;refine wpAny_leaves_madeW (base:=W.hideAll s.heap (frs (X.env::X.outer))) (h:=s.heap) (by rw[hA,T.stk]) T.fr (λb o q=>W.of_hideAll _ q) (W.funFrames_hide stk hin) hx λh'' t fl tup tn up=>?_;have inB:∀b o,s.heap.get? b=some o->b∉frs (X.env::X.outer)->(W.hideAll s.heap (frs (X.env::X.outer))).get? b=some o:=λb o e hb=>W.hideAll_get _ e hb;have free:∀b∈frs (X.env::X.outer),H b=none:=λb hb=>I.stkFree b (by rw[T.stk];exact hb);have up2:s.heap.UpToSlots h'':=(Heap.UpToSlots.of_keeps hx.keeps).trans up;have exn:∀b,b∉X.ex:=λb z=>by rw[T.ex] at z;cases z
 have neL:∀b o,X.s₀.heap.get? b=some o->b≠X.env.locals:=λb o e=>D_ (A_ (x_ e) I.ok.above);have notin:∀b o,X.s₀.heap.get? b=some o->b∉frs X.outer->b∉frs (X.env::X.outer):=λb o e hb z=>by
  rw[hf] at z;rcases Eg.mp z with z |z
  .exact neL b o e z
  .exact hb z
 have trk:∀b o,H b=some o->∃o',(W.hideAll s.heap (frs (X.env::X.outer))).get? b=some o':=λb o e=>by obtain⟨u,hu⟩:=(I.hok b o e).there;exact⟨u,inB b u hu λz=>by rw[free b z] at e;cases e⟩
 refine⟨ea,t,cls,H,_,rfl,I.os,I.bare,⟨⟨λb o e n hb hx=>?_,λb o e n hb hx=>?_,λb o e n hx=>?_,λb o e hx=>?_,I.base.tups,I.base.frzs,I.base.tbls⟩,λa o e=>?_,fl,λb o e hb=>?_,trk⟩,q⟩
 .exact fl.1 b o (inB b o (I.base.keep b o e n hb (exn b)) (notin b o e hb))
 .obtain⟨sl,e1⟩:=I.base.slot b o e n hb (exn b);obtain⟨_,o',ho',hd⟩:=I.ok.funs.mem hb;rw[e] at ho';cases ho';obtain⟨sl',e2⟩:=up2 b _ e1 hd;exact⟨sl',e2⟩
 .exact I.base.free b o e n (exn b)
 .obtain⟨o',e1⟩:=I.base.there b o e (exn b);by_cases hb:b∈frs X.outer
  .obtain⟨_,o2,ho2,hd⟩:=I.funs.mem hb;rw[e1] at ho2;cases ho2;obtain⟨sl',e2⟩:=up2 b _ e1 hd;exact⟨_,e2⟩
  .exact⟨o',fl.1 b o' (inB b o' e1 (notin b o e hb))⟩
 .refine (I.hok a o e).stay (λb u hb q=>?_) (λ_ q=>q) λ_ _ q=>q;refine fl.1 b u (inB b u q λz=>?_);rcases hb with y |y
  .rw[y] at z;rw[free a z] at e;cases e
  .rw[free b z] at y;cases y
 .obtain⟨o',e1⟩:=I.base.there b o e (exn b);exact⟨o',inB b o' e1 (notin b o e hb)⟩
end
section
variable{P:Program}{w:World}{K:W.Frag}{mg:Ga}{base:Heap}{N:List Str}{qual:Str}{scope:Scope}{f:Addr}{cd:Value}{A:Around}{outer:List Env}{s:Shared}{H:Hp}{E:XK}
def uq:(bV (CX1 P w) P w K mg base N qual scope f cd A outer s H E).Top:=⟨rfl,rfl,rfl⟩
def Bh:kX (CX1 P w) (bV (CX1 P w) P w K mg base N qual scope f cd A outer s H E) E:=λpins σ H s e s' I h=>oZ uq I.ok.frames I h
def BB:kX (CX1 P w) X E0:=λpins σ H s e s' I ⟨_,_,_,_,_,_,_,_,_,q⟩=>q.elim
def own1:PassesOwn (model P w) (bV (CX1 P w) P w K mg base N qual scope f cd A outer s H E).A (bV (CX1 P w) P w K mg base N qual scope f cd A outer s H E).env (bV (CX1 P w) P w K mg base N qual scope f cd A outer s H E).xe:=PassesOwn.leaving
def Rz(X:Cx)(E:XK):Prop:=∀(pins:Gb) (σ:St) (H:Hp) (s:Shared) (h':Heap) (ea:Addr) (cls:Value) (args:List Value),Inv X pins σ H s->Heap.MadeExcOf s.heap h' ea cls args->E cls none H->X.xe (.ref ea) { s with heap:=h' }
def rz1:Rz (bV (CX1 P w) P w K mg base N qual scope f cd A outer s H E) E:=λpins σ H s h' ea cls args I hx q=>sQ uq I.ok.frames I hx q
def Fun.okR{x qual:Str}{st:Stmt}{f:Addr}{fd:FuncData}{N ps:List Str}{k:Nat}{sp:Sp}(F:Fun K x qual st f fd)(S:FnScope N ps (aj st))(len:∀vs H Q E,sp vs H Q E->vs.length=ps.length)
 (j_:∀(cdv:Value) (A:Around) (outer:List Env) (s:Shared) (H:Hp) (vs:List V) (Q:VK) (E:XK),Room k (A.deeper (envOfC qual (aj st) s.heap.objs.size f cdv))->sp vs H Q E->
  ∃t,PSs (bV (CX1 P w) P w K mg base N qual (aj st) f cdv A outer s H E) (aV st) t/\t { nx:=λ_ H'=>Q .non H',rt:=Q } (cu N vs) H):FnOk P w K mg base (CX1 P w) (k+1) f fd ps sp:=by
 obtain⟨oc,od,kV,doc,pm,an,cdv,ct,osl,rfl,lk,hcd⟩:=F.ex;exact BK lk hcd S len λA outer s H vs Q E hr hsp=>j_ cdv A outer s H vs Q E hr hsp
end
abbrev gG:List Value:=[.type "ValueError",.type "Exception",.type "BaseException",.type "object"]
def pL{K:W.Frag}{h:Heap}{C:Addr}(X:K.In h)(q:W.excIn K C gG "ValueError.__new__"=true):
 ∃bm N nm q' bs hdct sn sub ab col dd k0 k1 k2 k3 k5 mN,h.get? C=some (excClassObj nm q' C N bs bm hdct sn sub ab col dd k0 k1 k2 k3 k5 "ValueError.__new__")/\h.Ns N mN/\mN "__init__"=none/\OwnTail h gG bm:=by
 unfold W.excIn at q;split at q
 .rename_i dd cd sl ho;split at q
  .rename_i C' bm k0 k1 k2 k3 n k5 hm hs;simp only[t_,Ea,Fm] at q;obtain⟨⟨⟨⟨⟨rfl,rfl⟩,hdel⟩,ht⟩,hok⟩,hni⟩:=q;obtain⟨nm,bs,mro,ns,qn,hd,sn,sub,ab,col,del⟩:=cd;dsimp only at hm hdel hok hni;subst hm hdel;have n_:sl=#[k0,k1,k2,k3,some (.builtin "ValueError.__new__"),k5]:=by obtain⟨l⟩:=sl;simp only at hs;rw[hs]
   subst n_;exact⟨bm,ns,nm,qn,bs,hd,sn,sub,ab,col,dd,k0,k1,k2,k3,k5,_,X _ _ ho,.of_isNs (W.isNs_of_in X hok),W.nsMap_none_of_in X hok hni,W.tail_of_in X ht⟩
  .cases q
 .cases q
section
variable{X:Cx}{x:Str}{C:Addr}{E:XK}{np cpos pos:Pos}{e₀:Expr}{es:List Expr}{ta:TA}
def ya(C:Addr)(E:XK)(ta:TA):TS:=λ_ σ H=>ta σ H λvs H1=>vs.length<=sizeLine/\E (.ref C) none H1
def qR(hc:X.calm=true)(hR:Rz X E)(hg:Gl X x)(hm:X.mg x=some (.ref C))(hq:W.excIn X.K C gG "ValueError.__new__"=true)(ha:PA X (e₀::es) ta)
 (he:starEach (e₀::es) X.env=(false,eval e₀ X.env)::starEach es X.env) (f_:(backTo cpos (starEach es X.env)).any (·.1)=false) (hd:(x==("__debug__" : Str))=false):
 PS X (.Raise (some (.Call (.Name x np) (e₀::es) [] cpos)) none pos) (ya C E ta):=by
 intro pins s σ H D I h;obtain⟨bm,N,nm,q',bs,hdct,sn,sub,ab,col,dd,k0,k1,k2,k3,k5,mN,hC,hN,hni,T⟩:=pL I.ok.mod.kin hq;refine wpAny_Raise_call_subT (C:=C) (nm:=nm) (q:=q') (N:=N) (bs:=bs) (bm:=bm) (hdct:=hdct) (sn:=sn) (sub:=sub) (ab:=ab) (col:=col) (dd:=dd) (k0:=k0) (k1:=k1) (k2:=k2) (k3:=k3) (k5:=k5)
  PySem.F.excBase_ValueError (mN:=mN) (T.hasType PySem.F.excBase_ValueError.hasBase) (I.ok.hd hc) (by rw[he];show (false || (backTo cpos (starEach es X.env)).any (·.1))=false;rw[f_];rfl) hni (iU I hg hm ⟨rfl,?_⟩ hd)
 have hA:=ha cpos pins s σ H _ I h;rw[he] at hA ⊢;refine Calls.evalArgs_plain (thn hA λus s2 ⟨vs,H2,I2,r2,hz,q2⟩=>⟨rfl,by rw[<- r2.length];exact hz,I2.bk _ _ hC,hN.keeps I2.bk,T.keeps I2.bk,λh' e hm'=>?_⟩);exact hR pins σ H2 s2 h' e _ _ I2 hm' q2
end
abbrev XS:=St->XK
abbrev TEx:=St->Hp->VK->XK->Prop
abbrev TSx:=Ends->XS->St->Hp->Prop
def XP(X:Cx)(pins:Gb)(E:XS)(e:Value)(s':Shared):Prop:=∃σ1 H1 s1,Inv X pins σ1 H1 s1/\CX1 X.prog X.w X.stack H1 s1 (E σ1) e s'
def PEx(X:Cx)(e:Expr)(t:TEx):Prop:=
 ∀(pins:Gb) (s:Shared) (σ:St) (H:Hp) (Q:VK) (E:XS),Inv X pins σ H s->t σ H Q (E σ)->wpAny (model X.prog X.w) X.A (eval e X.env) (EP X pins σ Q) (XP X pins E) s
structure XHand(K:W.Frag)(C:Addr):Prop where
 ty:W.typeIn K (.ref C)=some (.type "type")
 cls:(W.clsIn K C).isSome=true
 mb:W.mroIn K C (.type "BaseException")=some true
mutual
inductive Rep(K:W.Frag)(H:Hp):V->PyData->Prop where
 |non:Rep K H .non .none
 |bl (b:Bool):Rep K H (.bl b) (.bool b)
 |int (i:Int):Rep K H (.int i) (.int i)
 |str (x:Str):Rep K H (.str x) (.str x)
 |tup {a:Addr}{xs:List V}{ds:List PyData} (h:SqT K H a xs) (r:Reps K H xs ds):Rep K H (.ref a) (.tuple ds)
 |lst {a:Addr}{xs:List V}{ds:List PyData} (h:SqL K H a xs) (r:Reps K H xs ds):Rep K H (.ref a) (.list ds)
inductive Reps(K:W.Frag)(H:Hp):List V->List PyData->Prop where
 |nil:Reps K H [] []
 |cons {x:V}{d:PyData}{xs:List V}{ds:List PyData} (r:Rep K H x d) (rr:Reps K H xs ds):Reps K H (x::xs) (d::ds)
end
section
variable{X:Cx}{pins:Gb}{σ:St}{H:Hp}{s:Shared}{K:W.Frag}
def Rep.reads(I:Inv X pins σ H s)(r:Rep X.K H v d)(q:RelV v u):∃as,Reads s.heap u d as:=
 Rep.rec (motive_1:=λv d _=>∀u,RelV v u->∃as,Reads s.heap u d as) (motive_2:=λvs ds _=>∀us,Vals vs us->∃as,ReadsAll s.heap us ds as)
  (λu r=>by cases r;exact⟨_,.none⟩) (λb u r=>by cases r;exact⟨_,.bool b⟩) (λi u r=>by obtain⟨t,rfl⟩:=r;exact⟨_,.int i t⟩) (λx u r=>by obtain⟨t,rfl⟩:=r;exact⟨_,.str x t⟩)
  (λh _ ih u r=>by cases r;obtain⟨its,rv,⟨o,e,c,n,d⟩,_⟩:=I.tuple h;obtain⟨as,q⟩:=ih _ rv;exact⟨as,.tuple e c d (by simpa using q)⟩)
  (λh _ ih u r=>by cases r;obtain⟨its,rv,⟨o,n,e,c,_,d⟩,_⟩:=I.list h;obtain⟨as,q⟩:=ih _ rv;exact⟨_,.list e c d (by simpa using q)⟩)
  (λus r=>by cases r;exact⟨_,.nil⟩)
  (λ_ _ a b us q=>by
   cases q with
   |cons q1 q2=>obtain⟨as,h1⟩:=a _ q1;obtain⟨bs,h2⟩:=b _ q2;exact⟨_,.cons h1 h2⟩) r u q
end
section
variable{X:Cx}
noncomputable def shp(d:PyData):Bool:=d.canLay0&&decide (d.depth<=160)
def ft(h:shp d=true):d.canLay0=true:=(Bool.and_eq_true_iff.mp h).1
def kQ{A:Around}{d e:PyData}(h:shp d=true)(hu:A.units+180<cLine):A.units+min d.depth e.depth<cLine:=by have h1:d.depth<=160:=Fp (Bool.and_eq_true_iff.mp h).2;have h2:min d.depth e.depth<=d.depth:=Nat.min_le_left _ _;omega
def m5(K:W.Frag):R2:=λx y H Q=>∃dx dy,Rep K H x dx/\Rep K H y dy/\shp dx=true/\shp dy=true/\Q (.bl (PyData.eqv dx dy)) H
def nG(K:W.Frag):R2:=λx y H Q=>∃dx dy,Rep K H x dx/\Rep K H y dy/\shp dx=true/\shp dy=true/\Q (.bl (!PyData.eqv dx dy)) H
def zJ(hu:X.A.units+180<cLine):OpR X (compareOp .Eq) (m5 X.K):=by intro pins s σ H x y v u Q I rx ry h;obtain⟨dx,dy,r1,r2,h1,h2,q⟩:=h;obtain⟨as,q1⟩:=r1.reads I rx;obtain⟨bs,q2⟩:=r2.reads I ry;exact SeqAt.compareEq_reads q1 q2 (ft h1) (ft h2) (kQ h1 hu) (pj I q rfl)
def xY(hu:X.A.units+180<cLine):OpR X (compareOp .NotEq) (nG X.K):=by intro pins s σ H x y v u Q I rx ry h;obtain⟨dx,dy,r1,r2,h1,h2,q⟩:=h;obtain⟨as,q1⟩:=r1.reads I rx;obtain⟨bs,q2⟩:=r2.reads I ry;exact SeqAt.compareNe_reads q1 q2 (ft h1) (ft h2) (kQ h1 hu) (pj I q rfl)
open PySem.Builtin.Int (intBits)
def CDivB(i j:Int):Prop:=j≠0/\intBits j<=8000
def uo(i j:Int):Prop:=intBits i<=100000/\intBits j<=100000
def qL:OpR X (binaryOp .FloorDiv) (rI CDivB λi j=>.int (i.fdiv j)):=opI λi j _ _ _ _ _ hc q=>floordiv_int hc.1 q (.inl (PyProof.noPylong_of_log2 (by
 have h:=hc.2;have h0:=hc.1;unfold intBits at h;have hb:(j==0)=false:=by simpa using h0
 rw[hb] at h;simp only[EE,E8] at h;omega)))
def uK:OpR X (binaryOp .Mult) (rI uo λi j=>.int (i*j)):=opI λi j _ _ _ _ _ hc q=>mul_int q (PySem.IntMulOk.of_le hc.1 hc.2 (by decide))
def oB(bs:List Bool):((List.range bs.length).all λi=>bs.getD i false)=bs.all id:=by
 rw[Bool.eq_iff_iff,D4,D4];constructor
 .intro h x hx;obtain⟨i,hi,rfl⟩:=List.mem_iff_getElem.mp hx
  have:=h i (EL.mpr hi)
  simpa [DP,hi] using this
 .intro h i hi;have hi':=EL.mp hi
  have:=h bs[i] (List.getElem_mem hi')
  simpa [DP,hi'] using this
def sM(hc:X.calm=true):CallR X (.builtin "all") (λxs H Q=>∃(a:Addr) (bs:List Bool),xs=[.ref a]/\SqL X.K H a (bs.map V.bl)/\Q (.bl (bs.all id)) H):=by
 intro pins s σ H xs us Q I r h;obtain⟨a,bs,rfl,hq,q⟩:=h;obtain⟨u,rfl,ru⟩:=eP r;cases ru;obtain⟨its,rv,p,hz⟩:=I.list hq;have hl:=rv.length;rw[o_] at hl;have hlt:a<s.heap.objs.size:=by obtain⟨o,n,e,_⟩:=p;exact x_ e
 refine call_all_walk (wpAny_pyIter_list p.isList ?_);refine⟨s.heap.objs.size,_,_,_,_,_,λi=>bs.getD i false,rfl,Walks.list (A:=X.A.in1) (I.ok.hd hc) s.heap.objs.size a (D_ hlt) its.toArray,⟨⟨_,Ec _ rfl,rfl,rfl⟩,(p.keeps λb o e=>s_ _ e).isList⟩,λi v s' Q' E' hP hQ=>?_,λh' tk hk=>?_⟩
 .have hP':its[i]?=some v:=by simpa using hP
  have hi:i<bs.length:=by rw[hl];exact (p_.mp hP').1
  have hb:(bs.map V.bl)[i]?=some (V.bl bs[i]):=by simp [hi]
  obtain⟨u,hu,ru⟩:=rv.get hb;rw[hP'] at hu;cases hu;cases ru;refine Ez ?_;have e:bs.getD i false=bs[i]:=by simp [DP,hi]
  show Q' bs[i] s';rw[<- e];exact hQ
 .have e1:its.toArray.size=bs.length:=by rw[w_,hl]
  rw[e1,oB];have hn:H s.heap.objs.size=none:=I.fresh;have I1:Inv X pins σ H { s with heap:=s.heap.push { cls:=.type "list_iterator",dict:=none,data:=.fields #[.ref a,rawInt 0] } }:=I.kept (t':=s.toks) λb o e=>s_ _ e;refine⟨.bl _,H,?_,rfl,q⟩;refine I.kept (t':=tk) λb o e=>?_;have hne:b≠s.heap.objs.size:=D_ (x_ e);exact hk b o (by simpa using hne) (s_ _ e)
end
structure Def(K:W.Frag)(mg:Ga)(x:Str)(st:Stmt):Prop where
 ex:∃f fd,Fun K x x st f fd/\mg x=some (.ref f)
def pW{K:W.Frag}{h:Heap}{mg:Ga}{x:Str}{st:Stmt}{f:Addr}{oc:Value}{od an:Option Addr}{osl:Array (Option Value)}{kV doc pm cdv ct:Value}(X:K.In h)(G:h.Ns mainGlobals mg)
 (a:W.nsIn K mainGlobals x=some (some (.ref f))) (l:K.lookup f=some ⟨oc,od,.func (W.fnOf x x (bF st) (aV st) (aj st) .none kV doc pm an cdv ct),osl⟩)
 (c:W.codeIn K cdv x=true) (k:W.keepIn K (.ref f)=true):Def K mg x st:=⟨f,_,yQ l c k,W.mg_of X G a⟩
def Fun.look{K:W.Frag}{x qual:Str}{st:Stmt}{f:Addr}{fd:FuncData}(F:Fun K x qual st f fd):∃oc od osl,K.lookup f=some ⟨oc,od,.func fd,osl⟩:=by obtain⟨oc,od,kV,doc,pm,an,cdv,ct,osl,rfl,lk,hcd⟩:=F.ex;exact⟨oc,od,osl,lk⟩
structure Callee(P:Program)(w:World)(K:W.Frag)(mg:Ga)(base:Heap)(x:Str)(k:Nat)(ps:List Str)(sp:Sp):Prop where
 ex:∃f fd,FnOk P w K mg base (CX1 P w) k f fd ps sp/\mg x=some (.ref f)/\W.keepIn K (.ref f)=true/\Binds K fd ps []/\∃oc od osl,K.lookup f=some ⟨oc,od,.func fd,osl⟩
section
variable{P:Program}{w:World}{K:W.Frag}{mg:Ga}{base:Heap}{x:Str}{st:Stmt}{k:Nat}{ps N:List Str}{sp:Sp}
def Callee.imp(C:Callee P w K mg base x k ps sp)(h:∀vs H Q E,sp' vs H Q E->sp vs H Q E):Callee P w K mg base x k ps sp':=by obtain⟨f,fd,F,r⟩:=C.ex;exact⟨f,fd,F.imp h,r⟩
def Def.okR(D:Def K mg x st)(S:FnScope N ps (aj st))
 (hb:∀(kV doc pm:Value) (an:Option Addr) (cdv ct:Value) (us:List Value),us.length=ps.length->bindArgs (W.fnOf x x (bF st) (aV st) (aj st) .none kV doc pm an cdv ct) ⟨us,[]⟩=pure (ps.zip us))
 (len:∀vs H Q E,sp vs H Q E->vs.length=ps.length)
 (j_:∀(f:Addr) (cdv:Value) (A:Around) (outer:List Env) (s:Shared) (H:Hp) (vs:List V) (Q:VK) (E:XK),Room k (A.deeper (envOfC x (aj st) s.heap.objs.size f cdv))->sp vs H Q E->
  ∃t,PSs (bV (CX1 P w) P w K mg base N x (aj st) f cdv A outer s H E) (aV st) t/\t { nx:=λ_ H'=>Q .non H',rt:=Q } (cu N vs) H):Callee P w K mg base x (k+1) ps sp:=by
 obtain⟨f,fd,F,m⟩:=D.ex;exact⟨f,fd,F.okR S len (j_ f),m,F.kp,F.binds hb,F.look⟩
end
section
variable{X:Cx}{K:W.Frag}
def allK(h:X.K=K)(hc:X.calm=true):CallR X (.builtin "all") (λxs H Q=>∃(a:Addr) (bs:List Bool),xs=[.ref a]/\SqL K H a (bs.map V.bl)/\Q (.bl (bs.all id)) H):=by subst h;exact sM hc
def Room.u180(r:Room k A):A.units+180<cLine:=by have:=r.un;omega
def eqDK(h:X.K=K)(hu:X.A.units+180<cLine):OpR X (compareOp .Eq) (m5 K):=by subst h;exact zJ hu
def neDK(h:X.K=K)(hu:X.A.units+180<cLine):OpR X (compareOp .NotEq) (nG K):=by subst h;exact xY hu
def inK(h:X.K=K):OpR X (compareOp .In) (rIn K false):=by subst h;exact oo
end
section
variable{X:Cx}
def xW{e_ a_ tg:Expr}{ifs:List Expr}{scope:Scope}{pos:Pos}{wi:TI}{g:TG}{tc:TT}{te:TE}{N:List Str}{sub:Ge}{iT:Nat}{xT:Str}{px spos:Pos}
 (hc:X.calm=true) (hN:X.N.Nodup) (hix:X.N[iT]?=some xT) (hxl:Loc X.env.scope xT) (hi:PI X tg a_ wi)
 (hk:scope.kind=.function) (m_:∀x∈scope.names,x.2 ≠ .cell) (b_:∀x∈scope.names,x.2=.local->scope.names.lookup x.1=some .local)
 (j':∀x∈scope.names,x.2=.free->X.env.kindOf x.1=some .cell\/X.env.kindOf x.1=some .free)
 (n_:sub.length=N.length) (d_:∀(j i:Nat) (x:Str),sub[j]?=some (some i)->N[j]?=some x->X.N[i]?=some x/\scope.names.lookup x=some .free)
 (hg:∀cl C s₂ H fp,PG (ao X N scope cl C s₂ H fp) tg g) (ht:∀cl C s₂ H fp,PTs (ao X N scope cl C s₂ H fp) ifs tc) (he:∀cl C s₂ H fp,PE (ao X N scope cl C s₂ H fp) e_ te)
 (hsw:swapsWith (.ListComp e_ [⟨tg,a_,ifs,0⟩] scope pos) (some (.Name xT px)) spos.line X.env=pure true)
 (hs:∀x,foldedSetIterable a_ X.env x=pure x) (hf:X.fn xT=true\/X.env.scope.names.lookup xT=some .local):
 PS X (.Assign [.Name xT px] (.ListComp e_ [⟨tg,a_,ifs,0⟩] scope pos) spos) (ke (dG wi sub g tc te) (gY iT)):=by
 intro pins s σ H D0 I h;rw[exec_Assign_Name_used _ _ _ _ hsw];refine r_ (FI (r_ ?_));show wpAny _ X.A (do let _ <- comprehension (.ListComp e_ [⟨tg,a_,ifs,0⟩] scope pos) scope X.env _ (newList []) false (eval a_ X.env) (some (assign (.Name xT px) X.env))) _ _ s;refine r_ (Ee (ma (use:=some (assign (.Name xT px) X.env)) (R:=λ_ s'=>SP X pins D0 .next s') hc hi hk m_ b_ j' n_ d_ hg ht he hs I h λD C s4 e=>?_) (λ_ s' hq=>B_ (B_ hq)) λ_ _ e=>e);obtain⟨m,hm⟩:=e.ns;obtain⟨H',hC,q,i⟩:=e.inv;have dc:=e.dc;have fr:=e.fr;refine wpAny_assign_Name (jg (v:=.ref D) (i s4.heap ⟨rfl,λ_ _=>rfl⟩) hN hix hxl rfl (λs7 I7 ⟨a7,sb7,ha7⟩=>?_) hf);have ha:a7<D:=by
  rcases ha7 with z |z
  .rw[z];exact fr
  .exact e.cell xT a7 z
 refine⟨m,hm.sameBut sb7 (Nat.ne_of_gt (FC ha dc)),λh8 hs8=>⟨_,_,I7.turned (it:=C) (t':=s7.toks) (λb o hb e=>hs8.extBut b o hb e) hC (Nat.ne_of_gt (FC fr dc)) (.inr (DU e.sz (Nat.le_of_lt dc))) (λx c q=>D_ (FC (e.cell x c q) dc)) (λp hp=>D_ (FC (e.pin p hp) dc)),q⟩⟩
def Dg{e_ a_ tg:Expr}{scope:Scope}{pos px spos:Pos}{wi:TI}{g:TG}{te:TE}{iT:Nat}{xT:Str}(M:List Str)(kn:List (Str×NameKind))(N:List Str)(sub:Ge)
 (hc:X.calm=true) (hN:X.N.Nodup) (hix:X.N[iT]?=some xT) (hxl:Loc X.env.scope xT) (hi:PI X tg a_ wi)
 (hg:∀cl C s₂ H fp,PG (ao X N scope cl C s₂ H fp) tg g) (he:∀cl C s₂ H fp,PE (ao X N scope cl C s₂ H fp) e_ te)
 (hsw:swapsWith (.ListComp e_ [⟨tg,a_,[],0⟩] scope pos) (some (.Name xT px)) spos.line X.env=pure true)
 (hM:X.N=M) (hkn:X.env.scope.names=kn) (d_:bK M scope.names sub N=true)
 (hk:scope.kind=.function) (m_:∀x∈scope.names,x.2 ≠ .cell) (b_:∀x∈scope.names,x.2=.local->scope.names.lookup x.1=some .local)
 (j':cc kn scope.names=true)
 (n_:sub.length=N.length) (hs:∀x,foldedSetIterable a_ X.env x=pure x) (hf:X.fn xT=true\/X.env.scope.names.lookup xT=some .local):
 PS X (.Assign [.Name xT px] (.ListComp e_ [⟨tg,a_,[],0⟩] scope pos) spos) (ke (dG wi sub g rF te) (gY iT)):=
 xW hc hN hix hxl hi hk m_ b_ (by subst hkn;exact iy j') n_ (by subst hM;exact gk d_) hg (λcl C s₂ H fp=>mf) he hsw hs hf
end
theorem mE:∀{ns:List Int}{its:List Value},Vals (ns.map V.int) its->IntsAre its ns
 | [],_,h=>by cases h;exact .nil
 |
  i::r,_,h=>by
  cases h with
  |cons h1 h2=>obtain⟨t,rfl⟩:=h1;exact .cons i t (mE h2)
def ph{X:Cx}{K:W.Frag}(hK:X.K=K)(hc:X.calm=true):CallR X (.builtin "sum") (λxs H Q=>∃(a:Addr) (ns:List Int),xs=[.ref a]/\SqL K H a (ns.map V.int)/\Q (.int ns.sum) H):=by
 subst hK;intro pins s σ H xs us Q I r h;obtain⟨a,ns,rfl,hq,q⟩:=h;obtain⟨u,rfl,ru⟩:=eP r;cases ru;obtain⟨its,rv,p,hz⟩:=I.list hq;have hi:=mE rv;obtain⟨ys,hy⟩:=hi.allInts.items;have hn:numsOf its.toArray.toList=ns:=by rw[show its.toArray.toList=its from rfl,hi.numsOf]
 have pl:=p.isList;rw[hy] at pl hn;rw[nums_intItems] at hn;refine sum_intListG (I.ok.hd hc) pl λh' tk t' hk=>?_;rw[preSum_eq,Eo (by simp),hn];exact⟨.int ns.sum,H,I.kept (t':=tk) hk,⟨_,rfl⟩,q⟩
end L2
namespace Fr
noncomputable def dv(a b:Int):Int:=if b<0 then -((Int.gcd a b:Nat):Int) else ((Int.gcd a b:Nat):Int)
def T(a b:Int):Int:=a.fdiv (dv a b)
def B(a b:Int):Int:=b.fdiv (dv a b)
def km(hb:b≠0):0<Int.gcd a b:=Int.gcd_pos_of_ne_zero_right a hb
def ue(hb:b≠0):dv a b≠0:=by
 have:=km (a:=a) hb
 unfold dv;split <;> omega
def rK(a b:Int):dv a b ∣ a:=by
 have h:((Int.gcd a b:Nat):Int) ∣ a:=Int.gcd_dvd_left a b;unfold dv;split
 .exact Int.neg_dvd.mpr h
 .exact h
def qI(a b:Int):dv a b ∣ b:=by
 have h:((Int.gcd a b:Nat):Int) ∣ b:=Int.gcd_dvd_right a b;unfold dv;split
 .exact Int.neg_dvd.mpr h
 .exact h
def mh{a d q:Int}(hd:d≠0)(h:a=d*q):a.fdiv d=q:=by rw[h,Fi];exact Int.mul_fdiv_cancel q hd
def uj(hb:b≠0):T a b*dv a b=a:=by obtain⟨q,h⟩:=rK a b;have:T a b=q:=mh (ue hb) h;rw[this,Fi];exact h.symm
def ny(hb:b≠0):B a b*dv a b=b:=by obtain⟨q,h⟩:=qI a b;have:B a b=q:=mh (ue hb) h;rw[this,Fi];exact h.symm
def nS(hb:b≠0):0<B a b:=by
 have h:=ny (a:=a) hb;have hg:=km (a:=a) hb;generalize hx:B a b=x at h ⊢;unfold dv at h;split at h
 .rename_i hneg;have h2:x*((Int.gcd a b:Nat):Int)=-b:=by rw[Int.mul_neg] at h;omega
  rcases Int.lt_or_le 0 x with z |z
  .exact z
  .have:x*((Int.gcd a b:Nat):Int)<=0:=Int.mul_nonpos_of_nonpos_of_nonneg z (by omega);omega
 .rename_i hpos;rcases Int.lt_or_le 0 x with z |z
  .exact z
  .have:x*((Int.gcd a b:Nat):Int)<=0:=Int.mul_nonpos_of_nonpos_of_nonneg z (by omega);omega
def mK(hb:b≠0):T a b*b=a*B a b:=by have h1:=uj (a:=a) hb;have h2:=ny (a:=a) hb;generalize T a b=x at *;generalize B a b=y at *;generalize dv a b=d at *;rw[<- h2,<- h1];rw[<- EA,Int.mul_right_comm]
def pG(a b:Int):(dv a b).natAbs=Int.gcd a b:=by unfold dv;split <;> simp
def low(hb:b≠0):Int.gcd (T a b) (B a b)=1:=by
 have h1:=uj (a:=a) hb;have h2:=ny (a:=a) hb;have hg:=km (a:=a) hb;have e1:a.natAbs=(T a b).natAbs*Int.gcd a b:=by rw[<- pG a b,<- FH,h1]
 have e2:b.natAbs=(B a b).natAbs*Int.gcd a b:=by rw[<- pG a b,<- FH,h2]
 have e3:Int.gcd a b=Nat.gcd ((T a b).natAbs*Int.gcd a b) ((B a b).natAbs*Int.gcd a b):=by rw[<- e1,<- e2];rfl
 rw[Nat.gcd_mul_right] at e3;show Nat.gcd (T a b).natAbs (B a b).natAbs=1;generalize Nat.gcd (T a b).natAbs (B a b).natAbs=k at *;generalize Int.gcd a b=g at *;have:(1:Nat)*g=k*g:=by omega
 exact (Nat.eq_of_mul_eq_mul_right hg this).symm
def uniq(hy:0<y)(hy':0<y')(h:Int.gcd x y=1)(h':Int.gcd x' y'=1)(e:x*y'=x'*y):x=x'/\y=y':=by
 have c1:Nat.Coprime y.natAbs x.natAbs:=by rw[Nat.coprime_comm];exact h
 have c2:Nat.Coprime y'.natAbs x'.natAbs:=by rw[Nat.coprime_comm];exact h'
 have e1:x.natAbs*y'.natAbs=x'.natAbs*y.natAbs:=by rw[<- FH,<- FH,e]
 have d1:y.natAbs ∣ y'.natAbs:=c1.dvd_of_dvd_mul_left (by rw[e1];exact Nat.dvd_mul_left _ _);have d2:y'.natAbs ∣ y.natAbs:=c2.dvd_of_dvd_mul_left (by rw[<- e1];exact Nat.dvd_mul_left _ _);have ey:y.natAbs=y'.natAbs:=Nat.dvd_antisymm d1 d2;have ey':y=y':=by omega
 subst ey';exact⟨Int.eq_of_mul_eq_mul_right (by omega) e,rfl⟩
def same(hb:b≠0)(hd:d≠0)(e:a*d=c*b):T a b=T c d/\B a b=B c d:=by
 refine uniq (nS hb) (nS hd) (low hb) (low hd) ?_;have h1:=mK (a:=a) hb;have h2:=mK (a:=c) hd;have hbd:b*d≠0:=Int.mul_ne_zero hb hd;refine Int.eq_of_mul_eq_mul_right hbd ?_
 calc T a b*B c d*(b*d)=(T a b*b)*(B c d*d):=by rw[EA,EY (B c d) b d,<- EA]
  _=(a*B a b)*(B c d*d):=by rw[h1]
  _=(a*d)*(B c d*B a b):=by rw[EA a,EA a,EY (B a b),EY d,Fi (B a b) d]
  _=(c*b)*(B c d*B a b):=by rw[e]
  _=(c*B c d)*(B a b*b):=by rw[EA c,EA c,EY b,Fi b (B a b)]
  _=(T c d*d)*(B a b*b):=by rw[<- h2]
  _=T c d*B a b*(b*d):=by rw[EA,EA,EY d,Fi d b]
def self(hb:0<b)(h:Int.gcd a b=1):T a b=a/\B a b=b:=
 uniq (nS (by omega)) hb (low (by omega)) h (mK (by omega))
end Fr
set_option maxHeartbeats 1000000
namespace L2
open PySem PySem.Spec PyProof.Rows
def SqB(K:W.Frag)(b:Bool)(H:Hp)(a:Addr)(xs:List V):Prop:=match b with
 |true=>SqL K H a xs
 |false=>SqT K H a xs
noncomputable def IteE(K:W.Frag)(b:Bool)(a:Addr):It:=
 ⟨λi H=>∃xs x,SqB K b H a xs/\xs[i]?=some x,λi H x H'=>∃p u,x=.ref p/\H p=none/\H'=upd H p (.tup [.int (i:Nat),u])/\∀xs,SqB K b H a xs->xs[i]?=some u,λi H=>∃xs,SqB K b H a xs/\xs.length=i⟩
noncomputable def ItZ(K:W.Frag)(b c:Bool)(a d:Addr):It:=
 ⟨λi H=>∃xs ys x y,SqB K b H a xs/\SqB K c H d ys/\xs[i]?=some x/\ys[i]?=some y,
  λi H x H'=>∃p u v,x=.ref p/\H p=none/\H'=upd H p (.tup [u,v])/\(∀xs,SqB K b H a xs->xs[i]?=some u)/\∀ys,SqB K c H d ys->ys[i]?=some v,
  λi H=>∃xs ys,SqB K b H a xs/\SqB K c H d ys/\(xs[i]?=none\/ys[i]?=none)⟩
inductive D where
 |non |bl (b:Bool) |int (i:Int) |str (x:Str) |ty (n:String) |glb (x:Str) |exc (x:Str) |tup (xs:List D) |ref (n:Nat) |kl (xs:List D)
 deriving Inhabited
inductive Ob where
 |lst (xs:List D) |fz (xs:List D) |set (xs:List Int) |dct (kvs:List (Key×D)) |any
 deriving Inhabited
abbrev AH:=List Ob
abbrev AE:=List (Option D)
inductive R(α:Type) where
 |ok (a:α) (h:AH) |exc (c:Str) (h:AH) |stuck
inductive SR where
 |nx (ae:AE) (h:AH) |rt (d:D) (h:AH) |bk (ae:AE) (h:AH) |ct (ae:AE) (h:AH) |exc (c:Str) (ae:AE) (h:AH) |stuck
abbrev ME:=AE->AH->R D
abbrev MT:=AE->AH->R Bool
abbrev MA:=AE->AH->R (List D)
abbrev MS:=AE->AH->SR
abbrev Fn:=List D->AH->R D
noncomputable def R.bind{α β:Type}(r:R α)(f:α->AH->R β):R β:=match r with
 |.ok a h=>f a h
 |.exc c h=>.exc c h
 |.stuck=>.stuck
section
variable(K:W.Frag)(mg:Ga)
mutual
inductive RelD(ρ:List Addr)(H:Hp):D->V->Prop where
 |non:RelD ρ H .non .non
 |bl (b:Bool):RelD ρ H (.bl b) (.bl b)
 |int (i:Int):RelD ρ H (.int i) (.int i)
 |str (x:Str):RelD ρ H (.str x) (.str x)
 |ty (n:String):RelD ρ H (.ty n) (.ty n)
 |glb {x:Str}{a:Addr} (m:mg x=some (.ref a)):RelD ρ H (.glb x) (.ref a)
 |exc {x:Str}{a C:Addr} (m:mg x=some (.ref C)) (e:H a=some (.ext (sA a C))):RelD ρ H (.exc x) (.ref a)
 |tup {p:Addr}{vs:List V}{ds:List D} (h:SqT K H p vs) (r:RelDs ρ H ds vs):RelD ρ H (.tup ds) (.ref p)
 |ref {n:Nat}{a:Addr} (e:ρ[n]?=some a):RelD ρ H (.ref n) (.ref a)
 |kl {a:Addr}{vs:List V}{ds:List D} (h:∃(o:Obj) (its:Array Value) (n:Nat),K.lookup a=some o/\o.cls=.type "list" /\ o.dict=none/\o.data=.seq its n/\its.size<=sizeLine/\Vals vs its.toList) (r:RelDs ρ H ds vs):RelD ρ H (.kl ds) (.ref a)
inductive RelDs(ρ:List Addr)(H:Hp):List D->List V->Prop where
 |nil:RelDs ρ H [] []
 |cons {d:D}{v:V}{ds:List D}{vs:List V} (r:RelD ρ H d v) (rr:RelDs ρ H ds vs):RelDs ρ H (d::ds) (v::vs)
end
structure Le(ρ:List Addr)(H:Hp)(ρ':List Addr)(H':Hp):Prop where
 pre:∀(n:Nat) (a:Addr),ρ[n]?=some a->ρ'[n]?=some a
 tup:∀b xs,H b=some (.tup xs)->H' b=some (.tup xs)
 frz:∀b o u,H b=some (.frz o u)->H' b=some (.frz o u)
 ext:∀b φ,H b=some (.ext φ)->H' b=some (.ext φ)
def ObR(ρ:List Addr)(H:Hp)(a:Addr):Ob->Prop
 |.lst ds=>∃vs,H a=some (.lst vs)/\RelDs K mg ρ H ds vs
 |.fz ds=>∃o vs,H a=some (.frz o (.lst vs))/\RelDs K mg ρ H ds vs
 |.set xs=>xs.Nodup/\H a=some (.set (λi=>decide (i∈xs)) xs.length)
 |.dct kvs=>∃ws,H a=some (.dK ws)/\ws.map (·.1)=kvs.map (·.1)/\RelDs K mg ρ H (kvs.map (·.2)) (ws.map (·.2))
 |.any=>∃o,H a=some o
def codO(c:Addr)(q:Str):Heap->Prop:=λh=>h.CodeRec (.ref c) q
noncomputable def tH:List Str:=["by_falling_weights", "least_around"]
def sx(P:Addr)(q:Str):Prop:=∃(x:Str) (f:Addr) (oc:Value) (od:Option Addr) (fd:FuncData) (sl:Array (Option Value)) (c:Addr),x∈tH/\(∀y∈tH,y≠x->mg y=none)/\mg x=some (.ref f)/\K.lookup f=some ⟨oc,od,.func fd,sl⟩/\fd.code=.ref c/\W.codeHdIn K c P=true/\q=fd.qualname ++ ".<locals>." ++ "<lambda>"
def TbP(ρ:List Addr)(H:Hp)(P:Addr)(q:Str):Prop:=P∉ρ/\∃ps:Array Value,H P=some (.tbl ps)/\TriplesOk ps.toList/\∀pos cv,codeAmong pos ps.toList=some cv->∃c,cv=.ref c/\H c=some (.ext (codO c q))
def bmP(o:Obj):Prop:=o.cls=.type "module" /\ o.dict=some builtinsNs/\o.data=.plain
def BMok(H:Hp):Prop:=∃b o,mg "__builtins__"=some (.ref b)/\b≠builtinsNs/\b≠mainGlobals/\bmP o/\(K.lookup b=some o\/∃u,H b=some (.frz o u))
structure Wd(ρ:List Addr)(h:AH)(H:Hp):Prop where
 len:ρ.length=h.length
 nd:ρ.Nodup
 tb:∀P q,sx K mg P q->TbP ρ H P q/\BMok K mg H
 ob:∀(n:Nat) (a:Addr) (o:Ob),ρ[n]?=some a->h[n]?=some o->ObR K mg ρ H a o
structure RelE(ρ:List Addr)(H:Hp)(ae:AE)(σ:St):Prop where
 len:ae.length=σ.length
 at_:∀(i:Nat) (d:D),ae[i]?=some (some d)->∃v,σ[i]?=some (some v)/\RelD K mg ρ H d v
def PostG{α:Type}(ρ:List Addr)(H:Hp)(E:XK)(k:α->AH->List Addr->Hp->Prop):R α->Prop
 |.ok a h=>∀ρ' H',Le ρ H ρ' H'->Wd K mg ρ' h H'->k a h ρ' H'
 |.exc c h=>∀ρ' H' C,Le ρ H ρ' H'->Wd K mg ρ' h H'->mg c=some (.ref C)->E (.ref C) none H'
 |.stuck=>False
abbrev bS(ρ:List Addr)(H:Hp)(Q:VK)(E:XK)(r:R D):Prop:=PostG K mg ρ H E (λd _ ρ' H'=>∀v,RelD K mg ρ' H' d v->Q v H') r
abbrev uv(ρ:List Addr)(H:Hp)(Q:Bool->Hp->Prop)(E:XK)(r:R Bool):Prop:=PostG K mg ρ H E (λb _ ρ' H'=>Q b H') r
abbrev uk(ρ:List Addr)(H:Hp)(Q:List V->Hp->Prop)(E:XK)(r:R (List D)):Prop:=PostG K mg ρ H E (λd _ ρ' H'=>∀vs,RelDs K mg ρ' H' d vs->Q vs H') r
def PostS(ρ:List Addr)(H:Hp)(D:Ends)(ES:St->XK):SR->Prop
 |.nx ae h=>∀ρ' H' σ',Le ρ H ρ' H'->Wd K mg ρ' h H'->RelE K mg ρ' H' ae σ'->D.nx σ' H'
 |.bk ae h=>∀ρ' H' σ',Le ρ H ρ' H'->Wd K mg ρ' h H'->RelE K mg ρ' H' ae σ'->D.bk σ' H'
 |.ct ae h=>∀ρ' H' σ',Le ρ H ρ' H'->Wd K mg ρ' h H'->RelE K mg ρ' H' ae σ'->D.ct σ' H'
 |.rt d h=>∀ρ' H' v,Le ρ H ρ' H'->Wd K mg ρ' h H'->RelD K mg ρ' H' d v->D.rt v H'
 |.exc c ae h=>∀ρ' H' σ' C,Le ρ H ρ' H'->Wd K mg ρ' h H'->RelE K mg ρ' H' ae σ'->mg c=some (.ref C)->ES σ' (.ref C) none H'
 |.stuck=>False
def rdE(ES:St->XK)(F:ME):TE:=λσ H Q=>∃ρ h ae,Wd K mg ρ h H/\RelE K mg ρ H ae σ/\bS K mg ρ H Q (ES σ) (F ae h)
def rdT(ES:St->XK)(F:MT):TT:=λσ H Q=>∃ρ h ae,Wd K mg ρ h H/\RelE K mg ρ H ae σ/\uv K mg ρ H Q (ES σ) (F ae h)
def rdA(ES:St->XK)(F:MA):TA:=λσ H Q=>∃ρ h ae,Wd K mg ρ h H/\RelE K mg ρ H ae σ/\uk K mg ρ H Q (ES σ) (F ae h)
def rdS(ES:St->XK)(F:MS):TS:=λD σ H=>∃ρ h ae,Wd K mg ρ h H/\RelE K mg ρ H ae σ/\PostS K mg ρ H D ES (F ae h)
def spD(n:Nat)(S:Fn):Sp:=λvs H Q E=>∃ρ h ds,Wd K mg ρ h H/\RelDs K mg ρ H ds vs/\ds.length=n/\bS K mg ρ H Q E (S ds h)
end
def rdE.el{K:W.Frag}{mg:Ga}{ES:St->XK}{F:ME}{σ:St}{H:Hp}{Q:VK}{C:Prop}(q:rdE K mg ES F σ H Q)(k:∀ρ h ae,Wd K mg ρ h H->RelE K mg ρ H ae σ->bS K mg ρ H Q (ES σ) (F ae h)->C):C:=by obtain⟨ρ,h,ae,w,re,p⟩:=q;exact k ρ h ae w re p
def rdT.el{K:W.Frag}{mg:Ga}{ES:St->XK}{F:MT}{σ:St}{H:Hp}{Q:Bool->Hp->Prop}{C:Prop}(q:rdT K mg ES F σ H Q)(k:∀ρ h ae,Wd K mg ρ h H->RelE K mg ρ H ae σ->uv K mg ρ H Q (ES σ) (F ae h)->C):C:=by obtain⟨ρ,h,ae,w,re,p⟩:=q;exact k ρ h ae w re p
def rdA.el{K:W.Frag}{mg:Ga}{ES:St->XK}{F:MA}{σ:St}{H:Hp}{Q:List V->Hp->Prop}{C:Prop}(q:rdA K mg ES F σ H Q)(k:∀ρ h ae,Wd K mg ρ h H->RelE K mg ρ H ae σ->uk K mg ρ H Q (ES σ) (F ae h)->C):C:=by obtain⟨ρ,h,ae,w,re,p⟩:=q;exact k ρ h ae w re p
def rdS.el{K:W.Frag}{mg:Ga}{ES:St->XK}{F:MS}{σ:St}{H:Hp}{De:Ends}{C:Prop}(q:rdS K mg ES F De σ H)(k:∀ρ h ae,Wd K mg ρ h H->RelE K mg ρ H ae σ->PostS K mg ρ H De ES (F ae h)->C):C:=by obtain⟨ρ,h,ae,w,re,p⟩:=q;exact k ρ h ae w re p
section
variable{K:W.Frag}{mg:Ga}{ρ ρ' ρ1:List Addr}{H H' H1:Hp}{h:AH}{ae:AE}{σ:St}
def Le.refl:Le ρ H ρ H:=⟨λ_ _ e=>e,λ_ _ e=>e,λ_ _ _ e=>e,λ_ _ e=>e⟩
def Le.trans(a:Le ρ H ρ1 H1)(b:Le ρ1 H1 ρ' H'):Le ρ H ρ' H':=
 ⟨λn x e=>b.pre n x (a.pre n x e),λx y e=>b.tup x y (a.tup x y e),λx y z e=>b.frz x y z (a.frz x y z e),λx y e=>b.ext x y (a.ext x y e)⟩
def Le.sqT(l:Le ρ H ρ' H')(q:SqT K H a xs):SqT K H' a xs:=by
 rcases q with (q |⟨o,q⟩) |q
 .exact .inl (.inl (l.tup _ _ q))
 .exact .inl (.inr ⟨o,l.frz _ _ _ q⟩)
 .exact .inr q
def RelD.mono(l:Le ρ H ρ' H')(r:RelD K mg ρ H d v):RelD K mg ρ' H' d v:=
 RelD.rec (motive_1:=λd v _=>RelD K mg ρ' H' d v) (motive_2:=λds vs _=>RelDs K mg ρ' H' ds vs) .non (λb=>.bl b) (λi=>.int i) (λx=>.str x) (λn=>.ty n) (λm=>.glb m) (λm e=>.exc m (l.ext _ _ e)) (λh _ ih=>.tup (l.sqT h) ih) (λe=>.ref (l.pre _ _ e)) (λh _ ih=>.kl h ih) .nil (λ_ _ a b=>.cons a b) r
def RelDs.ind{M:List D->List V->Prop}(h0:M [] [])(h1:∀{d v ds vs},RelD K mg ρ H d v->RelDs K mg ρ H ds vs->M ds vs->M (d::ds) (v::vs)){ds:List D}{vs:List V}(r:RelDs K mg ρ H ds vs):M ds vs:=by
 induction ds generalizing vs with
 |nil=>cases r;exact h0
 |
  cons d ds ih=>
  cases r with
  |cons r rr=>exact h1 r rr (ih rr)
def RelDs.mono(l:Le ρ H ρ' H'){ds:List D}{vs:List V}(r:RelDs K mg ρ H ds vs):RelDs K mg ρ' H' ds vs:=r.ind .nil λr _ ih=>.cons (r.mono l) ih
def RelDs.len{ds:List D}{vs:List V}(r:RelDs K mg ρ H ds vs):ds.length=vs.length:=r.ind (M:=λds vs=>ds.length=vs.length) rfl λ_ _ ih=>Ey (· + 1) ih
def RelDs.getD{ds:List D}{vs:List V}{i:Nat}{d:D}(r:RelDs K mg ρ H ds vs)(e:ds[i]?=some d):∃v,vs[i]?=some v/\RelD K mg ρ H d v:=
 r.ind (M:=λds vs=>∀i,ds[i]?=some d->∃v,vs[i]?=some v/\RelD K mg ρ H d v) (λ_ e=>by rw[List.getElem?_nil] at e;cases e) (λr _ ih i e=>match i,e with
  |0,e=>by cases e;exact⟨_,rfl,r⟩
  |i+1,e=>ih i e) i e
def RelDs.append{ds es:List D}{vs ws:List V}(r:RelDs K mg ρ H ds vs)(q:RelDs K mg ρ H es ws):RelDs K mg ρ H (ds++es) (vs++ws):=r.ind (M:=λds vs=>RelDs K mg ρ H (ds++es) (vs++ws)) q λr _ ih=>.cons r ih
def RelDs.take{ds:List D}{vs:List V}(n:Nat)(r:RelDs K mg ρ H ds vs):RelDs K mg ρ H (ds.take n) (vs.take n):=
 r.ind (M:=λds vs=>∀n:Nat,RelDs K mg ρ H (ds.take n) (vs.take n)) (λn=>by rw[Es,Es];exact .nil) (λr _ ih n=>by cases n with |zero=>exact .nil |succ n=>exact .cons r (ih n)) n
def RelDs.drop{ds:List D}{vs:List V}(n:Nat)(r:RelDs K mg ρ H ds vs):RelDs K mg ρ H (ds.drop n) (vs.drop n):=
 r.ind (M:=λds vs=>∀n:Nat,RelDs K mg ρ H (ds.drop n) (vs.drop n)) (λn=>by rw[E9,E9];exact .nil) (λr rr ih n=>by cases n with |zero=>exact .cons r rr |succ n=>exact ih n) n
def RelDs.set{d:D}{v:V}(r:RelD K mg ρ H d v){ds:List D}{vs:List V}(i:Nat)(q:RelDs K mg ρ H ds vs):RelDs K mg ρ H (ds.set i d) (vs.set i v):=
 q.ind (M:=λds vs=>∀i:Nat,RelDs K mg ρ H (ds.set i d) (vs.set i v)) (λ_=>.nil) (λq qq ih i=>by cases i with |zero=>exact .cons r qq |succ i=>exact .cons q (ih i)) i
def RelDs.ints:∀{ns:List Int}{vs:List V},RelDs K mg ρ H (ns.map D.int) vs->vs=ns.map V.int:=by
 intro ns;induction ns with
 |nil=>intro vs r;cases r;rfl
 |
  cons n ns ih=>
  intro vs r;cases r with
  |cons r rr=>cases r;rw[ih rr];rfl
def RelDs.bls:∀{ns:List Bool}{vs:List V},RelDs K mg ρ H (ns.map D.bl) vs->vs=ns.map V.bl:=by
 intro ns;induction ns with
 |nil=>intro vs r;cases r;rfl
 |
  cons n ns ih=>
  intro vs r;cases r with
  |cons r rr=>cases r;rw[ih rr];rfl
def RelE.mono(l:Le ρ H ρ' H')(r:RelE K mg ρ H ae σ):RelE K mg ρ' H' ae σ:=⟨r.len,λi d e=>by obtain⟨v,h1,h2⟩:=r.at_ i d e;exact⟨v,h1,h2.mono l⟩⟩
def RelE.set(i:Nat)(r:RelE K mg ρ H ae σ)(q:RelD K mg ρ H d v):RelE K mg ρ H (ae.set i (some d)) (σ.set i (some v)):=⟨by rw[y_,y_];exact r.len,λj d' e=>by
 rw[Fo] at e ⊢;by_cases hij:i=j
 .rw[if_pos hij] at e ⊢;by_cases hi:i<ae.length
  .rw[if_pos hi] at e;cases e;rw[if_pos (by rw[<- r.len];exact hi)];exact⟨v,rfl,q⟩
  .rw[if_neg hi] at e;cases e
 .rw[if_neg hij] at e ⊢;exact r.at_ j d' e⟩
def ObR.mono(l:Le ρ H ρ' H')(e:H' a=H a)(q:ObR K mg ρ H a o):ObR K mg ρ' H' a o:=by
 cases o with
 |lst ds=>obtain⟨vs,h1,h2⟩:=q;exact⟨vs,e.trans h1,h2.mono l⟩
 |fz ds=>obtain⟨o,vs,h1,h2⟩:=q;exact⟨o,vs,e.trans h1,h2.mono l⟩
 |set xs=>exact⟨q.1,e.trans q.2⟩
 |dct kvs=>obtain⟨ws,h1,h2,h3⟩:=q;exact⟨ws,e.trans h1,h2,h3.mono l⟩
 |any=>obtain⟨o,h1⟩:=q;exact⟨o,e.trans h1⟩
def ObR.there(q:ObR K mg ρ H a o):∃u,H a=some u:=by
 cases o with
 |lst ds=>obtain⟨vs,h1,_⟩:=q;exact⟨_,h1⟩
 |fz ds=>obtain⟨o,vs,h1,_⟩:=q;exact⟨_,h1⟩
 |set xs=>exact⟨_,q.2⟩
 |dct kvs=>obtain⟨ws,h1,_⟩:=q;exact⟨_,h1⟩
 |any=>exact q
def Wd.fresh(w:Wd K mg ρ h H)(hp:H p=none):p∉ρ:=λhm=>by
 obtain⟨n,hn⟩:=List.getElem?_of_mem hm;have hl:n<h.length:=by rw[<- w.len];exact (p_.mp hn).1
 obtain⟨u,hu⟩:=(w.ob n p h[n] hn (DQ hl)).there;rw[hp] at hu;cases hu
def TbP.up{P:Addr}{q:Str}(t:TbP ρ H P q)(hp:H p=none):TbP ρ (upd H p u) P q:=by obtain⟨a,ps,b,c,d⟩:=t;refine⟨a,ps,by rw[aq (aK b hp)];exact b,c,λpos cv e=>?_⟩;obtain⟨x,e1,e2⟩:=d pos cv e;exact⟨x,e1,by rw[aq (aK e2 hp)];exact e2⟩
def TbP.rho{P:Addr}{q:Str}(t:TbP ρ H P q)(h:P∉ρ'):TbP ρ' H P q:=⟨h,t.2⟩
def TbP.more{P:Addr}{q:Str}(t:TbP ρ H P q)(hp:H p=none):TbP (ρ++[p]) (upd H p u) P q:=by
 obtain⟨ps,b,_⟩:=t.2;refine (t.up hp).rho λz=>?_;rcases EU.mp z with z |z
 .exact t.1 z
 .rw[Ei] at z;subst z;rw[hp] at b;cases b
def TbP.wr{P:Addr}{q:Str}{a:Addr}{o u:HO}(t:TbP ρ H P q)(ha:a∈ρ)(e:H a=some u)(hu:∀φ,u ≠ .ext φ):TbP ρ (upd H a o) P q:=by
 obtain⟨z,ps,b,c,d⟩:=t;refine⟨z,ps,by rw[aq (λw=>z (by rw[w];exact ha))];exact b,c,λpos cv y=>?_⟩;obtain⟨x,e1,e2⟩:=d pos cv y;refine⟨x,e1,?_⟩;rw[aq]
 .exact e2
 .intro w;subst w;rw[e] at e2;exact hu _ (DX e2)
def bB(hp:H p=none):Le ρ H ρ (upd H p o):=
 ⟨λ_ _ e=>e,λb xs e=>by rw[aq (aK e hp)];exact e,λb xs u e=>by rw[aq (aK e hp)];exact e,λb xs e=>by rw[aq (aK e hp)];exact e⟩
def BMok.le(b:BMok K mg H)(l:Le ρ H ρ' H'):BMok K mg H':=by
 obtain⟨x,o,h1,h2,h3,h4,h5⟩:=b;refine⟨x,o,h1,h2,h3,h4,?_⟩;rcases h5 with z |⟨u,z⟩
 .exact .inl z
 .exact .inr ⟨u,l.frz _ _ _ z⟩
def ir:Le ρ H (ρ++m) H:=
 ⟨λn a e=>by rw[C_ (p_.mp e).1];exact e,λ_ _ e=>e,λ_ _ _ e=>e,λ_ _ e=>e⟩
def Wd.alloc(w:Wd K mg ρ h H)(hp:H p=none)(hn:ObR K mg (ρ++[p]) (upd H p u) p o):Wd K mg (ρ++[p]) (h++[o]) (upd H p u):=by
 refine⟨by rw[DY,DY,w.len];rfl,?_,λP q l=>⟨(w.tb P q l).1.more hp,(w.tb P q l).2.le (ρ:=ρ) (bB hp)⟩,λn a ob e1 e2=>?_⟩
 .rw[List.nodup_append];exact⟨w.nd,by simp,λa ha b hb=>by rw[Ei] at hb;subst hb;intro z;subst z;exact w.fresh hp ha⟩
 .by_cases hl:n<ρ.length
  .rw[C_ hl] at e1;rw[C_ (by rw[<- w.len];exact hl)] at e2;have q:=w.ob n a ob e1 e2;obtain⟨v,hv⟩:=q.there;exact q.mono ((bB hp).trans ir) (aq (aK hv hp))
  .have h1:n=ρ.length:=by
    have:=(p_.mp e1).1
    rw[DY] at this;simp at this;omega
   subst h1;rw[Eb (v_ _),FD] at e1;rw[w.len,Eb (v_ _),FD] at e2;simp at e1 e2;subst e1 e2;exact hn
def Wd.tuple(w:Wd K mg ρ h H)(hp:H p=none):Wd K mg ρ h (upd H p u):=
 ⟨w.len,w.nd,λP q l=>⟨(w.tb P q l).1.up hp,(w.tb P q l).2.le (ρ:=ρ) (bB hp)⟩,λn a ob e1 e2=>by have q:=w.ob n a ob e1 e2;obtain⟨v,hv⟩:=q.there;exact q.mono (bB hp) (aq (aK hv hp))⟩
def fI(e:H a=some u)(hu:(∀xs,u ≠ .tup xs)/\(∀x y,u ≠ .frz x y)/\∀φ,u ≠ .ext φ):Le ρ H ρ (upd H a o):=by refine⟨λ_ _ e=>e,λb xs q=>?_,λb x y q=>?_,λb φ q=>?_⟩ <;> rw[aq] <;> (try exact q) <;> (intro z;subst z;rw[e] at q;have:=DX q;first |exact hu.1 _ this |exact hu.2.1 _ _ this |exact hu.2.2 _ this)
def Wd.write{n:Nat}{a:Addr}{o u:HO}{ob:Ob}(w:Wd K mg ρ h H)(ea:ρ[n]?=some a)(e:H a=some u)(hu:(∀xs,u ≠ .tup xs)/\(∀x y,u ≠ .frz x y)/\∀φ,u ≠ .ext φ)
 (hn:ObR K mg ρ (upd H a o) a ob):Wd K mg ρ (h.set n ob) (upd H a o):=by
 refine⟨by rw[y_];exact w.len,w.nd,λP q l=>⟨(w.tb P q l).1.wr (EK ea) e hu.2.2,(w.tb P q l).2.le (ρ:=ρ) (fI e hu)⟩,λm b ob' e1 e2=>?_⟩;rw[Fo] at e2;by_cases hm:n=m
 .subst hm;rw[ea] at e1;cases e1;rw[if_pos rfl] at e2;split at e2
  .cases e2;exact hn
  .cases e2
 .rw[if_neg hm] at e2;have q:=w.ob m b ob' e1 e2;refine q.mono (fI e hu) (aq λz=>hm ?_);subst z;have h1:=(p_.mp e1);have h2:=(p_.mp ea);exact (List.getElem_inj (h₀:=h2.1) (h₁:=h1.1) w.nd).mp (h2.2.trans h1.2.symm)
def jC:(∀xs,HO.lst vs ≠ .tup xs)/\(∀x y,HO.lst vs ≠ .frz x y)/\∀φ,HO.lst vs ≠ .ext φ:=⟨λ_ z=>(nomatch z),λ_ _ z=>(nomatch z),λ_ z=>(nomatch z)⟩
def ng:(∀xs,HO.dK ws ≠ .tup xs)/\(∀x y,HO.dK ws ≠ .frz x y)/\∀φ,HO.dK ws ≠ .ext φ:=⟨λ_ z=>(nomatch z),λ_ _ z=>(nomatch z),λ_ z=>(nomatch z)⟩
def PostG.mono(l:Le ρ H ρ' H')(p:PostG K mg ρ H E k r):PostG K mg ρ' H' E k r:=by
 cases r with
 |ok d h=>exact λρ2 H2 l2=>p ρ2 H2 (l.trans l2)
 |exc c h=>exact λρ2 H2 C l2=>p ρ2 H2 C (l.trans l2)
 |stuck=>exact p
def PostG.imp(p:PostG K mg ρ H E k r)(i:∀a h1 ρ' H',Le ρ H ρ' H'->Wd K mg ρ' h1 H'->k a h1 ρ' H'->k' a h1 ρ' H'):PostG K mg ρ H E k' r:=by
 cases r with
 |ok d h=>exact λρ2 H2 l2 w2=>i _ _ _ _ l2 w2 (p ρ2 H2 l2 w2)
 |exc c h=>exact p
 |stuck=>exact p
def PostG.bind(p:PostG K mg ρ H E k (r.bind f)):PostG K mg ρ H E (λa h1 ρ' H'=>PostG K mg ρ' H' E k (f a h1)) r:=by
 cases r with
 |ok d h=>exact λρ2 H2 l2 w2=>PostG.mono l2 p
 |exc c h=>exact p
 |stuck=>exact p
def PostS.mono(l:Le ρ H ρ' H')(p:PostS K mg ρ H De ES r):PostS K mg ρ' H' De ES r:=by
 cases r with
 |nx ae h=>exact λρ2 H2 σ l2=>p ρ2 H2 σ (l.trans l2)
 |bk ae h=>exact λρ2 H2 σ l2=>p ρ2 H2 σ (l.trans l2)
 |ct ae h=>exact λρ2 H2 σ l2=>p ρ2 H2 σ (l.trans l2)
 |rt d h=>exact λρ2 H2 v l2=>p ρ2 H2 v (l.trans l2)
 |exc c ae h=>exact λρ2 H2 σ C l2=>p ρ2 H2 σ C (l.trans l2)
 |stuck=>exact p
end
section
variable{X:Cx}{e:Expr}{es:List Expr}{st:Stmt}{sts:List Stmt}
def PE.imp(h:PE X e t)(k:∀σ H Q,t' σ H Q->t σ H Q):PE X e t':=λpins s σ H Q I w=>h pins s σ H Q I (k σ H Q w)
def PT.imp(h:PT X e t)(k:∀σ H Q,t' σ H Q->t σ H Q):PT X e t':=λpins s σ H Q I w=>h pins s σ H Q I (k σ H Q w)
def PW.imp(h:PW X e t)(k:∀σ H Q,t' σ H Q->t σ H Q):PW X e t':=λwh pins s σ H Q I w=>h wh pins s σ H Q I (k σ H Q w)
def PA.imp(h:PA X es t)(k:∀σ H Q,t' σ H Q->t σ H Q):PA X es t':=λpos pins s σ H Q I w=>h pos pins s σ H Q I (k σ H Q w)
def PS.imp(h:PS X st t)(k:∀D σ H,t' D σ H->t D σ H):PS X st t':=λpins s σ H D I w=>h pins s σ H D I (k D σ H w)
def PSs.imp(h:PSs X sts t)(k:∀D σ H,t' D σ H->t D σ H):PSs X sts t':=λpins s σ H D I w=>h pins s σ H D I (k D σ H w)
def PG.imp(h:PG X e t)(k:∀v σ H Q,t' v σ H Q->t v σ H Q):PG X e t':=λpins s σ H v u Q I r w=>h pins s σ H v u Q I r (k v σ H Q w)
def PO.imp(h:PO X o t)(k:∀σ H Q,t' σ H Q->t σ H Q):PO X o t':=λpins s σ H Q I w=>h pins s σ H Q I (k σ H Q w)
end
section
variable(K:W.Frag)(mg:Ga)(X:Cx)(ES:St->XK)
def DE(e:Expr)(F:ME):Prop:=PE X e (rdE K mg ES F)
def DT(e:Expr)(F:MT):Prop:=PT X e (rdT K mg ES F)
def DW(e:Expr)(F:MT):Prop:=PW X e (rdT K mg ES F)
def DA(es:List Expr)(F:MA):Prop:=PA X es (rdA K mg ES F)
def DS(st:Stmt)(F:MS):Prop:=PS X st (rdS K mg ES F)
def DSs(st:List Stmt)(F:MS):Prop:=PSs X st (rdS K mg ES F)
end
def OpD(K:W.Frag)(mg:Ga)(r:R2)(g:D->D->AH->R D):Prop:=∀ρ h H dx dy x y Q E,Wd K mg ρ h H->RelD K mg ρ H dx x->RelD K mg ρ H dy y->bS K mg ρ H Q E (g dx dy h)->r x y H Q
def UnD(K:W.Frag)(mg:Ga)(r:V->Hp->VK->Prop)(g:D->AH->R D):Prop:=∀ρ h H dx x Q E,Wd K mg ρ h H->RelD K mg ρ H dx x->bS K mg ρ H Q E (g dx h)->r x H Q
def aZ(K:W.Frag)(mg:Ga)(r:List V->Hp->VK->Prop)(g:Fn):Prop:=∀ρ h H ds vs Q E,Wd K mg ρ h H->RelDs K mg ρ H ds vs->bS K mg ρ H Q E (g ds h)->r vs H Q
noncomputable def bM(i:Nat):ME:=λae h=>match ae[i]? with
 |some (some d)=>.ok d h
 |_=>.stuck
noncomputable def eC(d:D):ME:=λ_ h=>.ok d h
noncomputable def eOp(g:D->D->AH->R D)(F G:ME):ME:=λae h=>(F ae h).bind λx h1=>(G ae h1).bind λy h2=>g x y h2
noncomputable def eUn(g:D->AH->R D)(F:ME):ME:=λae h=>(F ae h).bind g
noncomputable def iq:MA:=λ_ h=>.ok [] h
noncomputable def eI(F:ME)(G:MA):MA:=λae h=>(F ae h).bind λx h1=>(G ae h1).bind λxs h2=>.ok (x::xs) h2
noncomputable def eFn(g:Fn)(A:MA):ME:=λae h=>(A ae h).bind g
noncomputable def hZ(ds:List D)(h:AH):R D:=if ds.length<=16777216 then .ok (.tup ds) h else .stuck
noncomputable def bJ(ds:List D)(h:AH):R D:=if ds.length<=16777216 then .ok (.ref h.length) (h++[.lst ds]) else .stuck
noncomputable def asB(d:D)(h:AH):R Bool:=match d with
 |.bl b=>.ok b h
 |_=>.stuck
noncomputable def qU(F G:ME):ME:=λae h=>(F ae h).bind λx h1=>(asB x h1).bind λb h2=>if b=true then G ae h2 else .ok (.bl false) h2
def eOr(F G:ME):ME:=λae h=>(F ae h).bind λx h1=>(asB x h1).bind λb h2=>if b=true then .ok (.bl true) h2 else G ae h2
noncomputable def rQ(F:ME):ME:=λae h=>(F ae h).bind λx h1=>(asB x h1).bind λb h2=>.ok (.bl (!b)) h2
noncomputable def tOf(F:ME):MT:=λae h=>(F ae h).bind asB
noncomputable def tAn(c d:MT):MT:=λae h=>(c ae h).bind λb h1=>if b=true then d ae h1 else .ok false h1
noncomputable def tO(c d:MT):MT:=λae h=>(c ae h).bind λb h1=>if b=true then .ok true h1 else d ae h1
noncomputable def tNo(c:MT):MT:=λae h=>(c ae h).bind λb h1=>.ok (!b) h1
section
variable{K:W.Frag}{mg:Ga}{ρ:List Addr}{H:Hp}{h:AH}
def bO(w:Wd K mg ρ h H)(rs:RelDs K mg ρ H ds vs)(hp:H p=none)(q:bS K mg ρ H Q E (.ok (.ref h.length) (h++[.lst ds]))):Q (.ref p) (upd H p (.lst vs)):=by have l:Le ρ H (ρ++[p]) (upd H p (.lst vs)):=(bB hp).trans ir;refine q (ρ++[p]) _ l (w.alloc hp ⟨vs,ba,rs.mono l⟩) _ (.ref ?_);rw[<- w.len,Eb (v_ _),FD];rfl
def gu(w:Wd K mg ρ h H)(rs:RelDs K mg ρ H ds vs)(hp:H p=none)(q:bS K mg ρ H Q E (.ok (.tup ds) h)):Q (.ref p) (upd H p (.tup vs)):=
 q ρ _ (bB hp) (w.tuple hp) _ (.tup (SqT.of ba) (rs.mono (bB hp)))
def aw(w:Wd K mg ρ h H)(r:RelD K mg ρ H d v)(q:bS K mg ρ H Q E (.ok d h)):Q v H:=q ρ H Le.refl w v r
end
section
variable{K:W.Frag}{mg:Ga}{X:Cx}{ES:St->XK}{e a b:Expr}{es:List Expr}{F G:ME}{A:MA}{cf cg:MT}{pos:Pos}
def yn(i:Nat)(hN:X.N[i]?=some x)(hv:Vis X.env.scope x)(hd:(x==("__debug__" : Str))=false)
 (hcd:(x==("__classdict__" : Str))=false):DE K mg X ES (.Name x pos) (bM i):=PE.imp (yi hN hv hd hcd) λσ H Q q_=>q_.el λρ h ae w re p=>by
 unfold bM at p;split at p
 .rename_i d ed;obtain⟨v,e1,r⟩:=re.at_ i d ed;exact⟨v,e1,aw w r p⟩
 .exact p.elim
def ky(hp:PE X e (tC v))(r:∀ρ H,RelD K mg ρ H d v):DE K mg X ES e (eC d):=PE.imp hp λσ H Q q_=>q_.el λρ h ae w re p=>aw w (r ρ H) p
def AD:DE K mg X ES (.Constant (.int i) j pos) (eC (.int i)):=ky zL λ_ _=>.int i
def Dq:DE K mg X ES (.Constant (.bool i) j pos) (eC (.bl i)):=ky CD λ_ _=>.bl i
def Ba:DE K mg X ES (.Constant (.str x) j pos) (eC (.str x)):=ky pV λ_ _=>.str x
structure GC(K:W.Frag)(mg:Ga)(x:Str)(d:D):Prop where
 ex:∃u v,mg x=some u/\RelV v u/\∀ρ H,RelD K mg ρ H d v
def Di(hg:Gl X x)(ha:GC K mg x d)(hm:X.mg=mg)(hd:(x==("__debug__" : Str))=false):DE K mg X ES (.Name x pos) (eC d):=by subst hm;obtain⟨u,v,h1,h2,h3⟩:=ha.ex;exact ky (uF hg h1 h2 hd) h3
def Bs(hg:Gl X x)(hm:mg x=none)(hv:bootBuiltins x=some (.type n))(he:X.mg=mg)(hn:x ≠ "__name__")(hd:(x==("__debug__" : Str))=false):DE K mg X ES (.Name x pos) (eC (.ty n)):=by subst he;exact ky (u9 hg hm hv (v:=.ty n) rfl hn hd) λ_ _=>.ty n
def jO(hd:OpD K mg r g)(σ:St)(H:Hp)(Q:VK)(q:rdE K mg ES (eOp g F G) σ H Q):tOp r (rdE K mg ES F) (rdE K mg ES G) σ H Q:=by obtain⟨ρ,h,ae,w,re,p⟩:=q;exact⟨ρ,h,ae,w,re,p.bind.imp λdx h1 ρ1 H1 l1 w1 p1 x rx=>⟨ρ1,h1,ae,w1,re.mono l1,p1.bind.imp λdy h2 ρ2 H2 l2 w2 p2 y ry=>hd ρ2 h2 H2 dx dy x y Q _ w2 (rx.mono l2) ry p2⟩⟩
def By(ho:OpR X (binaryOp op) r)(hd:OpD K mg r g)(ha:DE K mg X ES a F)(hb:DE K mg X ES b G):DE K mg X ES (.BinOp a op b pos) (eOp g F G):=PE.imp (B1 ho ha hb) (jO hd)
def C2(hr:IxR X r)(hd:OpD K mg r g)(ha:DE K mg X ES a F)(hb:DE K mg X ES b G)(hs:iN b):DE K mg X ES (.Subscript a b pos) (eOp g F G):=PE.imp (CU hr ha hb hs) (jO hd)
def xN(ho:OpR X (compareOp op) r)(hd:OpD K mg r g)(ha:DE K mg X ES a F)(hb:DE K mg X ES b G)(hm:behindInMarks op b=false):DE K mg X ES (.Compare a [op] [b] pos) (eOp g F G):=PE.imp (wx ho ha hb hm) (jO hd)
def mI(σ:St)(H:Hp)(Q:Bool->Hp->Prop)(q:rdT K mg ES (tOf F) σ H Q):rdE K mg ES F σ H λx H'=>∃k,x=.bl k/\Q k H':=by
 obtain⟨ρ,h,ae,w,re,p⟩:=q;refine⟨ρ,h,ae,w,re,p.bind.imp λd h1 ρ1 H1 l1 w1 p1 x rx=>?_⟩;unfold asB at p1;split at p1
 .cases rx;exact⟨_,rfl,p1 ρ1 H1 Le.refl w1⟩
 .exact p1.elim
def xi(ho:OpR X (compareOp op) r)(hd:OpD K mg r g)(ha:DE K mg X ES a F)(hb:DE K mg X ES b G)(hm:behindInMarks op b=false):DT K mg X ES (.Compare a [op] [b] pos) (tOf (eOp g F G)):=
 PT.imp (vx ho ha hb hm) λσ H Q q=>jO hd σ H _ (mI σ H Q q)
def xS(ha:DE K mg X ES a F)(he:∀l_,isTrue a X.env l_=(do let v <- l_;standAt a.pos;holding [v] (truthy v))):DT K mg X ES a (tOf F):=
 PT.imp (xK ha he) λσ H Q q=>mI σ H Q q
def zw(ha:DT K mg X ES a cf):DT K mg X ES (.UnaryOp .Not a pos) (tNo cf):=PT.imp (AS ha) λσ H Q q_=>q_.el λρ h ae w re p=>
 ⟨ρ,h,ae,w,re,p.bind.imp λb h1 ρ1 H1 l1 w1 p1=>p1 ρ1 H1 Le.refl w1⟩
def wX(ha:DT K mg X ES a cf):DW K mg X ES (.BoolOp .And [a] pos) cf:=vh ha
def xF(ha:DT K mg X ES a cf):DW K mg X ES (.BoolOp .Or [a] pos) cf:=xn ha
def xR(ha:DT K mg X ES a cf)(hb:DW K mg X ES (.BoolOp .And (b::es) pos) cg):DW K mg X ES (.BoolOp .And (a::b::es) pos) (tAn cf cg):=PW.imp (xf ha hb) λσ H Q q_=>q_.el λρ h ae w re p=>
 ⟨ρ,h,ae,w,re,p.bind.imp λb h1 ρ1 H1 l1 w1 p1=>by
  cases b with
  |true=>exact⟨ρ1,h1,ae,w1,re.mono l1,p1⟩
  |false=>exact p1 ρ1 H1 Le.refl w1⟩
def DH(ha:DT K mg X ES a cf)(hb:DW K mg X ES (.BoolOp .Or (b::es) pos) cg):DW K mg X ES (.BoolOp .Or (a::b::es) pos) (tO cf cg):=PW.imp (B7 ha hb) λσ H Q q_=>q_.el λρ h ae w re p=>
 ⟨ρ,h,ae,w,re,p.bind.imp λb h1 ρ1 H1 l1 w1 p1=>by
  cases b with
  |true=>exact p1 ρ1 H1 Le.refl w1
  |false=>exact⟨ρ1,h1,ae,w1,re.mono l1,p1⟩⟩
def DW.dt(h:DW K mg X ES a cf):DT K mg X ES a cf:=PW.pt h
def Aq{op}(h:DE K mg X ES a F):DE K mg X ES (.BoolOp op [a] pos) F:=yD h
def Ao(ha:DE K mg X ES a F)(hb:DE K mg X ES (.BoolOp .And (b::es) pos) G):DE K mg X ES (.BoolOp .And (a::b::es) pos) (qU F G):=PE.imp (zT ha hb) λσ H Q q_=>q_.el λρ h ae w re p=>by
 refine⟨ρ,h,ae,w,re,p.bind.imp λd h1 ρ1 H1 l1 w1 p1 x rx=>?_⟩;unfold asB at p1;split at p1
 .rename_i b';cases rx;refine⟨b',rfl,?_⟩;cases b' with
  |true=>exact⟨ρ1,h1,ae,w1,re.mono l1,p1⟩
  |false=>exact p1 ρ1 H1 Le.refl w1 _ (.bl false)
 .exact p1.elim
def CW(ha:DE K mg X ES a F)(hb:DE K mg X ES (.BoolOp .Or (b::es) pos) G):DE K mg X ES (.BoolOp .Or (a::b::es) pos) (eOr F G):=PE.imp (Ck ha hb) λσ H Q q_=>q_.el λρ h ae w re p=>by
 refine⟨ρ,h,ae,w,re,p.bind.imp λd h1 ρ1 H1 l1 w1 p1 x rx=>?_⟩;unfold asB at p1;split at p1
 .rename_i b';cases rx;refine⟨b',rfl,?_⟩;cases b' with
  |true=>exact p1 ρ1 H1 Le.refl w1 _ (.bl true)
  |false=>exact⟨ρ1,h1,ae,w1,re.mono l1,p1⟩
 .exact p1.elim
def z0(ha:DE K mg X ES a F):DE K mg X ES (.UnaryOp .Not a pos) (rQ F):=PE.imp (yF ha) λσ H Q q_=>q_.el λρ h ae w re p=>by
 refine⟨ρ,h,ae,w,re,p.bind.imp λd h1 ρ1 H1 l1 w1 p1 x rx=>?_⟩;unfold asB at p1;split at p1
 .cases rx;exact⟨_,rfl,p1 ρ1 H1 Le.refl w1 _ (.bl _)⟩
 .exact p1.elim
def Cc(ho:UnR X (unaryOp op) r)(hd:UnD K mg r g)(ha:DE K mg X ES a F):DE K mg X ES (.UnaryOp op a pos) (eUn g F):=PE.imp (Dv ho ha) λσ H Q q_=>q_.el λρ h ae w re p=>
 ⟨ρ,h,ae,w,re,p.bind.imp λd h1 ρ1 H1 l1 w1 p1 x rx=>hd ρ1 h1 H1 d x Q _ w1 rx p1⟩
def Ax:DA K mg X ES [] iq:=PA.imp xU λσ H Q q_=>q_.el λρ h ae w re p=>p ρ H Le.refl w _ .nil
def vp(ha:DE K mg X ES e F)(hr:DA K mg X ES es A)(hs:starEach (e::es) X.env=(false,eval e X.env)::starEach es X.env):DA K mg X ES (e::es) (eI F A):=PA.imp (uI ha hr hs) λσ H Q q_=>q_.el λρ h ae w re p=>
 ⟨ρ,h,ae,w,re,p.bind.imp λd h1 ρ1 H1 l1 w1 p1 x rx=>⟨ρ1,h1,ae,w1,re.mono l1,p1.bind.imp λds h2 ρ2 H2 l2 w2 p2 vs rs=>p2 ρ2 H2 Le.refl w2 _ (.cons (rx.mono l2) rs)⟩⟩
def zI{x1}(h:DA K mg X ES es A):DE K mg X ES (.Tuple es x1 pos) (eFn hZ A):=PE.imp (AK h) λσ H Q q_=>q_.el λρ h ae w re p=>
 ⟨ρ,
  h,ae,w,re,p.bind.imp λds h1 ρ1 H1 l1 w1 p1 vs rs=>by
  unfold hZ at p1;split at p1
  .rename_i hl;exact⟨by rw[<- rs.len];exact hl,λq hq=>gu w1 rs hq p1⟩
  .exact p1.elim⟩
def yb(h:DA K mg X ES es A):DE K mg X ES (.List es pos) (eFn bJ A):=PE.imp (Ac h) λσ H Q q_=>q_.el λρ h ae w re p=>
 ⟨ρ,
  h,ae,w,re,p.bind.imp λds h1 ρ1 H1 l1 w1 p1 vs rs=>by
  unfold bJ at p1;split at p1
  .rename_i hl;exact⟨by rw[<- rs.len];exact hl,λq hq=>bO w1 rs hq p1⟩
  .exact p1.elim⟩
def t9(hd:aZ K mg r g)(σ:St)(H:Hp)(Q:VK)(q:rdE K mg ES (eFn g A) σ H Q):tCB r (rdA K mg ES A) σ H Q:=by obtain⟨ρ,h,ae,w,re,p⟩:=q;exact⟨ρ,h,ae,w,re,p.bind.imp λds h1 ρ1 H1 l1 w1 p1 vs rs=>hd ρ1 h1 H1 ds vs Q _ w1 rs p1⟩
def tF{id:String}{r:List V->Hp->VK->Prop}{g:Fn}{x:Str}{p:Pos}(hc:CallR X (.builtin id) r)(hd:aZ K mg r g)(hg:Gl X x)(hm:mg x=none)(hv:bootBuiltins x=some (.builtin id))(ha:DA K mg X ES (e::es) A)(hk:X.mg=mg)(hn:x ≠ "__name__")(hdb:(x==("__debug__" : Str))=false)
 (he:starEach (e::es) X.env=(false,eval e X.env)::starEach es X.env) (hpl:(backTo pos (starEach es X.env)).any (·.1)=false):DE K mg X ES (.Call (.Name x p) (e::es) [] pos) (eFn g A):=by
 subst hk;exact PE.imp (sr hc hg hm hv ha hn hdb he hpl) (t9 hd)
def oX(hc:CallR X (.type T) r)(hd:aZ K mg r g)(hg:Gl X x)(hm:mg x=none)(hv:bootBuiltins x=some (.type T))(ha:DA K mg X ES (e::es) A)(hk:X.mg=mg)(hn:x ≠ "__name__")(hdb:(x==("__debug__" : Str))=false)
 (he:starEach (e::es) X.env=(false,eval e X.env)::starEach es X.env) (hpl:(backTo pos (starEach es X.env)).any (·.1)=false):DE K mg X ES (.Call (.Name x p) (e::es) [] pos) (eFn g A):=by
 subst hk;exact PE.imp (pJ hc hg hm hv ha hn hdb he hpl) (t9 hd)
end
noncomputable def SR.then(r:SR)(f:AE->AH->SR):SR:=match r with
 |.nx ae h=>f ae h
 |.rt d h=>.rt d h
 |.bk ae h=>.bk ae h
 |.ct ae h=>.ct ae h
 |.exc c ae h=>.exc c ae h
 |.stuck=>.stuck
noncomputable def R.toS{α:Type}(r:R α)(ae:AE)(f:α->AH->SR):SR:=match r with
 |.ok a h=>f a h
 |.exc c h=>.exc c ae h
 |.stuck=>.stuck
noncomputable def sNx:MS:=λae h=>.nx ae h
noncomputable def qW(F G:MS):MS:=λae h=>(F ae h).then G
noncomputable def qz(F:ME):MS:=λae h=>(F ae h).toS ae λd h1=>.rt d h1
noncomputable def mS(F:ME):MS:=λae h=>(F ae h).toS ae λ_ h1=>.nx ae h1
noncomputable def sIf(c:MT)(F G:MS):MS:=λae h=>(c ae h).toS ae λb h1=>if b=true then F ae h1 else G ae h1
abbrev MG:=D->AE->AH->R AE
abbrev MGs:=List D->AE->AH->R AE
noncomputable def du(F:ME)(g:MG):MS:=λae h=>(F ae h).toS ae λd h1=>(g d ae h1).toS ae λc_ h2=>.nx c_ h2
noncomputable def gN(i:Nat):MG:=λd ae h=>.ok (ae.set i (some d)) h
noncomputable def gS(F G:ME)(w:D->D->D->AH->R Unit):MG:=λv ae h=>(F ae h).bind λo h1=>(G ae h1).bind λi h2=>(w o i v h2).bind λ_ h3=>.ok ae h3
noncomputable def kW(i j:Nat)(A:MA):MS:=λae h=>(A ae h).toS ae λds h1=>match ds with
 | [d,e]=>.nx ((ae.set i (some d)).set j (some e)) h1
 |_=>.stuck
noncomputable def kN(c:Str)(A:MA):MS:=λae h=>(A ae h).toS ae λds h1=>if ds.length<=16777216 then .exc c ae h1 else .stuck
section
variable(K:W.Frag)(mg:Ga)
def rdG(ES:St->XK)(g:MG):TG:=λv σ H Q=>∃ρ h ae d,Wd K mg ρ h H/\RelE K mg ρ H ae σ/\RelD K mg ρ H d v/\PostG K mg ρ H (ES σ) (λc_ _ ρ' H'=>∀σ',RelE K mg ρ' H' c_ σ'->Q σ' H') (g d ae h)
def DG(X:Cx)(ES:St->XK)(e:Expr)(g:MG):Prop:=PG X e (rdG K mg ES g)
def fE(X:Cx)(ES:St->XK):Prop:=∀(pins:Gb) (σ:St) (H:Hp) (s:Shared) (e:Value) (s':Shared),Inv X pins σ H s->CX1 X.prog X.w X.stack H s (ES σ) e s'->X.xe e s'
end
def rdG.el{K:W.Frag}{mg:Ga}{ES:St->XK}{g:MG}{v:V}{σ:St}{H:Hp}{Q:St->Hp->Prop}{C:Prop}(q:rdG K mg ES g v σ H Q)(k:∀ρ h ae d,Wd K mg ρ h H->RelE K mg ρ H ae σ->RelD K mg ρ H d v->PostG K mg ρ H (ES σ) (λc_ _ ρ' H'=>∀σ',RelE K mg ρ' H' c_ σ'->Q σ' H') (g d ae h)->C):C:=by obtain⟨ρ,h,ae,d,w,re,rd,p⟩:=q;exact k ρ h ae d w re rd p
section
variable{K:W.Frag}{mg:Ga}{ES:St->XK}{ρ:List Addr}{H:Hp}{h:AH}{ae:AE}{σ:St}{De:Ends}
def bu(p:PostS K mg ρ H De ES (r.toS ae f))(re:RelE K mg ρ H ae σ)
 (i:∀a h1 ρ1 H1,Le ρ H ρ1 H1->Wd K mg ρ1 h1 H1->RelE K mg ρ1 H1 ae σ->PostS K mg ρ1 H1 De ES (f a h1)->k a h1 ρ1 H1):PostG K mg ρ H (ES σ) k r:=by
 cases r with
 |ok a h1=>exact λρ1 H1 l1 w1=>i a h1 ρ1 H1 l1 w1 (re.mono l1) (PostS.mono l1 p)
 |exc c h1=>exact λρ1 H1 C l1 w1 m=>p ρ1 H1 σ C l1 w1 (re.mono l1) m
 |stuck=>exact p
def dw(p:PostS K mg ρ H De ES (.nx c_ h))(w:Wd K mg ρ h H)(re:RelE K mg ρ H c_ σ):De.nx σ H:=p ρ H σ Le.refl w re
def sq(p:PostS K mg ρ H De ES (r.then f))(i:∀i_ h1 ρ1 H1 σ1,Le ρ H ρ1 H1->Wd K mg ρ1 h1 H1->RelE K mg ρ1 H1 i_ σ1->PostS K mg ρ1 H1 De ES (f i_ h1)->N σ1 H1):PostS K mg ρ H { De with nx:=N } ES r:=by
 cases r with
 |nx i_ h1=>exact λρ1 H1 σ1 l1 w1 re1=>i i_ h1 ρ1 H1 σ1 l1 w1 re1 (PostS.mono l1 p)
 |rt d h1=>exact p
 |bk i_ h1=>exact p
 |ct i_ h1=>exact p
 |exc c i_ h1=>exact p
 |stuck=>exact p
end
section
variable{K:W.Frag}{mg:Ga}{X:Cx}{ES:St->XK}{e a b c o i:Expr}{es:List Expr}{st:Stmt}{sts sts':List Stmt}{F:ME}{A:MA}{cf:MT}{U V':MS}{g:MG}{pos:Pos}
def wR:DSs K mg X ES [] sNx:=PSs.imp vF λD σ H q_=>q_.el λρ h ae w re p=>dw p w re
def wd(h1:DS K mg X ES st U):DSs K mg X ES [st] U:=u4 h1
def rz(h1:DS K mg X ES st U)(h2:DSs K mg X ES sts V'):DSs K mg X ES (st::sts) (qW U V'):=PSs.imp (sk h1 h2) λD σ H q_=>q_.el λρ h ae w re p=>
 ⟨ρ,h,ae,w,re,sq p λi_ h1 ρ1 H1 σ1 l1 w1 re1 p1=>⟨ρ1,h1,i_,w1,re1,p1⟩⟩
def xH(he:DE K mg X ES e F):DS K mg X ES (.Return (some e) pos) (qz F):=PS.imp (zW he) λD σ H q_=>q_.el λρ h ae w re p=>
 ⟨ρ,h,ae,w,re,bu p re λd h1 ρ1 H1 l1 w1 re1 p1 v rv=>p1 ρ1 H1 v Le.refl w1 rv⟩
def vY(he:DE K mg X ES e F)(hs:swapsWith e none pos.line X.env=pure false):DS K mg X ES (.Expr e pos) (mS F):=PS.imp (uJ he hs) λD σ H q_=>q_.el λρ h ae w re p=>
 ⟨ρ,h,ae,w,re,bu p re λd h1 ρ1 H1 l1 w1 re1 p1 v rv=>dw p1 w1 re1⟩
def CK(hc:DT K mg X ES c cf)(ha:DSs K mg X ES sts U)(hb:DSs K mg X ES sts' V'):DS K mg X ES (.If c sts sts' pos) (sIf cf U V'):=PS.imp (CO hc ha hb) λD σ H q_=>q_.el λρ h ae w re p=>
 ⟨ρ,h,ae,w,re,bu p re λb h1 ρ1 H1 l1 w1 re1 p1=>by
  cases b with
  |true=>exact⟨ρ1,h1,ae,w1,re1,p1⟩
  |false=>exact⟨ρ1,h1,ae,w1,re1,p1⟩⟩
def wZ{i:Nat}{x:Str}(hN:X.N.Nodup)(hi:X.N[i]?=some x)(hx:Loc X.env.scope x)(hf:X.fn x=true\/X.env.scope.names.lookup x=some .local):DG K mg X ES (.Name x pos) (gN i):=
 PG.imp (vt hN hi hx hf) λv σ H Q q_=>q_.el λρ h ae d w re rd p=>p ρ H Le.refl w _ (re.set i rd)
noncomputable def noX{α:Type}(r:R α):R α:=match r with
 |.exc _ _=>.stuck
 |.ok a h=>.ok a h
 |.stuck=>.stuck
def iY(K:W.Frag)(mg:Ga)(r:nA)(f:D->D->D->AH->R Unit):Prop:=∀ρ h H do_ di dv o i v (Q:Hp->Prop) E,Wd K mg ρ h H->RelD K mg ρ H do_ o->RelD K mg ρ H di i->RelD K mg ρ H dv v->PostG K mg ρ H E (λ_ _ _ H'=>Q H') (f do_ di dv h)->r o i v H Q
def zU(he:DE K mg X ES e F)(hg:DG K mg X ES a g)(hs:swapsWithSole [a] e pos.line X.env=pure false)(hw:swappedStores [a] e X.env=pure none)
 (h1:(assignEach [a] X.env).map (·.2)=[assign a X.env]):DS K mg X ES (.Assign [a] e pos) (du F g):=PS.imp (xq he hg hs hw h1) λD σ H q_=>q_.el λρ h ae w re p=>
 ⟨ρ,h,ae,w,re,bu p re λd h1 ρ1 H1 l1 w1 re1 p1 v rv=>⟨ρ1,h1,ae,d,w1,re1,rv,bu p1 re1 λae2 h2 ρ2 H2 l2 w2 re2 p2 σ' re'=>dw p2 w2 re'⟩⟩
def zE{i:Nat}{x:Str}{pos':Pos}(hN:X.N.Nodup)(hi:X.N[i]?=some x)(hx:Loc X.env.scope x)(he:DE K mg X ES e F)(hs:swapsWith e (some (.Name x pos')) pos.line X.env=pure false)(hf:X.fn x=true\/X.env.scope.names.lookup x=some .local):
 DS K mg X ES (.Assign [.Name x pos'] e pos) (du F (gN i)):=PS.imp (yW hN hi hx he hs hf) λD σ H q_=>q_.el λρ h ae w re p=>
 ⟨ρ,h,ae,w,re,bu p re λd h1 ρ1 H1 l1 w1 re1 p1 v rv=>dw p1 w1 (re1.set i rv)⟩
def AU{i j:Nat}{x y:Str}{px py pt:Pos}{kt k2 pt2}(hc:X.calm=true)(hN:X.N.Nodup)(hi:X.N[i]?=some x)(hj:X.N[j]?=some y)(hij:i≠j)
 (hx:X.env.scope.names.lookup x=some .local) (hy:X.env.scope.names.lookup y=some .local) (ha:DA K mg X ES [a,b] A)
 (hw:swappedStores [.Tuple [.Name x px,.Name y py] kt pt] (.Tuple [a,b] k2 pt2) X.env=pure (some [x,y]))
 (hs:swapsWithSole [.Tuple [.Name x px,.Name y py] kt pt] (.Tuple [a,b] k2 pt2) pos.line X.env=pure false):
 DS K mg X ES (.Assign [.Tuple [.Name x px,.Name y py] kt pt] (.Tuple [a,b] k2 pt2) pos) (kW i j A):=PS.imp (zC hc hN hi hj hij hx hy ha hw hs) λD σ H q_=>q_.el λρ h ae w re p=>
 ⟨ρ,h,ae,w,re,bu p re λds h1 ρ1 H1 l1 w1 re1 p1 vs rs=>by
  split at p1
  .cases rs with
   |
    cons r1 rs=>
    cases rs with
    |cons r2 rs=>cases rs;exact⟨_,_,rfl,dw p1 w1 ((re1.set i r1).set j r2)⟩
  .exact p1.elim⟩
def sZ(hc:X.calm=true)(hR:Rz X E)(hg:Gl X x)(hm:mg x=some (.ref C))(hq:W.excIn X.K C gG "ValueError.__new__"=true)(ha:DA K mg X (λ_=>E) (e::es) A)(hk:X.mg=mg)
 (he:starEach (e::es) X.env=(false,eval e X.env)::starEach es X.env) (f_:(backTo cpos (starEach es X.env)).any (·.1)=false) (hd:(x==("__debug__" : Str))=false):
 DS K mg X (λ_=>E) (.Raise (some (.Call (.Name x np) (e::es) [] cpos)) none pos) (kN x A):=by
 subst hk;exact
  PS.imp (qR hc hR hg hm hq ha he f_ hd) λD σ H q_=>q_.el λρ h ae w re p=>
  ⟨ρ,
   h,ae,w,re,bu p re λds h1 ρ1 H1 l1 w1 re1 p1 vs rs=>by
   split at p1
   .rename_i hl;exact⟨by rw[<- rs.len];exact hl,p1 ρ1 H1 σ C Le.refl w1 re1 hm⟩
   .exact p1.elim⟩
def vI(C:Callee X.prog X.w X.K X.mg X.base x k ps (spD K mg n S))(hr:Room k X.A)(hg:Gl X x)(hx:fE X ES)(ha:DA K mg X ES (e::es) A)
 (hdb:(x==("__debug__" : Str))=false) (he:starEach (e::es) X.env=(false,eval e X.env)::starEach es X.env) (hpl:(backTo pos (starEach es X.env)).any (·.1)=false):
 DE K mg X ES (.Call (.Name x p) (e::es) [] pos) (eFn (λds h=>if ds.length=n then S ds h else .stuck) A):=by
 obtain⟨f,fd,F',m,kp,bb,_⟩:=C.ex;intro pins s σ H Q I hh;refine wpAny_Call_Name_kw (iU I hg m ?_ hdb);have rd:rdA K mg ES A σ H (λvs H1=>spD K mg n S vs H1 Q (ES σ)):=by
  obtain⟨ρ,h,ae,w,re,p⟩:=hh;refine⟨ρ,h,ae,w,re,p.bind.imp λds h1 ρ1 H1 l1 w1 p1 vs rs=>?_⟩;split at p1
  .rename_i hl;exact⟨ρ1,h1,ds,w1,rs,hl,p1⟩
  .exact p1.elim
 refine W.callWith_K (h₀:=X.base) I.ok.mod.kin kp (Ee (ha pos pins s σ H _ I rd) (λus s1 ⟨vs,H1,I1,r,q⟩=>⟨I1.kIn,?_⟩) λ_ _ z=>z) he hpl;have hl:(us++[]).length=ps.length:=by rw[Fb,<- r.length];exact F'.len _ _ _ _ q
 refine wpAny_call (codeAny_mono (F'.run X.A X.stack s1 H1 ⟨us,[]⟩ us vs Q (ES σ) hr I1.env0 (by simpa using bb s1 us I1.kIn hl) r q) λr s' hq=>?_);cases r with
 |error ex=>exact hx pins σ H1 s1 ex s' I1 hq
 |
  ok fl=>
  cases fl with
  |ret u=>exact I1.after hq
  |next=>exact False.elim hq
  |brk=>exact False.elim hq
  |cont=>exact False.elim hq
noncomputable def fnD(n:Nat)(F:MS):Fn:=λds h=>match F (ds.map some++List.replicate (n-ds.length) none) h with
 |.nx _ h'=>.ok .non h'
 |.rt d h'=>.ok d h'
 |.exc c _ h'=>.exc c h'
 |_=>.stuck
def lI(hp:kX (CX1 X.prog X.w) X E):fE X (λ_=>E):=λpins σ H s e s' I h=>hp pins σ H s e s' I h
def tG:fE X (λ_=>E0):=λpins σ H s e s' I h=>BB pins σ H s e s' I h
end
section
variable{P:Program}{w:World}{K:W.Frag}{mg:Ga}{base:Heap}{x:Str}{st:Stmt}{k:Nat}{ps N:List Str}{F:MS}
def mO(rs:RelDs K mg ρ H ds vs):RelE K mg ρ H (ds.map some++List.replicate (N.length-ds.length) none) (cu N vs):=by
 unfold cu;refine⟨by rw[DY,DY,o_,o_,D6,D6,rs.len],λi d e=>?_⟩;by_cases hi:i<ds.length
 .rw[C_ (by rw[o_];exact hi),D3] at e;have e':ds[i]?=some d:=by
   cases q:ds[i]? with
   |none=>rw[q] at e;cases e
   |some z=>rw[q] at e;cases e;rfl
  obtain⟨v,h1,h2⟩:=rs.getD e';refine⟨v,?_,h2⟩;rw[C_ (by rw[o_,<- rs.len];exact hi),D3,h1];rfl
 .rw[Eb (by rw[o_];omega),Em] at e;split at e <;> cases e
def Def.okD(D:Def K mg x st)(S:FnScope N ps (aj st))
 (hb:∀(kV doc pm:Value) (an:Option Addr) (cdv ct:Value) (us:List Value),us.length=ps.length->bindArgs (W.fnOf x x (bF st) (aV st) (aj st) .none kV doc pm an cdv ct) ⟨us,[]⟩=pure (ps.zip us))
 (j_:∀(f:Addr) (cdv:Value) (A:Around) (outer:List Env) (s:Shared) (H:Hp) (E:XK),Room k (A.deeper (envOfC x (aj st) s.heap.objs.size f cdv))->
  DSs K mg (bV (CX1 P w) P w K mg base N x (aj st) f cdv A outer s H E) (λ_=>E) (aV st) F):Callee P w K mg base x (k+1) ps (spD K mg ps.length (fnD N.length F)):=by
 refine D.okR S hb (λvs H Q E ⟨ρ,h,ds,w,rs,hl,p⟩=>by rw[<- rs.len];exact hl) λf cdv A outer s H vs Q E hr ⟨ρ,h,ds,w',rs,hl,p⟩=>?_;refine⟨_,j_ f cdv A outer s H E hr,ρ,h,_,w',mO rs,?_⟩;unfold fnD at p;split at p
 .rename_i e;rw[e];exact λρ1 H1 σ1 l1 w1 re1=>p ρ1 H1 l1 w1 _ .non
 .rename_i e;rw[e];exact λρ1 H1 v l1 w1 rv=>p ρ1 H1 l1 w1 v rv
 .rename_i e;rw[e];exact λρ1 H1 σ1 C l1 w1 re1 m=>p ρ1 H1 C l1 w1 m
 .exact p.elim
end
noncomputable def aD(h:AH)(n:Nat):Option (List D):=match h[n]? with
 |some (.lst xs)=>some xs
 |some (.fz xs)=>some xs
 |_=>none
noncomputable def c8(h:AH):D->Option (List D)
 |.tup xs=>some xs
 |.ref n=>aD h n
 |.kl xs=>some xs
 |_=>none
section
variable{K:W.Frag}{mg:Ga}{ρ:List Addr}{H:Hp}{h:AH}
def aR(w:Wd K mg ρ h H)(ea:ρ[n]?=some a)(e:aD h n=some xs):∃vs,SqL K H a vs/\RelDs K mg ρ H xs vs:=by
 unfold aD at e;split at e
 .rename_i ys eo;cases e;obtain⟨vs,h1,h2⟩:=w.ob n a _ ea eo;exact⟨vs,SqL.of h1,h2⟩
 .rename_i ys eo;cases e;obtain⟨o,vs,h1,h2⟩:=w.ob n a _ ea eo;exact⟨vs,.inl (.inr ⟨o,h1⟩),h2⟩
 .cases e
def cI(w:Wd K mg ρ h H)(r:RelD K mg ρ H d v)(e:c8 h d=some xs):∃p vs,v=.ref p/\(SqL K H p vs\/SqT K H p vs)/\RelDs K mg ρ H xs vs:=by
 cases r with
 |tup q rs=>have e':some _=some xs:=e;cases e';exact⟨_,_,rfl,.inr q,rs⟩
 |ref ea=>obtain⟨vs,h1,h2⟩:=aR w ea e;exact⟨_,vs,rfl,.inl h1,h2⟩
 |kl q rs=>have e':some _=some xs:=e;cases e';exact⟨_,_,rfl,.inl (.inr q),rs⟩
 |_=>cases e
end
noncomputable def g2(f:Int->Int->R D)(x y:D):R D:=match x,y with
 |.int i,.int j=>f i j
 |_,_=>.stuck
noncomputable def gI(f:Int->Int->D):D->D->AH->R D:=λx y h=>match x,y with
 |.int i,.int j=>.ok (f i j) h
 |_,_=>.stuck
open Classical in
def gIc(C:Int->Int->Prop)(f:Int->Int->D):D->D->AH->R D:=λx y h=>match x,y with
 |.int i,.int j=>if C i j then .ok (f i j) h else .stuck
 |_,_=>.stuck
section
variable{K:W.Frag}{mg:Ga}
def dY(hr:∀i j ρ H,RelD K mg ρ H (g i j) (f i j)):OpD K mg (rI0 f) (gI g):=λρ h H dx dy x y Q E w rx ry p=>by
 unfold gI at p;split at p
 .cases rx;cases ry;exact⟨_,_,rfl,rfl,aw w (hr _ _ ρ H) p⟩
 .exact p.elim
def jH(hr:∀i j ρ H,RelD K mg ρ H (g i j) (f i j)):OpD K mg (rI C f) (gIc C g):=λρ h H dx dy x y Q E w rx ry p=>by
 unfold gIc at p;split at p
 .cases rx;cases ry;split at p
  .rename_i hc;exact⟨_,_,rfl,rfl,hc,aw w (hr _ _ ρ H) p⟩
  .exact p.elim
 .exact p.elim
noncomputable def gOr(g g':D->D->AH->R D):D->D->AH->R D:=λx y h=>match g x y h with
 |.stuck=>g' x y h
 |r=>r
def OpD.or(a:OpD K mg r g)(b:OpD K mg r' g'):OpD K mg (λx y H Q=>r x y H Q\/r' x y H Q) (gOr g g'):=λρ h H dx dy x y Q E w rx ry p=>by
 unfold gOr at p;split at p
 .exact .inr (b ρ h H dx dy x y Q E w rx ry p)
 .exact .inl (a ρ h H dx dy x y Q E w rx ry p)
end
noncomputable def gi:D->D->AH->R D:=λx y h=>match x,y with
 |.ref n,.ref m=>match h[n]?,h[m]? with
  |some (.lst xs),some (.lst ys)=>if xs.length+ys.length<=16777216 then .ok (.ref h.length) (h++[.lst (xs++ys)]) else .stuck
  |_,_=>.stuck
 |.tup xs,.tup ys=>if xs.length+ys.length<=16777216 then .ok (.tup (xs++ys)) h else .stuck
 |_,_=>.stuck
def kA:D->D->AH->R D:=λx y h=>match x,y with
 |.ref n,.int k=>match h[n]? with
  |some (.lst xs)=>if -(2^63)<=k/\k<2^63/\xs.length*k.toNat<=16777216 then .ok (.ref h.length) (h++[.lst (List.replicate k.toNat xs).flatten]) else .stuck
  |_=>.stuck
 |_,_=>.stuck
noncomputable def gIx:D->D->AH->R D:=λx y h=>match c8 h x,y with
 |some xs,.int i=>match atI xs i with
  |some d=>.ok d h
  |none=>.stuck
 |_,_=>.stuck
section
variable{K:W.Frag}{mg:Ga}{X:Cx}
def fK(K:W.Frag):R2:=λx y H Q=>∃a b ys,x=.ref a/\y=.ref b/\SqT K H a []/\SqT K H b ys/\Q (.ref b) H
def vR:OpR X (binaryOp .Add) (fK X.K):=by
 intro pins s σ H x y v u Q I rx ry h;obtain⟨a,b,ys,rfl,rfl,ha,hb,q⟩:=h;cases rx;cases ry;obtain⟨its,r1,p1,_⟩:=I.tuple ha;obtain⟨its2,r2,p2,_⟩:=I.tuple hb;have e:its=[]:=r1.nil_iff.mpr rfl;subst e;obtain⟨⟨cls,dd,data,sl⟩,ho,hc,n,hd⟩:=id p1;obtain⟨⟨cls2,dd2,data2,sl2⟩,ho2,hc2,n2,hd2⟩:=id p2;simp only at hc hd hc2 hd2;subst hc hd hc2 hd2;exact concat_meets ⟨_,ho,rfl⟩ ⟨_,ho2,rfl⟩ noFill_tuple_add seq_tuple_add Ft Fl (Fj _ _)
  (tuple_addW0 _ _ _ _ n n2 dd dd2 sl sl2 rfl) ⟨ho,ho2,⟨.ref b,H,I,rfl,q⟩⟩
def wJ:OpD K mg (λx y H Q=>i6 x y H Q\/(fG K x y H Q\/fK K x y H Q)) gi:=λρ h H dx dy x y Q E w rx ry p=>by
 unfold gi at p;split at p
 .cases
   rx with
  |
   ref ea=>
   cases ry with
   |
    ref eb=>
    split at p
    .rename_i xs ys e1 e2;split at p
     .rename_i hl;obtain⟨vs,q1,r1⟩:=w.ob _ _ _ ea e1;obtain⟨ws,q2,r2⟩:=w.ob _ _ _ eb e2;exact .inl ⟨_,_,vs,ws,rfl,rfl,q1,q2,by rw[<- r1.len,<- r2.len];exact hl,λp' hp=>bO w (r1.append r2) hp p⟩
     .exact p.elim
    .exact p.elim
 .cases
   rx with
  |
   tup q1 r1=>
   cases ry with
   |
    tup q2 r2=>
    split at p
    .rename_i hl;cases r1 with
     |nil=>exact .inr (.inr ⟨_,_,_,rfl,rfl,q1,q2,aw w (.tup q2 r2) p⟩)
     |cons r0 r1=>refine .inr (.inl ⟨_,_,_,_,rfl,rfl,q1,q2,(λz=>nomatch z),by rw[<- (RelDs.cons r0 r1).len,<- r2.len];exact hl,λz=>?_,λ_ p' hp=>gu w ((RelDs.cons r0 r1).append r2) hp p⟩);subst z;cases r2;rw[Fb] at p;exact aw w (.tup q1 (.cons r0 r1)) p
    .exact p.elim
 .exact p.elim
def uV(r:RelDs K mg ρ H xs vs)(e:atI xs i=some d):∃v,atI vs i=some v/\RelD K mg ρ H d v:=by
 unfold atI at e ⊢;rw[<- r.len];cases q:ixN xs.length i with
 |none=>rw[q] at e;cases e
 |some j=>rw[q] at e;exact r.getD e
def yp:OpD K mg (λx y H Q=>m8 K x y H Q\/nY K x y H Q) gIx:=λρ h H dx dy x y Q E w rx ry p=>by
 unfold gIx at p;split at p
 .rename_i xs i e1;split at p
  .rename_i d e2;cases ry;obtain⟨pa,vs,rfl,hq,rs⟩:=cI w rx e1;obtain⟨v,e3,rv⟩:=uV rs e2;rcases hq with hq |hq
   .exact .inl ⟨_,_,_,_,rfl,rfl,hq,e3,aw w rv p⟩
   .exact .inr ⟨_,_,_,_,rfl,rfl,hq,e3,aw w rv p⟩
  .exact p.elim
 .exact p.elim
def ixK(h:X.K=K):IxR X (λx y H Q=>m8 K x y H Q\/nY K x y H Q):=by subst h;exact wb.or y9
def catK(h:X.K=K):OpR X (binaryOp .Add) (λx y H Q=>i6 x y H Q\/(fG K x y H Q\/fK K x y H Q)):=by subst h;exact yZ.or (vZ.or vR)
end
noncomputable def bT:Nat->AH->D->Option PyData
 |0,_,_=>none
 |_+1,_,.non=>some .none
 |_+1,_,.bl b=>some (.bool b)
 |_+1,_,.int i=>some (.int i)
 |_+1,_,.str x=>some (.str x)
 |k+1,h,.tup xs=>(xs.mapM (bT k h)).map .tuple
 |k+1,h,.ref n=>match aD h n with
  |some xs=>(xs.mapM (bT k h)).map .list
  |none=>none
 |_+1,_,_=>none
def jq{K:W.Frag}{mg:Ga}{ρ:List Addr}{H:Hp}{f:D->Option PyData}(hf:∀d v pd,RelD K mg ρ H d v->f d=some pd->Rep K H v pd):∀{xs:List D}{vs:List V}{ps:List PyData},RelDs K mg ρ H xs vs->xs.mapM f=some ps->Reps K H vs ps:=by
 intro xs;induction xs with
 |nil=>intro vs ps r e;cases r;have e':some []=some _:=e;cases e';exact .nil
 |
  cons x xs ih=>
  intro vs ps r e;cases r with
  |
   cons r rr=>
   rw[E2] at e;cases q:f x with
   |none=>rw[q] at e;cases e
   |
    some pd=>
    rw[q] at e;cases q2:xs.mapM f with
    |none=>rw[q2] at e;cases e
    |some pds=>rw[q2] at e;have e':some (pd::pds)=some ps:=e;cases e';exact .cons (hf _ _ _ r q) (ih rr q2)
theorem eN{K:W.Frag}{mg:Ga}{ρ:List Addr}{H:Hp}{h:AH}(w:Wd K mg ρ h H):∀(k:Nat) {d:D}{v:V}{pd:PyData},RelD K mg ρ H d v->bT k h d=some pd->Rep K H v pd
 |0,_,_,_,_,e=>by cases e
 |
  k+1,d,v,pd,r,e=>by
  cases r with
  |non=>have e':some _=some pd:=e;cases e';exact .non
  |bl b=>have e':some _=some pd:=e;cases e';exact .bl b
  |int b=>have e':some _=some pd:=e;cases e';exact .int b
  |str b=>have e':some _=some pd:=e;cases e';exact .str b
  |
   tup q rs=>
   rename_i ds;have e':(ds.mapM (bT k h)).map PyData.tuple=some pd:=e;cases q2:ds.mapM (bT k h) with
   |none=>rw[q2] at e';cases e'
   |some ps=>rw[q2] at e';cases e';exact .tup q (jq (λd v pd r e=>eN w k r e) rs q2)
  |
   ref ea=>
   rename_i n a;unfold bT at e;split at e
   .rename_i xs e1;obtain⟨vs,h1,h2⟩:=aR w ea e1;cases q2:xs.mapM (bT k h) with
    |none=>rw[q2] at e;cases e
    |some ps=>rw[q2] at e;cases e;exact .lst h1 (jq (λd v pd r e=>eN w k r e) h2 q2)
   .cases e
  |_=>cases e
noncomputable def kU(h:AH)(x y:D):Option Bool:=match bT 164 h x,bT 164 h y with
 |some a,some b=>if shp a=true/\shp b=true then some (PyData.eqv a b) else none
 |_,_=>none
def gEq(neg:Bool):D->D->AH->R D:=λx y h=>match kU h x y with
 |some b=>.ok (.bl (if neg then !b else b)) h
 |none=>.stuck
section
variable{K:W.Frag}{mg:Ga}
def mC(w:Wd K mg ρ h H)(rx:RelD K mg ρ H dx x)(ry:RelD K mg ρ H dy y)(e:kU h dx dy=some b):
 ∃a c,Rep K H x a/\Rep K H y c/\shp a=true/\shp c=true/\PyData.eqv a c=b:=by
 unfold kU at e;split at e
 .rename_i a c e1 e2;split at e
  .rename_i hs;cases e;exact⟨a,c,eN w 164 rx e1,eN w 164 ry e2,hs.1,hs.2,rfl⟩
  .cases e
 .cases e
def yA:OpD K mg (m5 K) (gEq false):=λρ h H dx dy x y Q E w rx ry p=>by
 unfold gEq at p;split at p
 .rename_i b e;obtain⟨a,c,h1,h2,h3,h4,rfl⟩:=mC w rx ry e;exact⟨a,c,h1,h2,h3,h4,aw w (.bl _) p⟩
 .exact p.elim
def AA:OpD K mg (nG K) (gEq true):=λρ h H dx dy x y Q E w rx ry p=>by
 unfold gEq at p;split at p
 .rename_i b e;obtain⟨a,c,h1,h2,h3,h4,rfl⟩:=mC w rx ry e;exact⟨a,c,h1,h2,h3,h4,aw w (.bl _) p⟩
 .exact p.elim
end
noncomputable def fB:D->Bool
 |.non=>true
 |.bl _=>true
 |.int _=>true
 |.str _=>true
 |_=>false
noncomputable def toV:D->V
 |.bl b=>.bl b
 |.int i=>.int i
 |.str x=>.str x
 |_=>.non
noncomputable def eqF(x y:D):Bool:=eqV (toV x) (toV y)
def gIn(neg:Bool):D->D->AH->R D:=λx y h=>match c8 h y with
 |some xs=>if fB x=true/\xs.all fB=true then .ok (.bl (if neg then !(xs.any λd=>eqF d x) else xs.any λd=>eqF d x)) h else .stuck
 |none=>.stuck
section
variable{K:W.Frag}{mg:Ga}{ρ:List Addr}{H:Hp}
def ka(r:RelD K mg ρ H d v)(f:fB d=true):v=toV d/\aJ v=true:=by
 cases r with
 |non=>exact⟨rfl,rfl⟩
 |bl=>exact⟨rfl,rfl⟩
 |int=>exact⟨rfl,rfl⟩
 |str=>exact⟨rfl,rfl⟩
 |_=>cases f
def oK:∀{ds:List D}{vs:List V},RelDs K mg ρ H ds vs->ds.all fB=true->vs=ds.map toV/\vs.all aJ=true:=by
 intro ds;induction ds with
 |nil=>intro vs r f;cases r;exact⟨rfl,rfl⟩
 |
  cons d0 ds ih=>
  intro vs r f;cases r with
  |cons r rr=>rw[EO,t_] at f;obtain⟨rfl,h1⟩:=ka r f.1;obtain⟨rfl,h2⟩:=ih rr f.2;exact⟨rfl,by rw[EO,h1,h2];rfl⟩
def zM(neg:Bool):OpD K mg (rIn K neg) (gIn neg):=λρ h H dx dy x y Q E w rx ry p=>by
 unfold gIn at p;split at p
 .rename_i xs e;split at p
  .rename_i hf;obtain⟨pa,vs,rfl,hq,rs⟩:=cI w ry e;obtain⟨rfl,f1⟩:=ka rx hf.1;obtain⟨rfl,f2⟩:=oK rs hf.2;refine⟨pa,_,rfl,hq,f1,f2,?_⟩;have e2:inV (toV dx) (xs.map toV)=xs.any λd=>eqF d dx:=by unfold inV eqF;rw[List.any_map];rfl
   rw[e2];exact aw w (.bl _) p
  .exact p.elim
 .exact p.elim
noncomputable def rJ(neg:Bool):D->D->AH->R D:=λx y h=>match x,y with
 |.non,.non=>.ok (.bl (!neg)) h
 |_,.non=>.ok (.bl neg) h
 |_,_=>.stuck
end
noncomputable def Itd(lo:Int)(n:Nat):It:=⟨λj _=>j<n,λj G v G'=>G'=G/\v=.int (lo-j),λj _=>n<=j⟩
inductive AIt where
 |lst (n:Nat) (xs:List D) |tup (xs:List D) |rng (lo:Int) (k:Nat) |rgd (lo:Int) (k:Nat) |enm (s:AIt) |zip (s t:AIt)
noncomputable def dN:Nat->List D->List D
 |_,[]=>[]
 |i,d::ds=>.tup [.int (i:Nat),d]::dN (i+1) ds
noncomputable def AIt.items:AIt->List D
 |.lst _ xs=>xs
 |.tup xs=>xs
 |.rng lo k=>(List.range k).map λi=>D.int (lo+(i:Nat))
 |.rgd lo k=>(List.range k).map λi=>D.int (lo-(i:Nat))
 |.enm s=>dN 0 s.items
 |.zip s t=>List.zipWith (λx y=>.tup [x,y]) s.items t.items
def AIt.guard:AIt->AH->Prop
 |.lst n xs,h=>aD h n=some xs
 |.enm s,h=>s.guard h
 |.zip s t,h=>s.guard h/\t.guard h
 |_,_=>True
def SrcR(K:W.Frag)(mg:Ga)(ρ:List Addr)(H:Hp):AIt->Bool->Addr->Prop
 |.lst n _,true,a=>ρ[n]?=some a
 |.tup xs,false,p=>∃vs,SqT K H p vs/\RelDs K mg ρ H xs vs
 |_,_,_=>False
def ItR(K:W.Frag)(mg:Ga)(ρ:List Addr)(H:Hp):AIt->It->Prop
 |.lst n _,J=>∃a,ρ[n]?=some a/\J=Itl K a
 |.tup xs,J=>∃p vs,SqT K H p vs/\RelDs K mg ρ H xs vs/\J=Itt K p
 |.rng lo k,J=>J=Itr lo k
 |.rgd lo k,J=>J=Itd lo k
 |.enm s,J=>∃b a,SrcR K mg ρ H s b a/\J=IteE K b a
 |.zip s t,J=>∃b c a d,SrcR K mg ρ H s b a/\SrcR K mg ρ H t c d/\J=ItZ K b c a d
theorem jT:∀{ds:List D}{k i:Nat}{e:D},(dN k ds)[i]?=some e->∃d,ds[i]?=some d/\e=.tup [.int ((k+i:Nat):Int),d]
 | [],_,_,_,q=>by simp [dN] at q
 |d::ds,k,0,e,q=>⟨d,rfl,by simpa [dN] using q.symm⟩
 |
  d::ds,k,i+1,e,q=>by
  obtain⟨d',q1,q2⟩:=jT (ds:=ds) (k:=k+1) (i:=i) (e:=e) (by simpa [dN] using q);refine⟨d',by simpa using q1,?_⟩;rw[q2];congr 4;omega
theorem lp:∀(ds:List D) (k:Nat),(dN k ds).length=ds.length
 | [],_=>rfl
 |_::ds,k=>by show (dN (k+1) ds).length+1=ds.length+1;rw[lp ds]
section
variable{K:W.Frag}{mg:Ga}{ρ ρ1:List Addr}{H H1:Hp}{h1:AH}
def SrcR.at_(r:SrcR K mg ρ H s b a)(l:Le ρ H ρ1 H1)(w:Wd K mg ρ1 h1 H1)(g:s.guard h1):∃vs,SqB K b H1 a vs/\RelDs K mg ρ1 H1 s.items vs:=by
 cases s with
 |
  lst n xs=>
  cases b with
  |true=>exact aR w (l.pre _ _ r) g
  |false=>exact r.elim
 |
  tup xs=>
  cases b with
  |true=>exact r.elim
  |false=>obtain⟨vs,q,rs⟩:=r;exact⟨vs,l.sqT q,rs.mono l⟩
 |rng _ _=>cases b <;> exact r.elim
 |rgd _ _=>cases b <;> exact r.elim
 |enm _=>cases b <;> exact r.elim
 |zip _ _=>cases b <;> exact r.elim
def ItR.nums{f:Nat->Int}{k:Nat}(w:Wd K mg ρ1 h1 H1):(∀(i:Nat) (d:D),((List.range k).map λi=>D.int (f i))[i]?=some d->i<k/\∀x H',(H'=H1/\x=V.int (f i))->Le ρ1 H1 ρ1 H'/\Wd K mg ρ1 h1 H'/\RelD K mg ρ1 H' d x)/\k<=((List.range k).map λi=>D.int (f i)).length:=by
 refine⟨λi d e=>?_,by simp⟩;rw[D3] at e;cases q:(List.range k)[i]? with
 |none=>rw[q] at e;cases e
 |some j=>rw[q] at e;have hj:=p_.mp q;have e2:=hj.2;rw[List.getElem_range] at e2;subst e2;cases e;refine⟨by simpa using hj.1,λx H' ⟨e1,e2⟩=>?_⟩;subst e1 e2;exact⟨Le.refl,w,.int _⟩
def ItR.step(hJ:ItR K mg ρ H it J)(l:Le ρ H ρ1 H1)(w:Wd K mg ρ1 h1 H1)(g:it.guard h1):
 (∀(i:Nat) (d:D),it.items[i]?=some d->J.go i H1/\∀x H',J.yld i H1 x H'->Le ρ1 H1 ρ1 H'/\Wd K mg ρ1 h1 H'/\RelD K mg ρ1 H' d x)/\J.stop it.items.length H1:=by
 cases it with
 |
  lst n xs=>
  obtain⟨a,ea,rfl⟩:=hJ;obtain⟨vs,q,rs⟩:=aR w (l.pre _ _ ea) g;refine⟨λi d e=>?_,vs,q,by rw[<- rs.len];exact v_ _⟩;obtain⟨v,ev,rv⟩:=rs.getD e;refine⟨⟨vs,v,q,ev⟩,λx H' ⟨e1,y⟩=>?_⟩;subst e1
  have:=(y vs q).symm.trans ev
  cases this;exact⟨Le.refl,w,rv⟩
 |
  tup xs=>
  obtain⟨p,vs,q,rs,rfl⟩:=hJ;have q1:=l.sqT q;have rs1:=rs.mono l;refine⟨λi d e=>?_,vs,q1,by rw[<- rs1.len];exact v_ _⟩;obtain⟨v,ev,rv⟩:=rs1.getD e;refine⟨⟨vs,v,q1,ev⟩,λx H' ⟨e1,y⟩=>?_⟩;subst e1
  have:=(y vs q1).symm.trans ev
  cases this;exact⟨Le.refl,w,rv⟩
 |rng lo k=>cases hJ;exact ItR.nums w
 |rgd lo k=>cases hJ;exact ItR.nums w
 |
  enm s=>
  obtain⟨b,a,r,rfl⟩:=hJ;obtain⟨vs,q,rs⟩:=r.at_ l w g;refine⟨λi d e=>?_,vs,q,by show vs.length=(dN 0 s.items).length;rw[lp,rs.len]⟩;obtain⟨d',q1,rfl⟩:=jT (show (dN 0 s.items)[i]?=some d from e);obtain⟨v,ev,rv⟩:=rs.getD q1;refine⟨⟨vs,v,q,ev⟩,λx H' ⟨p,u,e1,hp,e2,hu⟩=>?_⟩;subst e1 e2
  have:=(hu vs q).symm.trans ev
  cases this;rw[Nat.zero_add];exact⟨bB hp,w.tuple hp,.tup (SqT.of ba) (.cons (.int _) (.cons (rv.mono (bB hp)) .nil))⟩
 |
  zip s t=>
  obtain⟨b,c,a,d,r1,r2,rfl⟩:=hJ;obtain⟨vs,q,rs⟩:=r1.at_ l w g.1;obtain⟨us,q',rs'⟩:=r2.at_ l w g.2;refine⟨λi e ei=>?_,vs,us,q,q',?_⟩
  .have ei':(List.zipWith (λx y=>D.tup [x,y]) s.items t.items)[i]?=some e:=ei;rw[EF] at ei';cases k1:s.items[i]? with
   |none=>rw[k1] at ei';cases ei'
   |
    some d1=>
    cases k2:t.items[i]? with
    |none=>rw[k1,k2] at ei';cases ei'
    |
     some d2=>
     rw[k1,k2] at ei';cases ei';obtain⟨v,ev,rv⟩:=rs.getD k1;obtain⟨v',ev',rv'⟩:=rs'.getD k2;refine⟨⟨vs,us,v,v',q,q',ev,ev'⟩,λx H' ⟨p,u,u',e1,hp,e2,hu,hu'⟩=>?_⟩;subst e1 e2
     have:=(hu vs q).symm.trans ev
     cases this
     have:=(hu' us q').symm.trans ev'
     cases this;exact⟨bB hp,w.tuple hp,.tup (SqT.of ba) (.cons (rv.mono (bB hp)) (.cons (rv'.mono (bB hp)) .nil))⟩
  .have hl:(AIt.zip s t).items.length=min s.items.length t.items.length:=EN ..;rw[hl,rs.len,rs'.len];rcases Nat.le_total vs.length us.length with z |z
   .left;rw[EW z];exact List.getElem?_eq_none (v_ _)
   .right;rw[EM z];exact List.getElem?_eq_none (v_ _)
end
noncomputable def SR.loop(r:SR)(f:AE->AH->SR):SR:=match r with
 |.nx ae h=>f ae h
 |.ct ae h=>f ae h
 |.bk ae h=>.nx ae h
 |.rt d h=>.rt d h
 |.exc c ae h=>.exc c ae h
 |.stuck=>.stuck
open Classical in
def eF(G:AH->Prop)(g:MG)(B:MS):List D->MS
 | [],ae,h=>if G h then .nx ae h else .stuck
 |d::ds,ae,h=>if G h then (g d ae h).toS ae λi_ h1=>(B i_ h1).loop (eF G g B ds) else .stuck
abbrev MI:=AE->AH->R AIt
def rE(I:MI)(g:MG)(B:MS):MS:=λae h=>(I ae h).toS ae λit h1=>eF it.guard g B it.items ae h1
open Classical in
def lcL(G:AH->Prop)(g:MG)(c:MT)(F:ME):List D->List D->AE->AH->R (List D)
 | [],acc,_,h=>if G h then .ok acc h else .stuck
 |d::ds,acc,ae,h=>if G h/\acc.length<16777216 then (g d ae h).bind λi_ h1=>(c i_ h1).bind λb h2=>if b=true then (F i_ h2).bind λy h3=>lcL G g c F ds (acc++[y]) i_ h3 else lcL G g c F ds acc i_ h2 else .stuck
noncomputable def eB(sub:Ge)(ae:AE):AE:=sub.map λo=>o.bind λi=>(ae[i]?).bind id
def eLC(I:MI)(sub:Ge)(g:MG)(c:MT)(F:ME):ME:=λae h=>(I ae h).bind λit h1=>(noX (lcL it.guard g c F it.items [] (eB sub ae) h1)).bind bJ
noncomputable def tY:MT:=λ_ h=>.ok true h
section
variable(K:W.Frag)(mg:Ga)
def rdI(ES:St->XK)(F:MI):TI:=λσ H R'=>∃ρ h ae,Wd K mg ρ h H/\RelE K mg ρ H ae σ/\PostG K mg ρ H (ES σ) (λit _ ρ' H'=>∀J,ItR K mg ρ' H' it J->R' J H') (F ae h)
def DI(X:Cx)(ES:St->XK)(tg a_:Expr)(F:MI):Prop:=PI X tg a_ (rdI K mg ES F)
end
noncomputable def rf(F:ME):MI:=λae h=>(F ae h).bind λd h1=>match d with
 |.tup xs=>.ok (.tup xs) h1
 |.ref n=>match aD h1 n with
  |some xs=>.ok (.lst n xs) h1
  |none=>.stuck
 |_=>.stuck
noncomputable def qJ(A:MA):MI:=λae h=>(A ae h).bind λds h1=>match ds with
 | [.int j]=>if -(2^62)<=j/\j<2^62 then .ok (.rng 0 j.toNat) h1 else .stuck
 |_=>.stuck
def fC(d:D)(h:AH):Option AIt:=match d with
 |.tup xs=>some (.tup xs)
 |.ref n=>(aD h n).map (.lst n)
 |_=>none
section
variable{K:W.Frag}{mg:Ga}{X:Cx}{ES:St->XK}{tg a_ e a b c e_:Expr}{F:ME}{A:MA}{I:MI}{g:MG}{cf:MT}{U:MS}{sts:List Stmt}{pos:Pos}
def PI.imp(h:PI X tg a_ t)(k:∀σ H Q,t' σ H Q->t σ H Q):PI X tg a_ t':=λpins s σ H Q I w=>h pins s σ H Q I (k σ H Q w)
def Am(hl:PE X l tl):PI X tg l (λσ H R=>tl σ H λx H1=>(∃a,x=.ref a/\(∃xs,SqL X.K H1 a xs)/\R (Itl X.K a) H1)\/(∃a,x=.ref a/\(∃xs,SqT X.K H1 a xs)/\R (Itt X.K a) H1)):=by
 intro pins s σ H R I h;refine thn (hl pins s σ H _ I h) λv s1 ⟨x,H1,I1,r1,q1⟩=>?_;rcases q1 with ⟨a,e,⟨xs,hq⟩,q⟩ |⟨a,e,⟨xs,hq⟩,q⟩
 .subst e;cases r1;obtain⟨its,rv,p,hz⟩:=I1.list hq;refine wpAny_pyIter_list p.isList ?_;refine⟨s1.heap.objs.size,[s1.heap.objs.size],_,_,H1,rfl,I1.kept (t':=s1.toks) λb o e=>s_ _ e,oz a _,⟨_,Ec _ rfl,rfl,rfl⟩,λb hb=>?_,q⟩;have e:b=s1.heap.objs.size:=by simpa using hb
  subst e;exact I1.fpOk (v_ _) (I1.hok.fresh (v_ _))
 .subst e;cases r1;obtain⟨its,rv,p,hz⟩:=I1.tuple hq;refine wpAny_pyIter_tuple (show s1.heap.IsTuple a its.toArray from p) ?_;refine⟨s1.heap.objs.size,[s1.heap.objs.size],_,_,H1,rfl,I1.kept (t':=s1.toks) λb o e=>s_ _ e,mR a _,⟨_,Ec _ rfl,rfl,rfl⟩,λb hb=>?_,q⟩;have e:b=s1.heap.objs.size:=by simpa using hb
  subst e;exact I1.fpOk (v_ _) (I1.hok.fresh (v_ _))
def yS(hK:X.K=K)(he:DE K mg X ES e F):DI K mg X ES tg e (rf F):=by
 subst hK;refine PI.imp (Am he) λσ H R ⟨ρ,h,ae,w,re,p⟩=>⟨ρ,h,ae,w,re,p.bind.imp λd h1 ρ1 H1 l1 w1 p1 v rv=>?_⟩;cases rv with
 |tup q rs=>exact .inr ⟨_,rfl,⟨_,q⟩,p1 ρ1 H1 Le.refl w1 _ ⟨_,_,q,rs,rfl⟩⟩
 |
  ref ea=>
  dsimp only at p1;split at p1
  .rename_i xs e1;obtain⟨vs,q,rs⟩:=aR w1 ea e1;exact .inl ⟨_,rfl,⟨_,q⟩,p1 ρ1 H1 Le.refl w1 _ ⟨_,ea,rfl⟩⟩
  .exact p1.elim
 |_=>exact p1.elim
def pD(hg:Gl X "range")(hm:mg "range"=none)(ha:DA K mg X ES [a] A)(hk:X.mg=mg)(hs:starEach [a] X.env=[(false,eval a X.env)]):DI K mg X ES tg (.Call (.Name "range" p) [a] [] pos) (qJ A):=by
 subst hk;refine PI.imp (pO hg hm ha hs) λσ H R ⟨ρ,h,ae,w,re,p⟩=>⟨ρ,h,ae,w,re,p.bind.imp λds h1 ρ1 H1 l1 w1 p1 vs rs=>?_⟩;split at p1
 .cases rs with
  |
   cons r rs=>
   cases r;cases rs;split at p1
   .rename_i hb;exact⟨_,rfl,hb.1,hb.2,p1 ρ1 H1 Le.refl w1 _ rfl⟩
   .exact p1.elim
 .exact p1.elim
def jU(p:PostS K mg ρ H De ES (r.loop f))(i:∀i_ h1 ρ1 H1 σ1,Le ρ H ρ1 H1->Wd K mg ρ1 h1 H1->RelE K mg ρ1 H1 i_ σ1->PostS K mg ρ1 H1 De ES (f i_ h1)->N σ1 H1):
 PostS K mg ρ H { De with nx:=N,ct:=N,bk:=De.nx } ES r:=by
 cases r with
 |nx i_ h1=>exact λρ1 H1 σ1 l1 w1 re1=>i i_ h1 ρ1 H1 σ1 l1 w1 re1 (PostS.mono l1 p)
 |rt d h1=>exact p
 |bk i_ h1=>exact p
 |ct i_ h1=>exact λρ1 H1 σ1 l1 w1 re1=>i i_ h1 ρ1 H1 σ1 l1 w1 re1 (PostS.mono l1 p)
 |exc c i_ h1=>exact p
 |stuck=>exact p
def An(hp:PassesOwn (model X.prog X.w) X.A X.env X.xe)(hc:X.calm=true)(hi:DI K mg X ES tg a_ I)(hg:DG K mg X ES tg g)(hb:DSs K mg X ES sts U)
 (hs:∀x,foldedSetIterable a_ X.env x=pure x):DS K mg X ES (.For tg a_ sts [] pos) (rE I g U):=by
 refine PS.imp (ye hp hc hi hg hb hs) λDe σ H q_=>q_.el λρ h ae w re p=>⟨ρ,h,ae,w,re,bu p re λit h1 ρ1 H1 l1 w1 re1 p1 J hJ=>?_⟩;refine⟨λi m σ2 H2=>m=it.items.length-i/\i<=it.items.length/\∃ρ2 h2 ae2,Le ρ1 H1 ρ2 H2/\Wd K mg ρ2 h2 H2/\RelE K mg ρ2 H2 ae2 σ2/\PostS K mg ρ2 H2 De ES (eF it.guard g U (it.items.drop i) ae2 h2),⟨_,rfl,Ef _,ρ1,h1,ae,Le.refl,w1,re1,p1⟩,?_⟩;rintro i m σ2 H2 ⟨rfl,hi',ρ2,h2,ae2,l2,w2,re2,p2⟩;by_cases hlt:i<it.items.length
 .have hd:it.items.drop i=it.items[i]::it.items.drop (i+1):=Fc hlt;rw[hd] at p2;unfold eF at p2;split at p2
  .rename_i hG;obtain⟨st,_⟩:=hJ.step l2 w2 hG;obtain⟨go,yl⟩:=st i it.items[i] (DQ hlt);refine .inr ⟨go,λσ' H'=>∃ρ3 h3 ae3,Le ρ1 H1 ρ3 H'/\Wd K mg ρ3 h3 H'/\RelE K mg ρ3 H' ae3 σ'/\PostS K mg ρ3 H' De ES (eF it.guard g U (it.items.drop (i+1)) ae3 h3),
    λσ' H' ⟨ρ3,h3,ae3,q⟩=>⟨_,by omega,rfl,hlt,ρ3,h3,ae3,q⟩,λx H' hy=>?_⟩
   obtain⟨ly,wy,rx⟩:=yl x H' hy;refine⟨ρ2,h2,ae2,_,wy,re2.mono ly,rx,bu (PostS.mono ly p2) (re2.mono ly) λae3 h3 ρ3 H3 l3 w3 re3 p3 σ' re'=>⟨ρ3,h3,ae3,w3,re',jU p3 λae4 h4 ρ4 H4 σ4 l4 w4 re4 p4=>⟨ρ4,h4,ae4,((l2.trans ly).trans l3).trans l4,w4,re4,p4⟩⟩⟩
  .exact p2.elim
 .have hi2:i=it.items.length:=by omega
  subst hi2;rw[List.drop_length] at p2;unfold eF at p2;split at p2
  .rename_i hG;exact .inl ⟨(hJ.step l2 w2 hG).2,dw p2 w2 re2⟩
  .exact p2.elim
def qZ(re:RelE K mg ρ H ae σ)(sub:Ge):RelE K mg ρ H (eB sub ae) (cJ sub σ):=by
 unfold eB cJ;refine⟨by rw[o_,o_],λj d e=>?_⟩;rw[D3] at e ⊢;cases q:sub[j]? with
 |none=>rw[q] at e;cases e
 |
  some o=>
  rw[q] at e;cases o with
  |none=>cases e
  |
   some i=>
   have e':(ae[i]?).bind id=some d:=DX e;cases q2:ae[i]? with
   |none=>rw[q2] at e';cases e'
   |some z=>rw[q2] at e';have e3:z=some d:=e';subst e3;obtain⟨v,h1,h2⟩:=re.at_ i d q2;refine⟨v,?_,h2⟩;show some ((σ[i]?).bind id)=some (some v);rw[h1];rfl
def gw(p:PostG K mg ρ H E k ((noX (r.bind f)).bind m)):
 PostG K mg ρ H E0 (λa h1 ρ' H'=>PostG K mg ρ' H' E k ((noX (f a h1)).bind m)) r:=by
 cases r with
 |ok a h1=>exact λρ1 H1 l1 w1=>PostG.mono l1 p
 |exc c h1=>exact p.elim
 |stuck=>exact p.elim
def nh(σ:St)(H:Hp)(Q:VK)(q:rdE K mg ES (eLC I sub g cf F) σ H Q):dG (rdI K mg ES I) sub (rdG K mg (λ_=>E0) g) (rdT K mg (λ_=>E0) cf) (rdE K mg (λ_=>E0) F) σ H Q:=by
 obtain⟨ρ,h,ae,w,re,p⟩:=q;refine⟨ρ,h,ae,w,re,p.bind.imp λit h1 ρ1 H1 l1 w1 p1 J hJ=>?_⟩;have re1:=qZ (re.mono l1) sub;refine⟨λi m ys σ2 H2=>m=it.items.length-i/\i<=it.items.length/\∃ρ2 h2 ae2 acc,Le ρ1 H1 ρ2 H2/\Wd K mg ρ2 h2 H2/\RelE K mg ρ2 H2 ae2 σ2/\RelDs K mg ρ2 H2 acc ys/\
  PostG K mg ρ2 H2 (ES σ) (λd _ ρ' H'=>∀v,RelD K mg ρ' H' d v->Q v H') ((noX (lcL it.guard g cf F (it.items.drop i) acc ae2 h2)).bind bJ),
  ⟨_,rfl,Ef _,ρ1,h1,eB sub ae,[],Le.refl,w1,re1,.nil,p1⟩,?_⟩
 rintro i m ys σ2 H2 ⟨rfl,hi',ρ2,h2,ae2,acc,l2,w2,re2,rs,p2⟩;by_cases hlt:i<it.items.length
 .have hd:it.items.drop i=it.items[i]::it.items.drop (i+1):=Fc hlt;rw[hd] at p2;unfold lcL at p2;split at p2
  .rename_i hG;obtain⟨st,_⟩:=hJ.step l2 w2 hG.1;obtain⟨go,yl⟩:=st i it.items[i] (DQ hlt);refine .inr ⟨go,by rw[<- rs.len];exact hG.2,λys' σ' H'=>∃ρ3 h3 ae3 acc3,Le ρ1 H1 ρ3 H'/\Wd K mg ρ3 h3 H'/\RelE K mg ρ3 H' ae3 σ'/\RelDs K mg ρ3 H' acc3 ys'/\
    PostG K mg ρ3 H' (ES σ) (λd _ ρ' H'=>∀v,RelD K mg ρ' H' d v->Q v H') ((noX (lcL it.guard g cf F (it.items.drop (i+1)) acc3 ae3 h3)).bind bJ),
    λys' σ' H' ⟨ρ3,h3,ae3,acc3,q⟩=>⟨_,by omega,rfl,hlt,ρ3,h3,ae3,acc3,q⟩,λx H' hy=>?_⟩
   obtain⟨ly,wy,rx⟩:=yl x H' hy;refine⟨ρ2,h2,ae2,_,wy,re2.mono ly,rx,(gw (PostG.mono ly p2)).imp λae3 h3 ρ3 H3 l3 w3 p3 σ3 re3=>⟨ρ3,h3,ae3,w3,re3,(gw p3).imp λb h4 ρ4 H4 l4 w4 p4=>?_⟩⟩;cases b with
   |true=>exact⟨ρ4,h4,ae3,w4,re3.mono l4,(gw p4).imp λy h5 ρ5 H5 l5 w5 p5 v rv=>⟨ρ5,h5,ae3,acc++[y],(((l2.trans ly).trans l3).trans l4).trans l5,w5,(re3.mono l4).mono l5,((((rs.mono ly).mono l3).mono l4).mono l5).append (.cons rv .nil),p5⟩⟩
   |false=>exact⟨ρ4,h4,ae3,acc,((l2.trans ly).trans l3).trans l4,w4,re3.mono l4,((rs.mono ly).mono l3).mono l4,p4⟩
  .exact p2.elim
 .have hi2:i=it.items.length:=by omega
  subst hi2;rw[List.drop_length] at p2;unfold lcL at p2;split at p2
  .rename_i hG;refine .inl ⟨(hJ.step l2 w2 hG).2,?_⟩;have p3:PostG K mg ρ2 H2 (ES σ) (λd _ ρ' H'=>∀v,RelD K mg ρ' H' d v->Q v H') (bJ acc h2):=p2;unfold bJ at p3;split at p3
   .rename_i hl;exact⟨by rw[<- rs.len];exact hl,λq hq=>bO w2 rs hq p3⟩
   .exact p3.elim
  .exact p2.elim
def BJ(M:List Str)(kn:List (Str×NameKind))(N:List Str)(sub:Ge)
 (hc:X.calm=true) (hi:DI K mg X ES tg a_ I)
 (hg:∀cl C s₂ H fp,DG K mg (ao X N scope cl C s₂ H fp) (λ_=>E0) tg g) (he:∀cl C s₂ H fp,DE K mg (ao X N scope cl C s₂ H fp) (λ_=>E0) e_ F)
 (hM:X.N=M) (hkn:X.env.scope.names=kn) (d_:bK M scope.names sub N=true)
 (hk:scope.kind=.function) (m_:∀x∈scope.names,x.2 ≠ .cell) (b_:∀x∈scope.names,x.2=.local->scope.names.lookup x.1=some .local)
 (j':cc kn scope.names=true)
 (n_:sub.length=N.length) (hs:∀x,foldedSetIterable a_ X.env x=pure x):
 DE K mg X ES (.ListComp e_ [⟨tg,a_,[],0⟩] scope pos) (eLC I sub g tY F):=
 PE.imp (Bt M kn N sub hc hi hg he hM hkn d_ hk m_ b_ j' n_ hs) λσ H Q q=>by
  have:=nh (cf:=tY) σ H Q q
  obtain⟨ρ,h,ae,w,re,p⟩:=this;refine⟨ρ,h,ae,w,re,p.imp λit h1 ρ1 H1 l1 w1 k J hJ=>?_⟩;obtain⟨W,w0,tn⟩:=k J hJ;refine⟨W,w0,λi m ys σ2 H2 hW=>?_⟩;rcases tn i m ys σ2 H2 hW with z |⟨go,hl,Nx,hN,st⟩
  .exact .inl z
  .refine .inr ⟨go,hl,Nx,hN,λx H' hy=>?_⟩;obtain⟨ρ3,h3,ae3,d3,w3,re3,rd3,p3⟩:=st x H' hy;refine⟨ρ3,h3,ae3,d3,w3,re3,rd3,p3.imp λae4 h4 ρ4 H4 l4 w4 k4 σ4 re4=>?_⟩;obtain⟨ρ5,h5,ae5,w5,re5,p5⟩:=k4 σ4 re4;exact p5 ρ5 _ Le.refl w5
def wG(M:List Str)(kn:List (Str×NameKind))(N:List Str)(sub:Ge)
 (hc:X.calm=true) (hi:DI K mg X ES tg a_ I)
 (hg:∀cl C s₂ H fp,DG K mg (ao X N scope cl C s₂ H fp) (λ_=>E0) tg g) (ht:∀cl C s₂ H fp,DT K mg (ao X N scope cl C s₂ H fp) (λ_=>E0) c cf) (he:∀cl C s₂ H fp,DE K mg (ao X N scope cl C s₂ H fp) (λ_=>E0) e_ F)
 (hM:X.N=M) (hkn:X.env.scope.names=kn) (d_:bK M scope.names sub N=true)
 (hk:scope.kind=.function) (m_:∀x∈scope.names,x.2 ≠ .cell) (b_:∀x∈scope.names,x.2=.local->scope.names.lookup x.1=some .local)
 (j':cc kn scope.names=true)
 (n_:sub.length=N.length) (hs:∀x,foldedSetIterable a_ X.env x=pure x):
 DE K mg X ES (.ListComp e_ [⟨tg,a_,[c],0⟩] scope pos) (eLC I sub g cf F):=
 PE.imp (wz M kn N sub hc hi hg ht he hM hkn d_ hk m_ b_ j' n_ hs) λσ H Q q=>nh σ H Q q
def xg(σ:St)(H:Hp)(Q:VK)(q:rdE K mg ES (eLC I sub g tY F) σ H Q):dG (rdI K mg ES I) sub (rdG K mg (λ_=>E0) g) rF (rdE K mg (λ_=>E0) F) σ H Q:=by
 have:=nh (cf:=tY) σ H Q q
 obtain⟨ρ,h,ae,w,re,p⟩:=this;refine⟨ρ,h,ae,w,re,p.imp λit h1 ρ1 H1 l1 w1 k J hJ=>?_⟩;obtain⟨W,w0,tn⟩:=k J hJ;refine⟨W,w0,λi m ys σ2 H2 hW=>?_⟩;rcases tn i m ys σ2 H2 hW with z |⟨go,hl,Nx,hN,st⟩
 .exact .inl z
 .refine .inr ⟨go,hl,Nx,hN,λx H' hy=>?_⟩;obtain⟨ρ3,h3,ae3,d3,w3,re3,rd3,p3⟩:=st x H' hy;refine⟨ρ3,h3,ae3,d3,w3,re3,rd3,p3.imp λae4 h4 ρ4 H4 l4 w4 k4 σ4 re4=>?_⟩;obtain⟨ρ5,h5,ae5,w5,re5,p5⟩:=k4 σ4 re4;exact p5 ρ5 _ Le.refl w5
def uM(ht:∀σ H Q,rdE K mg ES F σ H Q->t σ H Q)(De:Ends)(σ:St)(H:Hp)(q:rdS K mg ES (du F (gN i)) De σ H):ke t (gY i) De σ H:=by obtain⟨ρ,h,ae,w,re,p⟩:=q;exact ht σ H _ ⟨ρ,h,ae,w,re,bu p re λd h1 ρ1 H1 l1 w1 re1 p1 v rv=>dw p1 w1 (re1.set i rv)⟩
def Bz(M:List Str)(kn:List (Str×NameKind))(N:List Str)(sub:Ge)
 (hc:X.calm=true) (hN:X.N.Nodup) (hix:X.N[iT]?=some xT) (hxl:Loc X.env.scope xT) (hi:DI K mg X ES tg a_ I)
 (hg:∀cl C s₂ H fp,DG K mg (ao X N scope cl C s₂ H fp) (λ_=>E0) tg g) (he:∀cl C s₂ H fp,DE K mg (ao X N scope cl C s₂ H fp) (λ_=>E0) e_ F)
 (hsw:swapsWith (.ListComp e_ [⟨tg,a_,[],0⟩] scope pos) (some (.Name xT px)) spos.line X.env=pure true)
 (hM:X.N=M) (hkn:X.env.scope.names=kn) (d_:bK M scope.names sub N=true)
 (hk:scope.kind=.function) (m_:∀x∈scope.names,x.2 ≠ .cell) (b_:∀x∈scope.names,x.2=.local->scope.names.lookup x.1=some .local)
 (j':cc kn scope.names=true)
 (n_:sub.length=N.length) (hs:∀x,foldedSetIterable a_ X.env x=pure x) (hf:X.fn xT=true\/X.env.scope.names.lookup xT=some .local):
 DS K mg X ES (.Assign [.Name xT px] (.ListComp e_ [⟨tg,a_,[],0⟩] scope pos) spos) (du (eLC I sub g tY F) (gN iT)):=
 PS.imp (Dg M kn N sub hc hN hix hxl hi hg he hsw hM hkn d_ hk m_ b_ j' n_ hs hf) (uM xg)
end
noncomputable def whN(c:MT)(B:MS):Nat->MS
 |0,_,_=>.stuck
 |k+1,ae,h=>(c ae h).toS ae λb h1=>if b=true then (B ae h1).loop (whN c B k) else .nx ae h1
open Classical in
def sWh(c:MT)(B:MS):MS:=λae h=>if q:∃k,whN c B k ae h ≠ .stuck then whN c B q.choose ae h else .stuck
theorem gz:∀{k:Nat}{ae:AE}{h:AH},whN c B k ae h ≠ .stuck->whN c B (k+1) ae h=whN c B k ae h
 |0,_,_,q=>absurd rfl q
 |
  k+1,ae,h,q=>by
  have e1:whN c B (k+2) ae h=(c ae h).toS ae λb h1=>if b=true then (B ae h1).loop (whN c B (k+1)) else .nx ae h1:=rfl
  have e2:whN c B (k+1) ae h=(c ae h).toS ae λb h1=>if b=true then (B ae h1).loop (whN c B k) else .nx ae h1:=rfl
  rw[e2] at q;rw[e1,e2];cases r:c ae h with
  |exc _ _=>rfl
  |stuck=>rfl
  |
   ok b h1=>
   rw[r] at q;cases b with
   |false=>rfl
   |
    true=>
    have q':(B ae h1).loop (whN c B k) ≠ .stuck:=q;show (B ae h1).loop (whN c B (k+1))=(B ae h1).loop (whN c B k);cases s:B ae h1 with
    |nx a2 h2=>rw[s] at q';exact gz q'
    |ct a2 h2=>rw[s] at q';exact gz q'
    |_=>rfl
def o3(q:whN c B k ae h ≠ .stuck)(hj:k<=j):whN c B j ae h=whN c B k ae h:=by
 induction hj with
 |refl=>rfl
 |step _ ih=>rw[gz (by rw[ih];exact q),ih]
def o9(q:whN c B k ae h ≠ .stuck):sWh c B ae h=whN c B k ae h:=by
 have hq:∃k,whN c B k ae h ≠ .stuck:=⟨k,q⟩;unfold sWh;rw[dif_pos hq];rcases Nat.le_total hq.choose k with z |z
 .exact (o3 hq.choose_spec z).symm
 .exact o3 q z
section
variable{K:W.Frag}{mg:Ga}{X:Cx}{ES:St->XK}{c:Expr}{cf:MT}{U:MS}{sts:List Stmt}{pos:Pos}
def sS(hp:PassesOwn (model X.prog X.w) X.A X.env X.xe)(hc:DT K mg X ES c cf)(hb:DSs K mg X ES sts U):DS K mg X ES (.While c sts [] pos) (sWh cf U):=by
 refine PS.imp (qQ hp hc hb) λDe σ H q_=>q_.el λρ h ae w re p=>?_;have hx:∃k,whN cf U k ae h ≠ .stuck:=E_ λz=>by unfold sWh at p;rw[dif_neg z] at p;exact p.elim
 obtain⟨k,hk⟩:=hx;rw[o9 hk] at p;refine⟨λm σ2 H2=>∃ρ2 h2 ae2,Wd K mg ρ2 h2 H2/\RelE K mg ρ2 H2 ae2 σ2/\PostS K mg ρ2 H2 De ES (whN cf U m ae2 h2),⟨k,ρ,h,ae,w,re,p⟩,?_⟩;rintro m σ2 H2 ⟨ρ2,h2,ae2,w2,re2,p2⟩;cases m with
 |zero=>exact p2.elim
 |
  succ m=>
  refine⟨ρ2,h2,ae2,w2,re2,bu p2 re2 λb h3 ρ3 H3 l3 w3 re3 p3=>?_⟩;cases b with
  |true=>exact⟨λσ' H'=>∃ρ4 h4 ae4,Wd K mg ρ4 h4 H'/\RelE K mg ρ4 H' ae4 σ'/\PostS K mg ρ4 H' De ES (whN cf U m ae4 h4),λσ' H' q=>⟨m,Nat.lt_succ_self _,q⟩,ρ3,h3,ae2,w3,re3,jU p3 λae4 h4 ρ4 H4 σ4 l4 w4 re4 p4=>⟨ρ4,h4,ae4,w4,re4,p4⟩⟩
  |false=>exact dw p3 w3 re3
end
noncomputable def jV:Fn:=λds h=>match ds with
 | [d]=>match c8 h d with
  |some xs=>.ok (.int xs.length) h
  |none=>match d with
   |.str z=>if z.length<=16777216 then .ok (.int z.length) h else .stuck
   |_=>.stuck
 |_=>.stuck
noncomputable def jJ:Fn:=λds h=>match ds with
 | [.int i,.int j]=>.ok (.int (if j<i then j else i)) h
 |_=>.stuck
noncomputable def cH:List D->Option (List Bool)
 | []=>some []
 |.bl b::r=>(cH r).map (b :: ·)
 |_=>none
noncomputable def cL:List D->Option (List Int)
 | []=>some []
 |.int b::r=>(cL r).map (b :: ·)
 |_=>none
theorem gH:∀{ds:List D}{bs:List Bool},cH ds=some bs->ds=bs.map D.bl
 | [],bs,e=>by cases e;rfl
 |
  .bl b::r,bs,e=>by
  have e':(cH r).map (b :: ·)=some bs:=e;cases q:cH r with
  |none=>rw[q] at e';cases e'
  |some z=>rw[q] at e';cases e';rw[gH q];rfl
theorem jh:∀{ds:List D}{bs:List Int},cL ds=some bs->ds=bs.map D.int
 | [],bs,e=>by cases e;rfl
 |
  .int b::r,bs,e=>by
  have e':(cL r).map (b :: ·)=some bs:=e;cases q:cL r with
  |none=>rw[q] at e';cases e'
  |some z=>rw[q] at e';cases e';rw[jh q];rfl
noncomputable def ko:Fn:=λds h=>match ds with
 | [.ref n]=>match (aD h n).bind cH with
  |some bs=>.ok (.bl (bs.all id)) h
  |none=>.stuck
 |_=>.stuck
noncomputable def kI:Fn:=λds h=>match ds with
 | [.ref n]=>match (aD h n).bind cL with
  |some ns=>.ok (.int ns.sum) h
  |none=>.stuck
 |_=>.stuck
def gL:Fn:=λds h=>match ds with
 | [d]=>match c8 h d with
  |some xs=>.ok (.ref h.length) (h++[.lst xs])
  |none=>.stuck
 |_=>.stuck
section
variable{K:W.Frag}{mg:Ga}{X:Cx}
def zy:aZ K mg (λxs H Q=>(∃p ys,xs=[.ref p]/\(SqL K H p ys\/SqT K H p ys)/\Q (.int ys.length) H)\/(∃z,xs=[.str z]/\z.length<=sizeLine/\Q (.int z.length) H)) jV:=λρ h H ds vs Q E w rs p=>by
 unfold jV at p;split at p
 .cases
   rs with
  |
   cons r rs=>
   cases rs;split at p
   .rename_i xs e;obtain⟨pa,vs,rfl,hq,rs⟩:=cI w r e;exact .inl ⟨_,_,rfl,hq,by rw[<- rs.len];exact aw w (.int _) p⟩
   .split at p
    .cases r;split at p
     .rename_i hl;exact .inr ⟨_,rfl,hl,aw w (.int _) p⟩
     .exact p.elim
    .exact p.elim
 .exact p.elim
def Bo(h:X.K=K):CallR X (.builtin "len") (λxs H Q=>(∃p ys,xs=[.ref p]/\(SqL K H p ys\/SqT K H p ys)/\Q (.int ys.length) H)\/(∃z,xs=[.str z]/\z.length<=sizeLine/\Q (.int z.length) H)):=by subst h;exact kJ.or kF
def vj:aZ K mg (λxs H Q=>∃i j,xs=[.int i,.int j]/\Q (.int (if j<i then j else i)) H) jJ:=λρ h H ds vs Q E w rs p=>by
 unfold jJ at p;split at p
 .cases rs with
  |cons r rs=>cases rs with |cons r2 rs=>cases r;cases r2;cases rs;exact⟨_,_,rfl,aw w (.int _) p⟩
 .exact p.elim
def zm:aZ K mg (λxs H Q=>∃(a:Addr) (bs:List Bool),xs=[.ref a]/\SqL K H a (bs.map V.bl)/\Q (.bl (bs.all id)) H) ko:=λρ h H ds vs Q E w rs p=>by
 unfold ko at p;split at p
 .cases
   rs with
  |
   cons r rs=>
   cases r with
   |
    ref ea=>
    cases rs;split at p
    .rename_i bs e;obtain⟨xs,q,e2⟩:=Eh.mp e
     .obtain⟨vs,h1,h2⟩:=aR w ea q;rw[gH e2] at h2;rw[h2.bls] at h1;exact⟨_,bs,rfl,h1,aw w (.bl _) p⟩
    .exact p.elim
 .exact p.elim
def AF:aZ K mg (λxs H Q=>∃(a:Addr) (ns:List Int),xs=[.ref a]/\SqL K H a (ns.map V.int)/\Q (.int ns.sum) H) kI:=λρ h H ds vs Q E w rs p=>by
 unfold kI at p;split at p
 .cases
   rs with
  |
   cons r rs=>
   cases r with
   |
    ref ea=>
    cases rs;split at p
    .rename_i bs e;obtain⟨xs,q,e2⟩:=Eh.mp e
     .obtain⟨vs,h1,h2⟩:=aR w ea q;rw[jh e2] at h2;rw[h2.ints] at h1;exact⟨_,bs,rfl,h1,aw w (.int _) p⟩
    .exact p.elim
 .exact p.elim
def wA:aZ K mg (λxs H Q=>∃p ys,xs=[.ref p]/\(SqL K H p ys\/SqT K H p ys)/\∀l,H l=none->Q (.ref l) (upd H l (.lst ys))) gL:=λρ h H ds vs Q E w rs p=>by
 unfold gL at p;split at p
 .cases rs with
  |
   cons r rs=>
   cases rs;split at p
   .rename_i xs e;obtain⟨pa,vs,rfl,hq,rs⟩:=cI w r e;exact⟨_,_,rfl,hq,λl hl=>bO w rs hl p⟩
   .exact p.elim
 .exact p.elim
def oA(h:X.K=K):CallR X (.type "list") (λxs H Q=>∃p ys,xs=[.ref p]/\(SqL K H p ys\/SqT K H p ys)/\∀l,H l=none->Q (.ref l) (upd H l (.lst ys))):=by subst h;exact kq
end
inductive Cl where
 |b (n:String) |o (x:Str)
 deriving DecidableEq
noncomputable def tyD(h:AH):D->Option Cl
 |.non=>some (.b "NoneType")
 |.bl _=>some (.b "bool")
 |.int _=>some (.b "int")
 |.str _=>some (.b "str")
 |.tup _=>some (.b "tuple")
 |.exc x=>some (.o x)
 |.ref n=>match h[n]? with
  |some (.lst _)=>some (.b "list")
  |some (.fz _)=>some (.b "list")
  |some (.dct _)=>some (.b "dict")
  |_=>none
 |_=>none
noncomputable def clD:D->Option Cl
 |.ty n=>some (.b n)
 |.glb x=>some (.o x)
 |_=>none
def ClV(mg:Ga):Cl->Value->Prop
 |.b n,v=>v=.type n
 |.o x,v=>∃a,v=.ref a/\mg x=some (.ref a)
abbrev eL:=List (Cl×Cl×Bool)
structure KitsOk(K:W.Frag)(mg:Ga)(kt:eL):Prop where
 one:∀p∈kt,∀t v,ClV mg p.1 t->ClV mg p.2.1 v->W.kitOne K t v=some p.2.2
 xc:∀p∈kt,∀x C,p.1=.o x->mg x=some (.ref C)->XCls K C
noncomputable def kit(kt:eL)(t c:Cl):Option Bool:=(kt.find? λp=>decide (p.1=t)&&decide (p.2.1=c)).map (·.2.2)
noncomputable def cC(kt:eL)(t:Cl):List Cl->Option Bool
 | []=>some false
 |c::r=>match kit kt t c with
  |some true=>some true
  |some false=>cC kt t r
  |none=>none
noncomputable def lA(kt:eL):Fn:=λds h=>match ds with
 | [d,c]=>match tyD h d with
  |some t=>match c with
   |.tup cs=>match cs.mapM clD with
    |some (c0::cr)=>match cC kt t (c0::cr),kit kt t c0 with
     |some b,some _=>.ok (.bl b) h
     |_,_=>.stuck
    |_=>.stuck
   |c=>match clD c with
    |some cl=>match kit kt t cl with
     |some b=>.ok (.bl b) h
     |none=>.stuck
    |none=>.stuck
  |none=>.stuck
 |_=>.stuck
def iE(e:kit kt t c=some b):(t,c,b)∈kt:=by
 unfold kit at e;cases q:kt.find? (λp=>decide (p.1=t)&&decide (p.2.1=c)) with
 |none=>rw[q] at e;cases e
 |some p=>rw[q] at e;have h1:=List.find?_some q;have h2:=List.mem_of_find?_eq_some q;simp only[t_,decide_eq_true_eq] at h1;obtain⟨p1,p2,p3⟩:=p;have e3:p3=b:=DX e;obtain⟨rfl,rfl⟩:=h1;subst e3;exact h2
section
variable{K:W.Frag}{mg:Ga}{X:Cx}{ρ:List Addr}{H:Hp}{h:AH}
def ml(ok:KitsOk K mg kt)(w:Wd K mg ρ h H)(r:RelD K mg ρ H d v)(e:tyD h d=some t)(k:kit kt t c=some b):∃tv,TyX K H v tv/\ClV mg t tv:=by
 cases r with
 |non=>cases e;exact⟨_,.of .non,rfl⟩
 |bl=>cases e;exact⟨_,.of (.bl _),rfl⟩
 |int=>cases e;exact⟨_,.of (.int _),rfl⟩
 |str=>cases e;exact⟨_,.of (.str _),rfl⟩
 |tup q rs=>cases e;exact⟨_,.sqT q,rfl⟩
 |exc m ex=>cases e;exact⟨_,.exc ex (ok.xc _ (iE k) _ _ rfl m),_,rfl,m⟩
 |
  ref ea=>
  unfold tyD at e;dsimp only at e;split at e
  .rename_i e1;cases e;obtain⟨vs,h1,h2⟩:=w.ob _ _ _ ea e1;exact⟨_,.of (.lst h1),rfl⟩
  .rename_i e1;cases e;obtain⟨o,vs,h1,h2⟩:=w.ob _ _ _ ea e1;exact⟨_,.of (.frz h1),rfl⟩
  .rename_i e1;cases e;obtain⟨ws,h1,_⟩:=w.ob _ _ _ ea e1;exact⟨_,.of (.dK h1),rfl⟩
  .cases e
 |_=>cases e
def mw(r:RelD K mg ρ H d v)(e:clD d=some c):∃cv,cn v=some cv/\ClV mg c cv:=by
 cases r with
 |ty n=>cases e;exact⟨_,rfl,rfl⟩
 |glb m=>cases e;exact⟨_,rfl,_,rfl,m⟩
 |_=>cases e
def rD:∀{ds:List D}{vs:List V}{cs:List Cl},RelDs K mg ρ H ds vs->ds.mapM clD=some cs->∃cvs,vs.mapM cn=some cvs/\Paired (ClV mg) cs cvs:=by
 intro ds;induction ds with
 |nil=>intro vs cs r e;cases r;have e':some ([]:List Cl)=some cs:=e;cases e';exact⟨[],rfl,.nil⟩
 |
  cons d ds ih=>
  intro vs cs r e;cases r with
  |
   cons r rr=>
   rw[E2] at e;cases q:clD d with
   |none=>rw[q] at e;cases e
   |
    some c=>
    rw[q] at e;cases q2:ds.mapM clD with
    |none=>rw[q2] at e;cases e
    |some cs'=>rw[q2] at e;have e':some (c::cs')=some cs:=e;cases e';obtain⟨cv,h1,h2⟩:=mw r q;obtain⟨cvs,h3,h4⟩:=ih rr q2;refine⟨cv::cvs,?_,.cons h2 h4⟩;rw[E2,h1,h3];rfl
def pU(ok:KitsOk K mg kt)(ht:ClV mg t tv):∀{cs:List Cl}{cvs:List Value}{b:Bool},Paired (ClV mg) cs cvs->cC kt t cs=some b->W.kitAny K tv cvs=some b:=by
 intro cs;induction cs with
 |nil=>intro cvs b r e;cases r;cases e;rfl
 |
  cons c cs ih=>
  intro cvs b r e;cases r with
  |
   cons r rr=>
   unfold cC at e;unfold W.kitAny;cases q:kit kt t c with
   |none=>rw[q] at e;cases e
   |
    some z=>
    rw[q] at e;rw[ok.one _ (iE q) _ _ ht r];cases z with
    |true=>exact e
    |false=>exact ih rr e
def o5:CallR X (.builtin "isinstance") (λxs H Q=>∃x tp cs t vs b,xs=[x,.ref tp]/\SqT X.K H tp cs/\TyX X.K H x t/\cs.mapM cn=some vs/\W.kitAny X.K t vs=some b/\Q (.bl b) H):=by intro pins s σ H xs us Q I r h;obtain⟨x,tp,cs,t,vs,b,rfl,ht,ty,hc,hk,q⟩:=h;obtain⟨u,w',rfl,rx,rc⟩:=mW r;cases rc;obtain⟨its,rv,⟨o,e,c,n,d⟩,_⟩:=I.tuple ht;obtain rfl:=jm hc rv;obtain⟨Hh,Z,p,hne⟩:=mq I rx ty;obtain⟨oc,od,odt,osl⟩:=o;have c':oc=.type "tuple":=c;have d':odt=.seq its.toArray n:=d;subst c' d';exact W.kia_tup Z I.kIn p e hk hne λtk=>⟨.bl b,H,I.tok _,rfl,q⟩
def C1(hK:X.K=K):CallR X (.builtin "isinstance") (λxs H Q=>(∃x c t v b,xs=[x,c]/\TyX K H x t/\cn c=some v/\W.kitOne K t v=some b/\Q (.bl b) H)\/
 (∃x tp cs t vs b,xs=[x,.ref tp]/\SqT K H tp cs/\TyX K H x t/\cs.mapM cn=some vs/\W.kitAny K t vs=some b/\Q (.bl b) H)):=by subst hK;exact rW.or o5
def xX(ok:KitsOk K mg kt):aZ K mg (λxs H Q=>(∃x c t v b,xs=[x,c]/\TyX K H x t/\cn c=some v/\W.kitOne K t v=some b/\Q (.bl b) H)\/
 (∃x tp cs t vs b,xs=[x,.ref tp]/\SqT K H tp cs/\TyX K H x t/\cs.mapM cn=some vs/\W.kitAny K t vs=some b/\Q (.bl b) H)) (lA kt):=λρ h H ds vs Q E w rs p=>by
 unfold lA at p;split at p
 .cases
   rs with
  |
   cons r rs=>
   cases rs with
   |
    cons r2 rs=>
    cases rs;split at p
    .rename_i t e1;split at p
     .split
       at p
      .rename_i cs c0 cr e2;split at p
       .rename_i b b' e3 e4;cases r2 with
        |tup q rs2=>obtain⟨tv,h1,h2⟩:=ml ok w r e1 e4;obtain⟨cvs,h3,h4⟩:=rD rs2 e2;exact .inr ⟨_,_,_,tv,cvs,b,rfl,q,h1,h3,pU ok h2 h4 e3,aw w (.bl _) p⟩
       .exact p.elim
      .exact p.elim
     .split at p
      .rename_i cl e2;split at p
       .rename_i b e3;obtain⟨tv,h1,h2⟩:=ml ok w r e1 e3;obtain⟨cv,h3,h4⟩:=mw r2 e2;exact .inl ⟨_,_,tv,cv,b,rfl,h1,h3,ok.one _ (iE e3) _ _ h2 h4,aw w (.bl _) p⟩
       .exact p.elim
      .exact p.elim
    .exact p.elim
 .exact p.elim
end
def MtD(K:W.Frag)(mg:Ga)(r:V->List V->Hp->VK->Prop)(g:D->List D->AH->R D):Prop:=∀ρ h H dx ds x vs Q E,Wd K mg ρ h H->RelD K mg ρ H dx x->RelDs K mg ρ H ds vs->bS K mg ρ H Q E (g dx ds h)->r x vs H Q
noncomputable def gZ(h:AH):D->Bool
 |.ref n=>(aD h n).isSome
 |_=>false
def eM(g:D->List D->AH->R D)(F:ME)(A:MA):ME:=λae h=>(F ae h).bind λx h1=>if gZ h1 x=true then (A ae h1).bind λds h2=>g x ds h2 else .stuck
section
variable{K:W.Frag}{mg:Ga}{X:Cx}{ES:St->XK}{o e:Expr}{es:List Expr}{F:ME}{A:MA}
def og(w:Wd K mg ρ h H)(r:RelD K mg ρ H d v)(q:gZ h d=true):tyV K "list" v H:=by
 cases r with
 |ref ea=>obtain⟨xs,e⟩:=Ex.mp q;obtain⟨vs,h1,_⟩:=aR w ea e;exact .inl ⟨rfl,vs,h1⟩
 |_=>cases q
def de_m{name:Str}{id:String}{apos cpos:Pos}{r:V->List V->Hp->VK->Prop}{g:D->List D->AH->R D}(hK:X.K=K)(slot:Slot "list" name id)(hty:typeOf (.builtin id)=pure (.type "method_descriptor"))(hm:MtM X id r)(hd:MtD K mg r g)(ho:DE K mg X ES o F)(ha:DA K mg X ES (e::es) A)
 (hbase:attributeBase o name X.env (eval o X.env)=eval o X.env)
 (hfew:((backTo cpos (starEach (e::es) X.env)).all (λx=>!x.1)&&(backToKw cpos (keywordEach [] X.env)).all (λx=>x.1.isSome)
  && decide ((e::es).length+([]:List Keyword).length+(if ([]:List Keyword).isEmpty then 0 else 1)<30))=true)
 (hline:(apos.endLine==cpos.line)=true) (hs:starEach (e::es) X.env=(false,eval e X.env)::starEach es X.env) (f_:(backTo cpos (starEach es X.env)).any (·.1)=false):
 DE K mg X ES (.Call (.Attribute o name apos) (e::es) [] cpos) (eM g F A):=by
 subst hK;refine PE.imp (C4 PySem.F.plainAttrs_list slot hty hm ho ha hbase hfew hline hs f_) λσ H Q q_=>q_.el λρ h ae w re p=>⟨ρ,h,ae,w,re,p.bind.imp λdx h1 ρ1 H1 l1 w1 p1 x rx=>?_⟩;split at p1
 .rename_i hl;exact⟨og w1 rx hl,ρ1,h1,ae,w1,re.mono l1,p1.bind.imp λds h2 ρ2 H2 l2 w2 p2 vs rs=>hd ρ2 h2 H2 dx ds x vs Q _ w2 (rx.mono l2) rs p2⟩
 .exact p1.elim
end
noncomputable def g9(h:AH)(d:D)(f:Nat->List D->R D):R D:=match d with
 |.ref n=>match h[n]? with
  |some (.lst xs)=>f n xs
  |_=>.stuck
 |_=>.stuck
def fo:D->List D->AH->R D:=λx ds h=>g9 h x λn xs=>match ds with
 | [d]=>if xs.length<16777216 then .ok .non (h.set n (.lst (xs++[d]))) else .stuck
 |_=>.stuck
section
variable{K:W.Frag}{mg:Ga}{ρ:List Addr}{H:Hp}{h:AH}
def pK(w:Wd K mg ρ h H)(r:RelD K mg ρ H d v)(p:bS K mg ρ H Q E (g9 h d f)):
 ∃n xs a vs,d=.ref n/\h[n]?=some (.lst xs)/\ρ[n]?=some a/\v=.ref a/\H a=some (.lst vs)/\RelDs K mg ρ H xs vs/\bS K mg ρ H Q E (f n xs):=by
 unfold g9 at p;split at p
 .cases r with
  |
   ref ea=>
   split at p
   .rename_i n xs e;obtain⟨vs,h1,h2⟩:=w.ob _ _ _ ea e;exact⟨_,_,_,vs,rfl,e,ea,rfl,h1,h2,p⟩
   .exact p.elim
 .exact p.elim
def qV(w:Wd K mg ρ h H)(ea:ρ[n]?=some a)(e:H a=some (.lst vs))(rs:RelDs K mg ρ H ys ws)(rd:RelD K mg ρ H d v)(p:bS K mg ρ H Q E (.ok d (h.set n (.lst ys)))):Q v (upd H a (.lst ws)):=by have l:Le ρ H ρ (upd H a (.lst ws)):=fI e jC;exact p ρ _ l (w.write ea e jC ⟨ws,ba,rs.mono l⟩) v (rd.mono l)
def pZ:MtD K mg iR fo:=λρ h H dx ds x vs Q E w rx rs p=>by
 obtain⟨n,xs,a,us,rfl,e,ea,rfl,h1,h2,p⟩:=pK w rx p;split at p
 .cases rs with
  |
   cons r rs=>
   cases rs;split at p
   .rename_i hl;exact⟨a,us,_,rfl,rfl,h1,by rw[<- h2.len];exact hl,qV w ea h1 (h2.append (.cons r .nil)) .non p⟩
   .exact p.elim
 .exact p.elim
def Room.u100(r:Room k A):A.units+190<cLine:=by have:=r.un;omega
end
noncomputable def wL(o i v:D)(h:AH):R Unit:=match o,i with
 |.ref n,.int k=>match h[n]? with
  |some (.lst xs)=>match ixN xs.length k with
   |some j=>.ok () (h.set n (.lst (xs.set j v)))
   |none=>.stuck
  |_=>.stuck
 |_,_=>.stuck
section
variable{K:W.Frag}{mg:Ga}{X:Cx}{ES:St->XK}{o i:Expr}{F G:ME}{pos:Pos}
def u3:iY K mg nU wL:=λρ h H do_ di dv o i v Q E w ro ri rv p=>by
 unfold wL at p;split at p
 .cases
   ro with
  |
   ref ea=>
   cases ri;split at p
   .rename_i n k xs e;split at p
    .rename_i j ej;obtain⟨vs,h1,h2⟩:=w.ob _ _ _ ea e;have l:Le ρ H ρ (upd H _ (.lst (vs.set j v))):=fI h1 jC;exact⟨_,vs,_,j,rfl,rfl,h1,by rw[<- h2.len];exact ej,p ρ _ l (w.write ea h1 jC ⟨_,ba,(h2.set rv j).mono l⟩)⟩
    .exact p.elim
   .exact p.elim
 .exact p.elim
def yh(ho:DE K mg X ES o F)(hi:DE K mg X ES i G)(hs:ku X t)(hd:iY K mg t f)
 (ha:∀v,assign (.Subscript o i pos) X.env v=(do
  let ov <- holding [v] (eval o X.env)
  let iv <- holding [v,ov] (eval i X.env)
  standAt pos
  holding [v,ov,iv] (setItem ov iv v)
  release [v,ov,iv] [])):DG K mg X ES (.Subscript o i pos) (gS F G f):=
 PG.imp (xB ho hi hs ha) λv σ H Q q_=>q_.el λρ h ae d w re rd p=>
  ⟨ρ,h,ae,w,re,p.bind.imp λdo_ h1 ρ1 H1 l1 w1 p1 o' ro=>⟨ρ1,h1,ae,w1,re.mono l1,p1.bind.imp λdi h2 ρ2 H2 l2 w2 p2 i' ri=>
   hd ρ2 h2 H2 do_ di d o' i' v _ _ w2 (ro.mono l2) ri ((rd.mono l1).mono l2) (p2.bind.imp λ_ h3 ρ3 H3 l3 w3 p3=>p3 ρ3 H3 Le.refl w3 σ (((re.mono l1).mono l2).mono l3))⟩⟩
end
noncomputable def cutD(xs:List D)(lo hi:Option Int):List D:=(xs.drop (HT.sIx xs.length 0 lo)).take (HT.sIx xs.length xs.length hi-HT.sIx xs.length 0 lo)
abbrev MO:=AE->AH->R (Option Int)
noncomputable def n6:MO:=λ_ h=>.ok none h
noncomputable def n5(F:ME):MO:=λae h=>(F ae h).bind λd h1=>match d with
 |.int i=>.ok (some i) h1
 |_=>.stuck
noncomputable def gSl(x:D)(lo hi:Option Int)(h:AH):R D:=match x with
 |.tup xs=>if HT.sIx xs.length 0 lo=0/\HT.sIx xs.length xs.length hi=xs.length then .stuck else .ok (.tup (cutD xs lo hi)) h
 |.ref n=>match aD h n with
  |some xs=>.ok (.ref h.length) (h++[.lst (cutD xs lo hi)])
  |none=>.stuck
 |.kl xs=>.ok (.ref h.length) (h++[.lst (cutD xs lo hi)])
 |_=>.stuck
noncomputable def eSl(F:ME)(L U:MO):ME:=λae h=>(F ae h).bind λx h1=>(L ae h1).bind λlo h2=>(U ae h2).bind λhi h3=>gSl x lo hi h3
section
variable{K:W.Frag}{mg:Ga}{X:Cx}{ES:St->XK}{e:Expr}{F:ME}{L U:MO}{lo hi:Option Expr}{pos p2:Pos}
def rdO(K:W.Frag)(mg:Ga)(ES:St->XK)(F:MO):TO:=λσ H Q=>∃ρ h ae,Wd K mg ρ h H/\RelE K mg ρ H ae σ/\PostG K mg ρ H (ES σ) (λo _ ρ' H'=>Q o H') (F ae h)
def DO(K:W.Frag)(mg:Ga)(X:Cx)(ES:St->XK)(e:Option Expr)(F:MO):Prop:=PO X e (rdO K mg ES F)
def wK:DO K mg X ES none n6:=PO.imp uS λσ H Q ⟨ρ,h,ae,w,re,p⟩=>p ρ H Le.refl w
def wY(he:DE K mg X ES e F):DO K mg X ES (some e) (n5 F):=PO.imp (u5 he) λσ H Q ⟨ρ,h,ae,w,re,p⟩=>⟨ρ,h,ae,w,re,p.bind.imp λd h1 ρ1 H1 l1 w1 p1 v rv=>by
 split at p1
 .cases rv;exact⟨_,rfl,p1 ρ1 H1 Le.refl w1⟩
 .exact p1.elim⟩
def ik(r:RelDs K mg ρ H xs vs)(lo hi:Option Int):RelDs K mg ρ H (cutD xs lo hi) (fk vs lo hi):=by unfold cutD fk;rw[<- r.len];exact (r.drop _).take _
def slK(h:X.K=K):SlR X (λx lo hi H Q=>rSlL K x lo hi H Q\/rSlT K x lo hi H Q):=by subst h;exact u6.or xC
def sY(hK:X.K=K)(he:DE K mg X ES e F)(hl:DO K mg X ES lo L)(hu:DO K mg X ES hi U):DE K mg X ES (.Subscript e (.Slice lo hi none p2) pos) (eSl F L U):=
 PE.imp (
  qx (slK hK) he hl hu) λσ H Q q_=>q_.el λρ h ae w re p=>⟨ρ,h,ae,w,re,p.bind.imp λd h1 ρ1 H1 l1 w1 p1 x rx=>⟨ρ1,h1,ae,w1,re.mono l1,p1.bind.imp λlo h2 ρ2 H2 l2 w2 p2=>⟨ρ2,h2,ae,w2,(re.mono l1).mono l2,p2.bind.imp λhi h3 ρ3 H3 l3 w3 p3=>by
  have rx3:=(rx.mono l2).mono l3;unfold gSl at p3;split at p3
  .split at p3
   .exact p3.elim
   .rename_i hn;cases rx3 with
    |tup q rs=>exact .inr ⟨_,_,rfl,q,by rw[<- rs.len];exact hn,λl hl=>gu w3 (ik rs lo hi) hl p3⟩
  .split at p3
   .rename_i xs e1;cases rx3 with
    |ref ea=>obtain⟨vs,q,rs⟩:=aR w3 ea e1;exact .inl ⟨_,_,rfl,q,λl hl=>bO w3 (ik rs lo hi) hl p3⟩
   .exact p3.elim
  .cases rx3 with
   |kl q rs=>exact .inl ⟨_,_,rfl,.inr q,λl hl=>bO w3 (ik rs lo hi) hl p3⟩
  .exact p3.elim⟩⟩⟩
end
structure Script(h:AH)(d:D)(ns:List Int):Prop where
 form:(∃n,d=.ref n/\h[n]?=some (.fz (ns.map D.int)))\/d=.kl (ns.map D.int)
theorem eQ{K:W.Frag}{mg:Ga}{ρ:List Addr}{H:Hp}:∀(ns:List Int),RelDs K mg ρ H (ns.map D.int) (ns.map V.int)
 | []=>.nil
 |_::r=>.cons (.int _) (eQ r)
def qu{P:Program}{w:World}{K:W.Frag}{mg:Ga}{base:Heap}{x y:Str}{k:Nat}{S:Fn}(C:Callee P w K mg base x k [y] (spD K mg 1 S))(hT:∀P q,¬ sx K mg P q)
 (hS:∀(d:D) (h:AH) (ns:List Int),ns.length<=63->Script h d ns->∃h',S [d] h=.ok (.bl true) h'):Callee P w K mg base x k [y] (λvs H Q _=>∃(a:Addr) (ns:List Int),vs=[.ref a]/\i0 H/\SqL K H a (ns.map V.int)/\ns.length<=63/\∀H',Q (.bl true) H'):=by
 refine C.imp λvs H Q E ⟨a,ns,e,hO,hq,hl,q⟩=>?_;subst e;rcases hq with (hq |⟨o,hq⟩) |hq
 .rcases hO a with z |⟨o,xs,z⟩ <;> rw[hq] at z <;> cases z
 .obtain⟨h',e⟩:=hS (.ref 0) [.fz (ns.map D.int)] ns hl ⟨.inl ⟨0,rfl,rfl⟩⟩;refine⟨[a],[.fz (ns.map D.int)],[.ref 0],⟨rfl,by simp,λP q l=>(hT P q l).elim,λn b ob e1 e2=>?_⟩,.cons (.ref rfl) .nil,rfl,?_⟩
  .cases n with
   |zero=>cases e1;cases e2;exact⟨o,_,hq,eQ ns⟩
   |succ n=>simp at e1
  .rw[e];exact λρ' H' l' w' v rv=>by cases rv;exact q H'
 .obtain⟨h',e⟩:=hS (.kl (ns.map D.int)) [] ns hl ⟨.inr rfl⟩;refine⟨[],[],[.kl (ns.map D.int)],⟨rfl,by simp,λP q l=>(hT P q l).elim,λn b ob e1 e2=>by simp at e1⟩,.cons (.kl hq (eQ ns)) .nil,rfl,?_⟩;rw[e];exact λρ' H' l' w' v rv=>by cases rv;exact q H'
def walk_lawD{l:W.OpenLaw}{q:Program}{loose:List Str}{XP:(Str->Option Value)->Heap->Prop}{YP:World->Heap->Prop}{d:DefRec}{K:Params->W.Frag}{x:Str}{k:Nat}(hn:l.most=some 63)(hdf:d.params.defaults=[])(hr:Room k callerA)
 (hY:∀(w:World) (h:Heap),YP w h->(K w.params).In h)
 (F:∀(w:World) (mg:Ga) (h:Heap),(K w.params).In h->h.Ns mainGlobals mg->∀base:Heap,(K w.params).In base->base.Ns mainGlobals mg->Callee l.prog w (K w.params) mg base d.name k [x] (λvs H Q _=>∃(a:Addr) (ns:List Int),vs=[.ref a]/\i0 H/\SqL (K w.params) H a (ns.map V.int)/\ns.length<=63/\∀H',Q (.bl true) H'))
 (D:∀(w:World) (mg:Ga) (h:Heap),(K w.params).In h->h.Ns mainGlobals mg->∃st,Def (K w.params) mg d.name st/\∀(kV doc pm:Value) (an:Option Addr) (cdv ct:Value) (us:List Value),us.length=1->bindArgs (W.fnOf d.name d.name (bF st) (aV st) (aj st) .none kV doc pm an cdv ct) ⟨us,[]⟩=pure ([x].zip us)):
 W.WalkO q loose XP YP l.row.toRowW d [] (λf vs=>PySem.call f vs):=by
 refine L2.walk_of (n:=63) (k:=k) (x:=x) (CX:=λw=>CX1 l.prog w) (sp:=λw=>λvs H Q _=>∃(a:Addr) (ns:List Int),vs=[.ref a]/\i0 H/\SqL (K w.params) H a (ns.map V.int)/\ns.length<=63/\∀H',Q (.bl true) H') hn (by decide) hdf hr hY (λw mg fa h KX G hmg=>?_) (λ_ _ a ns hl hO hS=>⟨a,ns,rfl,hO,hS,hl,λ_=>rfl⟩) λ_ _ _ _ _ ⟨_,_,_,_,_,_,_,_,_,z⟩=>z;obtain⟨st,Dd,hbind⟩:=D w mg h KX G;obtain⟨f,fd,Ff,m⟩:=Dd.ex;have e:=hmg.symm.trans m;cases e;obtain⟨oc,od,kV,doc,pm,an,cdv,ct,osl,rfl,lk,hcd⟩:=Ff.ex;refine⟨_,λs u=>.of_eq (hbind kV doc pm an cdv ct [u] rfl),λbase kb nb=>?_⟩;obtain⟨f',fd',F',m',kp',b',oc',od',osl',lk'⟩:=(F w mg h KX G base kb nb).ex;rw[m] at m';cases m';rw[lk] at lk';cases lk';exact F'
noncomputable def nu:D->D->AH->R D:=gOr (gI λi j=>.int (i+j)) gi
noncomputable def rm:D->D->AH->R D:=gI λi j=>.int (i-j)
def CMulA(i j:Int):Prop:=uo i j\/CMul i j
def qr:D->D->AH->R D:=gIc CMulA λi j=>.int (i*j)
def qM:D->D->AH->R D:=gIc CDivB λi j=>.int (i.fdiv j)
def rS:D->D->AH->R D:=gIc (λ_ j=>j≠0) λi j=>.int (i.fmod j)
def rR:D->D->AH->R D:=gIc iz λi j=>.int (i^j.toNat)
noncomputable def gLt:D->D->AH->R D:=gI λi j=>.bl (decide (i<j))
def gLe:D->D->AH->R D:=gI λi j=>.bl (decide (i<=j))
noncomputable def gGt:D->D->AH->R D:=gI λi j=>.bl (decide (j<i))
noncomputable def gGe:D->D->AH->R D:=gI λi j=>.bl (decide (j<=i))
noncomputable def nv:D->AH->R D:=λx h=>match x with
 |.int i=>.ok (.int (-i)) h
 |_=>.stuck
noncomputable def nV(n:Nat)(S:Fn)(A:MA):ME:=eFn (λds h=>if ds.length=n then S ds h else .stuck) A
section
variable{K:W.Frag}{mg:Ga}{X:Cx}
def xr(h:X.K=K):OpR X (binaryOp .Add) (λx y H Q=>rI0 (λi j=>.int (i+j)) x y H Q\/(i6 x y H Q\/(fG K x y H Q\/fK K x y H Q))):=zF.or (catK h)
def yX:OpD K mg (λx y H Q=>rI0 (λi j=>.int (i+j)) x y H Q\/(i6 x y H Q\/(fG K x y H Q\/fK K x y H Q))) nu:=(dY λ_ _ _ _=>.int _).or wJ
def AY:OpD K mg (rI0 λi j=>.int (i-j)) rm:=dY λ_ _ _ _=>.int _
def AZ:OpR X (binaryOp .Mult) (rI CMulA λi j=>.int (i*j)):=by
 intro pins s σ H x y v u Q I rx ry h;obtain⟨i,j,e1,e2,hc,q⟩:=h;rcases hc with hc |hc
 .exact uK pins s σ H x y v u Q I rx ry ⟨i,j,e1,e2,hc,q⟩
 .exact yC pins s σ H x y v u Q I rx ry ⟨i,j,e1,e2,hc,q⟩
def xO:OpD K mg (rI CMulA λi j=>.int (i*j)) qr:=jH λ_ _ _ _=>.int _
def yw:OpD K mg (rI CDivB λi j=>.int (i.fdiv j)) qM:=jH λ_ _ _ _=>.int _
def AL:OpD K mg (rI (λ_ j=>j≠0) λi j=>.int (i.fmod j)) rS:=jH λ_ _ _ _=>.int _
def Ap:OpD K mg (rI iz λi j=>.int (i^j.toNat)) rR:=jH λ_ _ _ _=>.int _
def Cm:OpD K mg (rI0 λi j=>.bl (decide (i<j))) gLt:=dY λ_ _ _ _=>.bl _
def Dy:OpD K mg (rI0 λi j=>.bl (decide (i<=j))) gLe:=dY λ_ _ _ _=>.bl _
def Cy:OpD K mg (rI0 λi j=>.bl (decide (j<i))) gGt:=dY λ_ _ _ _=>.bl _
def BV:OpD K mg (rI0 λi j=>.bl (decide (j<=i))) gGe:=dY λ_ _ _ _=>.bl _
def yt:UnD K mg (rU λi=>.int (-i)) nv:=λρ h H dx x Q E w rx p=>by
 unfold nv at p;split at p
 .cases rx;exact⟨_,rfl,aw w (.int _) p⟩
 .exact p.elim
variable{ES:St->XK}{e:Expr}{es:List Expr}{A:MA}{pos:Pos}
def sP(C:Callee X.prog X.w X.K X.mg X.base x k ps (spD K mg n S))(hr:Room k X.A)(hg:Gl X x)(hx:fE X ES)(ha:DA K mg X ES (e::es) A)
 (hdb:(x==("__debug__" : Str))=false) (he:starEach (e::es) X.env=(false,eval e X.env)::starEach es X.env) (hpl:(backTo pos (starEach es X.env)).any (·.1)=false):
 DE K mg X ES (.Call (.Name x p) (e::es) [] pos) (nV n S A):=vI C hr hg hx ha hdb he hpl
end
section
variable{h:AH}
@[simp] theorem c9(a:α)(h:AH)(f:α->AH->R β):(R.ok a h).bind f=f a h:=rfl
end
def ja(h1:pd.canLay0=true)(h2:pd.depth<=160):shp pd=true:=by unfold shp;rw[h1,Ek h2];rfl
def Sm(n:Nat)(x:Int):Prop:=x.natAbs<2^n
def Sm.bits(h:Sm n x):Builtin.Int.intBits x<=n:=intBits_le_iff.mpr h
def CMulA.left(h:-(2^64)<x)(k:x<2^64):CMulA x y:=.inr (.inl ⟨h,k⟩)
def CMulA.right(h:-(2^64)<y)(k:y<2^64):CMulA x y:=.inr (.inr ⟨h,k⟩)
def CDivB.of(h0:y≠0)(h:Sm 8000 y):CDivB x y:=⟨h0,h.bits⟩
def zV{K:W.Frag}{h:Heap}{mg:Ga}{x:Str}{a:Addr}{dd:Option Addr}{its:Array Value}{n:Nat}{sl:Array (Option Value)}{vs:List V}{ds:List D}(X:K.In h)(G:h.Ns mainGlobals mg)(e:W.nsIn K mainGlobals x=some (some (.ref a)))
 (l:K.lookup a=some ⟨.type "tuple",dd,.seq its n,sl⟩) (hs:its.size<=sizeLine) (hv:Vals vs its.toList) (hr:∀ρ H,RelDs K mg ρ H ds vs):GC K mg x (.tup ds):=
 ⟨_,.ref a,W.mg_of X G e,rfl,λρ H=>.tup (.inr ⟨_,its,n,l,rfl,rfl,hs,hv⟩) (hr ρ H)⟩
def rV{P:Program}{w:World}{H:Hp}(h:Heap)(hb:sysModules<h.objs.size):ObjOk P w H (h.push { cls:=.type "dict",data:=.dict #[] }) h.objs.size (.dK []):=
 ⟨Ef _,D2.mpr (Ne.symm (D_ hb)),[],.nil,Heap.DictOf.new h⟩
def Inv.big{X:Cx}{pins:Gb}{σ:St}{H:Hp}{s:Shared}(I:Inv X pins σ H s):sysModules<s.heap.objs.size:=by have h:mainGlobals<s.heap.objs.size:=(I.mod.glob.keeps I.bk).lt;exact FC (by decide) h
variable{K:W.Frag}{mg:Ga}
theorem kf{ρ:List Addr}{H:Hp}{xs:List D}{vs:List V}(r:RelDs K mg ρ H xs vs):∀n:Nat,RelDs K mg ρ H (List.replicate n xs).flatten (List.replicate n vs).flatten
 |0=>.nil
 |
  n+1=>by
  rw[D1,D1,Ep,Ep];exact r.append (kf r n)
def vM:OpD K mg tf kA:=λρ h H dx dy x y Q E w rx ry p=>by
 unfold kA at p;split at p
 .cases
   rx with
  |
   ref ea=>
   cases ry with
   |
    int=>
    split at p
    .rename_i xs e1;split at p
     .rename_i hl;obtain⟨vs,q1,r1⟩:=w.ob _ _ _ ea e1;exact⟨_,_,vs,rfl,rfl,q1,hl.1,hl.2.1,by rw[<- r1.len];exact hl.2.2,λp' hp=>bO w (kf r1 _) hp p⟩
     .exact p.elim
    .exact p.elim
 .exact p.elim
section
variable{κ:Type}[DecidableEq κ]
noncomputable def bX(kvs:List (κ×V))(k:κ):Option V:=(kvs.find? λkv=>decide (kv.1=k)).map (·.2)
noncomputable def bp(kvs:List (κ×V))(k:κ)(v:V):List (κ×V):=
 if (kvs.any λkv=>decide (kv.1=k))=true then kvs.map (λkv=>if kv.1=k then (kv.1,v) else kv) else kvs++[(k,v)]
def gp{p:κ×V}{r:List (κ×V)}{k:κ}(e:p.1=k):bX (p::r) k=some p.2:=by simp [bX,Ew,e]
def gn{p:κ×V}{r:List (κ×V)}{k:κ}(e:¬ p.1=k):bX (p::r) k=bX r k:=by simp [bX,Ew,e]
theorem gg(k:κ):∀kvs:List (κ×V),(kvs.any λkv=>decide (kv.1=k))=(bX kvs k).isSome
 | []=>rfl
 |
  p::r=>by
  rw[EB];by_cases e:p.1=k
  .simp only[gp e,Ek e,Bool.true_or,Option.isSome_some]
  .rw[gn e,D5 e,Bool.false_or];exact gg k r
def dP(kvs:List (κ×V))(k:κ)(v:V):(bp kvs k v).length<=kvs.length+1:=by
 unfold bp;split
 .rw[o_];omega
 .rw[DY,DR,EG];omega
def sI{kvs:List (κ×V)}{k:κ}(v:V)(h:bX kvs k=none):bp kvs k v=kvs++[(k,v)]:=by unfold bp;rw[gg,h];exact if_neg (by decide)
def RelO.isSome_eq(r:RelO o u):o.isSome=u.isSome:=by
 cases o with
 |none=>cases u with
  |none=>rfl
  |some _=>exact (show False from r).elim
 |some _=>cases u with
  |none=>exact (show False from r).elim
  |some _=>rfl
def KV.val(r:KV kvs vs)(k:κ):RelO (bX kvs k) (valueAt vs k):=by
 unfold KV at r;induction r with
 |nil=>exact True.intro
 |
  @cons p q ps qs h t ih=>
  obtain⟨h1,h2⟩:=h;by_cases e:p.1=k
  .have e':q.1=k:=h1.symm.trans e;have b:valueAt (q::qs) k=some q.2:=by simp [valueAt,Ew,e']
   rw[gp e,b];exact h2
  .have e':¬ q.1=k:=λz=>e (h1.trans z);have b:valueAt (q::qs) k=valueAt qs k:=by simp [valueAt,Ew,e']
   rw[gn e,b];exact ih
def KV.any(r:KV kvs vs)(k:κ):(kvs.any λkv=>decide (kv.1=k))=vs.any λkv=>decide (kv.1=k):=by
 unfold KV at r;induction r with
 |nil=>rfl
 |cons h t ih=>rw[EB,EB,ih,h.1]
def KV.repl(r:KV kvs vs)(k:κ)(ry:RelV y u):
 KV (kvs.map λkv=>if kv.1=k then (kv.1,y) else kv) (vs.map λkv=>if kv.1=k then (kv.1,u) else kv):=by
 unfold KV at r ⊢;induction r with
 |nil=>exact .nil
 |
  @cons p q ps qs h t ih=>
  rw[z_,z_];refine .cons ?_ ih;obtain⟨h1,h2⟩:=h;by_cases e:p.1=k
  .rw[if_pos e,if_pos (h1.symm.trans e)];exact⟨h1,ry⟩
  .rw[if_neg e,if_neg (λz=>e (h1.trans z))];exact⟨h1,h2⟩
def KV.put(r:KV kvs vs)(k:κ)(ry:RelV y u):KV (bp kvs k y) (stored vs k u):=by
 unfold bp stored;rw[r.any k];by_cases e:(vs.any λkv=>decide (kv.1=k))=true
 .rw[if_pos e,if_pos e];exact r.repl k ry
 .rw[if_neg e,if_neg e];exact Paired.snoc r ⟨rfl,ry⟩
def KV.length(r:KV kvs vs):kvs.length=vs.length:=Paired.length r
end
def jL(r:RelV (kV k) u):(aX P w).is k u=true:=by
 cases k with
 |inl i=>obtain⟨t,e⟩:=(show ∃t,u=Value.int i t from r);subst e;exact lL P w i t
 |inr x=>obtain⟨t,e⟩:=(show ∃t,u=Value.str x t from r);subst e;exact lH P w x t
theorem i7:∀{ks:List Key}{us:List Value},Vals (ks.map kV) us->ItemsAre (aX P w) ks us
 | [],_,r=>by rw[List.map_nil] at r;cases r;exact .nil
 |
  k::ks,_,r=>by
  rw[z_] at r;cases r with
  |cons h t=>exact .cons (jL h) (i7 t)
abbrev KT(H:Hp):List (List Key×V)->List (List Key×Addr×Value)->Prop:=Paired λp q=>p.1=q.1/\H q.2.1=some (.tup (p.1.map kV))/\RelV p.2 q.2.2
def KT.val(r:KT H kvs xs)(k:List Key):RelO (bX kvs k) ((atKey xs k).map (·.2)):=by
 induction r with
 |nil=>exact True.intro
 |
  @cons p q ps qs h t ih=>
  obtain⟨h1,_,h2⟩:=h;by_cases e:p.1=k
  .have e':q.1=k:=h1.symm.trans e;have b:atKey (q::qs) k=some q.2:=by simp [atKey,Ew,e']
   rw[gp e,b];exact h2
  .have e':¬ q.1=k:=λz=>e (h1.trans z);have b:atKey (q::qs) k=atKey qs k:=by simp [atKey,Ew,e']
   rw[gn e,b];exact ih
def KT.repl(r:KT H kvs xs)(k:List Key)(ry:RelV y u):
 KT H (kvs.map λkv=>if kv.1=k then (kv.1,y) else kv) (xs.map (putAt k u)):=by
 induction r with
 |nil=>exact .nil
 |
  @cons p q ps qs h t ih=>
  rw[z_,z_];refine .cons ?_ ih;obtain⟨h1,h2,h3⟩:=h;unfold putAt;by_cases e:p.1=k
  .rw[if_pos e,if_pos (h1.symm.trans e)];exact⟨h1,h2,ry⟩
  .rw[if_neg e,if_neg (λz=>e (h1.trans z))];exact⟨h1,h2,h3⟩
def KT.put(r:KT H kvs xs)(k:List Key)(hb:H b=some (.tup (k.map kV)))(ry:RelV y u):
 KT H (bp kvs k y) (storedH xs k b u):=by
 have e:(kvs.any λkv=>decide (kv.1=k))=(atKey xs k).isSome:=by rw[gg,(r.val k).isSome_eq,Option.isSome_map]
 unfold bp storedH;rw[e];by_cases q:(atKey xs k).isSome=true
 .rw[if_pos q,if_pos q];exact r.repl k ry
 .rw[if_neg q,if_neg q];exact Paired.snoc r ⟨rfl,hb,ry⟩
def KT.keeps(r:KT H kvs xs)(ht:∀b ys,H b=some (.tup ys)->H' b=some (.tup ys)):KT H' kvs xs:=
 Paired.mapP r λ_ _ z=>⟨z.1,ht _ _ z.2.1,z.2.2⟩
section
variable{P:Program}{w:World}{H:Hp}{h:Heap}{a:Addr}
def um(ok:HOk P w H h)(e:Rd H a u):ObjOk P w H h a u:=e.ok ok
def mZ(ok:HOk P w H h)(e:Rd H a (.dK kvs)):kvs.length<=sizeLine/\(a==sysModules)=false/\∃vs,KV kvs vs/\h.DictOf (aX P w) a vs:=
 show ObjOk P w H h a (.dK kvs) from um ok e
def tQ(ok:HOk P w H h)(e:H a=some (.dK kvs)):kvs.length<=sizeLine/\(a==sysModules)=false/\∃vs,KV kvs vs/\h.DictOf (aX P w) a vs:=mZ ok (.inl e)
def jZ(ok:HOk P w H h)(e:H a=some (.tup (ks.map kV))):(tupleKind (aX P w)).is h ks a:=by obtain⟨_,its,r,o,h1,h2,n,h3⟩:=(show ObjOk P w H h a (.tup (ks.map kV)) from ok a _ e);exact⟨o,its.toArray,n,h1,h2,h3,by simpa using i7 r⟩
def nt(ok:HOk P w H h)(e:Rd H a (.dT kvs)):kvs.length<=sizeLine/\(a==sysModules)=false/\
 ∃xs,KT H kvs xs/\h.DictOfH (tupleKind (aX P w)) a xs:=by
 obtain⟨z,y,xs,r,o,es,ep,h1,h2,h3,h4,h5⟩:=(show ObjOk P w H h a (.dT kvs) from um ok e);refine⟨z,y,xs,r,o,es,ep,h1,h2,h3,h4,λx hx=>?_,h5⟩;have all:∀{l:List (List Key×V)}{m:List (List Key×Addr×Value)},KT H l m->∀x∈m,(tupleKind (aX P w)).is h x.1 x.2.1:=by
  intro l m q;induction q with
  |nil=>intro x hx;exact nomatch hx
  |
   @cons p q ps qs hq t ih=>
   intro x hx;rcases Eg.mp hx with e |hx
   .subst e;exact jZ ok (by rw[<- hq.1];exact hq.2.1)
   .exact ih x hx
 exact all r x hx
def Cw(ok:HOk P w H h)(e:H a=some (.dT kvs)):kvs.length<=sizeLine/\(a==sysModules)=false/\
 ∃xs,KT H kvs xs/\h.DictOfH (tupleKind (aX P w)) a xs:=nt ok (.inl e)
end
def DGet(H:Hp)(a:Addr)(y:V)(r:Option V):Prop:=
 (∃kvs k,Rd H a (.dK kvs)/\y=kV k/\r=bX kvs k)\/∃kvs k b,Rd H a (.dT kvs)/\y=.ref b/\H b=some (.tup (k.map kV))/\r=bX kvs k
def DPut(H:Hp)(a:Addr)(y v:V)(H':Hp):Prop:=
 (∃kvs k,H a=some (.dK kvs)/\y=kV k/\kvs.length<sizeLine/\H'=upd H a (.dK (bp kvs k v)))\/
 ∃kvs k b,H a=some (.dT kvs)/\y=.ref b/\H b=some (.tup (k.map kV))/\kvs.length<sizeLine/\H'=upd H a (.dT (bp kvs k v))
def DGet.k{H:Hp}{a:Addr}{kvs:List (Key×V)}{k:Key}(e:H a=some (.dK kvs)):DGet H a (kV k) (bX kvs k):=.inl ⟨kvs,k,.inl e,rfl,rfl⟩
def DPut.k{H:Hp}{a:Addr}{kvs:List (Key×V)}{k:Key}{v:V}(e:H a=some (.dK kvs))(hl:kvs.length<sizeLine):DPut H a (kV k) v (upd H a (.dK (bp kvs k v))):=.inl ⟨kvs,k,e,rfl,hl,rfl⟩
section
variable{X:Cx}{pins:Gb}{σ:St}{H:Hp}{s:Shared}{a:Addr}{y v:V}{u r:Value}{o:Option V}{A:Around}{E:Gd}
def pA(hu:A.units+1<cLine)(I:Inv X pins σ H s)(g:DGet H a y (some v))(ry:RelV y u)(h:∀w' s',Inv X pins σ H s'->RelV v w'->Q w' s'):
 wpAny (model X.prog X.w) A (getItem (.ref a) u) Q E s:=by
 rcases g with ⟨kvs,k,e,ey,l⟩ |⟨kvs,k,b,e,ey,eb,l⟩
 .subst ey;obtain⟨z,hd,vs,rel,dd⟩:=mZ I.hok e;obtain⟨w',hw,rw'⟩:=RelO.some_of (v:=v) (o:=valueAt vs k) (by rw[l];exact rel.val k);exact wpAny_getItem_of (jL ry) dd.mapOf hw (h w' _ (I.tok _) rw')
 .subst ey;cases (show u=Value.ref b from ry);obtain⟨z,hd,xs,rel,dd⟩:=nt I.hok e;obtain⟨w',hw,rw'⟩:=RelO.some_of (v:=v) (o:=(atKey xs k).map (·.2)) (by rw[l];exact rel.val k);obtain⟨p,hp,hp2⟩:=DZ.mp hw;refine wpAny_getItem_heap (tupleKind_room_in1 hu) (jZ I.hok eb) dd hp ?_;rw[hp2];exact h w' _ (I.tok _) rw'
def iw(I:Inv X pins σ H s)(mu:Mut (H a))(hs:Heap.SameBut a s.heap h')(he:∃q,h'.get? a=some q)(new:ObjOk X.prog X.w (upd H a ob) h' a ob):
 Inv X pins σ (upd H a ob) { s with heap:=h',toks:=t' }:=
 I.write (x:=a) (e:=a) mu (.inl rfl) (λb q hb z=>(hs.2 b hb).trans z) he new
def ox(z:kvs.length<=sizeLine)(hd:(a==sysModules)=false)(rel:KV kvs vs)(dd:h'.DictOf (aX P w) a vs):
 ObjOk P w H' h' a (.dK kvs):=⟨z,hd,vs,rel,dd⟩
def oH(hu:A.units+1<cLine)(I:Inv X pins σ H s)(g:DPut H a y v H')(ry:RelV y u)(rv:RelV v r)(h:∀s',Inv X pins σ H' s'->Q () s'):
 wpAny (model X.prog X.w) A (setItem (.ref a) u r) Q E s:=by
 rcases g with ⟨kvs,k,e,ey,l,eH⟩ |⟨kvs,k,b,e,ey,eb,l,eH⟩
 .subst ey eH;obtain⟨z,hd,vs,rel,dd⟩:=tQ I.hok e;have hz:vs.length<=sizeLine:=by rw[<- rel.length];exact z
  have hl:(bp kvs k v).length<=sizeLine:=by have:=dP kvs k v;omega
  refine wpAny_setItem_pairs (hsz:=hz) (jL ry) dd λh' dd' hs=>h _ ?_;have he:∃q,h'.get? a=some q:=let ⟨q,_,_,hq,_⟩:=dd';⟨q,hq⟩;exact iw I (by rw[e];exact True.intro) hs he (ox hl hd (rel.put k rv) dd')
 .subst ey eH;cases (show u=Value.ref b from ry);obtain⟨z,hd,xs,rel,dd⟩:=Cw I.hok e;have hz:xs.length<=sizeLine:=by rw[<- Paired.length rel];exact z
  have hl:(bp kvs k v).length<=sizeLine:=by have:=dP kvs k v;omega
  refine wpAny_setItem_heap (hsz:=hz) (tupleKind_room_in1 hu) (jZ I.hok eb) dd λh' dd' hs=>h _ ?_;obtain⟨q,es,ep,hq,h2,h3,h4,_,h5⟩:=dd';refine iw I (by rw[e];exact True.intro) hs ⟨q,hq⟩ ⟨hl,hd,_,(rel.put k eb rv).keeps λc ys ec=>?_,q,es,ep,hq,h2,h3,h4,h5⟩;rw[aq (Bw ec e (λz=>nomatch z))];exact ec
end
def nc(i:Expr):Prop:=∀ov iv,subscripted i false ov iv=operate [ov,iv] (getItem ov iv)
def vc{prog:Program}{w:World}{A:Around}{E:Gd}{s:Shared}{env:Env}{value h_:Expr}{pos:Pos}{T id:String}{Q:Gd}
 (hl:typeLookup (.type T) "__getitem__"=pure (some (.builtin id))) (hs:nc h_)
 (h:wpAny (model prog w) A (eval value env) (λo s₁=>wpAny (model prog w) A (eval h_ env) (λi s₂=>s₂.TypeIs o T/\wpAny (model prog w) A (getItem o i) Q E s₂) E s₁) E s):
 wpAny (model prog w) A (eval (.Subscript value h_ pos) env) Q E s:=by
 refine Subscript_ (Ee h (λo s₁ h₁=>Ee h₁ (λi s₂ h₂=>?_) λ_ _ x=>x) λ_ _ x=>x);obtain⟨hT,h₂⟩:=h₂;unfold subscriptTail;refine r_ ?_;rw[getitemInPython_of_ne hT.not_modules];refine r_ (wpAny_specialOf hT hl ?_);have k_:wpAny (model prog w) A (subscripted h_ false o i) (λr s₃=>wpAny (model prog w) A (letTemporaryGo value o r >>= λ_=>pure r) Q E s₃) E s₂:=by rw[hs o i];exact wpAny_operating (Ee h₂ (λr s₃ h₃=>r_ (wpAny_letTemporaryGo (B_ h₃))) λ_ _ x=>x)
 first
  |exact B_ (r_ k_)
  |exact r_ (B_ (r_ k_))
  |exact r_ k_
def lJ(I:Inv X pins σ H s)(g:DGet H a y o):s.TypeIs (.ref a) "dict":=by
 rcases g with ⟨kvs,k,e,_,_⟩ |⟨kvs,k,b,e,_,_,_⟩
 .obtain⟨_,_,vs,_,dd⟩:=mZ I.hok e;exact dd.typeIs
 .obtain⟨_,_,xs,_,dd⟩:=nt I.hok e;exact dd.typeIs
def C6(td ty:TE):TE:=λσ H Q=>td σ H λx H1=>ty σ H1 λy H2=>∃a v,x=.ref a/\DGet H2 a y (some v)/\Q v H2
section
variable{X:Cx}{o i:Expr}{pos:Pos}{td ty:TE}
def vX(hu:X.A.units+1<cLine)(ho:PE X o td)(hi:PE X i ty)(hs:nc i):PE X (.Subscript o i pos) (C6 td ty):=by intro pins s σ H Q I h;refine vc PySem.F.slot_dict_getitem.lookup hs (thn (ho pins s σ H _ I h) λu s1 ⟨x,H1,I1,rx,q1⟩=>thn (hi pins s1 σ H1 _ I1 q1) λiv s2 ⟨y,H2,I2,ry,a,v,ex,g,q2⟩=>?_);subst ex;obtain rfl:u=Value.ref a:=rx;exact⟨lJ I2 g,pA hu I2 g ry λw' s3 I3 rw'=>⟨v,H2,I3,rw',q2⟩⟩
end
def gM:List (TE×TE)->St->Hp->(List (V×V)->Hp->Prop)->Prop
 | [],_,H,Q=>Q [] H
 |(tk,tv)::r,σ,H,Q=>tk σ H λx H1=>tv σ H1 λy H2=>gM r σ H2 λps H3=>Q ((x,y)::ps) H3
abbrev VV:List (V×V)->List (Value×Value)->Prop:=Paired λp q=>RelV p.1 q.1/\RelV p.2 q.2
def PPs(X:Cx)(pos:Pos)(keys:List (Option Expr))(values:List Expr)(trs:List (TE×TE)):Prop:=
 ∀
  (pins:Gb) (s:Shared) (σ:St) (H:Hp) (Q:List (V×V)->Hp->Prop),Inv X pins σ H s->gM trs σ H Q->
  wpAny (model X.prog X.w) X.A (evalPairs (pairTrees keys values X.env pos)) (λvs s'=>∃ps H',Inv X pins σ H' s'/\VV ps vs/\Q ps H') X.xe s
def wO:PPs X pos [] [] []:=λpins s σ H Q I h=>pairTrees_nil_walk ⟨[],H,I,.nil,h⟩
def rZ(hk:PE X k tk)(hv:PE X v tv)(hr:PPs X pos ks vs trs):
 PPs X pos (some k::ks) (v::vs) ((tk,tv)::trs):=λpins s σ H Q I h=>
 pairTrees_cons_walk (thn (hk pins s σ H _ I h) λu s1 ⟨x,H1,I1,rx,q1⟩=>thn (hv pins s1 σ H1 _ I1 q1) λw2 s2 ⟨y,H2,I2,ry,q2⟩=>
  thn (hr pins s2 σ H2 _ I2 q2) λws s3 ⟨ps,H3,I3,rel,q3⟩=>⟨(x,y)::ps,H3,I3,.cons ⟨rx,ry⟩ rel,q3⟩)
def dk(kvs more:List (Key×V)):List (Key×V):=more.foldl (λacc kv=>bp acc kv.1 kv.2) kvs
def KV.merge:∀{more:List (Key×V)}{rs:List (Key×Value)}{kvs:List (Key×V)}{vs:List (Key×Value)},KV more rs->KV kvs vs->KV (dk kvs more) (merged vs rs):=by
 intro more rs kvs vs r;unfold KV at r;induction r generalizing kvs vs with
 |nil=>intro q;exact q
 |
  @cons p q ps qs h t ih=>
  intro r0;have e:KV (bp kvs p.1 p.2) (stored vs q.1 q.2):=by
   have:=r0.put p.1 h.2
   rw[<- h.1];exact this
  exact ih e
theorem eR:∀(more kvs:List (Key×V)),(dk kvs more).length<=kvs.length+more.length
 | [],kvs=>by show kvs.length<=kvs.length+0;omega
 |
  p::r,kvs=>by
  have h1:=eR r (bp kvs p.1 p.2);have h2:=dP kvs p.1 p.2;show (dk (bp kvs p.1 p.2) r).length<=_;rw[DR];omega
theorem ia:∀{kvs:List (Key×V)}{ws:List (Value×Value)},VV (kvs.map λkv=>(kV kv.1,kv.2)) ws->∃rs,Carries (aX P w) ws rs/\KV kvs rs
 | [],_,r=>by rw[List.map_nil] at r;cases r;exact⟨[],True.intro,.nil⟩
 |
  p::kvs,_,r=>by
  rw[z_] at r;cases r with
  |@cons a b as bs h t=>obtain⟨rs,c,q⟩:=ia (P:=P) (w:=w) t;obtain⟨b1,b2⟩:=b;exact⟨(p.1,b2)::rs,⟨jL h.1,rfl,c⟩,.cons ⟨rfl,h.2⟩ q⟩
def C8(trs:List (TE×TE)):TE:=λσ H Q=>∀p,H p=none->gM trs σ (upd H p (.dK [])) λps H2=>H2 p=some (.dK [])/\∃kvs:List (Key×V),ps=kvs.map (λkv=>(kV kv.1,kv.2))/\kvs.length<=15/\Q (.ref p) (upd H2 p (.dK (dk [] kvs)))
def uP(h:PPs X pos keys values trs)(hall:keys.all (·.isSome)=true)(hl:keys.length=values.length)(h0:keys≠[])
 (h15:keys.length<=15):PE X (.Dict keys values pos) (C8 trs):=by
 intro pins s σ H Q I q;have hn:=I.hok.fresh (v_ s.heap.objs.size);have I1:=I.laid (a:=s.heap.objs.size) (o:=.dK []) (h':=s.heap.push { cls:=.type "dict",data:=.dict #[] }) (t':=s.toks) (λ_ _ q=>s_ _ q) (v_ _) (rV s.heap I.big);refine wpAny_Dict_walk (knd:=aX X.prog X.w) hall hl h0 h15 (thn (h pins _ σ _ _ I1 (q _ hn)) λws s2 ⟨ps,H2,I2,rel,e,kvs,ep,lk,q2⟩=>?_);subst ep;obtain⟨rs,c,rk⟩:=ia (P:=X.prog) (w:=X.w) rel;obtain⟨z,hd,vs0,r0,dd⟩:=tQ I2.hok e;cases r0;refine⟨rs,c,dd,λh' dd' hs=>⟨.ref s.heap.objs.size,_,?_,rfl,q2⟩⟩;have hz:(dk [] kvs).length<=sizeLine:=by have h1:=eR kvs [];rw[EG] at h1;rw[sizeLine_eq];omega
 have he:∃q,h'.get? s.heap.objs.size=some q:=let ⟨q,_,_,hq,_⟩:=dd';⟨q,hq⟩;exact iw I2 (by rw[e];exact True.intro) hs he (ox hz hd (rk.merge .nil) dd')
section
variable[DecidableEq κ]
noncomputable def lkD(kvs:List (κ×α))(k:κ):Option α:=(kvs.find? λkv=>decide (kv.1=k)).map (·.2)
noncomputable def et(kvs:List (κ×α))(k:κ)(v:α):List (κ×α):=if (kvs.any λkv=>decide (kv.1=k))=true then kvs.map λkv=>if kv.1=k then (kv.1,v) else kv else kvs++[(k,v)]
end
section
variable{K:W.Frag}{mg:Ga}{ρ:List Addr}{H:Hp}
def u7:∀{kvs:List (Key×D)}{ws:List (Key×V)},ws.map (·.1)=kvs.map (·.1)->RelDs K mg ρ H (kvs.map (·.2)) (ws.map (·.2))->lkD kvs k=some d->∃v,bX ws k=some v/\RelD K mg ρ H d v:=by
 intro kvs;induction kvs with
 |nil=>intro ws e r q;cases q
 |
  cons p kvs ih=>
  intro ws e r q;cases ws with
  |nil=>cases e
  |
   cons w ws=>
   obtain⟨k1,d1⟩:=p;obtain⟨k2,v2⟩:=w;rw[z_,z_] at e;injection e with e1 e2;dsimp only at e1;subst e1;cases r with
   |
    cons r rr=>
    unfold lkD at q;unfold bX;rw[Ew] at q ⊢;dsimp only at q ⊢;by_cases hk:k2=k
    .rw[Ek hk] at q ⊢;cases q;exact⟨v2,rfl,r⟩
    .rw[D5 hk] at q ⊢;exact ih e2 rr q
def j0[DecidableEq κ]:∀{kvs:List (κ×α)}{ws:List (κ×β)},ws.map (·.1)=kvs.map (·.1)->(ws.any λkv=>decide (kv.1=k))=kvs.any λkv=>decide (kv.1=k):=by
 intro kvs;induction kvs with
 |
  nil=>
  intro ws e;cases ws with
  |nil=>rfl
  |cons _ _=>cases e
 |
  cons p kvs ih=>
  intro ws e;cases ws with
  |nil=>cases e
  |cons w ws=>rw[z_,z_] at e;injection e with e1 e2;rw[EB,EB,ih e2,e1]
def tI{k:Key}{d:D}{v:V}(rd:RelD K mg ρ H d v){kvs:List (Key×D)}{ws:List (Key×V)}(e:ws.map (·.1)=kvs.map (·.1))(r:RelDs K mg ρ H (kvs.map (·.2)) (ws.map (·.2))):(bp ws k v).map (·.1)=(et kvs k d).map (·.1)/\RelDs K mg ρ H ((et kvs k d).map (·.2)) ((bp ws k v).map (·.2)):=by
 unfold bp et;rw[j0 e];by_cases hc:(kvs.any λkv=>decide (kv.1=k))=true
 .rw[if_pos hc,if_pos hc];clear hc;induction kvs generalizing ws with
  |
   nil=>
   cases ws with
   |nil=>exact⟨rfl,.nil⟩
   |cons _ _=>cases e
  |
   cons p kvs ih=>
   cases ws with
   |nil=>cases e
   |
    cons w ws=>
    obtain⟨k1,d1⟩:=p;obtain⟨k2,v2⟩:=w;rw[z_,z_] at e;injection e with e1 e2;dsimp only at e1;subst e1;cases r with
    |
     cons r rr=>
     obtain⟨h1,h2⟩:=ih e2 rr;simp only[z_];by_cases hk:k2=k
     .rw[if_pos hk,if_pos hk];exact⟨by rw[h1],.cons rd h2⟩
     .rw[if_neg hk,if_neg hk];exact⟨by rw[h1],.cons r h2⟩
 .rw[if_neg hc,if_neg hc,ET,ET,ET,ET,e];exact⟨rfl,r.append (.cons rd .nil)⟩
def jP:D->D->AH->R D:=λx y h=>match x with
 |.ref n=>(match y with
  |.str k=>(match h[n]? with
   |some (.dct kvs)=>(match lkD kvs (.inr k) with
    |some d=>.ok d h
    |none=>.stuck)
   |_=>.stuck)
  |_=>.stuck)
 |_=>.stuck
def wD(o i v:D)(h:AH):R Unit:=match o with
 |.ref n=>(match i with
  |.str k=>(match h[n]? with
   |some (.dct kvs)=>if kvs.length<16777216 then .ok () (h.set n (.dct (et kvs (.inr k) v))) else .stuck
   |_=>.stuck)
  |_=>.stuck)
 |_=>.stuck
def nO:nA:=λo i v H Q=>∃a H4,o=.ref a/\DPut H a i v H4/\Q H4
variable{X:Cx}{ES:St->XK}{a b:Expr}{F G:ME}{pos:Pos}
def rL(hu:X.A.units+1<cLine):ku X nO:=λpins s σ H o i v ov iv u Q I ro ri rv ⟨a,H4,eo,g,q⟩=>by subst eo;obtain rfl:ov=Value.ref a:=ro;exact oH hu I g ri rv λs4 I4=>⟨H4,I4,q⟩
def uY:iY K mg nO wD:=λρ h H do_ di dv o i v Q E w ro ri rv p=>by
 unfold wD at p;split at p
 .split
   at p
  .split
    at p
   .rename_i n k _ kvs e;split at p
    .rename_i hl;cases ro with
     |
      ref ea=>
      cases ri;obtain⟨ws,h1,h2,h3⟩:=w.ob _ _ _ ea e;have hlen:ws.length=kvs.length:=by have:=Ey List.length h2;simpa using this
      have l:Le ρ H ρ (upd H _ (.dK (bp ws (.inr k) v))):=fI h1 ng;obtain⟨k1,k2⟩:=tI (k:=.inr k) rv h2 h3;exact⟨_,_,rfl,DPut.k (k:=.inr k) h1 (by rw[hlen];exact hl),p ρ _ l (w.write ea h1 ng ⟨_,ba,k1,k2.mono l⟩)⟩
    .exact p.elim
   .exact p.elim
  .exact p.elim
 .exact p.elim
def vH(hu:X.A.units+1<cLine)(ha:DE K mg X ES a F)(hb:DE K mg X ES b G)(hs:nc b):DE K mg X ES (.Subscript a b pos) (eOp jP F G):=PE.imp (vX hu ha hb hs) λσ H Q q_=>q_.el λρ h ae w re p=>⟨ρ,h,ae,w,re,p.bind.imp λdx h1 ρ1 H1 l1 w1 p1 x rx=>⟨ρ1,h1,ae,w1,re.mono l1,p1.bind.imp λdy h2 ρ2 H2 l2 w2 p2 y ry=>by
 have rx2:=rx.mono l2;unfold jP at p2;split at p2
 .split
   at p2
  .split
    at p2
   .rename_i n k _ kvs e;split at p2
    .rename_i d q;cases rx2 with
     |ref ea=>cases ry;obtain⟨ws,k1,k2,k3⟩:=w2.ob _ _ _ ea e;obtain⟨v,q1,rv⟩:=u7 k2 k3 q;refine⟨_,v,rfl,?_,aw w2 rv p2⟩;rw[<- q1];exact DGet.k (k:=.inr k) k1
    .exact p2.elim
   .exact p2.elim
  .exact p2.elim
 .exact p2.elim⟩⟩
def ie(ks:List Str)(A:MA):ME:=λae h=>(A ae (h++[.dct []])).bind λds h2=>match h2[h.length]? with
 |some (.dct [])=>if ks.length=ds.length then .ok (.ref h.length) (h2.set h.length (.dct ((ks.map Sum.inr).zip ds))) else .stuck
 |_=>.stuck
def aL:List (Str×ME)->MA
 | []=>iq
 |p::r=>eI p.2 (aL r)
def tps(K:W.Frag)(mg:Ga)(ES:St->XK)(prs:List (Str×ME)):List (TE×TE):=prs.map λp=>(tC (.str p.1),rdE K mg ES p.2)
theorem kx:∀(prs:List (Str×ME)) {ρ:List Addr}{h:AH}{ae:AE}{H:Hp}{Q:List (V×V)->Hp->Prop},Wd K mg ρ h H->RelE K mg ρ H ae σ->PostG K mg ρ H (ES σ) (λds _ ρ' H'=>∀vs,RelDs K mg ρ' H' ds vs->Q ((prs.map λp=>V.str p.1).zip vs) H') (aL prs ae h)->gM (tps K mg ES prs) σ H Q
 | [],ρ,h,ae,H,Q,w,re,p=>p ρ H Le.refl w [] .nil
 |pr::r,ρ,h,ae,H,Q,w,re,p=>⟨ρ,h,ae,w,re,(PostG.bind p).imp λd h1 ρ1 H1 l1 w1 p1 y ry=>kx r w1 (re.mono l1) ((PostG.bind p1).imp λds h2 ρ2 H2 l2 w2 p2 vs rs=>p2 ρ2 H2 Le.refl w2 (y::vs) (.cons (ry.mono l2) rs))⟩
theorem lx:∀(more acc:List (Key×V)),((acc++more).map (·.1)).Nodup->dk acc more=acc++more
 | [],acc,_=>(Fb _).symm
 |
  (k,v)::more,acc,h=>by
  show dk (bp acc k v) more=_;have hk:bX acc k=none:=by unfold bX;rw[Option.map_eq_none_iff,List.find?_eq_none];intro p hp z;have z:=Fp z;rw[ET,List.nodup_append] at h;exact h.2.2 p.1 (List.mem_map_of_mem hp) k (D7 ..) z
  rw[sI v hk,lx more (acc++[(k,v)]) (by rw[E1];exact h),E1];rfl
def vz:PPs X pos [] [] (tps K mg ES []):=wO
def rO(hv:DE K mg X ES v F)(hr:PPs X pos ks vs (tps K mg ES prs)):PPs X pos (some (.Constant (.str k) j kp)::ks) (v::vs) (tps K mg ES ((k,F)::prs)):=rZ pV hv hr
theorem kE:∀(ks:List Str) (vs:List V),(ks.map V.str).zip vs=((ks.map Sum.inr).zip vs).map λkv:Key×V=>(kV kv.1,kv.2)
 | [],_=>rfl
 |_::_,[]=>rfl
 |
  k::ks,v::vs=>by
  show (V.str k,v)::(ks.map V.str).zip vs=_;rw[kE ks vs];rfl
def uX(hp:PPs X pos keys values (tps K mg ES prs))(hall:keys.all (·.isSome)=true)(hl:keys.length=values.length)(h0:keys≠[])(h15:keys.length<=15)(hn:(prs.map (·.1)).Nodup)(hp15:prs.length<=15):DE K mg X ES (.Dict keys values pos) (ie (prs.map (·.1)) (aL prs)):=PE.imp (uP hp hall hl h0 h15) λσ H Q q_=>q_.el λρ h ae w re p=>λpp hpp=>by
 have l:Le ρ H (ρ++[pp]) (upd H pp (.dK [])):=(bB hpp).trans ir;have w1:=w.alloc hpp (o:=.dct []) (u:=.dK []) ⟨[],ba,rfl,.nil⟩;refine kx prs w1 (re.mono l) ((PostG.mono l (PostG.bind p)).imp λds h2 ρ2 H2 l2 w2 p2 vs rs=>?_);split at p2
 .rename_i e;split at p2
  .rename_i hlen;have ea:ρ2[h.length]?=some pp:=l2.pre _ _ (by rw[<- w.len,Eb (v_ _),FD];rfl);obtain⟨ws,k1,k2,_⟩:=w2.ob _ _ _ ea e;have:ws=[]:=by cases ws with |nil=>rfl |cons _ _=>cases k2
   subst this;have hlv:vs.length=prs.length:=by rw[<- rs.len,<- hlen,o_]
   refine⟨k1,((prs.map (·.1)).map Sum.inr).zip vs,?_,?_,?_⟩
   .rw[<- kE,List.map_map];rfl
   .rw[List.length_zip,o_,o_];omega
   .have hz:(((prs.map (·.1)).map Sum.inr).zip vs:List (Key×V)).map (·.1)=(prs.map (·.1)).map Sum.inr:=List.map_fst_zip (by rw[o_,o_];omega);rw[lx _ [] (by rw[Et,hz];exact List.Pairwise.map _ (λa b hab z=>hab (Sum.inr.inj z)) hn),Et];have l3:Le ρ2 H2 ρ2 (upd H2 pp (.dK (((prs.map (·.1)).map Sum.inr).zip vs))):=fI k1 ng;refine p2 ρ2 _ l3 (w2.write ea k1 ng ⟨_,ba,?_,?_⟩) _ (.ref ea)
    .rw[hz,List.map_fst_zip (by rw[o_];omega)]
    .rw[List.map_snd_zip (by rw[o_];omega),List.map_snd_zip (by rw[o_,o_];omega)];exact rs.mono l3
  .exact p2.elim
 .exact p2.elim
end
def pC(bs:List Bool):((List.range bs.length).any λi=>bs.getD i false)=bs.any id:=by
 rw[Bool.eq_iff_iff,List.any_eq_true,List.any_eq_true];constructor
 .rintro⟨i,hi,h⟩;have hi':=EL.mp hi;exact⟨bs[i],List.getElem_mem hi',by simpa [DP,hi'] using h⟩
 .rintro⟨x,hx,h⟩;obtain⟨i,hi,rfl⟩:=List.mem_iff_getElem.mp hx;exact⟨i,EL.mpr hi,by simpa [DP,hi] using h⟩
section
variable{X:Cx}
def sO(hc:X.calm=true):CallR X (.builtin "any") (λxs H Q=>∃(a:Addr) (bs:List Bool),xs=[.ref a]/\SqL X.K H a (bs.map V.bl)/\Q (.bl (bs.any id)) H):=by
 intro pins s σ H xs us Q I r h;obtain⟨a,bs,rfl,hq,q⟩:=h;obtain⟨u,rfl,ru⟩:=eP r;cases ru;obtain⟨its,rv,p,hz⟩:=I.list hq;have hl:=rv.length;rw[o_] at hl;have hlt:a<s.heap.objs.size:=by obtain⟨o,n,e,_⟩:=p;exact x_ e
 refine call_any_walk (wpAny_pyIter_list p.isList ?_);refine⟨s.heap.objs.size,_,_,_,_,_,λi=>bs.getD i false,rfl,Walks.list (A:=X.A.in1) (I.ok.hd hc) s.heap.objs.size a (D_ hlt) its.toArray,⟨⟨_,Ec _ rfl,rfl,rfl⟩,(p.keeps λb o e=>s_ _ e).isList⟩,λi v s' Q' E' hP hQ=>?_,λh' tk hk=>?_⟩
 .have hP':its[i]?=some v:=by simpa using hP
  have hi:i<bs.length:=by rw[hl];exact (p_.mp hP').1
  have hb:(bs.map V.bl)[i]?=some (V.bl bs[i]):=by simp [hi]
  obtain⟨u,hu,ru⟩:=rv.get hb;rw[hP'] at hu;cases hu;cases ru;refine Ez ?_;have e:bs.getD i false=bs[i]:=by simp [DP,hi]
  show Q' bs[i] s';rw[<- e];exact hQ
 .have e1:its.toArray.size=bs.length:=by rw[w_,hl]
  rw[e1,pC];have hn:H s.heap.objs.size=none:=I.fresh;have I1:Inv X pins σ H { s with heap:=s.heap.push { cls:=.type "list_iterator",dict:=none,data:=.fields #[.ref a,rawInt 0] } }:=I.kept (t':=s.toks) λb o e=>s_ _ e;refine⟨.bl _,H,?_,rfl,q⟩;refine I.kept (t':=tk) λb o e=>?_;have hne:b≠s.heap.objs.size:=D_ (x_ e);exact hk b o (by simpa using hne) (s_ _ e)
def anyK{K:W.Frag}(h:X.K=K)(hc:X.calm=true):CallR X (.builtin "any") (λxs H Q=>∃(a:Addr) (bs:List Bool),xs=[.ref a]/\SqL K H a (bs.map V.bl)/\Q (.bl (bs.any id)) H):=by subst h;exact sO hc
end
def j4:Fn:=λds h=>match ds with
 | [.ref n]=>match (aD h n).bind cH with
  |some bs=>.ok (.bl (bs.any id)) h
  |none=>.stuck
 |_=>.stuck
section
variable{K:W.Frag}{mg:Ga}
def xV:aZ K mg (λxs H Q=>∃(a:Addr) (bs:List Bool),xs=[.ref a]/\SqL K H a (bs.map V.bl)/\Q (.bl (bs.any id)) H) j4:=λρ h H ds vs Q E w rs p=>by
 unfold j4 at p;split at p
 .cases
   rs with
  |
   cons r rs=>
   cases r with
   |
    ref ea=>
    cases rs;split at p
    .rename_i bs e;obtain⟨xs,q,e2⟩:=Eh.mp e
     .obtain⟨vs,h1,h2⟩:=aR w ea q;rw[gH e2] at h2;rw[h2.bls] at h1;exact⟨_,bs,rfl,h1,aw w (.bl _) p⟩
    .exact p.elim
 .exact p.elim
noncomputable def gU:List D->Option (List Int)
 | []=>some []
 |.int i::ds=>(gU ds).map (i :: ·)
 |_::_=>none
theorem jf{ρ:List Addr}{H:Hp}:∀{ds:List D}{vs:List V}{ns:List Int},RelDs K mg ρ H ds vs->gU ds=some ns->vs=ns.map V.int
 | [],_,_,r,e=>by cases r;cases e;rfl
 |
  d::ds,_,ns,r,e=>by
  cases r with
  |
   cons r rr=>
   cases d with
   |int i=>obtain⟨ms,e1,rfl⟩:=DZ.mp e;cases r;rw[jf rr e1];rfl
   |_=>cases e
end
def lW(a b:Int):Builtin.Range.rangeSize a b (-1)=if b<a then a-b else 0:=by unfold Builtin.Range.rangeSize;rw[if_neg (by decide)];simp only[Int.neg_neg,Int.ediv_one];split <;> omega
def qK{a b:Int}(h1:-(2^62)<=a)(h2:a<2^62)(h3:-(2^62)<=b)(h4:b<2^62):Builtin.Range.small a b (-1)=true:=by unfold Builtin.Range.small;rw[lW];simp only[Builtin.Range.rangeFitsLong,t_,Bool.or_eq_true,decide_eq_true_eq,Ea,show ¬ (-1:Int)>0 by decide,E8];split <;> omega
def uA{P:Program}{w:World}{K:W.Frag}{tg:Expr}(r:Addr)(lo:Int)(n:Nat):Turn P w K tg (Itd lo n) [r] r (λj g=>IsRangeIter g r (lo+(j:Nat)*(-1)) ((n:Int)-(j:Nat)) (-1)) where
 mem:=Ei.mpr rfl
 obj:=λj g q c hc=>by obtain rfl:c=r:=Ei.mp hc;exact⟨_,q,λv z=>by have z':Data.fields _=.cell v:=z;cases z'⟩
 keep:=λj g g' q k=>k r (Ei.mpr rfl) _ q
 item:=by
  rintro X rfl rfl rfl hc j pins s σ H E I hf q hj;obtain⟨y0,y1,y2,y3,y4,y5⟩:=hf r (Ei.mpr rfl);refine (Walks.range (prog:=X.prog) (w:=X.w) (I.ok.hd hc) r lo (-1) n).item j s _ _ hj q λv g tk hv q' kk=>?_;obtain⟨t,rfl⟩:=hv;have e:lo+((j:Nat):Int)*(-1)=lo-j:=by omega
  exact⟨_,rfl,jM (s:={ s with heap:=g,toks:=tk }) (n:="range_iterator") q' rfl rfl (by decide) ⟨.int (lo-j),H,I.turned (λb o hb e=>kk b o (by simpa using hb) e) y0 y1 y3 y4 y5,⟨t,by rw[e]⟩,⟨rfl,rfl⟩,q',λb hb=>(hf b hb).1⟩⟩
 done:=by rintro X rfl rfl rfl hc j pins s σ H E I hf q hj;obtain⟨y0,y1,y2,y3,y4,y5⟩:=hf r (Ei.mpr rfl);exact wpAny_pyNext_range_end (I.ok.hd hc) q (by have:n<=j:=hj;omega) λg eb=>⟨rfl,I.turned (t':=s.toks) (λb o hb e=>eb b o hb e) y0 y1 y3 y4 y5⟩
 self:=λ_ _ _ _ _ q h=>wpAny_pyIter_rangeiter q h
section
variable{X:Cx}{tg:Expr}{p pos:Pos}{a b c:Expr}
def Cu(ta:TA):TI:=λσ H R=>ta σ H λvs H1=>∃i j:Int,vs=[.int i,.int j,.int (-1)]/\(-(2^62)<=i/\i<2^62/\-(2^62)<=j/\j<2^62)/\R (Itd i (i-j).toNat) H1
def oF(hg:Gl X "range")(hm:X.mg "range"=none)(ha:PA X [a,b,c] ta)(hs:starEach [a,b,c] X.env=[(false,eval a X.env),(false,eval b X.env),(false,eval c X.env)])(hs2:starEach [b,c] X.env=[(false,eval b X.env),(false,eval c X.env)]):
 PI X tg (.Call (.Name "range" p) [a,b,c] [] pos) (Cu ta):=by
 intro pins s σ H R I h;refine Call_ (fi I hg hm boot_range (E5 (thn (ha pos pins s σ H _ I h) λus s1 ⟨vs,H1,I1,r1,q1⟩=>?_) (by rw[hs,hs2]) (by rw[hs2];rfl)));obtain⟨i,j,rfl,⟨q1,q2,q3,q4⟩,q⟩:=q1;cases r1 with
 |
  cons r rr=>
  cases rr with
  |
   cons r' rr=>
   cases rr with
   |
    cons r'' rr=>
    cases rr;obtain⟨t,rfl⟩:=r;obtain⟨t',rfl⟩:=r';obtain⟨t'',rfl⟩:=r'';refine call_range_3 (by decide) ?_ (.inl (PyProof.noPylong_small (by decide)));refine wpAny_pyIter_range (IsRange.new ..) (qK q1 q2 q3 q4) ?_;have I2:Inv X pins σ H1 { s1 with heap:=s1.heap.push { cls:=.type "range",data:=.fields #[.int i t,.int j t',.int (-1) t''] },toks:=s1.toks }:=I1.kept λb o e=>s_ _ e;generalize s1.heap.push { cls:=.type "range",data:=.fields #[.int i t,.int j t',.int (-1) t''] }=g at *;refine⟨g.objs.size,[g.objs.size],_,_,H1,rfl,I2.kept (t':=s1.toks) λb o e=>s_ _ e,uA _ i (i-j).toNat,?_,λb hb=>?_,q⟩
    .have e2:(((i-j).toNat:Nat):Int)-((0:Nat):Int)=Builtin.Range.rangeSize i j (-1):=by rw[lW];split <;> omega
     show IsRangeIter _ _ (i+((0:Nat):Int)*(-1)) ((((i-j).toNat:Nat):Int)-((0:Nat):Int)) (-1);rw[show i+((0:Nat):Int)*(-1)=i from by omega,e2];exact Ec _ rfl
    .obtain rfl:b=g.objs.size:=Ei.mp hb;exact I2.fpOk (v_ _) (I2.hok.fresh (v_ _))
def tj(A:MA):MI:=λae h=>(A ae h).bind λds h1=>match ds with
 | [.int i,.int j,.int k]=>if k=-1/\-(2^62)<=i/\i<2^62/\-(2^62)<=j/\j<2^62 then .ok (.rgd i (i-j).toNat) h1 else .stuck
 |_=>.stuck
def pM{K:W.Frag}{mg:Ga}{ES:St->XK}{A:MA}(hg:Gl X "range")(hm:mg "range"=none)(ha:DA K mg X ES [a,b,c] A)(hk:X.mg=mg)(hs:starEach [a,b,c] X.env=[(false,eval a X.env),(false,eval b X.env),(false,eval c X.env)])(hs2:starEach [b,c] X.env=[(false,eval b X.env),(false,eval c X.env)]):DI K mg X ES tg (.Call (.Name "range" p) [a,b,c] [] pos) (tj A):=by
 subst hk;refine PI.imp (oF hg hm ha hs hs2) λσ H R ⟨ρ,h,ae,w,re,p⟩=>⟨ρ,h,ae,w,re,p.bind.imp λds h1 ρ1 H1 l1 w1 p1 vs rs=>?_⟩;split at p1
 .cases
   rs with
  |
   cons r rs=>
   cases rs with
   |
    cons r2 rs=>
    cases rs with
    |
     cons r3 rs=>
     cases r;cases r2;cases r3;cases rs;split at p1
     .rename_i hb;obtain⟨rfl,hb⟩:=hb;exact⟨_,_,rfl,hb,p1 ρ1 H1 Le.refl w1 _ rfl⟩
     .exact p1.elim
 .exact p1.elim
end
open PySem PySem.W PyProof.Rows
abbrev Ask:=Nat->Nat->(Bool->Shared->Prop)->Shared->Prop
variable{lt:Nat->Nat->Bool}{N:Nat}{cmp:Ask}{s:Shared}
open PySem PySem.W PySem.Calls PyProof.Rows
noncomputable def lexP(x y:Int×Int):Bool:=decide (x.1<y.1\/(x.1=y.1/\x.2<y.2))
def wW{α:Type}(d:α)(ks:List α):((List.range ks.length).map λi=>ks.getD i d)=ks:=List.ext_getElem (by simp) λi _ h=>by simp [h]
def ltP(ks:List (Int×Int))(i j:Nat):Bool:=lexP (ks.getD i (0,0)) (ks.getD j (0,0))
set_option maxHeartbeats 4000000
open PySem PySem.W PySem.Calls PyProof.Rows PySem.SeqAt
open PySem.MeetsSeq PySem.MeetsSeq2 PySem.MeetsSeq3
def lxL:List Int->List Int->Bool
 |x::xs,y::ys=>if x=y then lxL xs ys else decide (x<y)
 | [],_::_=>true
 |_,[]=>false
def cq(its:Array Value)(xs:List Int):Prop:=its.size=xs.length/\∀j (h:j<its.size),∃t,its[j]=.int (xs.getD j 0) t
def lR{xs:List Int}{i:Nat}(h:i<xs.length):xs.drop i=xs.getD i 0::xs.drop (i+1):=by rw[DP,DQ h];exact Fc h
def wF(l b:Addr)(items items2:Array Value)(n n2:Nat)(dd dd2:Option Addr)(sl sl2:Array (Option Value)){xs ys:List Int}(h1:cq items xs)(h2:cq items2 ys)(hsz:xs.length=ys.length)(k:Nat):
 ∀
  i:Nat,xs.length-i=k->Meets (Builtin.«list.__eq__.loop» ⟨[.ref l,.ref b,rawInt i,rawInt 0],[]⟩)
  (λA R s=>s.heap.get? l=some { cls:=.type "list",dict:=dd,data:=.seq items n,slots:=sl }/\s.heap.get? b=some { cls:=.type "list",dict:=dd2,data:=.seq items2 n2,slots:=sl2 }/\
   R (.ok (.ret (.bool (lxL (xs.drop i) (ys.drop i))))) s):=by
 have z1:=h1.1;have z2:=h2.1;induction k with
 |
  zero=>
  intro i hk prog w A R s h;obtain⟨hp,g,d,tk,os⟩:=s;obtain⟨hl,hb,h⟩:=h
  wp_walk using El hl,El hb
  have hi1:items[((i:Nat):Int).toNat]?=none:=by simp;omega
  have hi2:items2[((i:Nat):Int).toNat]?=none:=by simp;omega
  rw[Ed (by omega),Ed (by omega)] at h;rw[hi1,hi2]
  wp_walk using El hl,El hb
  show R (.ok (.ret (.bool (decide (items.size<items2.size))))) _;rw[D5 (by omega)];exact h
 |
  succ k ih=>
  intro i hk prog w A R s h;obtain⟨hp,g,d,tk,os⟩:=s;obtain⟨hl,hb,h⟩:=h
  wp_walk using El hl,El hb
  have hlt:i<items.size:=by omega
  have hlt2:i<items2.size:=by omega
  obtain⟨t,e1⟩:=h1.2 i hlt;obtain⟨u,e2⟩:=h2.2 i hlt2;have hi1:items[((i:Nat):Int).toNat]?=some (.int (xs.getD i 0) t):=by rw[<- e1];simp [hlt]
  have hi2:items2[((i:Nat):Int).toNat]?=some (.int (ys.getD i 0) u):=by rw[<- e2];simp [hlt2]
  have hc:((i:Int)+1)=((i+1:Nat):Int):=by push_cast;rfl
  rw[lR (xs:=xs) (i:=i) (by omega),lR (xs:=ys) (i:=i) (by omega),lxL] at h;rw[hi1,hi2];refine r_ (EqAt.int_int _ t _ u prog w _ _ ?_);by_cases he:xs.getD i 0=ys.getD i 0
  .rw[if_pos he] at h;rw[Ea.mpr he]
   wp_walk
   rw[hc];exact⟨plainId_quiet plain_eq_loop _,codeAny_builtin entry_eq_loop (by rw[Around.under_plainId plain_eq_loop _];exact ih (i+1) (by omega) prog w A R _ ⟨hl,hb,h⟩)⟩
  .rw[if_neg he] at h;rw[D2.mpr he]
   wp_walk using El hl,El hb
   rw[hi1,hi2];refine r_ (lt_int ?_)
   wp_walk
   exact h
def qt(l b:Addr)(items items2:Array Value)(n n2:Nat)(dd dd2:Option Addr)(sl sl2:Array (Option Value)){xs ys:List Int}(h1:cq items xs)(h2:cq items2 ys)(hsz:xs.length=ys.length):
 Meets (Builtin.«list.__lt__» ⟨[.ref l,.ref b],[]⟩)
  (λA R s=>s.heap.get? l=some { cls:=.type "list",dict:=dd,data:=.seq items n,slots:=sl }/\s.heap.get? b=some { cls:=.type "list",dict:=dd2,data:=.seq items2 n2,slots:=sl2 }/\
   R (.ok (.ret (.bool (lxL xs ys)))) s):=by
 intro prog w A R s h;obtain⟨hp,g,d,tk,os⟩:=s;obtain⟨hl,hb,h⟩:=h;have f3:=AutoSeq1.sub_list_list
 wp_walk using El hl,El hb
 exact⟨plainId_quiet plain_eq_loop _,codeAny_builtin entry_eq_loop (by rw[Around.under_plainId plain_eq_loop _];exact wF l b items items2 n n2 dd dd2 sl sl2 h1 h2 hsz _ 0 rfl prog w A R _ ⟨hl,hb,by simpa using h⟩)⟩
section
variable{prog:Program}{w:World}{A:Around}{E:Gd}{s:Shared}
def rA{l b:Addr}{items items2:Array Value}{xs ys:List Int}{Q:Gd}(hl:s.heap.IsList l items)(hb:s.heap.IsList b items2)(h1:cq items xs)(h2:cq items2 ys)(hsz:xs.length=ys.length)(hu:A.units<cLine)(h:Q (.bool (lxL xs ys)) s):wpAny (model prog w) A (compareOp .Lt (.ref l) (.ref b)) Q E s:=by
 obtain⟨⟨cls,dd,data,sl⟩,ho,hc,n,hd⟩:=id hl;obtain⟨⟨cls2,dd2,data2,sl2⟩,ho2,hc2,n2,hd2⟩:=id hb;simp only at hc hd hc2 hd2;subst hc hd hc2 hd2;exact richCompare_meets_room (op:=.Lt) ⟨_,ho,rfl⟩ ⟨_,ho2,rfl⟩ F.slot_list_lt F.entry_list_lt (F.args_list_lt_2 _ _) (qt l b items items2 n n2 dd dd2 sl sl2 h1 h2 hsz)
  ⟨ho,ho2,show Value.bool (lxL xs ys)≠Value.notImplemented/\Q (.bool (lxL xs ys)) s from ⟨(λx=>nomatch x),h⟩⟩ hu
theorem pk:∀{xs ys:List Int},xs.length=ys.length->((List.range xs.length).all λj=>xs.getD j 0==ys.getD j 0)=decide (xs=ys)
 | [],[],_=>rfl
 |
  x::xs,y::ys,h=>by
  have ih:=pk (xs:=xs) (ys:=ys) (by simpa using h);rw[DR,Fs,EO,List.all_map];show (x==y&&(List.range xs.length).all λj=>xs.getD j 0==ys.getD j 0)=_;rw[ih];by_cases e:x=y <;> by_cases e2:xs=ys <;> simp [e,e2]
def s9{l b:Addr}{items items2:Array Value}{xs ys:List Int}(hl:s.heap.IsList l items)(hb:s.heap.IsList b items2)(h1:cq items xs)(h2:cq items2 ys)(hsz:xs.length=ys.length)(hu:A.units<cLine):EqAt A s (.ref l) (.ref b) (decide (xs=ys)):=by
 by_cases e:l=b
 .subst e;obtain⟨o,ho,hc,n,hd⟩:=hl;obtain⟨o2,ho2,hc2,n2,hd2⟩:=hb;rw[ho] at ho2;cases ho2;rw[hd] at hd2;cases hd2;have:xs=ys:=List.ext_getElem hsz λj g1 g2=>by obtain⟨t,q1⟩:=h1.2 j (by rw[h1.1];exact g1);obtain⟨u,q2⟩:=h2.2 j (by rw[h1.1];exact g1);rw[q1] at q2;injection q2 with q2;rw[DP,DP,DQ g1,DQ g2] at q2;exact q2
  rw[Ek this];exact EqAt.same _
 .refine EqAt.of_refs e ?_;rw[<- pk hsz,<- h1.1];exact RcAt.lists hl hb (by rw[h1.1,h2.1,hsz]) hu λj g1 g2=>by obtain⟨t,q1⟩:=h1.2 j g1;obtain⟨u,q2⟩:=h2.2 j g2;rw[q1,q2];exact EqAt.int_int _ t _ u
end
abbrev Trp:=Int×List Int
def lxT(x y:Trp):Bool:=if x.1=y.1 then (if x.2.length=y.2.length then lxL x.2 y.2 else decide (x.2.length<y.2.length)) else decide (x.1<y.1)
def TrpAt(h:Heap)(v:Value)(x:Trp):Prop:=∃(a:Addr) (e:Nat) (dd:Option Addr) (sl:Array (Option Value)) (t1 t2:Tok) (l:Addr) (its:Array Value),v=.ref a/\h.get? a=some { cls:=.type "tuple",dict:=dd,data:=.seq #[.int x.1 t1,.int (x.2.length:Nat) t2,.ref l] e,slots:=sl }/\h.IsList l its/\cq its x.2
theorem ki:∀xs:List Int,lxL xs xs=false
 | []=>rfl
 |x::xs=>by rw[lxL,if_pos rfl];exact ki xs
section
variable{prog:Program}{w:World}{A:Around}{E:Gd}{s:Shared}
def xw{v u:Value}{x y:Trp}{Q:Bool->Shared->Prop}(hr:A.units<cLine)(hv:TrpAt s.heap v x)(hu:TrpAt s.heap u y)(h:Q (lxT x y) s):wpAny (model prog w) A (keyLt' (tuples' true) v u) Q E s:=by
 obtain⟨a,e,dd,sl,t1,t2,l,its,rfl,ha,hl,hi⟩:=hv;obtain⟨b,e',dd',sl',t3,t4,l',its',rfl,hb,hl',hi'⟩:=hu;refine kat_lt ha rfl hb rfl ?_;show KatLex prog w A true false Q [(.int x.1 t1,.int y.1 t3),(.int (x.2.length:Nat) t2,.int (y.2.length:Nat) t4),(.ref l,.ref l')] 0 s;refine kat_cons (wpAny_eqBool_int ?_);unfold lxT at h;by_cases h1:x.1=y.1
 .rw[show (x.1==y.1)=true from Ea.mpr h1];rw[if_pos h1] at h;refine kat_yes (kat_cons (wpAny_eqBool_int ?_));by_cases h2:x.2.length=y.2.length
  .rw[show (((x.2.length:Nat):Int)==((y.2.length:Nat):Int))=true from Ea.mpr (by rw[h2])];rw[if_pos h2] at h;refine kat_yes (kat_cons (s9 hl hl' hi hi' h2 hr prog w _ _ ?_));by_cases h3:x.2=y.2
   .rw[Ek h3];rw[h3,ki] at h;exact kat_yes (kat_nil h)
   .rw[D5 h3];exact kat_no (kat_one _ _ (rA hl hl' hi hi' h2 hr h))
  .rw[show (((x.2.length:Nat):Int)==((y.2.length:Nat):Int))=false from D2.mpr (by omega)];rw[if_neg h2] at h;refine kat_no (kat_one _ _ (lt_int ?_));rw[show decide (((x.2.length:Nat):Int)<((y.2.length:Nat):Int))=decide (x.2.length<y.2.length) from decide_eq_decide.mpr (by omega)];exact h
 .rw[show (x.1==y.1)=false from D2.mpr h1];rw[if_neg h1] at h;exact kat_no (oneLt_int h)
def TrpsAt(h:Heap):List Value->List Trp->Prop
 | [],[]=>True
 |v::vs,x::xs=>TrpAt h v x/\TrpsAt h vs xs
 |_,_=>False
theorem TrpsAt.len{h:Heap}:∀{vs:List Value}{xs:List Trp},TrpsAt h vs xs->vs.length=xs.length
 | [],[],_=>rfl
 | [],_::_,t=>t.elim
 |_::_,[],t=>t.elim
 |_::_,_::_,t=>by rw[DR,DR,t.2.len]
theorem TrpsAt.get{h:Heap}:∀{vs:List Value}{xs:List Trp} (i:Nat),TrpsAt h vs xs->i<xs.length->TrpAt h (vs.getD i Value.none) (xs.getD i (0,[]))
 | [],[],i,_,hi=>absurd hi (by simp)
 | [],_::_,i,t,_=>t.elim
 |_::_,[],i,t,_=>t.elim
 |_::_,_::_,0,t,_=>t.1
 |_::vs,_::xs,i+1,t,hi=>TrpsAt.get (vs:=vs) (xs:=xs) i t.2 (by simpa using hi)
theorem TrpsAt.imp{h h':Heap}(k:∀v x,TrpAt h v x->TrpAt h' v x):∀{vs:List Value}{xs:List Trp},TrpsAt h vs xs->TrpsAt h' vs xs
 | [],[],_=>trivial
 | [],_::_,t=>t.elim
 |_::_,[],t=>t.elim
 |_::_,_::_,t=>⟨k _ _ t.1,t.2.imp k⟩
theorem TrpsAt.kat{h:Heap}:∀{vs:List Value}{xs:List Trp},TrpsAt h vs xs->∃fs,KatTups h vs fs/\fs.length=xs.length/\∀f∈fs,∃i t,f=Value.int i t
 | [],[],_=>⟨[],trivial,rfl,λf z=>nomatch z⟩
 | [],_::_,t=>t.elim
 |_::_,[],t=>t.elim
 |
  _::_,x::_,t=>by
  obtain⟨fs,k,l,q⟩:=t.2.kat;obtain⟨a,e,dd,sl,t1,t2,_,_,rfl,ha,_⟩:=t.1;refine⟨.int x.1 t1::fs,⟨⟨a,_,_,_,rfl,ha,rfl,rfl,rfl⟩,k⟩,by rw[DR,DR,l],λf hf=>?_⟩;rcases Eg.mp hf with rfl |hf
  .exact⟨_,_,rfl⟩
  .exact q f hf
def ou{vs:List Value}{xs:List Trp}{Q:SortKind->Shared->Prop}(t:TrpsAt s.heap vs xs)(h2:2<=xs.length)(h:Q (tuples' true) s):wpAny (model prog w) A (keyKind' vs.toArray) Q E s:=by obtain⟨fs,k,l,q⟩:=t.kat;refine kat_kind (T:=.type "int") k (by omega) (λf hf=>?_) (by decide) h;obtain⟨i,t,rfl⟩:=q f hf;exact .now
def mx{n k:Nat}(h:k<n):(List.toArray (List.range n)).getD k 0=k:=by simp [Array.getD,h]
theorem oV{κ:SortKind}{it:Array Keyed}{n:Nat}(hc:∀i (C:Bool->Shared->Prop),1<=i->i<n->C false s->kas_cmp prog w A κ it i (i-1) C s){Q:Nat->Shared->Prop}(hq:Q n s):∀f k,k+f=n->1<=k->(kas_asc (List.toArray (List.range n)) f k).kasWp (kas_cmp prog w A κ it) Q s
 |
  0,k,h,_=>by
  obtain rfl:k=n:=by omega
  exact hq
 |
  f+1,k,h,h1=>by
  show kas_cmp prog w A κ it ((List.toArray (List.range n)).getD k 0) ((List.toArray (List.range n)).getD (k-1) 0) _ s;rw[mx (by omega),mx (by omega)];refine hc k _ h1 (by omega) ?_;show (if false=true then _ else kas_asc _ f (k+1)).kasWp _ _ _;rw[if_neg (by decide)];exact oV hc hq f (k+1) (by omega) (by omega)
def uz{κ:SortKind}{it:Array Keyed}{n:Nat}{Q:Unit->SortSt->Shared->Prop}(h2:2<=n)(hmr:¬ n<minRun' n n 0)(hc:∀i (C:Bool->Shared->Prop),1<=i->i<n->C false s->kas_cmp prog w A κ it i (i-1) C s)(hQ:∀st',arrOf st'=(List.toArray (List.range n)).map (kas_item it)->failedOf st'=none->Q () st' s):
 kasC (model prog w) A E sortRuns' Q (kas_st κ it (List.toArray (List.range n))) s:=by
 obtain⟨r,rfl⟩:∃r,n=r+2:=⟨n-2,by omega⟩;have hrs:(List.toArray (List.range (r+2))).size=r+2:=by simp
 rw[sortRuns'_eq];refine kasC_bind (kasC_get ?_);dsimp only;have hsz:(arrOf (kas_st κ it (List.toArray (List.range (r+2))))).size=r+2:=by show ((List.toArray (List.range (r+2))).map (kas_item it)).size=_;rw[Array.size_map,hrs]
 simp only[hsz];refine kasC_bind (kasC_range ?_);show kasC _ _ _ (forIn (0::1::List.range' 2 r) _ _) _ _ _;refine kasC_cons ?_;dsimp only;rw[if_neg (by omega)];simp only[Nat.sub_zero,Nat.zero_add];have hk:(kas_count (r+2) (List.toArray (List.range (r+2)))).kasWp (kas_cmp prog w A κ it) (λq s'=>q=(r+2,List.toArray (List.range (r+2)))/\s'=s) s:=by unfold kas_count;rw[KasT.kasWp_bind];refine oV hc ?_ _ 1 (by omega) (by omega);rw[if_pos (E7 _)];exact⟨rfl,rfl⟩
 refine kasC_bind (kas_count_ (by omega) (by rw[hrs];exact v_ _) (λm p' s' hm1 hm2 hp hg=>?_) hk);obtain⟨e,rfl⟩:=hg;cases e;dsimp only;rw[if_neg hmr];refine kasC_bind (kasC_get ?_);rw[show (pendingOf (kas_st κ it (List.toArray (List.range (r+2))))).back?=none from rfl];dsimp only;refine kasC_bind (kasC_modify (kasC_pure ?_));show kasC _ _ _ (forIn (1::List.range' 2 r) _ _) _ _ _;refine kasC_cons ?_;dsimp only;rw[if_pos (v_ _)];refine kasC_pure ?_;dsimp only;refine kasC_bind (kasC_range ?_);show kasC _ _ _ (forIn (0::1::List.range' 2 r) _ _) _ _ _;refine kasC_cons ?_;refine kasC_bind (kasC_get ?_);rw[if_pos (show (pendingOf (setPending (kas_st κ it (List.toArray (List.range (r+2)))) ((pendingOf (kas_st κ it (List.toArray (List.range (r+2))))).push (0,r+2,0)))).size<=1 from v_ 1)];refine kasC_pure ?_;dsimp only;exact kasC_pure (hQ _ rfl rfl)
end
def UpT(xs:List Trp):Prop:=∀i,1<=i->i<xs.length->lxT (xs.getD i (0,[])) (xs.getD (i-1) (0,[]))=false
def TrpAt.mono{h h':Heap}{v:Value}{x:Trp}(t:TrpAt h v x)(k:∀c o,h.get? c=some o->h'.get? c=some o):TrpAt h' v x:=by obtain⟨a,e,dd,sl,t1,t2,l,its,rfl,ha,⟨ol,g1,g2⟩,hi⟩:=t;exact⟨a,e,dd,sl,t1,t2,l,its,rfl,k a _ ha,⟨ol,k l _ g1,g2⟩,hi⟩
section
variable{prog:Program}{w:World}{A:Around}{E:Gd}{s:Shared}
def wq{β:Type}{vs:List Value}{xs:List Trp}{k:Unit×SortSt->Sem β}{P:β->Shared->Prop}(hr:A.units<cLine)(h2:2<=vs.length)(hmr:¬ vs.length<minRun' vs.length vs.length 0)(T:TrpsAt s.heap vs xs)(up:UpT xs)(h:∀st',(arrOf st').map (λp:Keyed=>p.2)=vs.toArray->failedOf st'=none->wpAny (model prog w) A (k ((),st')) P E s):
 wpAny (model prog w) A (let f:=λκ=>(if vs.toArray.size<2 then pure () else sortRuns').run (SortSt.mk' κ (vs.toArray.zip vs.toArray) #[] 7 none) >>= k;if vs.toArray.size<2 then pure general' >>= f else keyKind' vs.toArray >>= f) P E s:=by
 dsimp only;have kl:=T.len;rw[if_neg (by rw[w_];omega),if_neg (by rw[w_];omega)];refine r_ <| ou T (by omega) ?_;have run:=uz (prog:=prog) (w:=w) (A:=A) (E:=E) (κ:=tuples' true) (it:=vs.toArray.zip vs.toArray) (s:=s) (n:=vs.length) (Q:=λ_ st' s'=>s'=s/\wpAny (model prog w) A (k ((),st')) P E s) h2 hmr (λi C h1 hi c=>by
  rw[<- kat_ask_eq (ks:=vs) (vs:=vs) rfl];refine xw hr (T.get i (by omega)) (T.get (i-1) (by omega)) ?_;rw[up i h1 (by omega)];exact c) (λst' a1 a2=>⟨rfl,h st' (by
   have:=kat_snds (ks:=vs) (vs:=vs) rfl a1
   rw[wW] at this;exact this) a2⟩)
 have est:SortSt.mk' (tuples' true) (vs.toArray.zip vs.toArray) #[] 7 none=kas_st (tuples' true) (vs.toArray.zip vs.toArray) (List.toArray (List.range vs.length)):=by have e:=kas_range (vs.toArray.zip vs.toArray);rw[show (vs.toArray.zip vs.toArray).size=vs.length by simp] at e;show SortSt.mk' _ (vs.toArray.zip vs.toArray) #[] 7 none=SortSt.mk' _ ((List.toArray (List.range vs.length)).map (kas_item (vs.toArray.zip vs.toArray))) #[] 7 none;rw[e]
 rw[est];refine r_ <| Ee run ?_ λ_ _ z=>z;rintro⟨⟨⟩,st'⟩ _ ⟨rfl,z⟩;exact z
def o8{a:Addr}{vs:List Value}{n:Nat}{xs:List Trp}{P:PySem.Fin->Shared->Prop}(hr:A.units<cLine)(ho:s.heap.get? a=some (seqObj "list" vs.toArray n))(h2:2<=vs.length)(hz:vs.length<=1000)(hmr:¬ vs.length<minRun' vs.length vs.length 0)(T:∀h',(∀b o,b≠a->s.heap.get? b=some o->h'.get? b=some o)->TrpsAt h' vs xs)(up:UpT xs)
 (h:∀h' c,(∀b o,b≠a->s.heap.get? b=some o->h'.get? b=some o)->h'.get? a=some (seqObj "list" vs.toArray c)->P (.done (.ret .none)) { s with heap:=h' }):
 wpAny (model prog w) A (Builtin.«list.sort» ⟨[.ref a],[]⟩) P E s:=by
 have u1:=FG s.heap a (Obj.mapSeq λ_=>(#[]:Array Value));obtain⟨e1,a1⟩:∃e1,(s.heap.update a (Obj.mapSeq λ_=>(#[]:Array Value))).get? a=some (seqObj "list" #[] e1):=⟨_,get?_update_seq ho λ_=>#[]⟩;have big:sizeLine=16777216:=rfl;rw[list_sort_plain];refine r_ <| listItems_at ho rfl ?_;refine r_ <| listUpdate_at ho rfl ?_ (by rw[w_];omega) (Ef _);refine r_ <| seqEpoch_at a1 rfl ?_;refine r_ <| wpAny_newTuple ?_ (by show vs.length<=_;omega);refine r_ <| wpAny_newList ?_ (Ef _);refine EI ?_;show wpAny (model prog w) A _ P E { s with heap:=((s.heap.update a (Obj.mapSeq λ_=>(#[]:Array Value))).push (seqObj "tuple" vs.toArray 0)).push (seqObj "list" #[] 0) };have k3:∀b o,b≠a->s.heap.get? b=some o->(((s.heap.update a (Obj.mapSeq λ_=>(#[]:Array Value))).push (seqObj "tuple" vs.toArray 0)).push (seqObj "list" #[] 0)).get? b=some o:=λb o n z=>s_ _ (s_ _ ((u1.2 b n).trans z));have a3:(((s.heap.update a (Obj.mapSeq λ_=>(#[]:Array Value))).push (seqObj "tuple" vs.toArray 0)).push (seqObj "list" #[] 0)).get? a=some (seqObj "list" #[] e1):=s_ _ (s_ _ a1);generalize ((s.heap.update a (Obj.mapSeq λ_=>(#[]:Array Value))).push (seqObj "tuple" vs.toArray 0)).push (seqObj "list" #[] 0)=h3 at k3 a3 ⊢;refine wq (s:={ s with heap:=h3 }) hr h2 hmr (T h3 k3) up λst' out hf=>?_;dsimp only;have u:=FG h3 a (Obj.mapSeq λ_=>vs.toArray);refine r_ <| seqEpoch_at a3 rfl ?_;rw[show (arrOf st').map (λp:Keyed=>p.2)=_ from out];refine r_ <| listUpdate_at a3 rfl ?_ (Ef _) (by rw[w_];omega);rw[hf];simp only[bne_self_eq_false,EE,E8];exact B_ (h _ _ (λb o n z=>(u.2 b n).trans (k3 b o n z)) (get?_update_seq a3 λ_=>_))
def lB{l:Addr}{vs:List Value}{xs:List Trp}{Q:Gd}(hr:A.units+4<cLine)(hl:s.heap.IsList l vs.toArray)(h2:2<=vs.length)(hz:vs.length<=1000)(hmr:¬ vs.length<minRun' vs.length vs.length 0)(T:TrpsAt s.heap vs xs)(up:UpT xs)
 (h:∀(h':Heap) (D:Addr) (c:Nat),s.heap.objs.size<=D->(∀b o,s.heap.get? b=some o->h'.get? b=some o)->h'.get? D=some (seqObj "list" vs.toArray c)->Q (.ref D) { s with heap:=h' }):
 wpAny (model prog w) A (call (.builtin "sorted") [.ref l]) Q E s:=by
 refine Calls.call_function_entry kind_sorted plain_sorted entry_sorted (args_sorted1 _) ?_;unfold Builtin.«sorted»;refine r_ (m:=checkCount "sorted" 1 1 _) <| B_ ?_;have big:sizeLine=16777216:=rfl;refine r_ <| collect_list hl ?_ (by omega);have k1:∀b o,s.heap.get? b=some o->((s.heap.push (seqObj "list" #[] 0)).update s.heap.objs.size (Obj.mapSeq (·++vs.toArray))).get? b=some o:=λb o e=>((FG (s.heap.push (seqObj "list" #[] 0)) s.heap.objs.size (Obj.mapSeq (·++vs.toArray))).2 b (D_ (x_ e))).trans (s_ _ e);have sz:s.heap.objs.size<=((s.heap.push (seqObj "list" #[] 0)).update s.heap.objs.size (Obj.mapSeq (·++vs.toArray))).objs.size:=by rw[Heap.size_update,size_push'];exact Nat.le_succ _
 generalize (s.heap.push (seqObj "list" #[] 0)).update s.heap.objs.size (Obj.mapSeq (·++vs.toArray))=h1 at k1 sz ⊢;refine r_ <| wpAny_newList ?_ (by omega);have hoL:(h1.push (seqObj "list" vs.toArray 0)).get? h1.objs.size=some (seqObj "list" vs.toArray 0):=Ec _ rfl;have kL:∀b o,s.heap.get? b=some o->b≠h1.objs.size/\(h1.push (seqObj "list" vs.toArray 0)).get? b=some o:=λb o e=>⟨D_ (x_ (k1 b o e)),s_ _ (k1 b o e)⟩;refine r_ <| EI <| wpAny_call_entry slot_list_sort ⟨_,hoL,rfl⟩ entry_list_sort ?body (args_list_sort _)
 case body=>
  refine o8 (s:={ s with heap:=h1.push (seqObj "list" vs.toArray 0) }) ?_ hoL h2 hz hmr (λh' k=>T.imp λv x t=>t.mono λc o e=>k c o (kL c o e).1 (kL c o e).2) up λh' c k z=>?_
  .show A.units+1+1<cLine;omega
  exact⟨_,rfl,B_ ⟨_,rfl,h h' h1.objs.size c sz (λb o e=>k b o (kL b o e).1 (kL b o e).2) z⟩⟩
end
def upB:List Trp->Bool
 |x::y::r=>!lxT y x&&upB (y::r)
 |_=>true
theorem oM:∀{ks:List Trp},upB ks=true->UpT ks
 | [],_=>λi h1 h2=>absurd h2 (by simp)
 | [x],_=>λi h1 h2=>by simp at h2;omega
 |
  x::y::r,h=>λi h1 h2=>by
  rw[upB,t_,Fm] at h
  match i,h1,h2 with
  |1,_,_=>exact h.1
  |i+2,_,h2=>exact oM h.2 (i+1) (by omega) (by simpa using h2)
def TrpsV(K:W.Frag)(H:Hp):List V->List Trp->Prop
 | [],[]=>True
 |v::vs,k::ks=>(∃p q,v=.ref p/\SqT K H p [.int k.1,.int (k.2.length:Nat),.ref q]/\SqL K H q (k.2.map V.int))/\TrpsV K H vs ks
 |_,_=>False
theorem TrpsV.len{K:W.Frag}{H:Hp}:∀{vs:List V}{ks:List Trp},TrpsV K H vs ks->vs.length=ks.length
 | [],[],_=>rfl
 | [],_::_,t=>t.elim
 |_::_,[],t=>t.elim
 |_::_,_::_,t=>by rw[DR,DR,t.2.len]
theorem mF:∀{xs:List Int}{its:List Value},Vals (xs.map V.int) its->its.length=xs.length/\∀(j:Nat) (h:j<its.length),∃t,its[j]=Value.int (xs.getD j 0) t
 | [],its,r=>by cases r;exact⟨rfl,λj h=>absurd h (by simp)⟩
 |
  x::xs,its,r=>by
  rw[z_] at r;cases r with
  |
   cons r rr=>
   obtain⟨h1,h2⟩:=mF rr;obtain⟨t,rfl⟩:=r;refine⟨by rw[DR,DR,h1],λj h=>?_⟩;cases j with
   |zero=>exact⟨t,rfl⟩
   |succ j=>obtain⟨u,e⟩:=h2 j (by simpa using h);exact⟨u,by simpa using e⟩
section
variable{X:Cx}
theorem TrpsV.at_{pins:Gb}{σ:St}{H:Hp}{s:Shared}(I:Inv X pins σ H s):∀{vs:List V}{ks:List Trp}{its:List Value},TrpsV X.K H vs ks->Vals vs its->TrpsAt s.heap its ks
 | [],[],_,_,r=>by cases r;trivial
 | [],_::_,_,t,_=>t.elim
 |_::_,[],_,t,_=>t.elim
 |
  _::_,k::_,_,t,r=>by
  cases r with
  |
   cons r rr=>
   obtain⟨p,q,rfl,hq,hl⟩:=t.1;cases r;refine⟨?_,TrpsV.at_ I t.2 rr⟩;obtain⟨its,rv,pl,_⟩:=I.tuple hq;obtain⟨it2,rv2,pl2,_⟩:=I.list hl;cases rv with
   |
    cons r1 rv=>
    cases rv with
    |
     cons r2 rv=>
     cases rv with
     |cons r3 rv=>cases rv;obtain⟨t1,rfl⟩:=r1;obtain⟨t2,rfl⟩:=r2;cases r3;obtain⟨⟨cl,dc,dt,sl⟩,e,hc,n,hd⟩:=pl;cases hc;cases hd;obtain⟨g1,g2⟩:=mF rv2;exact⟨p,n,dc,sl,t1,t2,q,_,rfl,e,pl2.isList,g1,g2⟩
def gK(K:W.Frag):List V->Hp->VK->Prop:=λxs H Q=>∃a vs ks,xs=[.ref a]/\SqL K H a vs/\TrpsV K H vs ks/\UpT ks/\2<=ks.length/\ks.length<=1000/\(¬ ks.length<minRun' ks.length ks.length 0)/\∀l,H l=none->Q (.ref l) (upd H l (.lst vs))
def kT(hu:X.A.units+4<cLine):CallR X (.builtin "sorted") (gK X.K):=by
 intro pins s σ H xs us Q I r h;obtain⟨a,vs,ks,rfl,hq,tv,up,h2,hz,hm,q⟩:=h;obtain⟨u,rfl,ru⟩:=eP r;cases ru;obtain⟨its,rv,pl,_⟩:=I.list hq;have l1:=tv.len;have l2:=rv.length;have l3:its.length=ks.length:=by omega
 refine lB hu pl.isList (by omega) (by omega) (by rw[l3];exact hm) (tv.at_ I rv) up λh' D c sz k z=>?_;have big:sizeLine=16777216:=rfl;exact⟨.ref D,_,I.laid (t':=s.toks) k sz (show ObjOk X.prog X.w _ h' _ (.lst vs) from ⟨by omega,_,c,rv,z⟩),rfl,q D (I.hok.fresh sz)⟩
end
section
variable{K:W.Frag}{mg:Ga}
def nW(h:AH):D->Option Trp
 |.tup [.int s,.int n,.ref q]=>match aD h q with
  |some ds=>match gU ds with
   |some xs=>if n=(xs.length:Nat) then some (s,xs) else none
   |none=>none
  |none=>none
 |_=>none
def fQ(h:AH):List D->Option (List Trp)
 | []=>some []
 |d::ds=>match nW h d,fQ h ds with
  |some k,some ks=>some (k::ks)
  |_,_=>none
theorem jn{ρ:List Addr}{H:Hp}{h:AH}(w:Wd K mg ρ h H):∀{ds:List D}{vs:List V}{ks:List Trp},RelDs K mg ρ H ds vs->fQ h ds=some ks->TrpsV K H vs ks
 | [],_,_,r,e=>by cases r;cases e;trivial
 |
  d::ds,_,ks,r,e=>by
  cases r with
  |
   cons r rr=>
   unfold fQ at e;split at e
   .rename_i k ks' e1
     e2
    cases e;refine⟨?_,jn w rr e2⟩;unfold nW at e1;split at e1
    .rename_i s n q;split at e1
     .rename_i ds' q1;split at e1
      .rename_i xs
        q2
       split at e1
       .rename_i hn;cases e1;cases r with
        |
         tup q rs=>
         cases rs with
         |
          cons r1 rs=>
          cases rs with
          |
           cons r2 rs=>
           cases rs with
           |
            cons r3 rs=>
            cases rs;cases r1;cases r2;cases r3 with
            |ref ea=>obtain⟨us,g1,g2⟩:=aR w ea q1;obtain rfl:=jf g2 q2;subst hn;exact⟨_,_,rfl,q,g1⟩
       .cases e1
      .cases e1
     .cases e1
    .cases e1
   .cases e
def eX:Fn:=λds h=>match ds with
 | [.ref a]=>match aD h a with
  |some xs=>match fQ h xs with
   |some ks=>if upB ks=true/\2<=ks.length/\ks.length<=1000/\(¬ ks.length<minRun' ks.length ks.length 0) then .ok (.ref h.length) (h++[.lst xs]) else .stuck
   |none=>.stuck
  |_=>.stuck
 |_=>.stuck
def sV:aZ K mg (gK K) eX:=λρ h H ds vs Q E w rs p=>by
 unfold eX at p;split at p
 .cases
   rs with
  |
   cons r1 rs=>
   cases rs;cases r1 with
   |
    ref ea=>
    split at p
    .rename_i xs q1;split at p
     .rename_i ks q2;split at p
      .rename_i hb;obtain⟨us,g1,g2⟩:=aR w ea q1;exact⟨_,us,ks,rfl,g1,jn w g2 q2,oM hb.1,hb.2.1,hb.2.2.1,hb.2.2.2,λl hl=>bO w g2 hl p⟩
      .exact p.elim
     .exact p.elim
    .exact p.elim
 .exact p.elim
end
end L2
namespace L3
open PySem PySem.Spec PyProof.Rows L2
set_option genInjectivity true in
inductive Val where
 |non |bl (b:Bool) |int (i:Int) |str (x:Str) |ty (n:String) |glb (x:Str) |exc (x:Str)
 |tup (xs:List Val) |lst (xs:List Val) |kl (xs:List Val) |dct (kvs:List (Key×Val)) |set (xs:List Int)
 deriving Inhabited
mutual
inductive Rd(P:Nat->Prop)(h:AH):D->Val->Prop where
 |non:Rd P h .non .non
 |bl (b:Bool):Rd P h (.bl b) (.bl b)
 |int (i:Int):Rd P h (.int i) (.int i)
 |str (x:Str):Rd P h (.str x) (.str x)
 |ty (n:String):Rd P h (.ty n) (.ty n)
 |glb (x:Str):Rd P h (.glb x) (.glb x)
 |exc (x:Str):Rd P h (.exc x) (.exc x)
 |tup {ds:List D}{vs:List Val} (r:Rds P h ds vs):Rd P h (.tup ds) (.tup vs)
 |kl {ds:List D}{vs:List Val} (r:Rds P h ds vs):Rd P h (.kl ds) (.kl vs)
 |cell {n:Nat}{o:Ob}{v:Val} (p:P n) (e:h[n]?=some o) (r:Rc P h o v):Rd P h (.ref n) v
inductive Rc(P:Nat->Prop)(h:AH):Ob->Val->Prop where
 |lst {ds:List D}{vs:List Val} (r:Rds P h ds vs):Rc P h (.lst ds) (.lst vs)
 |fz {ds:List D}{vs:List Val} (r:Rds P h ds vs):Rc P h (.fz ds) (.kl vs)
 |dct {ws:List (Key×D)}{us:List (Key×Val)} (r:Rk P h ws us):Rc P h (.dct ws) (.dct us)
 |set (xs:List Int):Rc P h (.set xs) (.set xs)
inductive Rds(P:Nat->Prop)(h:AH):List D->List Val->Prop where
 |nil:Rds P h [] []
 |cons {d:D}{v:Val}{ds:List D}{vs:List Val} (r:Rd P h d v) (rr:Rds P h ds vs):Rds P h (d::ds) (v::vs)
inductive Rk(P:Nat->Prop)(h:AH):List (Key×D)->List (Key×Val)->Prop where
 |nil:Rk P h [] []
 |cons {k:Key}{d:D}{v:Val}{ds:List (Key×D)}{vs:List (Key×Val)} (r:Rd P h d v) (rr:Rk P h ds vs):Rk P h ((k,d)::ds) ((k,v)::vs)
end
section
variable{P P':Nat->Prop}{h h':AH}
abbrev Mov(P P':Nat->Prop)(h h':AH):Prop:=∀n o,P n->h[n]?=some o->P' n/\h'[n]?=some o
def Rd.mono(m:Mov P P' h h')(r:Rd P h d v):Rd P' h' d v:=@Rd.rec P h (λd v _=>Rd P' h' d v) (λo v _=>Rc P' h' o v) (λds vs _=>Rds P' h' ds vs) (λws us _=>Rk P' h' ws us) .non (λb=>.bl b) (λi=>.int i) (λx=>.str x) (λn=>.ty n) (λx=>.glb x) (λx=>.exc x) (λ_ ih=>.tup ih) (λ_ ih=>.kl ih) (λp e _ ih=>.cell (m _ _ p e).1 (m _ _ p e).2 ih) (λ_ ih=>.lst ih) (λ_ ih=>.fz ih) (λ_ ih=>.dct ih) (λxs=>.set xs) .nil (λ_ _ a b=>.cons a b) .nil (λ_ _ a b=>.cons a b) d v r
def Rds.ind{M:List D->List Val->Prop}(h0:M [] [])(h1:∀{d v ds vs},Rd P h d v->Rds P h ds vs->M ds vs->M (d::ds) (v::vs)){ds:List D}{vs:List Val}(r:Rds P h ds vs):M ds vs:=by
 induction ds generalizing vs with
 |nil=>cases r;exact h0
 |
  cons d ds ih=>
  cases r with
  |cons r rr=>exact h1 r rr (ih rr)
def Rk.ind{M:List (Key×D)->List (Key×Val)->Prop}(h0:M [] [])(h1:∀{k d v ds vs},Rd P h d v->Rk P h ds vs->M ds vs->M ((k,d)::ds) ((k,v)::vs)){ds:List (Key×D)}{vs:List (Key×Val)}(r:Rk P h ds vs):M ds vs:=by
 induction ds generalizing vs with
 |nil=>cases r;exact h0
 |
  cons d ds ih=>
  cases r with
  |cons r rr=>exact h1 r rr (ih rr)
def Rds.mono(m:Mov P P' h h'){d:List D}{v:List Val}(r:Rds P h d v):Rds P' h' d v:=r.ind .nil λr _ ih=>.cons (r.mono m) ih
def Rk.mono(m:Mov P P' h h'){d:List (Key×D)}{v:List (Key×Val)}(r:Rk P h d v):Rk P' h' d v:=r.ind .nil λr _ ih=>.cons (r.mono m) ih
def Rc.mono(m:Mov P P' h h')(r:Rc P h d v):Rc P' h' d v:=by
 cases r with
 |lst r=>exact .lst (r.mono m)
 |fz r=>exact .fz (r.mono m)
 |dct r=>exact .dct (r.mono m)
 |set xs=>exact .set xs
def Rds.len{ds:List D}{vs:List Val}(r:Rds P h ds vs):ds.length=vs.length:=r.ind (M:=λds vs=>ds.length=vs.length) rfl λ_ _ ih=>Ey (· + 1) ih
def Rds.get{ds:List D}{vs:List Val}{i:Nat}{v:Val}(r:Rds P h ds vs)(e:vs[i]?=some v):∃d,ds[i]?=some d/\Rd P h d v:=
 r.ind (M:=λds vs=>∀i,vs[i]?=some v->∃d,ds[i]?=some d/\Rd P h d v) (λ_ e=>by rw[List.getElem?_nil] at e;cases e) (λr _ ih i e=>match i,e with
  |0,e=>by cases e;exact⟨_,rfl,r⟩
  |i+1,e=>ih i e) i e
def Rds.append{ds es:List D}{vs ws:List Val}(r:Rds P h ds vs)(q:Rds P h es ws):Rds P h (ds++es) (vs++ws):=r.ind (M:=λds vs=>Rds P h (ds++es) (vs++ws)) q λr _ ih=>.cons r ih
def Rds.take{ds:List D}{vs:List Val}(n:Nat)(r:Rds P h ds vs):Rds P h (ds.take n) (vs.take n):=
 r.ind (M:=λds vs=>∀n:Nat,Rds P h (ds.take n) (vs.take n)) (λn=>by rw[Es,Es];exact .nil) (λr _ ih n=>by cases n with |zero=>exact .nil |succ n=>exact .cons r (ih n)) n
def Rds.drop{ds:List D}{vs:List Val}(n:Nat)(r:Rds P h ds vs):Rds P h (ds.drop n) (vs.drop n):=
 r.ind (M:=λds vs=>∀n:Nat,Rds P h (ds.drop n) (vs.drop n)) (λn=>by rw[E9,E9];exact .nil) (λr rr ih n=>by cases n with |zero=>exact .cons r rr |succ n=>exact ih n) n
def Rds.set{d:D}{v:Val}(r:Rd P h d v){ds:List D}{vs:List Val}(i:Nat)(q:Rds P h ds vs):Rds P h (ds.set i d) (vs.set i v):=
 q.ind (M:=λds vs=>∀i:Nat,Rds P h (ds.set i d) (vs.set i v)) (λ_=>.nil) (λq qq ih i=>by cases i with |zero=>exact .cons r qq |succ i=>exact .cons q (ih i)) i
theorem Rds.rep(r:Rds P h xs vs):∀n:Nat,Rds P h (List.replicate n xs).flatten (List.replicate n vs).flatten
 |0=>.nil
 |
  n+1=>by
  rw[D1,D1,Ep,Ep];exact r.append (Rds.rep r n)
def ShR(P:Nat->Prop)(h:AH)(d:D)(v:Val):Prop:=Rd P h d v\/∃n o,d=.ref n/\h[n]?=some o/\Rc P h o v
inductive ShRs(P:Nat->Prop)(h:AH):List D->List Val->Prop where
 |nil:ShRs P h [] []
 |cons {d:D}{v:Val}{ds:List D}{vs:List Val} (r:ShR P h d v) (rr:ShRs P h ds vs):ShRs P h (d::ds) (v::vs)
noncomputable def Val.items:Val->Option (List Val)
 |.tup xs=>some xs
 |.lst xs=>some xs
 |.kl xs=>some xs
 |_=>none
def ShR.int(r:ShR P h d (.int i)):d=.int i:=by
 rcases r with r |⟨n,o,rfl,e,r⟩
 .cases r with
  |int=>rfl
  |cell p e r=>cases r
 .cases r
def ShR.str(r:ShR P h d (.str i)):d=.str i:=by
 rcases r with r |⟨n,o,rfl,e,r⟩
 .cases r with
  |str=>rfl
  |cell p e r=>cases r
 .cases r
def ShR.bl(r:ShR P h d (.bl i)):d=.bl i:=by
 rcases r with r |⟨n,o,rfl,e,r⟩
 .cases r with
  |bl=>rfl
  |cell p e r=>cases r
 .cases r
def ShR.non(r:ShR P h d .non):d=.non:=by
 rcases r with r |⟨n,o,rfl,e,r⟩
 .cases r with
  |non=>rfl
  |cell p e r=>cases r
 .cases r
def ShR.exc(r:ShR P h d (.exc x)):d=.exc x:=by
 rcases r with r |⟨n,o,rfl,e,r⟩
 .cases r with
  |exc=>rfl
  |cell p e r=>cases r
 .cases r
def ShR.ty(r:ShR P h d (.ty x)):d=.ty x:=by
 rcases r with r |⟨n,o,rfl,e,r⟩
 .cases r with
  |ty=>rfl
  |cell p e r=>cases r
 .cases r
def ShR.glb(r:ShR P h d (.glb x)):d=.glb x:=by
 rcases r with r |⟨n,o,rfl,e,r⟩
 .cases r with
  |glb=>rfl
  |cell p e r=>cases r
 .cases r
def ShR.tup(r:ShR P h d (.tup vs)):∃ds,d=.tup ds/\Rds P h ds vs:=by
 rcases r with r |⟨n,o,rfl,e,r⟩
 .cases r with
  |tup r=>exact⟨_,rfl,r⟩
  |cell p e r=>cases r
 .cases r
def Rc.seq(e:h[n]?=some o)(r:Rc P h o (.lst vs)):∃ds,h[n]?=some (.lst ds)/\aD h n=some ds/\Rds P h ds vs:=by
 cases r with
 |lst r=>exact⟨_,e,by unfold aD;rw[e],r⟩
def ShR.lst(r:ShR P h d (.lst vs)):∃n ds,d=.ref n/\h[n]?=some (.lst ds)/\aD h n=some ds/\Rds P h ds vs:=by
 rcases r with r |⟨n,o,rfl,e,r⟩
 .cases r with
  |cell p e r=>obtain⟨ds,q,r⟩:=Rc.seq e r;exact⟨_,ds,rfl,q,r⟩
 .obtain⟨ds,q,r⟩:=Rc.seq e r;exact⟨_,ds,rfl,q,r⟩
def ShR.kl(r:ShR P h d (.kl vs)):∃ds,Rds P h ds vs/\(d=.kl ds\/∃n,d=.ref n/\aD h n=some ds):=by
 rcases r with r |⟨n,o,rfl,e,r⟩
 .cases r with
  |kl r=>exact⟨_,r,.inl rfl⟩
  |cell p e r=>cases r with |fz r=>exact⟨_,r,.inr ⟨_,rfl,by unfold aD;rw[e]⟩⟩
 .cases r with |fz r=>exact⟨_,r,.inr ⟨_,rfl,by unfold aD;rw[e]⟩⟩
def ShR.dct(r:ShR P h d (.dct us)):∃n ws,d=.ref n/\h[n]?=some (.dct ws)/\Rk P h ws us:=by
 rcases r with r |⟨n,o,rfl,e,r⟩
 .cases r with
  |cell p e r=>cases r with |dct r=>exact⟨_,_,rfl,e,r⟩
 .cases r with |dct r=>exact⟨_,_,rfl,e,r⟩
def ShR.items(r:ShR P h d v)(e:v.items=some vs):∃ds,c8 h d=some ds/\Rds P h ds vs:=by
 cases v with
 |tup xs=>cases e;obtain⟨ds,rfl,q⟩:=r.tup;exact⟨ds,rfl,q⟩
 |lst xs=>cases e;obtain⟨n,ds,rfl,_,e,q⟩:=r.lst;exact⟨ds,e,q⟩
 |
  kl xs=>
  cases e;obtain⟨ds,q,rfl |⟨n,rfl,e⟩⟩:=r.kl
  .exact⟨ds,rfl,q⟩
  .exact⟨ds,e,q⟩
 |_=>cases e
end
inductive Sl where
 |no |sh (v:Val) |ow (v:Val) |mu (v:Val) |lo (v:Val) |lm (v:Val)
 deriving Inhabited
abbrev E3:=List Sl
noncomputable def Sl.val:Sl->Option Val
 |.no=>none
 |.sh v=>some v
 |.ow v=>some v
 |.mu v=>some v
 |.lo v=>some v
 |.lm v=>some v
noncomputable def Sl.mt:Sl->Bool
 |.ow _=>true
 |.mu _=>true
 |_=>false
noncomputable def Sl.lk:Sl->Bool
 |.lo _=>true
 |.lm _=>true
 |_=>false
abbrev Ns:=List (Option Nat)
def Oc(X:Nat->Prop)(ns:Ns)(n:Nat):Prop:=¬ X n/\some n∉ns
def a8:Ob->Prop
 |.fz _=>False
 |.any=>False
 |_=>True
def SlR(P:Nat->Prop)(h0:Nat)(n:Option (Option Nat))(d:Option (Option D))(h:AH):Sl->Prop
 |.no=>n=some none
 |.sh v=>n=some none/\∃x,d=some (some x)/\Rd P h x v
 |.ow v=>∃m o,n=some (some m)/\d=some (some (.ref m))/\h0<=m/\h[m]?=some o/\a8 o/\Rc P h o v
 |.lo v=>∃m o,n=some (some m)/\d=some (some (.ref m))/\h0<=m/\h[m]?=some o/\a8 o/\Rc P h o v
 |.mu v=>∃m o,n=some (some m)/\d=some (some (.ref m))/\h[m]?=some o/\a8 o/\Rc P h o v
 |.lm v=>∃m o,n=some (some m)/\d=some (some (.ref m))/\h[m]?=some o/\a8 o/\Rc P h o v
structure Sat(X:Nat->Prop)(h0:Nat)(ns:Ns)(e:E3)(ae:AE)(h:AH):Prop where
 l1:ae.length=e.length
 l2:ns.length=e.length
 lh:h0<=h.length
 xl:∀(n:Nat),X n->n<h.length
 inj:∀(i j n:Nat),ns[i]?=some (some n)->ns[j]?=some (some n)->i=j
 nx:∀(i n:Nat),ns[i]?=some (some n)->¬ X n
 sl:∀(i:Nat) (s:Sl),e[i]?=some s->SlR (Oc X ns) h0 (ns[i]?) (ae[i]?) h s
def Mt(ns:Ns)(e:E3)(n:Nat):Prop:=∃(i:Nat) (s:Sl),ns[i]?=some (some n)/\e[i]?=some s/\s.mt=true
structure Stp(ns:Ns)(e:E3)(h:AH)(ns':Ns)(e':E3)(h':AH):Prop where
 len:h.length<=h'.length
 keep:∀(m:Nat) (o:Ob),h[m]?=some o->¬ Mt ns e m->h'[m]?=some o
 nw:∀(i n:Nat),ns'[i]?=some (some n)->ns[i]?=some (some n)\/h.length<=n
 lk:∀(i:Nat) (s:Sl),e[i]?=some s->s.lk=true->e'[i]?=some s/\ns'[i]?=ns[i]?
 lk':∀(i:Nat) (s:Sl),e'[i]?=some s->s.lk=true->e[i]?=some s/\ns'[i]?=ns[i]?
 mu:∀(i:Nat) (v:Val),e'[i]?=some (.mu v)->∃u,e[i]?=some (.mu u)/\ns'[i]?=ns[i]?
 mu':∀(i:Nat) (u:Val),e[i]?=some (.mu u)->∃v,e'[i]?=some (.mu v)/\ns'[i]?=ns[i]?
section
variable{X:Nat->Prop}{h0:Nat}{ns ns1 g_:Ns}{e e1 e2:E3}{ae:AE}{h h' h1 h2:AH}
def aG:some n∈ns ↔ ∃i:Nat,ns[i]?=some (some n):=by
 constructor
 .intro m;exact List.getElem?_of_mem m
 .rintro⟨i,e⟩;exact EK e
def Sat.own(S:Sat X h0 ns e ae h){i n:Nat}(q:ns[i]?=some (some n)):∃s v o,e[i]?=some s/\(s.mt=true\/s.lk=true)/\s.val=some v/\ae[i]?=some (some (.ref n))/\h[n]?=some o/\a8 o/\Rc (Oc X ns) h o v:=by
 have hi:i<e.length:=by rw[<- S.l2];exact (p_.mp q).1
 have hs:=S.sl i e[i] (DQ hi);refine⟨e[i],?_⟩;have he:=DQ hi;generalize e[i]=s at *;rw[q] at hs;cases s with
 |no=>cases hs
 |sh v=>cases hs.1
 |ow v=>obtain⟨m,o,e1,e2,_,e3,e4,e5⟩:=hs;cases e1;exact⟨v,o,he,.inl rfl,rfl,e2,e3,e4,e5⟩
 |lo v=>obtain⟨m,o,e1,e2,_,e3,e4,e5⟩:=hs;cases e1;exact⟨v,o,he,.inr rfl,rfl,e2,e3,e4,e5⟩
 |mu v=>obtain⟨m,o,e1,e2,e3,e4,e5⟩:=hs;cases e1;exact⟨v,o,he,.inl rfl,rfl,e2,e3,e4,e5⟩
 |lm v=>obtain⟨m,o,e1,e2,e3,e4,e5⟩:=hs;cases e1;exact⟨v,o,he,.inr rfl,rfl,e2,e3,e4,e5⟩
def Stp.refl:Stp ns e h ns e h:=⟨v_ _,λ_ _ q _=>q,λ_ _ q=>.inl q,λ_ _ q _=>⟨q,rfl⟩,λ_ _ q _=>⟨q,rfl⟩,λ_ _ q=>⟨_,q,rfl⟩,λ_ _ q=>⟨_,q,rfl⟩⟩
def Stp.trans(S:Sat X h0 ns e ae h)(a:Stp ns e h ns1 e1 h1)(b:Stp ns1 e1 h1 g_ e2 h2):Stp ns e h g_ e2 h2:=by
 refine⟨DU a.len b.len,λm o q hm=>?_,λi n q=>?_,λi s q hl=>?_,λi s q hl=>?_,λi v q=>?_,λi v q=>?_⟩
 .refine b.keep m o (a.keep m o q hm) λ⟨i,s,z1,z2,z3⟩=>hm ?_;have hlt:=(p_.mp q).1;rcases a.nw i m z1 with z |z
  .obtain⟨s0,v,o',q1,q2,_⟩:=S.own z;rcases q2 with q2 |q2
   .exact⟨i,s0,z,q1,q2⟩
   .have:=(a.lk i s0 q1 q2).1
    rw[z2] at this;cases this;exfalso;cases s <;> first |cases z3;done |cases q2;done
  .omega
 .rcases b.nw i n q with z |z
  .exact a.nw i n z
  .exact .inr (DU a.len z)
 .obtain⟨q1,q2⟩:=a.lk i s q hl;obtain⟨q3,q4⟩:=b.lk i s q1 hl;exact⟨q3,q4.trans q2⟩
 .obtain⟨q1,q2⟩:=b.lk' i s q hl;obtain⟨q3,q4⟩:=a.lk' i s q1 hl;exact⟨q3,q2.trans q4⟩
 .obtain⟨u,q1,q2⟩:=b.mu i v q;obtain⟨u',q3,q4⟩:=a.mu i u q1;exact⟨u',q3,q2.trans q4⟩
 .obtain⟨u,q1,q2⟩:=a.mu' i v q;obtain⟨u',q3,q4⟩:=b.mu' i u q1;exact⟨u',q3,q4.trans q2⟩
def Stp.mov(S:Sat X h0 ns e ae h)(a:Stp ns e h ns1 e1 h1):Mov (Oc X ns) (Oc X ns1) h h1:=λn o p q=>by
 have hlt:=(p_.mp q).1;have hm:¬ Mt ns e n:=λ⟨i,s,z,_⟩=>p.2 (aG.mpr ⟨i,z⟩);refine⟨⟨p.1,λz=>?_⟩,a.keep n o q hm⟩;obtain⟨i,z⟩:=aG.mp z;rcases a.nw i n z with z |z
 .exact p.2 (aG.mpr ⟨i,z⟩)
 .omega
def bh(q:h[n]?=some o):n<h.length:=(p_.mp q).1
def fA{n:Nat}{o:Ob}{g:AH}(q:h[n]?=some o):(h++g)[n]?=some o:=by rw[C_ (bh q)];exact q
def lY:(h++[o])[h.length]?=some o:=by rw[Eb (v_ _),FD];rfl
def SlR.mono(m:Mov P P' h h')(k:∀j o,n=some (some j)->h[j]?=some o->h'[j]?=some o)(r:SlR P h0 n d h s):SlR P' h0 n d h' s:=by
 cases s with
 |no=>exact r
 |sh v=>obtain⟨q,x,q1,q2⟩:=r;exact⟨q,x,q1,q2.mono m⟩
 |ow v=>obtain⟨j,o,q1,q2,q3,q4,q5,q6⟩:=r;exact⟨j,o,q1,q2,q3,k j o q1 q4,q5,q6.mono m⟩
 |lo v=>obtain⟨j,o,q1,q2,q3,q4,q5,q6⟩:=r;exact⟨j,o,q1,q2,q3,k j o q1 q4,q5,q6.mono m⟩
 |mu v=>obtain⟨j,o,q1,q2,q4,q5,q6⟩:=r;exact⟨j,o,q1,q2,k j o q1 q4,q5,q6.mono m⟩
 |lm v=>obtain⟨j,o,q1,q2,q4,q5,q6⟩:=r;exact⟨j,o,q1,q2,k j o q1 q4,q5,q6.mono m⟩
def Xn(X:Nat->Prop)(n:Nat):Nat->Prop:=λm=>X m\/m=n
def Sat.grow(S:Sat X h0 ns e ae h)(o:Ob):Sat (Xn X h.length) h0 ns e ae (h++[o]):=by
 have mv:Mov (Oc X ns) (Oc (Xn X h.length) ns) h (h++[o]):=λn o' p q=>⟨⟨λz=>by
  rcases z with z |z
  .exact p.1 z
  .have:=bh q;omega,p.2⟩,fA q⟩
 refine⟨S.l1,S.l2,by rw[DY];have:=S.lh;omega,λn z=>?_,S.inj,λi n q z=>?_,λi s q=>(S.sl i s q).mono mv λj o' _ q'=>fA q'⟩
 .rw[DY];rcases z with z |z
  .have:=S.xl n z;omega
  .subst z;show h.length<h.length+1;omega
 .rcases z with z |z
  .exact S.nx i n q z
  .obtain⟨_,_,_,_,_,_,_,q',_⟩:=S.own q
   have:=bh q';omega
def Sat.weak(S:Sat Y h0 ns e ae h)(hx:∀n,X n->Y n):Sat X h0 ns e ae h:=
 ⟨S.l1,S.l2,S.lh,λn z=>S.xl n (hx n z),S.inj,λi n q z=>S.nx i n q (hx n z),λi s q=>(S.sl i s q).mono (λn o p q=>⟨⟨λz=>p.1 (hx n z),p.2⟩,q⟩) λ_ _ _ q=>q⟩
def Stp.grow(o:Ob):Stp ns e h ns e (h++[o]):=⟨by rw[DY];omega,λ_ _ q _=>fA q,λ_ _ q=>.inl q,λ_ _ q _=>⟨q,rfl⟩,λ_ _ q _=>⟨q,rfl⟩,λ_ _ q=>⟨_,q,rfl⟩,λ_ _ q=>⟨_,q,rfl⟩⟩
end
section
variable{X:Nat->Prop}{h0:Nat}{ns:Ns}{e:E3}{ae:AE}{h hs:AH}
def aP{α:Type}{l:List α}{i j:Nat}{a b:α}(hi:i<l.length)(q:(l.set i a)[j]?=some b):(j=i/\b=a)\/(j≠i/\l[j]?=some b):=by
 rw[Fo] at q;by_cases z:i=j
 .subst z;rw[if_pos rfl,if_pos hi] at q;exact .inl ⟨rfl,(DX q).symm⟩
 .rw[if_neg z] at q;exact .inr ⟨λy=>z y.symm,q⟩
def aY{α:Type}{l:List α}{i:Nat}{a:α}(hi:i<l.length):(l.set i a)[i]?=some a:=by rw[Fo,if_pos rfl,if_pos hi]
def aN{α:Type}{l:List α}{i j:Nat}{a:α}(hi:j≠i):(l.set i a)[j]?=l[j]?:=by rw[Fy (λy=>hi y.symm)]
def cz(p:Oc X ns n):Oc X (ns.set i none) n:=⟨p.1,λz=>by
 rcases Fg z with z |z
 .exact p.2 z
 .cases z⟩
def Sat.putN(S:Sat X h0 ns e ae h)(hi:i<e.length)(q:SlR (Oc X (ns.set i none)) h0 (some none) (some d) h s):Sat X h0 (ns.set i none) (e.set i s) (ae.set i d) h:=by
 have hn:i<ns.length:=by rw[S.l2];exact hi
 have ha:i<ae.length:=by rw[S.l1];exact hi
 refine⟨by rw[y_,y_];exact S.l1,by rw[y_,y_];exact S.l2,S.lh,S.xl,λj k n q1 q2=>?_,λj n q1=>?_,λj s' q1=>?_⟩
 .rcases aP hn q1 with ⟨_,z⟩ |⟨_,z⟩
  .cases z
  rcases aP hn q2 with ⟨_,y⟩ |⟨_,y⟩
  .cases y
  exact S.inj j k n z y
 .rcases aP hn q1 with ⟨_,z⟩ |⟨_,z⟩
  .cases z
  exact S.nx j n z
 .rcases aP hi q1 with ⟨rfl,rfl⟩ |⟨z,q2⟩
  .rw[aY hn,aY ha];exact q
  .rw[aN z,aN z];exact (S.sl j s' q2).mono (λn o p q=>⟨cz p,q⟩) λ_ _ _ q=>q
def Sat.putN'(S:Sat X h0 ns e ae h)(hi:i<e.length)(q:SlR (Oc X (ns.set i none)) h0 (some none) (ae[i]?) h s):Sat X h0 (ns.set i none) (e.set i s) ae h:=by
 have ha:i<ae.length:=by rw[S.l1];exact hi
 have:=S.putN hi (s:=s) (d:=ae[i]) (by rw[DQ ha] at q;exact q)
 rw[List.set_getElem_self] at this;exact this
def Sat.putO(S:Sat (Xn X n) h0 ns e ae h)(hx:¬ X n)(hi:i<e.length)(hn0:h0<=n)(eo:h[n]?=some o)(hf:a8 o)(r:Rc (Oc (Xn X n) ns) h o v):Sat X h0 (ns.set i (some n)) (e.set i (.ow v)) (ae.set i (some (.ref n))) h:=by
 have hn:i<ns.length:=by rw[S.l2];exact hi
 have ha:i<ae.length:=by rw[S.l1];exact hi
 have nn:∀j:Nat,ns[j]?≠some (some n):=λj q=>S.nx j n q (.inr rfl);have mv:Mov (Oc (Xn X n) ns) (Oc X (ns.set i (some n))) h h:=λm o' p q=>⟨⟨λz=>p.1 (.inl z),λz=>by
  rcases Fg z with z |z
  .exact p.2 z
  .cases z;exact p.1 (.inr rfl)⟩,q⟩
 refine⟨by rw[y_,y_];exact S.l1,by rw[y_,y_];exact S.l2,S.lh,λm z=>S.xl m (.inl z),λj k m q1 q2=>?_,λj m q1 z=>?_,λj s' q1=>?_⟩
 .rcases aP hn q1 with ⟨z1,z⟩ |⟨z1,z⟩ <;> rcases aP hn q2 with ⟨y1,y⟩ |⟨y1,y⟩
  .rw[z1,y1]
  .cases z;exact absurd y (nn k)
  .cases y;exact absurd z (nn j)
  .exact S.inj j k m z y
 .rcases aP hn q1 with ⟨_,y⟩ |⟨_,y⟩
  .cases y;exact hx z
  .exact S.nx j m y (.inl z)
 .rcases aP hi q1 with ⟨rfl,rfl⟩ |⟨z,q2⟩
  .rw[aY hn,aY ha];exact⟨n,o,rfl,rfl,hn0,eo,hf,r.mono mv⟩
  .rw[aN z,aN z];exact (S.sl j s' q2).mono mv λ_ _ _ q=>q
noncomputable def Sl.pl:Sl->Bool
 |.no=>true
 |.sh _=>true
 |.ow _=>true
 |_=>false
def Stp.put(A:Stp ns0 e0 hs ns e h)(hi:i<e.length)(hx:∀n,x=some n->hs.length<=n)(q0:e[i]?=some s0)(p0:s0.pl=true)(p:s.pl=true)(l2:ns.length=e.length):Stp ns0 e0 hs (ns.set i x) (e.set i s) h:=by
 have hn:i<ns.length:=by rw[l2];exact hi
 refine⟨A.len,A.keep,λj n q=>?_,λj s' q hl=>?_,λj s' q hl=>?_,λj v q=>?_,λj v q=>?_⟩
 .rcases aP hn q with ⟨_,z⟩ |⟨_,z⟩
  .exact .inr (hx n z.symm)
  .exact A.nw j n z
 .obtain⟨q1,q2⟩:=A.lk j s' q hl;have z:j≠i:=λz=>by subst z;rw[q0] at q1;cases q1;cases s0 <;> first |cases p0;done |cases hl;done
  rw[aN z,aN z];exact⟨q1,q2⟩
 .rcases aP hi q with ⟨_,z⟩ |⟨z,q1⟩
  .subst z;cases s' <;> first |cases p;done |cases hl;done
  .rw[aN z];exact A.lk' j s' q1 hl
 .rcases aP hi q with ⟨_,z⟩ |⟨z,q1⟩
  .subst z;cases p
  .rw[aN z];exact A.mu j v q1
 .obtain⟨u,q1,q2⟩:=A.mu' j v q;have z:j≠i:=λz=>by subst z;rw[q0] at q1;cases q1;cases p0
  exact⟨u,by rw[aN z];exact q1,by rw[aN z];exact q2⟩
end
inductive Tm where
 |val (v:Val) |new (v:Val) |bor (i:Nat)
inductive R3(α:Type) where
 |ok (a:α) (e:E3) |exc (c:Str) (e:E3) |stuck
noncomputable def R3.bind{α β:Type}(r:R3 α)(f:α->E3->R3 β):R3 β:=match r with
 |.ok a e=>f a e
 |.exc c e=>.exc c e
 |.stuck=>.stuck
abbrev ME3:=E3->R3 Tm
abbrev MT3:=E3->R3 Bool
abbrev MA3:=E3->R3 (List Tm)
def Po{δ α:Type}(X:Nat->Prop)(h0:Nat)(ns:Ns)(e:E3)(ae:AE)(h:AH)(rel:Ns->E3->AH->δ->α->Prop)(r2:R δ):R3 α->Prop
 |.stuck=>True
 |.ok t e'=>∃d h' ns',r2=.ok d h'/\Stp ns e h ns' e' h'/\Sat X h0 ns' e' ae h'/\rel ns' e' h' d t
 |.exc c e'=>∃h' ns',r2=.exc c h'/\Stp ns e h ns' e' h'/\Sat X h0 ns' e' ae h'
def relE(X:Nat->Prop)(h0 L:Nat)(ae:AE)(ns:Ns)(e:E3)(h:AH)(d:D):Tm->Prop
 |.val v=>Rd (Oc X ns) h d v
 |.new v=>∃n o,d=.ref n/\L<=n/\¬ X n/\h[n]?=some o/\a8 o/\Sat (Xn X n) h0 ns e ae h/\Rc (Oc (Xn X n) ns) h o v
 |.bor i=>ae[i]?=some (some d)
def relT(_:Ns)(_:E3)(_:AH)(b c:Bool):Prop:=b=c
inductive TsR(X:Nat->Prop)(ns:Ns)(ae:AE)(h:AH):List D->List Tm->Prop where
 |nil:TsR X ns ae h [] []
 |val {d:D}{v:Val}{ds:List D}{ts:List Tm} (r:Rd (Oc X ns) h d v) (rr:TsR X ns ae h ds ts):TsR X ns ae h (d::ds) (.val v::ts)
 |bor {d:D}{i:Nat}{ds:List D}{ts:List Tm} (q:ae[i]?=some (some d)) (rr:TsR X ns ae h ds ts):TsR X ns ae h (d::ds) (.bor i::ts)
def relA(X:Nat->Prop)(ae:AE)(ns:Ns)(_:E3)(h:AH)(ds:List D)(ts:List Tm):Prop:=TsR X ns ae h ds ts
def RE(F:ME)(G:ME3):Prop:=∀X h0 L ns e ae h,Sat X h0 ns e ae h->L<=h.length->Po X h0 ns e ae h (relE X h0 L ae) (F ae h) (G e)
def RT(F:MT)(G:MT3):Prop:=∀X h0 ns e ae h,Sat X h0 ns e ae h->Po X h0 ns e ae h relT (F ae h) (G e)
def RA(F:MA)(G:MA3):Prop:=∀X h0 ns e ae h,Sat X h0 ns e ae h->Po X h0 ns e ae h (relA X ae) (F ae h) (G e)
section
variable{X:Nat->Prop}{h0 L:Nat}{ns ns':Ns}{e e':E3}{ae:AE}{h h':AH}
def Po.bind(S:Sat X h0 ns e ae h)(p:Po X h0 ns e ae h rel r2 r3)
 (k:∀d t h' ns' e',Stp ns e h ns' e' h'->Sat X h0 ns' e' ae h'->rel ns' e' h' d t->Po X h0 ns' e' ae h' rel' (f2 d h') (f3 t e')):Po X h0 ns e ae h rel' (r2.bind f2) (r3.bind f3):=by
 cases r3 with
 |stuck=>trivial
 |exc c e'=>obtain⟨h',ns',q,q1,q2⟩:=p;subst q;exact⟨h',ns',rfl,q1,q2⟩
 |
  ok t e'=>
  obtain⟨d,h',ns',q,q1,q2,q3⟩:=p;subst q
  have:=k d t h' ns' e' q1 q2 q3
  show Po X h0 ns e ae h rel' (f2 d h') (f3 t e');generalize f3 t e'=r at *;cases r with
  |stuck=>trivial
  |exc c e2=>obtain⟨h2,g_,y,y1,y2⟩:=this;exact⟨h2,g_,y,q1.trans S y1,y2⟩
  |ok t2 e2=>obtain⟨d2,h2,g_,y,y1,y2,y3⟩:=this;exact⟨d2,h2,g_,y,q1.trans S y1,y2,y3⟩
def Po.ret(S:Sat X h0 ns e ae h)(q:rel ns e h d t):Po X h0 ns e ae h rel (.ok d h) (.ok t e):=⟨d,h,ns,rfl,.refl,S,q⟩
def TsR.stp(S:Sat X h0 ns e ae h)(a:Stp ns e h ns' e' h')(r:TsR X ns ae h ds ts):TsR X ns' ae h' ds ts:=by
 induction r with
 |nil=>exact .nil
 |val r _ ih=>exact .val (r.mono (a.mov S)) ih
 |bor q _ ih=>exact .bor q ih
noncomputable def rs(e:E3):Tm->Option Val
 |.val v=>some v
 |.new v=>some v
 |.bor i=>(e[i]?).bind Sl.val
def Sat.bor(S:Sat X h0 ns e ae h){i:Nat}{d:D}{v:Val}(q:ae[i]?=some (some d))(r:(e[i]?).bind Sl.val=some v):ShR (Oc X ns) h d v:=by
 cases z:e[i]? with
 |none=>rw[z] at r;cases r
 |
  some s=>
  rw[z] at r;have y:=S.sl i s z;rw[q] at y;have r':s.val=some v:=r;cases s with
  |no=>cases r'
  |sh u=>cases r';obtain⟨_,x,e1,e2⟩:=y;cases e1;exact .inl e2
  |ow u=>cases r';obtain⟨m,o,_,e2,_,e3,_,e4⟩:=y;cases e2;exact .inr ⟨m,o,rfl,e3,e4⟩
  |lo u=>cases r';obtain⟨m,o,_,e2,_,e3,_,e4⟩:=y;cases e2;exact .inr ⟨m,o,rfl,e3,e4⟩
  |mu u=>cases r';obtain⟨m,o,_,e2,e3,_,e4⟩:=y;cases e2;exact .inr ⟨m,o,rfl,e3,e4⟩
  |lm u=>cases r';obtain⟨m,o,_,e2,e3,_,e4⟩:=y;cases e2;exact .inr ⟨m,o,rfl,e3,e4⟩
def relE.new(r:relE X h0 L ae ns e h d (.new v)):Rd (Oc X ns) h d v:=by obtain⟨n,o,rfl,_,hx,eo,_,S,rc⟩:=r;exact .cell ⟨hx,λz=>by obtain⟨i,z⟩:=aG.mp z;exact S.nx i n z (.inr rfl)⟩ eo (rc.mono λm o p q=>⟨⟨λz=>p.1 (.inl z),p.2⟩,q⟩)
def relE.sh{d:D}{t:Tm}{v:Val}(S:Sat X h0 ns e ae h)(r:relE X h0 L ae ns e h d t)(q:rs e t=some v):ShR (Oc X ns) h d v:=by
 cases t with
 |val u=>cases q;exact .inl r
 |new u=>cases q;exact .inl r.new
 |bor i=>exact S.bor r q
def relE.stp(S:Sat X h0 ns e ae h)(a:Stp ns e h ns' e' h')(r:relE X h0 L ae ns e h d t)(hn:∀v,t ≠ .new v):relE X h0 L ae ns' e' h' d t:=by
 cases t with
 |val u=>exact Rd.mono (a.mov S) r
 |new u=>exact absurd rfl (hn u)
 |bor i=>exact r
noncomputable def Tm.drop:Tm->Tm
 |.new v=>.val v
 |t=>t
def relE.drop(r:relE X h0 L ae ns e h d t):relE X h0 L ae ns e h d t.drop/\∀v,t.drop ≠ .new v:=by
 cases t with
 |val u=>exact⟨r,λ_ z=>nomatch z⟩
 |new u=>exact⟨r.new,λ_ z=>nomatch z⟩
 |bor i=>exact⟨r,λ_ z=>nomatch z⟩
noncomputable def rss(e:E3):List Tm->Option (List Val)
 | []=>some []
 |t::ts=>match rs e t,rss e ts with
  |some v,some vs=>some (v::vs)
  |_,_=>none
def TsR.sh{ds:List D}{ts:List Tm}{vs:List Val}(S:Sat X h0 ns e ae h)(r:TsR X ns ae h ds ts)(q:rss e ts=some vs):ShRs (Oc X ns) h ds vs:=by
 induction r generalizing vs with
 |nil=>cases q;exact .nil
 |
  val r _ ih=>
  unfold rss at q;split at q
  .rename_i e1 e2;cases q;cases e1;exact .cons (.inl r) (ih e2)
  .cases q
 |
  bor q' _ ih=>
  unfold rss at q;split at q
  .rename_i e1 e2;cases q;exact .cons (S.bor q' e1) (ih e2)
  .cases q
end
inductive Bv where
 |val (v:Val) |new (v:Val) |stuck
def BvR(P:Nat->Prop)(h:AH)(r:R D):Bv->Prop
 |.val v=>∃d,r=.ok d h/\Rd P h d v
 |.new v=>∃o,r=.ok (.ref h.length) (h++[o])/\a8 o/\Rc P h o v
 |.stuck=>True
noncomputable def Bv.at(b:Bv)(e:E3):R3 Tm:=match b with
 |.val v=>.ok (.val v) e
 |.new v=>.ok (.new v) e
 |.stuck=>.stuck
def BvR.po(S:Sat X h0 ns e ae h)(hl:L<=h.length)(q:BvR (Oc X ns) h r b):Po X h0 ns e ae h (relE X h0 L ae) r (b.at e):=by
 cases b with
 |stuck=>trivial
 |val v=>obtain⟨d,rfl,r⟩:=q;exact Po.ret S r
 |
  new v=>
  obtain⟨o,rfl,hf,r⟩:=q;have S':=S.grow o;refine⟨_,_,ns,rfl,.grow o,S'.weak λn z=>.inl z,h.length,o,rfl,hl,λz=>?_,lY,hf,S',r.mono λn o' p q=>⟨⟨λz=>?_,p.2⟩,fA q⟩⟩
  .have:=S.xl _ z;omega
  .rcases z with z |z
   .exact p.1 z
   .have:=bh q;omega
def RU(g2:D->AH->R D)(g3:Val->Bv):Prop:=∀P h d v,ShR P h d v->BvR P h (g2 d h) (g3 v)
def RO(g2:D->D->AH->R D)(g3:Val->Val->Bv):Prop:=∀P h d1 d2 v1 v2,ShR P h d1 v1->ShR P h d2 v2->BvR P h (g2 d1 d2 h) (g3 v1 v2)
def RFn(g2:Fn)(g3:List Val->Bv):Prop:=∀P h ds vs,ShRs P h ds vs->BvR P h (g2 ds h) (g3 vs)
noncomputable def sg(i:Nat):ME3:=λe=>match e[i]? with
 |some (.sh v)=>.ok (.val v) e
 |some .no=>.stuck
 |some _=>.ok (.bor i) e
 |none=>.stuck
noncomputable def vC(v:Val):ME3:=λe=>.ok (.val v) e
noncomputable def vUn(g:Val->Bv)(F:ME3):ME3:=λe=>(F e).bind λt e1=>match rs e1 t with
 |some v=>(g v).at e1
 |none=>.stuck
noncomputable def vOp(g:Val->Val->Bv)(F G:ME3):ME3:=λe=>(F e).bind λt1 e1=>(G e1).bind λt2 e2=>match rs e2 t1.drop,rs e2 t2 with
 |some v1,some v2=>(g v1 v2).at e2
 |_,_=>.stuck
noncomputable def vNil:MA3:=λe=>.ok [] e
noncomputable def uf(F:ME3)(A:MA3):MA3:=λe=>(F e).bind λt e1=>(A e1).bind λts e2=>.ok (t.drop::ts) e2
noncomputable def vFn(g:List Val->Bv)(A:MA3):ME3:=λe=>(A e).bind λts e1=>match rss e1 ts with
 |some vs=>(g vs).at e1
 |none=>.stuck
noncomputable def br(e:E3):Tm->Option (E3×Val)
 |.val v=>some (e,v)
 |.new v=>some (e,v)
 |.bor i=>match e[i]? with
  |some (.sh v)=>some (e,v)
  |some (.ow v)=>some (e.set i (.sh v),v)
  |_=>none
noncomputable def dem(e:E3):List Tm->Option (E3×List Val)
 | []=>some (e,[])
 |t::ts=>match br e t with
  |some (e1,v)=>match dem e1 ts with
   |some (e2,vs)=>some (e2,v::vs)
   |none=>none
  |none=>none
noncomputable def vTup(A:MA3):ME3:=λe=>(A e).bind λts e1=>match dem e1 ts with
 |some (e2,vs)=>if vs.length<=16777216 then .ok (.val (.tup vs)) e2 else .stuck
 |none=>.stuck
noncomputable def vLst(A:MA3):ME3:=λe=>(A e).bind λts e1=>match dem e1 ts with
 |some (e2,vs)=>if vs.length<=16777216 then .ok (.new (.lst vs)) e2 else .stuck
 |none=>.stuck
noncomputable def bOf:Option Val->Option Bool
 |some (.bl b)=>some b
 |_=>none
noncomputable def vAnd(F G:ME3):ME3:=λe=>(F e).bind λt e1=>match bOf (rs e1 t) with
 |some true=>G e1
 |some false=>.ok (.val (.bl false)) e1
 |none=>.stuck
def vOr(F G:ME3):ME3:=λe=>(F e).bind λt e1=>match bOf (rs e1 t) with
 |some true=>.ok (.val (.bl true)) e1
 |some false=>G e1
 |none=>.stuck
noncomputable def vNot(F:ME3):ME3:=λe=>(F e).bind λt e1=>match bOf (rs e1 t) with
 |some b=>.ok (.val (.bl (!b))) e1
 |none=>.stuck
noncomputable def cOf(F:ME3):MT3:=λe=>(F e).bind λt e1=>match bOf (rs e1 t) with
 |some b=>.ok b e1
 |none=>.stuck
noncomputable def cAn(c d:MT3):MT3:=λe=>(c e).bind λb e1=>if b=true then d e1 else .ok false e1
noncomputable def cO(c d:MT3):MT3:=λe=>(c e).bind λb e1=>if b=true then .ok true e1 else d e1
noncomputable def cNo(c:MT3):MT3:=λe=>(c e).bind λb e1=>.ok (!b) e1
def cY:MT3:=λe=>.ok true e
section
variable{F G:ME}{F3 G3:ME3}{A:MA}{A3:MA3}{c d:MT}{c3 d3:MT3}
def zP(i:Nat):RE (bM i) (sg i):=λX h0 L ns e ae h S hl=>by
 unfold sg;cases q:e[i]? with
 |none=>trivial
 |
  some s=>
  have y:=S.sl i s q;cases s with
  |no=>trivial
  |sh v=>obtain⟨_,x,e1,e2⟩:=y;unfold bM;rw[e1];exact Po.ret S e2
  |ow v=>obtain⟨m,o,_,e2,_⟩:=y;unfold bM;rw[e2];exact Po.ret S e2
  |lo v=>obtain⟨m,o,_,e2,_⟩:=y;unfold bM;rw[e2];exact Po.ret S e2
  |mu v=>obtain⟨m,o,_,e2,_⟩:=y;unfold bM;rw[e2];exact Po.ret S e2
  |lm v=>obtain⟨m,o,_,e2,_⟩:=y;unfold bM;rw[e2];exact Po.ret S e2
def kB{d:D}{v:Val}(r:∀P h,Rd P h d v):RE (eC d) (vC v):=λX h0 L ns e ae h S hl=>Po.ret S (r _ _)
def Bx(hg:RU g g3)(hF:RE F F3):RE (eUn g F) (vUn g3 F3):=λX h0 L ns e ae h S hl=>
 Po.bind S (hF X h0 L ns e ae h S hl) λd t h1 ns1 e1 a1 S1 r1=>by
  try dsimp only
  split
  .rename_i v q;exact BvR.po S1 (DU hl a1.len) (hg _ _ _ _ (r1.sh S1 q))
  .trivial
def Bk(hg:RO g g3)(hF:RE F F3)(hG:RE G G3):RE (eOp g F G) (vOp g3 F3 G3):=λX h0 L ns e ae h S hl=>
 Po.bind S (hF X h0 L ns e ae h S hl) λd1 t1 h1 ns1 e1 a1 S1 r1=>Po.bind S1 (hG X h0 L ns1 e1 ae h1 S1 (DU hl a1.len)) λd2 t2 h2 g_ e2 a2 S2 r2=>by
  try dsimp only
  split
  .rename_i v1 v2 q1 q2;obtain⟨r1',hn⟩:=r1.drop;exact BvR.po S2 (DU hl (DU a1.len a2.len)) (hg _ _ _ _ _ _ ((r1'.stp S1 a2 hn).sh S2 q1) (r2.sh S2 q2))
  .trivial
def zd:RA iq vNil:=λX h0 ns e ae h S=>Po.ret S .nil
def uB(hF:RE F F3)(hA:RA A A3):RA (eI F A) (uf F3 A3):=λX h0 ns e ae h S=>
 Po.bind S (hF X h0 0 ns e ae h S (Ef _)) λd1 t1 h1 ns1 e1 a1 S1 r1=>Po.bind S1 (hA X h0 ns1 e1 ae h1 S1) λds ts h2 g_ e2 a2 S2 r2=>by
  obtain⟨r1',hn⟩:=r1.drop;have r3:=r1'.stp S1 a2 hn;refine Po.ret S2 ?_;show TsR X g_ ae h2 (d1::ds) (t1.drop::ts);generalize t1.drop=t at *;cases t with
  |val v=>exact .val r3 r2
  |new v=>exact absurd rfl (hn v)
  |bor i=>exact .bor r3 r2
def BY(hg:RFn g g3)(hA:RA A A3):RE (eFn g A) (vFn g3 A3):=λX h0 L ns e ae h S hl=>
 Po.bind S (hA X h0 ns e ae h S) λds ts h1 ns1 e1 a1 S1 r1=>by
  try dsimp only
  split
  .rename_i vs q;exact BvR.po S1 (DU hl a1.len) (hg _ _ _ _ (TsR.sh S1 r1 q))
  .trivial
def zt(S:Sat X h0 ns e ae h)(q:e[i]?=some (.ow v)):∃n,ae[i]?=some (some (.ref n))/\Sat X h0 (ns.set i none) (e.set i (.sh v)) ae h/\Stp ns e h (ns.set i none) (e.set i (.sh v)) h/\Rd (Oc X (ns.set i none)) h (.ref n) v:=by
 obtain⟨n,o,q1,q2,_,q3,_,q4⟩:=S.sl i _ q;have hi:=(p_.mp q).1;have hn:i<ns.length:=by rw[S.l2];exact hi
 have r:Rd (Oc X (ns.set i none)) h (.ref n) v:=.cell ⟨S.nx i n q1,λz=>by
  obtain⟨j,z⟩:=aG.mp z;rcases aP hn z with ⟨_,y⟩ |⟨y,z⟩
  .cases y
  .exact y (S.inj j i n z q1)⟩ q3 (q4.mono λm o p q=>⟨cz p,q⟩)
 exact⟨n,q2,S.putN' hi ⟨rfl,_,q2,r⟩,Stp.refl.put (x:=none) hi (λ_ z=>by cases z) q rfl rfl S.l2,r⟩
def da{X:Nat->Prop}{h0 L:Nat}{ns:Ns}{e e':E3}{ae:AE}{h:AH}{d:D}{t:Tm}{v:Val}(S:Sat X h0 ns e ae h)(r:relE X h0 L ae ns e h d t)(q:br e t=some (e',v)):∃ns',Sat X h0 ns' e' ae h/\Stp ns e h ns' e' h/\Rd (Oc X ns') h d v:=by
 cases t with
 |val u=>cases q;exact⟨ns,S,.refl,r⟩
 |new u=>cases q;exact⟨ns,S,.refl,r.new⟩
 |
  bor i=>
  unfold br at q;dsimp only at q;have r':ae[i]?=some (some d):=r;split at q
  .rename_i u q1;cases q;obtain⟨_,x,e1,e2⟩:=S.sl i _ q1;rw[r'] at e1;cases e1;exact⟨ns,S,.refl,e2⟩
  .rename_i u q1;cases q;obtain⟨n,e1,S',a',e2⟩:=zt S q1;rw[r'] at e1;cases e1;exact⟨_,S',a',e2⟩
  .cases q
def dU:∀{ds:List D}{vs:List Val}{ns:Ns}{e e':E3},Sat X h0 ns e ae h->TsR X ns ae h ds ts->dem e ts=some (e',vs)->∃ns',Sat X h0 ns' e' ae h/\Stp ns e h ns' e' h/\Rds (Oc X ns') h ds vs:=by
 induction ts with
 |nil=>intro ds vs ns e e' S r q;cases r;cases q;exact⟨ns,S,.refl,.nil⟩
 |
  cons t ts ih=>
  intro ds vs ns e e' S r q;unfold dem at q;split at q
  .rename_i e1 v q1;split at q
   .rename_i e2 vs' q2;cases q;have hr:∃d ds',ds=d::ds'/\relE X h0 0 ae ns e h d t/\TsR X ns ae h ds' ts:=by
     cases r with
     |val r rr=>exact⟨_,_,rfl,r,rr⟩
     |bor r rr=>exact⟨_,_,rfl,r,rr⟩
    obtain⟨d,ds',rfl,hr⟩:=hr;obtain⟨ns1,S1,a1,r1⟩:=da S hr.1 q1;obtain⟨g_,S2,a2,r2⟩:=ih S1 (hr.2.stp S a1) q2;exact⟨g_,S2,a1.trans S a2,.cons (r1.mono (a2.mov S1)) r2⟩
   .cases q
  .cases q
def xh(hA:RA A A3):RE (eFn hZ A) (vTup A3):=λX h0 L ns e ae h S hl=>
 Po.bind S (hA X h0 ns e ae h S) λds ts h1 ns1 e1 a1 S1 r1=>by
  try dsimp only
  split
  .rename_i e2 vs q;split
   .rename_i hv;obtain⟨g_,S2,a2,r2⟩:=dU S1 r1 q;exact⟨.tup ds,h1,g_,by unfold hZ;rw[if_pos (by rw[r2.len];exact hv)],a2,S2,.tup r2⟩
   .trivial
  .trivial
def zu(hA:RA A A3):RE (eFn bJ A) (vLst A3):=λX h0 L ns e ae h S hl=>
 Po.bind S (hA X h0 ns e ae h S) λds ts h1 ns1 e1 a1 S1 r1=>by
  try dsimp only
  split
  .rename_i e2 vs q;split
   .rename_i hv;obtain⟨g_,S2,a2,r2⟩:=dU S1 r1 q;have p:=BvR.po (r:=bJ ds h1) (b:=.new (.lst vs)) S2 (DU hl a1.len) ⟨.lst ds,by unfold bJ;rw[if_pos (by rw[r2.len];exact hv)],trivial,.lst r2⟩;obtain⟨d,h',ns',y,y1,y2,y3⟩:=p;exact⟨d,h',ns',y,a2.trans S1 y1,y2,y3⟩
   .trivial
  .trivial
def dW(S1:Sat X h0 ns1 e1 ae h1)(r1:relE X h0 L ae ns1 e1 h1 d1 t1)(q:bOf (rs e1 t1)=some b):d1=.bl b:=by
 unfold bOf at q;split at q
 .rename_i b' q';cases q;exact (r1.sh S1 q').bl
 .cases q
def zN(hF:RE F F3)(hG:RE G G3):RE (qU F G) (vAnd F3 G3):=λX h0 L ns e ae h S hl=>
 Po.bind S (hF X h0 L ns e ae h S hl) λd1 t1 h1 ns1 e1 a1 S1 r1=>by
  try dsimp only
  split
  .rename_i q;rw[dW S1 r1 q];exact hG X h0 L ns1 e1 ae h1 S1 (DU hl a1.len)
  .rename_i q;rw[dW S1 r1 q];exact Po.ret S1 (.bl false)
  .trivial
def Df(hF:RE F F3)(hG:RE G G3):RE (eOr F G) (vOr F3 G3):=λX h0 L ns e ae h S hl=>
 Po.bind S (hF X h0 L ns e ae h S hl) λd1 t1 h1 ns1 e1 a1 S1 r1=>by
  try dsimp only
  split
  .rename_i q;rw[dW S1 r1 q];exact Po.ret S1 (.bl true)
  .rename_i q;rw[dW S1 r1 q];exact hG X h0 L ns1 e1 ae h1 S1 (DU hl a1.len)
  .trivial
def Az(hF:RE F F3):RE (rQ F) (vNot F3):=λX h0 L ns e ae h S hl=>
 Po.bind S (hF X h0 L ns e ae h S hl) λd1 t1 h1 ns1 e1 a1 S1 r1=>by
  try dsimp only
  split
  .rename_i q;rw[dW S1 r1 q];exact Po.ret S1 (.bl _)
  .trivial
def Dk(hF:RE F F3):RT (tOf F) (cOf F3):=λX h0 ns e ae h S=>
 Po.bind S (hF X h0 0 ns e ae h S (Ef _)) λd1 t1 h1 ns1 e1 a1 S1 r1=>by
  try dsimp only
  split
  .rename_i q;rw[dW S1 r1 q];exact Po.ret S1 rfl
  .trivial
def Cj(hc:RT c c3)(hd:RT d d3):RT (tAn c d) (cAn c3 d3):=λX h0 ns e ae h S=>
 Po.bind S (hc X h0 ns e ae h S) λb b' h1 ns1 e1 a1 S1 r1=>by
  cases r1;try dsimp only
  split
  .exact hd X h0 ns1 e1 ae h1 S1
  .exact Po.ret S1 rfl
def rt_o(hc:RT c c3)(hd:RT d d3):RT (tO c d) (cO c3 d3):=λX h0 ns e ae h S=>
 Po.bind S (hc X h0 ns e ae h S) λb b' h1 ns1 e1 a1 S1 r1=>by
  cases r1;try dsimp only
  split
  .exact Po.ret S1 rfl
  .exact hd X h0 ns1 e1 ae h1 S1
def DD(hc:RT c c3):RT (tNo c) (cNo c3):=λX h0 ns e ae h S=>
 Po.bind S (hc X h0 ns e ae h S) λb b' h1 ns1 e1 a1 S1 r1=>by cases r1;exact Po.ret S1 rfl
def rt_y:RT tY cY:=λX h0 ns e ae h S=>Po.ret S rfl
end
inductive Rt where
 |val (v:Val) |new (v:Val) |par (i:Nat) |pr (v u:Val)
inductive SR3 where
 |nx (e:E3) |rt (r:Rt) (e:E3) |bk (e:E3) |ct (e:E3) |exc (c:Str) (e:E3) |stuck
abbrev MS3:=E3->SR3
def RtR(X:Nat->Prop)(h0:Nat)(ns:Ns)(e:E3)(ae:AE)(h:AH)(d:D):Rt->Prop
 |.val v=>Sat X h0 ns e ae h/\Rd (Oc X ns) h d v
 |.new v=>∃n o,d=.ref n/\h0<=n/\¬ X n/\h[n]?=some o/\a8 o/\Sat (Xn X n) h0 ns e ae h/\Rc (Oc (Xn X n) ns) h o v
 |.par i=>Sat X h0 ns e ae h/\ae[i]?=some (some d)/\∃v,e[i]?=some (.mu v)
 |.pr v u=>∃d1 n o,d=.tup [d1,.ref n]/\h0<=n/\¬ X n/\h[n]?=some o/\a8 o/\Sat (Xn X n) h0 ns e ae h/\Rd (Oc (Xn X n) ns) h d1 v/\Rc (Oc (Xn X n) ns) h o u
def PoS(X:Nat->Prop)(h0:Nat)(ns:Ns)(e:E3)(h:AH)(r2:SR):SR3->Prop
 |.stuck=>True
 |.nx e'=>∃c_ h' ns',r2=.nx c_ h'/\Stp ns e h ns' e' h'/\Sat X h0 ns' e' c_ h'
 |.bk e'=>∃c_ h' ns',r2=.bk c_ h'/\Stp ns e h ns' e' h'/\Sat X h0 ns' e' c_ h'
 |.ct e'=>∃c_ h' ns',r2=.ct c_ h'/\Stp ns e h ns' e' h'/\Sat X h0 ns' e' c_ h'
 |.exc c e'=>∃c_ h' ns',r2=.exc c c_ h'/\Stp ns e h ns' e' h'/\Sat X h0 ns' e' c_ h'
 |.rt r e'=>∃d c_ h' ns',r2=.rt d h'/\Stp ns e h ns' e' h'/\RtR X h0 ns' e' c_ h' d r
def RS(F:MS)(G:MS3):Prop:=∀X h0 ns e ae h,Sat X h0 ns e ae h->PoS X h0 ns e h (F ae h) (G e)
noncomputable def R3.toS{α:Type}(r:R3 α)(f:α->E3->SR3):SR3:=match r with
 |.ok a e=>f a e
 |.exc c e=>.exc c e
 |.stuck=>.stuck
def SR3.then(r:SR3)(f:E3->SR3):SR3:=match r with
 |.nx e=>f e
 |r=>r
section
variable{X:Nat->Prop}{h0:Nat}{ns ns1 ns':Ns}{e e1 e':E3}{ae:AE}{h h1 h':AH}
def PoS.after(S:Sat X h0 ns e ae h)(a:Stp ns e h ns1 e1 h1)(p:PoS X h0 ns1 e1 h1 r2 r3):PoS X h0 ns e h r2 r3:=by
 cases r3 with
 |stuck=>trivial
 |nx e'=>obtain⟨c_,h',ns',q,q1,q2⟩:=p;exact⟨c_,h',ns',q,a.trans S q1,q2⟩
 |bk e'=>obtain⟨c_,h',ns',q,q1,q2⟩:=p;exact⟨c_,h',ns',q,a.trans S q1,q2⟩
 |ct e'=>obtain⟨c_,h',ns',q,q1,q2⟩:=p;exact⟨c_,h',ns',q,a.trans S q1,q2⟩
 |exc c e'=>obtain⟨c_,h',ns',q,q1,q2⟩:=p;exact⟨c_,h',ns',q,a.trans S q1,q2⟩
 |rt r e'=>obtain⟨d,c_,h',ns',q,q1,q2⟩:=p;exact⟨d,c_,h',ns',q,a.trans S q1,q2⟩
def PoS.toS(p:Po X h0 ns e ae h rel r2 r3)
 (k:∀d t h' ns' e',Stp ns e h ns' e' h'->Sat X h0 ns' e' ae h'->rel ns' e' h' d t->PoS X h0 ns e h (f2 d h') (f3 t e')):PoS X h0 ns e h (r2.toS ae f2) (r3.toS f3):=by
 cases r3 with
 |stuck=>trivial
 |exc c e'=>obtain⟨h',ns',rfl,q1,q2⟩:=p;exact⟨ae,h',ns',rfl,q1,q2⟩
 |ok t e'=>obtain⟨d,h',ns',rfl,q1,q2,q3⟩:=p;exact k d t h' ns' e' q1 q2 q3
def PoS.nx(a:Stp ns e h ns' e' h')(S:Sat X h0 ns' e' c_ h'):PoS X h0 ns e h (.nx c_ h') (.nx e'):=⟨c_,h',ns',rfl,a,S⟩
end
noncomputable def wNx:MS3:=λe=>.nx e
noncomputable def wSeq(F G:MS3):MS3:=λe=>(F e).then G
noncomputable def tN(F:ME3):MS3:=λe=>(F e).toS λ_ e1=>.nx e1
noncomputable def wIf(c:MT3)(F G:MS3):MS3:=λe=>(c e).toS λb e1=>if b=true then F e1 else G e1
noncomputable def iZ(t:Tm)(e:E3):SR3:=match t with
 |.val v=>.rt (.val v) e
 |.new v=>.rt (.new v) e
 |.bor i=>match e[i]? with
  |some (.sh v)=>.rt (.val v) e
  |some (.ow v)=>.rt (.new v) (e.set i .no)
  |some (.mu _)=>.rt (.par i) e
  |_=>.stuck
noncomputable def wRet(F:ME3):MS3:=λe=>(F e).toS iZ
noncomputable def cU(o:Bool)(i:Nat)(t:Tm)(e:E3):SR3:=match e[i]? with
 |some s0=>if s0.pl=true then (match t with
  |.val v=>.nx (e.set i (.sh v))
  |.new v=>.nx (e.set i (if o=true then .ow v else .sh v))
  |.bor j=>match br e (.bor j) with
   |some (e2,v)=>.nx (e2.set i (.sh v))
   |none=>.stuck) else .stuck
 |none=>.stuck
noncomputable def wAsg(o:Bool)(i:Nat)(F:ME3):MS3:=λe=>(F e).toS (cU o i)
abbrev MG3:=Val->E3->Option E3
abbrev mY:=List Val->E3->Option E3
noncomputable def pN(i:Nat):MG3:=λv e=>match e[i]? with
 |some s=>if s.pl=true then some (e.set i (.sh v)) else none
 |none=>none
noncomputable def wPar(i j:Nat)(A:MA3):MS3:=λe=>(A e).toS λts e1=>match dem e1 ts with
 |some (e2,[v,u])=>match (pN i v e2).bind (pN j u) with
  |some e3=>.nx e3
  |none=>.stuck
 |_=>.stuck
noncomputable def oD(c:Str)(A:MA3):MS3:=λe=>(A e).toS λts e1=>if ts.length<=16777216 then .exc c e1 else .stuck
def RG(g2:MG)(g3:MG3):Prop:=∀X h0 ns e ae h d v e',Sat X h0 ns e ae h->Rd (Oc X ns) h d v->g3 v e=some e'->∃c_ ns',g2 d ae h=.ok c_ h/\Sat X h0 ns' e' c_ h/\Stp ns e h ns' e' h
def RGs(g2:MGs)(g3:mY):Prop:=∀X h0 ns e ae h ds vs e',Sat X h0 ns e ae h->Rds (Oc X ns) h ds vs->g3 vs e=some e'->∃c_ ns',g2 ds ae h=.ok c_ h/\Sat X h0 ns' e' c_ h/\Stp ns e h ns' e' h
section
variable{F:ME}{F3:ME3}{A:MA}{A3:MA3}{c d:MT}{c3:MT3}{U V:MS}{U3 V3:MS3}
def CP:RS sNx wNx:=λX h0 ns e ae h S=>.nx .refl S
def yB(hU:RS U U3)(hV:RS V V3):RS (qW U V) (wSeq U3 V3):=λX h0 ns e ae h S=>by
 have p:=hU X h0 ns e ae h S;show PoS X h0 ns e h ((U ae h).then V) ((U3 e).then V3);generalize U3 e=r at *;cases r with
 |stuck=>trivial
 |nx e'=>obtain⟨c_,h',ns',q,q1,q2⟩:=p;rw[q];exact PoS.after S q1 (hV X h0 ns' e' c_ h' q2)
 |bk e'=>obtain⟨c_,h',ns',q,q1,q2⟩:=p;rw[q];exact⟨c_,h',ns',rfl,q1,q2⟩
 |ct e'=>obtain⟨c_,h',ns',q,q1,q2⟩:=p;rw[q];exact⟨c_,h',ns',rfl,q1,q2⟩
 |exc c e'=>obtain⟨c_,h',ns',q,q1,q2⟩:=p;rw[q];exact⟨c_,h',ns',rfl,q1,q2⟩
 |rt r e'=>obtain⟨d,c_,h',ns',q,q1,q2⟩:=p;rw[q];exact⟨d,c_,h',ns',rfl,q1,q2⟩
def uC(hF:RE F F3):RS (mS F) (tN F3):=λX h0 ns e ae h S=>PoS.toS (hF X h0 0 ns e ae h S (Ef _)) λd t h1 ns1 e1 a1 S1 r1=>.nx a1 S1
def BA(hc:RT c c3)(hU:RS U U3)(hV:RS V V3):RS (sIf c U V) (wIf c3 U3 V3):=λX h0 ns e ae h S=>PoS.toS (hc X h0 ns e ae h S) λb b' h1 ns1 e1 a1 S1 r1=>by
 cases r1;try dsimp only
 split
 .exact PoS.after S a1 (hU X h0 ns1 e1 ae h1 S1)
 .exact PoS.after S a1 (hV X h0 ns1 e1 ae h1 S1)
def y7(hF:RE F F3):RS (qz F) (wRet F3):=λX h0 ns e ae h S=>PoS.toS (hF X h0 h0 ns e ae h S S.lh) λd t h1 ns1 e1 a1 S1 r1=>by
 cases t with
 |val v=>exact⟨d,ae,h1,ns1,rfl,a1,S1,r1⟩
 |new v=>obtain⟨n,o,q⟩:=r1;exact⟨d,ae,h1,ns1,rfl,a1,n,o,q⟩
 |
  bor i=>
  unfold iZ;dsimp only;have r':ae[i]?=some (some d):=r1;split
  .rename_i v q;obtain⟨_,x,e1',e2⟩:=S1.sl i _ q;rw[r'] at e1';cases e1';exact⟨d,ae,h1,ns1,rfl,a1,S1,e2⟩
  .rename_i v q;obtain⟨n,o,q1,q2,q3,q4,q5,q6⟩:=S1.sl i _ q;rw[r'] at q2;cases q2;have hi:=(p_.mp q).1;have hn:i<ns1.length:=by rw[S1.l2];exact hi
   have mv:Mov (Oc X ns1) (Oc (Xn X n) (ns1.set i none)) h1 h1:=λm o' p q'=>⟨⟨λz=>by
    rcases z with z |rfl
    .exact p.1 z
    .exact p.2 (aG.mpr ⟨i,q1⟩),(cz p).2⟩,q'⟩
   have S2:=S1.putN' hi (s:=.no) rfl;refine⟨.ref n,ae,h1,ns1.set i none,rfl,a1.put (x:=none) hi (λ_ z=>by cases z) q rfl rfl S1.l2,n,o,rfl,q3,S1.nx i n q1,q4,q5,⟨S2.l1,S2.l2,S2.lh,λm z=>?_,S2.inj,λj m qj z=>?_,λj s qj=>?_⟩,q6.mono mv⟩
   .rcases z with z |rfl
    .exact S2.xl m z
    .exact bh q4
   .rcases z with z |rfl
    .exact S2.nx j m qj z
    .rcases aP hn qj with ⟨_,y⟩ |⟨y,z⟩
     .cases y
     .exact y (S1.inj j i _ z q1)
   .rcases aP hi qj with ⟨rfl,rfl⟩ |⟨z,qj'⟩
    .rw[aY hn];rfl
    .rw[aN z];exact (S1.sl j s qj').mono mv λ_ _ _ q=>q
  .rename_i v q;exact⟨d,ae,h1,ns1,rfl,a1,S1,r',v,q⟩
  .trivial
def yo(o:Bool)(i:Nat)(hF:RE F F3):RS (du F (gN i)) (wAsg o i F3):=λX h0 ns e ae h S=>PoS.toS (hF X h0 h.length ns e ae h S (v_ _)) λd t h1 ns1 e1 a1 S1 r1=>by
 show PoS X h0 ns e h (.nx (ae.set i (some d)) h1) (cU o i t e1);unfold cU;split
 .rename_i s0 q0;split
  .rename_i p0;have hi:=(p_.mp q0).1;cases t with
   |val v=>exact .nx (a1.put (x:=none) (s:=.sh v) hi (λ_ z=>by cases z) q0 p0 rfl S1.l2) (S1.putN hi ⟨rfl,d,rfl,Rd.mono (λm o p q=>⟨cz p,q⟩) r1⟩)
   |
    new v=>
    try dsimp only
    split
    .obtain⟨n,ob,rfl,q1,q2,q3,q4,q5,q6⟩:=r1;exact .nx (a1.put (x:=some n) (s:=.ow v) hi (λm z=>by cases z;exact q1) q0 p0 rfl S1.l2) (Sat.putO q5 q2 hi (DU S.lh q1) q3 q4 q6)
    .exact .nx (a1.put (x:=none) (s:=.sh v) hi (λ_ z=>by cases z) q0 p0 rfl S1.l2) (S1.putN hi ⟨rfl,d,rfl,Rd.mono (λm o p q=>⟨cz p,q⟩) r1.new⟩)
   |
    bor j=>
    try dsimp only
    split
    .rename_i e2 v q2;obtain⟨g_,S2,a2,r2⟩:=da S1 r1 q2;have hq:∃s2,e2[i]?=some s2/\s2.pl=true:=by
      unfold br at q2;dsimp only at q2;split at q2
      .cases q2;exact⟨s0,q0,p0⟩
      .rename_i u q3;cases q2;by_cases z:i=j
       .subst z;exact⟨_,aY hi,rfl⟩
       .exact⟨s0,by rw[aN z];exact q0,p0⟩
      .cases q2
     obtain⟨s2,hq1,hq2⟩:=hq;have hi2:=(p_.mp hq1).1;exact .nx ((a1.trans S a2).put (x:=none) (s:=.sh v) hi2 (λ_ z=>by cases z) hq1 hq2 rfl S2.l2) (S2.putN hi2 ⟨rfl,d,rfl,Rd.mono (λm o p q=>⟨cz p,q⟩) r2⟩)
    .trivial
  .trivial
 .trivial
def qT(i:Nat):RG (gN i) (pN i):=λX h0 ns e ae h d v e' S r q=>by
 unfold pN at q;split at q
 .rename_i s q0;split at q
  .rename_i p0;cases q;have hi:=(p_.mp q0).1;exact⟨_,ns.set i none,rfl,S.putN hi ⟨rfl,d,rfl,Rd.mono (λm o p q=>⟨cz p,q⟩) r⟩,Stp.refl.put (x:=none) (s:=.sh v) hi (λ_ z=>by cases z) q0 p0 rfl S.l2⟩
  .cases q
 .cases q
def yd(i j:Nat)(hA:RA A A3):RS (kW i j A) (wPar i j A3):=λX h0 ns e ae h S=>PoS.toS (hA X h0 ns e ae h S) λds ts h1 ns1 e1 a1 S1 r1=>by
 try dsimp only
 cases q:dem e1 ts with
 |none=>trivial
 |
  some w=>
  obtain⟨e2,vs⟩:=w;obtain⟨g_,S2,a2,r2⟩:=dU S1 r1 q
  match vs,ds,r2 with
  | [],_,_=>trivial
  | [_],_,_=>trivial
  |_::_::_::_,_,_=>trivial
  |
   [v,u],[d,d'],r2=>
   dsimp only;split
   .rename_i e3 q3;obtain⟨e4,q4,q5⟩:=Eh.mp q3;cases r2 with
    |
     cons r rr=>
     cases rr with
     |
      cons r' rr=>
      obtain⟨ae3,ns3,p3,S3,a3⟩:=qT i _ _ _ _ _ _ _ _ _ S2 r q4;obtain⟨ae4,ns4,p4,S4,a4⟩:=qT j _ _ _ _ _ _ _ _ _ S3 (r'.mono (a3.mov S2)) q5;have z3:ae3=ae.set i (some d):=by have:=p3;unfold gN at this;cases this;rfl
      have z4:ae4=ae3.set j (some d'):=by have:=p4;unfold gN at this;cases this;rfl
      subst z4 z3;exact .nx (((a1.trans S a2).trans S a3).trans S a4) S4
   .trivial
def TsR.len(r:TsR X ns ae h ds ts):ds.length=ts.length:=by
 induction r with
 |nil=>rfl
 |val _ _ ih=>rw[DR,DR,ih]
 |bor _ _ ih=>rw[DR,DR,ih]
def rN(x:Str)(hA:RA A A3):RS (kN x A) (oD x A3):=λX h0 ns e ae h S=>PoS.toS (hA X h0 ns e ae h S) λds ts h1 ns1 e1 a1 S1 r1=>by
 try dsimp only
 by_cases hl:ts.length<=16777216
 .rw[if_pos hl,if_pos (by rw[TsR.len r1];exact hl)];exact⟨ae,h1,ns1,rfl,a1,S1⟩
 .rw[if_neg hl];trivial
end
noncomputable def Sl.re(s:Sl)(u:Val):Sl:=match s with
 |.ow _=>.ow u
 |.mu _=>.mu u
 |s=>s
def Sl.mv:Sl->Option Val
 |.ow v=>some v
 |.mu v=>some v
 |_=>none
section
variable{X:Nat->Prop}{h0:Nat}{ns:Ns}{e:E3}{ae:AE}{h:AH}
def Sat.write(S:Sat X h0 ns e ae h)(q:e[i]?=some s)(hm:s.mv=some u):∃n o,ae[i]?=some (some (.ref n))/\h[n]?=some o/\a8 o/\Rc (Oc X ns) h o u/\
 ∀o' u',a8 o'->Rc (Oc X ns) h o' u'->Mov (Oc X ns) (Oc X ns) h (h.set n o')/\Sat X h0 ns (e.set i (s.re u')) ae (h.set n o')/\Stp ns e h ns (e.set i (s.re u')) (h.set n o'):=by
 have hi:=(p_.mp q).1;have key:∃n o,ns[i]?=some (some n)/\ae[i]?=some (some (.ref n))/\h[n]?=some o/\a8 o/\Rc (Oc X ns) h o u/\s.mt=true/\(∀o' u',a8 o'->Rc (Oc X ns) (h.set n o') o' u'->SlR (Oc X ns) h0 (some (some n)) (some (some (.ref n))) (h.set n o') (s.re u')):=by
  have y:=S.sl i s q;cases s with
  |ow v=>cases hm;obtain⟨n,o,q1,q2,q3,q4,q5,q6⟩:=y;exact⟨n,o,q1,q2,q4,q5,q6,rfl,λo' u' hf r=>⟨n,o',rfl,rfl,q3,aY (bh q4),hf,r⟩⟩
  |mu v=>cases hm;obtain⟨n,o,q1,q2,q4,q5,q6⟩:=y;exact⟨n,o,q1,q2,q4,q5,q6,rfl,λo' u' hf r=>⟨n,o',rfl,rfl,aY (bh q4),hf,r⟩⟩
  |_=>cases hm
 obtain⟨n,o,k1,k2,k3,k4,k5,k6,k7⟩:=key;refine⟨n,o,k2,k3,k4,k5,λo' u' hf r=>?_⟩;have mv:Mov (Oc X ns) (Oc X ns) h (h.set n o'):=λm ob p q'=>⟨p,by have:m≠n:=λz=>p.2 (aG.mpr ⟨i,by rw[z];exact k1⟩);rw[aN this];exact q'⟩;refine⟨mv,⟨by rw[y_];exact S.l1,by rw[y_];exact S.l2,by rw[y_];exact S.lh,λm z=>by rw[y_];exact S.xl m z,S.inj,S.nx,λj s' qj=>?_⟩,?_⟩
 .rcases aP hi qj with ⟨rfl,rfl⟩ |⟨z,qj'⟩
  .rw[k1,k2];exact k7 o' u' hf (r.mono mv)
  .refine (S.sl j s' qj').mono mv λm ob qm qo=>?_;have:m≠n:=λy=>by subst y;exact z (S.inj j i m qm k1)
   rw[aN this];exact qo
 .refine⟨by rw[y_];exact v_ _,λm ob qm hM=>?_,λ_ _ q=>.inl q,λj s' qj hl=>?_,λj s' qj hl=>?_,λj v qj=>?_,λj v qj=>?_⟩
  .have:m≠n:=λy=>by subst y;exact hM ⟨i,s,k1,q,k6⟩
   rw[aN this];exact qm
  .have z:j≠i:=λz=>by subst z;rw[q] at qj;cases qj;cases s <;> first |cases hl;done |cases k6;done
   rw[aN z];exact⟨qj,rfl⟩
  .rcases aP hi qj with ⟨_,y⟩ |⟨z,qj'⟩
   .subst y;cases s <;> first |cases hl;done |cases k6;done
   .exact⟨qj',rfl⟩
  .rcases aP hi qj with ⟨rfl,y⟩ |⟨z,qj'⟩
   .cases s with
    |mu w=>exact⟨w,q,rfl⟩
    |ow w=>cases y
    |_=>cases k6
   .exact⟨v,qj',rfl⟩
  .by_cases z:j=i
   .subst z;rw[q] at qj;cases qj;exact⟨u',aY hi,rfl⟩
   .exact⟨v,by rw[aN z];exact qj,rfl⟩
end
def nT(w2:D->D->D->AH->R Unit)(w3:Val->Val->Val->Option Val):Prop:=∀P h n o u di vi d v u',¬ P n->h[n]?=some o->a8 o->Rc P h o u->ShR P h di vi->Rd P h d v->w3 u vi v=some u'->∃o',w2 (.ref n) di d h=.ok () (h.set n o')/\a8 o'/\Rc P h o' u'
noncomputable def wSet(i:Nat)(G:ME3)(F:ME3)(w:Val->Val->Val->Option Val):MS3:=λe=>(F e).toS λt e1=>match (e1[i]?).bind Sl.mv with
 |none=>.stuck
 |some _=>(G e1).toS λt2 e2=>match rs e2 t2 with
  |none=>.stuck
  |some vi=>match br e2 t.drop with
   |none=>.stuck
   |some (e3,v)=>match e3[i]? with
    |none=>.stuck
    |some s=>match s.mv with
     |none=>.stuck
     |some u=>match w u vi v with
      |some u'=>.nx (e3.set i (s.re u'))
      |none=>.stuck
def RM(m2:D->List D->AH->R D)(m3:Val->List Val->Option (Val×Val)):Prop:=∀P h n o u ds vs u' v,h[n]?=some o->a8 o->Rc P h o u->Rds P h ds vs->m3 u vs=some (u',v)->gZ h (.ref n)=true/\∃o' d,m2 (.ref n) ds h=.ok d (h.set n o')/\a8 o'/\Rc P h o' u'/\Rd P h d v
noncomputable def rq:Val->Bool
 |.lst _=>true
 |_=>false
noncomputable def sv(i:Nat)(m:Val->List Val->Option (Val×Val))(A:MA3):ME3:=λe=>match e[i]? with
 |some s=>if (s.mv.map rq)=some true then (A e).bind λts e1=>match dem e1 ts with
  |some (e2,vs)=>match e2[i]? with
   |some s2=>match s2.mv with
    |some u=>match m u vs with
     |some (u',v)=>.ok (.val v) (e2.set i (s2.re u'))
     |none=>.stuck
    |none=>.stuck
   |none=>.stuck
  |none=>.stuck else .stuck
 |none=>.stuck
section
variable{F G:ME}{F3 G3:ME3}{A:MA}{A3:MA3}
def uL{X:Nat->Prop}{h0:Nat}{ns:Ns}{e:E3}{ae:AE}{h:AH}(S:Sat X h0 ns e ae h){i:Nat}{u:Val}(q:(e[i]?).bind Sl.mv=some u):∃n o,ae[i]?=some (some (.ref n))/\h[n]?=some o/\a8 o/\Rc (Oc X ns) h o u:=by obtain⟨s,q1,q2⟩:=Eh.mp q;obtain⟨n,o,k1,k2,k3,k4,_⟩:=S.write q1 q2;exact⟨n,o,k1,k2,k3,k4⟩
def AR(i:Nat)(hw:nT w2 w3)(hG:RE G G3)(hF:RE F F3):RS (du F (gS (bM i) G w2)) (wSet i G3 F3 w3):=λX h0 ns e ae h S=>PoS.toS (hF X h0 0 ns e ae h S (Ef _)) λd t h1 ns1 e1 a1 S1 r1=>by
 try dsimp only
 cases qm:(e1[i]?).bind Sl.mv with
 |none=>trivial
 |
  some u0=>
  obtain⟨n0,o0,b1,b2,b3,b4⟩:=uL S1 qm;have L2e:∀h',(gS (bM i) G w2 d ae h').toS ae (λc_ h2=>SR.nx c_ h2)=(G ae h').toS ae λdi h2=>(w2 (.ref n0) di d h2).toS ae λ_ h3=>.nx ae h3:=λh'=>by
   unfold gS bM;rw[b1];simp only[c9];cases G ae h' with
   |ok di h2=>simp only[c9];show _=(w2 (.ref n0) di d h2).toS ae λ_ h3=>.nx ae h3;cases w2 (.ref n0) di d h2 <;> rfl
   |exc c h2=>rfl
   |stuck=>rfl
  rw[L2e];refine PoS.after S a1 (PoS.toS (hG X h0 0 ns1 e1 ae h1 S1 (Ef _)) λdi t2 h2 g_ e2 a2 S2 r2=>?_);try dsimp only
  cases qi:rs e2 t2 with
  |none=>trivial
  |
   some vi=>
   try dsimp only
   cases qd:br e2 t.drop with
   |none=>trivial
   |
    some w=>
    obtain⟨e3,v⟩:=w;try dsimp only
    obtain⟨r1',hn⟩:=r1.drop;have r3:=r1'.stp S1 a2 hn;have si:=r2.sh S2 qi;obtain⟨ns3,S3,a3,r4⟩:=da S2 r3 qd;have si3:ShR (Oc X ns3) h2 di vi:=by
     rcases si with z |⟨n,o,z1,z2,z3⟩
     .exact .inl (z.mono (a3.mov S2))
     .exact .inr ⟨n,o,z1,z2,z3.mono (a3.mov S2)⟩
    cases q3:e3[i]? with
    |none=>trivial
    |
     some s=>
     try dsimp only
     cases q4:s.mv with
     |none=>trivial
     |
      some u=>
      try dsimp only
      cases q5:w3 u vi v with
      |none=>trivial
      |
       some u'=>
       obtain⟨n,o,k1,k2,k3,k4,k5⟩:=S3.write q3 q4;rw[b1] at k1;cases k1;have nP:¬ Oc X ns3 n0:=λp=>by have z1:=((k5 (.lst []) (.lst []) trivial (.lst .nil)).1 _ _ p k2).2;have z2:=((k5 (.lst [.non]) (.lst [.non]) trivial (.lst (.cons .non .nil))).1 _ _ p k2).2;rw[aY (bh k2)] at z1 z2;rw[<- z2] at z1;cases z1
       obtain⟨o',p1,p2,p3⟩:=hw _ _ _ _ _ _ _ _ _ _ nP k2 k3 k4 si3 r4 q5;obtain⟨mv,S4,a4⟩:=k5 o' u' p2 p3;rw[p1];exact .nx ((a2.trans S1 a3).trans S1 a4) S4
def xQ(i:Nat)(hm:RM m2 m3)(hA:RA A A3):RE (eM m2 (bM i) A) (sv i m3 A3):=λX h0 L ns e ae h S hl=>by
 unfold sv;cases q0:e[i]? with
 |none=>trivial
 |
  some s0=>
  dsimp only;split
  .rename_i hz;obtain⟨u0,z1,z2⟩:=DZ.mp hz;obtain⟨n0,o0,b1,b2,b3,b4,_⟩:=S.write q0 z1;have hL:gZ h (.ref n0)=true:=by
    cases u0 with
    |lst xs=>obtain⟨ds,_,e1,_⟩:=Rc.seq b2 b4;show (aD h n0).isSome=true;rw[e1];rfl
    |_=>cases z2
   have L2e:eM m2 (bM i) A ae h=(A ae h).bind λds h2=>m2 (.ref n0) ds h2:=by unfold eM bM;rw[b1];simp only[c9,hL,E4]
   rw[L2e];refine Po.bind S (hA X h0 ns e ae h S) λds ts h1 ns1 e1 a1 S1 r1=>?_;try dsimp only
   cases q1:dem e1 ts with
   |none=>trivial
   |
    some w=>
    obtain⟨e2,vs⟩:=w;try dsimp only
    obtain⟨g_,S2,a2,r2⟩:=dU S1 r1 q1;cases q2:e2[i]? with
    |none=>trivial
    |
     some s2=>
     try dsimp only
     cases q3:s2.mv with
     |none=>trivial
     |
      some u=>
      try dsimp only
      cases q4:m3 u vs with
      |none=>trivial
      |some w=>obtain⟨u',v⟩:=w;obtain⟨n,o,k1,k2,k3,k4,k5⟩:=S2.write q2 q3;rw[b1] at k1;cases k1;obtain⟨_,o',d,p1,p2,p3,p4⟩:=hm _ _ _ _ _ _ _ _ _ k2 k3 k4 r2 q4;obtain⟨mv,S4,a4⟩:=k5 o' u' p2 p3;exact⟨d,_,g_,p1,a2.trans S1 a4,S4,p4.mono mv⟩
  .trivial
end
noncomputable def eG:Sl->Sl
 |.ow v=>.lo v
 |.mu v=>.lm v
 |s=>s
noncomputable def fL:Sl->Sl
 |.lo v=>.ow v
 |.lm v=>.mu v
 |s=>s
noncomputable def lock(e:E3)(k:Nat):E3:=match e[k]? with
 |some s=>e.set k (eG s)
 |none=>e
noncomputable def unlock(e:E3)(k:Nat):E3:=match e[k]? with
 |some s=>e.set k (fL s)
 |none=>e
noncomputable def lockO(e:E3):Option Nat->E3
 |some k=>lock e k
 |none=>e
def bQ(e:E3):Option Nat->E3
 |some k=>unlock e k
 |none=>e
section
variable{X:Nat->Prop}{h0:Nat}{ns ns':Ns}{e e':E3}{ae:AE}{h h':AH}
def SlR.lock(r:SlR P h0 n d h s):SlR P h0 n d h (eG s):=by cases s <;> exact r
def SlR.unlock(r:SlR P h0 n d h s):SlR P h0 n d h (fL s):=by cases s <;> exact r
def Sat.lock(S:Sat X h0 ns e ae h)(k:Nat):Sat X h0 ns (lock e k) ae h:=by
 unfold L3.lock;split
 .rename_i s q;have hi:=(p_.mp q).1;refine⟨by rw[y_];exact S.l1,by rw[y_];exact S.l2,S.lh,S.xl,S.inj,S.nx,λj s' qj=>?_⟩;rcases aP hi qj with ⟨rfl,rfl⟩ |⟨z,qj'⟩
  .exact (S.sl j s q).lock
  .exact S.sl j s' qj'
 .exact S
def Sat.unlock(S:Sat X h0 ns e ae h)(k:Nat):Sat X h0 ns (unlock e k) ae h:=by
 unfold L3.unlock;split
 .rename_i s q;have hi:=(p_.mp q).1;refine⟨by rw[y_];exact S.l1,by rw[y_];exact S.l2,S.lh,S.xl,S.inj,S.nx,λj s' qj=>?_⟩;rcases aP hi qj with ⟨rfl,rfl⟩ |⟨z,qj'⟩
  .exact (S.sl j s q).unlock
  .exact S.sl j s' qj'
 .exact S
def ef(z:j≠k):(lock e k)[j]?=e[j]?:=by
 unfold lock;split
 .rw[aN z]
 .rfl
def cM(z:j≠k):(unlock e k)[j]?=e[j]?:=by
 unfold unlock;split
 .rw[aN z]
 .rfl
def iG(q:e[k]?=some s):(lock e k)[k]?=some (eG s):=by unfold lock;rw[q];exact aY (p_.mp q).1
def dz(q:e[k]?=some s):(unlock e k)[k]?=some (fL s):=by unfold unlock;rw[q];exact aY (p_.mp q).1
def Stp.unlock(q:e[k]?=some s)(hs:s.mt=true)(a:Stp ns (L3.lock e k) h ns' e' h'):Stp ns e h ns' (L3.unlock e' k) h':=by
 have hl:(eG s).lk=true:=by cases s <;> first |rfl |cases hs
 have hu:fL (eG s)=s:=by cases s <;> first |rfl |cases hs
 obtain⟨qk,nk⟩:=a.lk k _ (iG q) hl;refine⟨a.len,λm o qm hM=>a.keep m o qm λ⟨j,s',z1,z2,z3⟩=>hM ?_,a.nw,λj s' qj hj=>?_,λj s' qj hj=>?_,λj v qj=>?_,λj v qj=>?_⟩
 .by_cases z:j=k
  .subst z;exact⟨j,s,z1,q,hs⟩
  .rw[ef z] at z2;exact⟨j,s',z1,z2,z3⟩
 .have z:j≠k:=λz=>by subst z;rw[q] at qj;cases qj;cases s <;> first |cases hs;done |cases hj;done
  rw[cM z];exact a.lk j s' (by rw[ef z];exact qj) hj
 .have z:j≠k:=λz=>by subst z;rw[dz qk,hu] at qj;cases qj;cases s <;> first |cases hs;done |cases hj;done
  rw[cM z] at qj;obtain⟨y1,y2⟩:=a.lk' j s' qj hj;rw[ef z] at y1;exact⟨y1,y2⟩
 .by_cases z:j=k
  .subst z;rw[dz qk,hu] at qj;cases qj;exact⟨v,q,nk⟩
  .rw[cM z] at qj;obtain⟨u,y1,y2⟩:=a.mu j v qj;rw[ef z] at y1;exact⟨u,y1,y2⟩
 .by_cases z:j=k
  .subst z;rw[q] at qj;cases qj;exact⟨v,by rw[dz qk,hu],nk⟩
  .obtain⟨u,y1,y2⟩:=a.mu' j v (by rw[ef z];exact qj);exact⟨u,by rw[cM z];exact y1,y2⟩
end
abbrev MI3:=E3->R3 (List Val×Option Nat)
def Stay(X:Nat->Prop)(ns:Ns)(k:Option Nat)(h h':AH):Prop:=∀(m:Nat) (o:Ob),h[m]?=some o->(Oc X ns m\/∃j:Nat,k=some j/\ns[j]?=some (some m))->h'[m]?=some o
def kD(X:Nat->Prop)(ns:Ns)(e:E3)(h:AH)(it:AIt)(p:List Val×Option Nat):Prop:=
 Rds (Oc X ns) h it.items p.1/\(∀h',Stay X ns p.2 h h'->it.guard h')/\∀k:Nat,p.2=some k->∃s,e[k]?=some s/\s.mt=true
def RI(I:MI)(J:MI3):Prop:=∀X h0 ns e ae h,Sat X h0 ns e ae h->Po X h0 ns e ae h (kD X) (I ae h) (J e)
noncomputable def eu:Val->Option (List Val)
 |.tup xs=>some xs
 |.lst xs=>some xs
 |_=>none
noncomputable def gE(t:Tm)(e:E3):Option (List Val×Option Nat):=match t with
 |.val v=>(eu v).map λxs=>(xs,none)
 |.new v=>(eu v).map λxs=>(xs,none)
 |.bor k=>match e[k]? with
  |some (.sh v)=>(eu v).map λxs=>(xs,none)
  |some (.ow (.lst xs))=>some (xs,some k)
  |some (.mu (.lst xs))=>some (xs,some k)
  |_=>none
noncomputable def tS(F:ME3):MI3:=λe=>(F e).bind λt e1=>match gE t e1 with
 |some p=>.ok p e1
 |none=>.stuck
noncomputable def nX(lo:Int)(k:Nat):List Val:=(List.range k).map λi=>Val.int (lo+(i:Nat))
structure RgB(j:Int):Prop where
 lo:-(2^62)<=j
 hi:j<2^62
def cP:List Val->Option (List Val)
 | [.int j]=>@ite _ (RgB j) (Classical.propDecidable _) (some (nX 0 j.toNat)) none
 |_=>none
noncomputable def kY(f:List Val->Option (List Val))(A:MA3):MI3:=λe=>(A e).bind λts e1=>match (rss e1 ts).bind f with
 |some xs=>.ok (xs,none) e1
 |none=>.stuck
section
variable{F:ME}{F3:ME3}{A:MA}{A3:MA3}
def nz(S:Sat X h0 ns e ae h)(r:Rd (Oc X ns) h d v)(q:eu v=some xs):∃it,fC d h=some it/\kD X ns e h it (xs,none):=by
 cases v with
 |tup ys=>cases q;obtain⟨ds,rfl,r2⟩:=ShR.tup (.inl r);exact⟨_,rfl,r2,λ_ _=>trivial,λ_ z=>nomatch z⟩
 |
  lst ys=>
  cases q;cases r with
  |
   cell p eo rc=>
   rename_i n o;obtain⟨ds,_,e1,r1⟩:=Rc.seq eo rc;refine⟨.lst n ds,by unfold fC;dsimp only;rw[e1];rfl,r1,λh' st=>?_,λ_ z=>nomatch z⟩;show aD h' n=some ds
   have:=st n o eo (.inl p)
   unfold aD at e1 ⊢;rw[eo] at e1;rw[this];exact e1
 |_=>cases q
def xG(S:Sat X h0 ns e ae h)(r:relE X h0 L ae ns e h d t)(q:gE t e=some p):∃it,fC d h=some it/\kD X ns e h it p:=by
 cases t with
 |val v=>obtain⟨xs,q1,rfl⟩:=DZ.mp q;exact nz S r q1
 |new v=>obtain⟨xs,q1,rfl⟩:=DZ.mp q;exact nz S r.new q1
 |
  bor k=>
  have r':ae[k]?=some (some d):=r;have own:∀{s xs},e[k]?=some s->s.mv=some (.lst xs)->∃it,fC d h=some it/\kD X ns e h it (xs,some k):=λ{s xs} q qm=>by
   have hns:∃n,ns[k]?=some (some n)/\ae[k]?=some (some (.ref n)):=by
    have y:=S.sl k s q;cases s with
    |ow v=>obtain⟨n,o,y1,y2,_⟩:=y;exact⟨n,y1,y2⟩
    |mu v=>obtain⟨n,o,y1,y2,_⟩:=y;exact⟨n,y1,y2⟩
    |_=>cases qm
   obtain⟨n,y1,y2⟩:=hns;obtain⟨n',o,k1,k2,k3,k4,_⟩:=S.write q qm;rw[y2] at k1;cases k1;rw[r'] at y2;cases y2;obtain⟨ds,_,e2,r2⟩:=Rc.seq k2 k4;refine⟨.lst n ds,by unfold fC;dsimp only;rw[e2];rfl,r2,λh' st=>?_,λj z=>?_⟩
   .show aD h' n=some ds
    have:=st n o k2 (.inr ⟨k,rfl,y1⟩)
    unfold aD at e2 ⊢;rw[k2] at e2;rw[this];exact e2
   .cases z;exact⟨s,q,by cases s <;> first |rfl |cases qm⟩
  unfold gE at q;dsimp only at q;split at q
  .rename_i v qs;obtain⟨_,x,e2,r2⟩:=S.sl k _ qs;rw[r'] at e2;cases e2;obtain⟨xs,q1,rfl⟩:=DZ.mp q;exact nz S r2 q1
  .rename_i xs qs;cases q;exact own qs rfl
  .rename_i xs qs;cases q;exact own qs rfl
  .cases q
noncomputable def sd(d:D)(h:AH):R AIt:=match d with
 |.tup xs=>.ok (.tup xs) h
 |.ref n=>match aD h n with
  |some xs=>.ok (.lst n xs) h
  |none=>.stuck
 |_=>.stuck
def vb(q:fC d h=some it):sd d h=.ok it h:=by
 cases d with
 |tup xs=>cases q;rfl
 |ref n=>obtain⟨xs,y1,rfl⟩:=DZ.mp (show (aD h n).map (AIt.lst n)=some it from q);unfold sd;dsimp only;rw[y1]
 |_=>cases q
def zp(hF:RE F F3):RI (rf F) (tS F3):=λX h0 ns e ae h S=>
 Po.bind S (hF X h0 0 ns e ae h S (Ef _)) λd t h1 ns1 e1 a1 S1 r1=>by
  show Po X h0 ns1 e1 ae h1 (kD X) (sd d h1) _;cases q:gE t e1 with
  |none=>trivial
  |some p=>dsimp only;obtain⟨it,q1,q2⟩:=xG S1 r1 q;exact⟨it,h1,ns1,vb q1,.refl,S1,q2⟩
def vL(lo:Int)(k:Nat):Rds P h (AIt.rng lo k).items (nX lo k):=by
 show Rds P h ((List.range k).map λi=>D.int (lo+(i:Nat))) ((List.range k).map λi=>Val.int (lo+(i:Nat)));generalize List.range k=l;induction l with
 |nil=>exact .nil
 |cons i l ih=>exact .cons (.int _) ih
def eh(r:ShRs P h ds [v]):∃d,ds=[d]/\ShR P h d v:=by cases r with |cons r rr=>cases rr;exact⟨_,rfl,r⟩
def uc(r:ShRs P h ds [v,u]):∃d d',ds=[d,d']/\ShR P h d v/\ShR P h d' u:=by cases r with |cons r rr=>cases rr with |cons r' rr=>cases rr;exact⟨_,_,rfl,r,r'⟩
def C9(hf:∀P h ds vs xs,ShRs P h ds vs->f3 vs=some xs->∃lo k,f2 ds h=.ok (.rng lo k) h/\xs=nX lo k)(hA:RA A A3):RI (λae h=>(A ae h).bind f2) (kY f3 A3):=λX h0 ns e ae h S=>
 Po.bind S (hA X h0 ns e ae h S) λds ts h1 ns1 e1 a1 S1 r1=>by
  try dsimp only
  split
  .rename_i xs q;obtain⟨vs,q1,q2⟩:=Eh.mp q;obtain⟨lo,k,p1,rfl⟩:=hf _ _ _ _ _ (TsR.sh S1 r1 q1) q2;rw[p1];exact Po.ret S1 ⟨vL _ _,λ_ _=>trivial,λ_ z=>nomatch z⟩
  .trivial
def za(hA:RA A A3):RI (qJ A) (kY cP A3):=C9 (f2:=λds h1=>match ds with
 | [.int j]=>if -(2^62)<=j/\j<2^62 then .ok (.rng 0 j.toNat) h1 else .stuck
 |
  _=>.stuck) (λP h ds vs xs r q=>by
  unfold cP at q;split at q
  .split at q
   .rename_i hb;cases q;obtain⟨d,rfl,r2⟩:=eh r;obtain rfl:=r2.int;exact⟨_,_,by dsimp only;rw[if_pos ⟨hb.lo,hb.hi⟩],rfl⟩
   .cases q
  .cases q) hA
end
noncomputable def SR3.loop(r:SR3)(f:E3->SR3):SR3:=match r with
 |.nx e=>f e
 |.ct e=>f e
 |.bk e=>.nx e
 |.rt d e=>.rt d e
 |.exc c e=>.exc c e
 |.stuck=>.stuck
noncomputable def cR(g:MG3)(B:MS3):List Val->MS3
 | [],e=>.nx e
 |v::vs,e=>match g v e with
  |some e1=>(B e1).loop (cR g B vs)
  |none=>.stuck
noncomputable def SR3.unl(k:Option Nat)(r:SR3):SR3:=match r with
 |.nx e=>.nx (bQ e k)
 |.ct e=>.ct (bQ e k)
 |.bk e=>.bk (bQ e k)
 |.rt d e=>.rt d (bQ e k)
 |.exc c e=>.exc c (bQ e k)
 |.stuck=>.stuck
def wFor(I:MI3)(g:MG3)(B:MS3):MS3:=λe=>(I e).toS λp e1=>(cR g B p.1 (lockO e1 p.2)).unl p.2
section
variable{I:MI}{I3:MI3}{g:MG}{g3:MG3}{B:MS}{B3:MS3}{c:MT}{c3:MT3}
def PoS.loop{X:Nat->Prop}{h0:Nat}{ns:Ns}{e:E3}{ae:AE}{h:AH}{r2:SR}{r3:SR3}{f2:AE->AH->SR}{f3:E3->SR3}(p:PoS X h0 ns e h r2 r3)
 (k:∀c_ h' ns' e',Stp ns e h ns' e' h'->Sat X h0 ns' e' c_ h'->PoS X h0 ns e h (f2 c_ h') (f3 e')):PoS X h0 ns e h (r2.loop f2) (r3.loop f3):=by
 cases r3 with
 |stuck=>trivial
 |nx e'=>obtain⟨c_,h',ns',q,q1,q2⟩:=p;rw[q];exact k c_ h' ns' e' q1 q2
 |ct e'=>obtain⟨c_,h',ns',q,q1,q2⟩:=p;rw[q];exact k c_ h' ns' e' q1 q2
 |bk e'=>obtain⟨c_,h',ns',q,q1,q2⟩:=p;rw[q];exact⟨c_,h',ns',rfl,q1,q2⟩
 |exc c e'=>obtain⟨c_,h',ns',q,q1,q2⟩:=p;rw[q];exact⟨c_,h',ns',rfl,q1,q2⟩
 |rt r e'=>obtain⟨d,c_,h',ns',q,q1,q2⟩:=p;rw[q];exact⟨d,c_,h',ns',rfl,q1,q2⟩
def wQ(S:Sat X h0 ns e ae h)(hk:∀j:Nat,k=some j->∃s,e[j]?=some s/\s.mt=true)(a:Stp ns (lockO e k) h ns' e' h'):Stay X ns k h h':=λm o q hm=>by
 refine a.keep m o q λ⟨i,s,z1,z2,z3⟩=>?_;rcases hm with hm |⟨j,rfl,hj⟩
 .exact hm.2 (aG.mpr ⟨i,z1⟩)
 .have:i=j:=S.inj i j m z1 hj;subst this;obtain⟨s',y1,y2⟩:=hk i rfl;have:(lockO e (some i))[i]?=some (eG s'):=iG y1;rw[this] at z2;cases z2;cases s' <;> first |cases y2;done |cases z3;done
def PoS.unl(hk:∀j:Nat,k=some j->∃s,e[j]?=some s/\s.mt=true)(p:PoS X h0 ns (lockO e k) h r2 r3):PoS X h0 ns e h r2 (r3.unl k):=by
 cases k with
 |none=>cases r3 <;> exact p
 |
  some j=>
  obtain⟨s,y1,y2⟩:=hk j rfl;cases r3 with
  |stuck=>trivial
  |nx e'=>obtain⟨c_,h',ns',q,q1,q2⟩:=p;exact⟨c_,h',ns',q,q1.unlock y1 y2,q2.unlock j⟩
  |ct e'=>obtain⟨c_,h',ns',q,q1,q2⟩:=p;exact⟨c_,h',ns',q,q1.unlock y1 y2,q2.unlock j⟩
  |bk e'=>obtain⟨c_,h',ns',q,q1,q2⟩:=p;exact⟨c_,h',ns',q,q1.unlock y1 y2,q2.unlock j⟩
  |exc c e'=>obtain⟨c_,h',ns',q,q1,q2⟩:=p;exact⟨c_,h',ns',q,q1.unlock y1 y2,q2.unlock j⟩
  |
   rt r e'=>
   obtain⟨d,c_,h',ns',q,q1,q2⟩:=p;refine⟨d,c_,h',ns',q,q1.unlock y1 y2,?_⟩;cases r with
   |val v=>exact⟨q2.1.unlock j,q2.2⟩
   |new v=>obtain⟨n,o,z1,z2,z3,z4,z5,z6,z7⟩:=q2;exact⟨n,o,z1,z2,z3,z4,z5,z6.unlock j,z7⟩
   |
    par i=>
    obtain⟨z1,z2,v,z3⟩:=q2;refine⟨z1.unlock j,z2,v,?_⟩;by_cases z:i=j
    .subst z;exact dz z3
    .exact (cM z).trans z3
   |pr v u=>obtain⟨d1,n,o,z1,z2,z3,z4,z5,z6,z7⟩:=q2;exact⟨d1,n,o,z1,z2,z3,z4,z5,z6.unlock j,z7⟩
def Sat.lockO(S:Sat X h0 ns e ae h)(k:Option Nat):Sat X h0 ns (lockO e k) ae h:=by
 cases k with
 |none=>exact S
 |some k=>exact S.lock k
def wa{X:Nat->Prop}{h0:Nat}{ns:Ns}{e:E3}{ae:AE}{h:AH}{G:AH->Prop}(S:Sat X h0 ns e ae h)(hg:RG g g3)(hB:RS B B3)(hG:∀ns' e' h',Stp ns e h ns' e' h'->G h'):
 ∀{ds:List D}{vs:List Val},Rds (Oc X ns) h ds vs->∀{ns1:Ns}{e1:E3}{i_:AE}{h1:AH},Stp ns e h ns1 e1 h1->Sat X h0 ns1 e1 i_ h1->PoS X h0 ns e h (eF G g B ds i_ h1) (cR g3 B3 vs e1):=by
 intro ds;induction ds with
 |nil=>intro vs r ns1 e1 i_ h1 a1 S1;cases r;unfold eF;rw[if_pos (hG _ _ _ a1)];exact .nx a1 S1
 |
  cons d0 ds ih=>
  intro vs r ns1 e1 i_ h1 a1 S1;cases r with
  |
   cons r rr=>
   unfold eF cR;rw[if_pos (hG _ _ _ a1)];split
   .rename_i e2 q;obtain⟨ae2,g_,p2,S2,a2⟩:=hg _ _ _ _ _ _ _ _ _ S1 (r.mono (a1.mov S)) q;rw[p2];have a12:=a1.trans S a2;show PoS X h0 ns e h ((B ae2 h1).loop _) _;refine PoS.loop (ae:=ae) (PoS.after S a12 (hB X h0 g_ e2 ae2 h1 S2)) λae3 h3 ns3 e3 a3 S3=>ih rr a3 S3
   .trivial
def Ak(hI:RI I I3)(hg:RG g g3)(hB:RS B B3):RS (rE I g B) (wFor I3 g3 B3):=λX h0 ns e ae h S=>PoS.toS (hI X h0 ns e ae h S) λit p h1 ns1 e1 a1 S1 r1=>by obtain⟨r2,gd,hk⟩:=r1;refine PoS.after S a1 (PoS.unl hk ?_);have S2:=S1.lockO p.2;exact wa S2 hg hB (λns' e' h' a=>gd h' (wQ S1 hk a)) r2 .refl S2
noncomputable def whV(c:MT3)(B:MS3):Nat->MS3
 |0,_=>.stuck
 |k+1,e=>(c e).toS λb e1=>if b=true then (B e1).loop (whV c B k) else .nx e1
open Classical in
def wWh(c:MT3)(B:MS3):MS3:=λe=>if q:∃k,whV c B k e ≠ .stuck then whV c B q.choose e else .stuck
theorem gc{c:MT3}{B:MS3}:∀{k:Nat}{e:E3},whV c B k e ≠ .stuck->whV c B (k+1) e=whV c B k e
 |0,_,q=>absurd rfl q
 |
  k+1,e,q=>by
  have e1:whV c B (k+2) e=(c e).toS λb e1=>if b=true then (B e1).loop (whV c B (k+1)) else .nx e1:=rfl
  have e2:whV c B (k+1) e=(c e).toS λb e1=>if b=true then (B e1).loop (whV c B k) else .nx e1:=rfl
  rw[e2] at q;rw[e1,e2];cases r:c e with
  |exc _ _=>rfl
  |stuck=>rfl
  |
   ok b h1=>
   rw[r] at q;cases b with
   |false=>rfl
   |
    true=>
    have q':(B h1).loop (whV c B k) ≠ .stuck:=q;show (B h1).loop (whV c B (k+1))=(B h1).loop (whV c B k);cases s:B h1 with
    |nx a2=>rw[s] at q';exact gc q'
    |ct a2=>rw[s] at q';exact gc q'
    |_=>rfl
def p8{c:MT3}{B:MS3}{k j:Nat}{e:E3}(q:whV c B k e ≠ .stuck)(hj:k<=j):whV c B j e=whV c B k e:=by
 induction hj with
 |refl=>rfl
 |step _ ih=>rw[gc (by rw[ih];exact q),ih]
def hE{c:MT3}{B:MS3}{k:Nat}{e:E3}(q:whV c B k e ≠ .stuck):wWh c B e=whV c B k e:=by
 have hq:∃k,whV c B k e ≠ .stuck:=⟨k,q⟩;unfold wWh;rw[dif_pos hq];rcases Nat.le_total hq.choose k with z |z
 .exact (p8 hq.choose_spec z).symm
 .exact p8 q z
def rC(c:MT3)(B:MS3)(e:E3):wWh c B e=(c e).toS λb e1=>if b=true then (B e1).loop (wWh c B) else .nx e1:=by
 by_cases q:∃k,whV c B k e ≠ .stuck
 .obtain⟨k,q⟩:=q;rw[hE q];cases k with
  |zero=>exact absurd rfl q
  |
   succ k=>
   have e2:whV c B (k+1) e=(c e).toS λb e1=>if b=true then (B e1).loop (whV c B k) else .nx e1:=rfl
   rw[e2] at q ⊢;cases r:c e with
   |exc _ _=>rfl
   |stuck=>rfl
   |
    ok b h1=>
    rw[r] at q;cases b with
    |false=>rfl
    |
     true=>
     have q':(B h1).loop (whV c B k) ≠ .stuck:=q;show (B h1).loop (whV c B k)=(B h1).loop (wWh c B);cases s:B h1 with
     |nx a2=>rw[s] at q';exact (hE q').symm
     |ct a2=>rw[s] at q';exact (hE q').symm
     |_=>rfl
 .have e0:wWh c B e=.stuck:=by unfold wWh;rw[dif_neg q]
  rw[e0];have hs:∀k,whV c B (k+1) e=.stuck:=λk=>E_ λz=>q ⟨_,z⟩;cases r:c e with
  |stuck=>rfl
  |
   exc c' h'=>
   have:=hs 0
   unfold whV at this;rw[r] at this;cases this
  |
   ok b h1=>
   cases b with
   |
    false=>
    have:=hs 0
    unfold whV at this;rw[r] at this;cases this
   |
    true=>
    have h2:∀k,(B h1).loop (whV c B k)=.stuck:=λk=>by
     have:=hs k
     unfold whV at this;rw[r] at this;exact this
    show SR3.stuck=(B h1).loop (wWh c B);have lim:∀a2,(∀k,whV c B k a2=.stuck)->wWh c B a2=.stuck:=λa2 z=>by unfold wWh;rw[dif_neg (λ⟨k,y⟩=>y (z k))]
    cases s:B h1 with
    |nx a2=>rw[s] at h2;exact (lim a2 h2).symm
    |ct a2=>rw[s] at h2;exact (lim a2 h2).symm
    |stuck=>rfl
    |_=>have:=h2 0;rw[s] at this;cases this
def z9(p:PoS X h0 ns e h r2 r3)(q:r3 ≠ .stuck):r2 ≠ .stuck:=by
 cases r3 with
 |stuck=>exact absurd rfl q
 |nx e'=>obtain⟨c_,h',ns',z,_⟩:=p;rw[z];intro y;cases y
 |ct e'=>obtain⟨c_,h',ns',z,_⟩:=p;rw[z];intro y;cases y
 |bk e'=>obtain⟨c_,h',ns',z,_⟩:=p;rw[z];intro y;cases y
 |exc c e'=>obtain⟨c_,h',ns',z,_⟩:=p;rw[z];intro y;cases y
 |rt r e'=>obtain⟨d,c_,h',ns',z,_⟩:=p;rw[z];intro y;cases y
theorem oW(hc:RT c c3)(hB:RS B B3):∀(k:Nat) (X:Nat->Prop) (h0:Nat) (ns:Ns) (e:E3) (ae:AE) (h:AH),Sat X h0 ns e ae h->PoS X h0 ns e h (whN c B k ae h) (whV c3 B3 k e)
 |0,_,_,_,_,_,_,_=>trivial
 |
  k+1,X,h0,ns,e,ae,h,S=>by
  refine PoS.toS (hc X h0 ns e ae h S) λb b' h1 ns1 e1 a1 S1 r1=>?_;cases r1;try dsimp only
  split
  .exact PoS.after S a1 (PoS.loop (ae:=ae) (hB X h0 ns1 e1 ae h1 S1) λae2 h2 g_ e2 a2 S2=>PoS.after S1 a2 (oW hc hB k X h0 g_ e2 ae2 h2 S2))
  .exact .nx a1 S1
def Dh(hc:RT c c3)(hB:RS B B3):RS (sWh c B) (wWh c3 B3):=λX h0 ns e ae h S=>by
 by_cases q:∃k,whV c3 B3 k e ≠ .stuck
 .obtain⟨k,q⟩:=q;rw[hE q];have p:=oW hc hB k X h0 ns e ae h S;rw[o9 (z9 p q)];exact p
 .unfold wWh;rw[dif_neg q];trivial
end
noncomputable def cE(o:Option Nat)(s:Sl)(e:E3):E3:=match o,s with
 |some i,.mu v=>(match e[i]? with
  |some t=>e.set i (t.re v)
  |none=>e)
 |_,_=>e
noncomputable def aH:List (Option Nat)->E3->E3->E3
 |o::sub,s::inner,e=>aH sub inner (cE o s e)
 |_,_,e=>e
def mG(hn:∀v,o=some i->s=.mu v->False):(cE o s e)[i]?=e[i]?:=by
 unfold cE;split
 .rename_i i' v;split
  .rename_i t q;by_cases z:i=i'
   .subst z;exact (hn v rfl rfl).elim
   .rw[aN z]
  .rfl
 .rfl
theorem iM:∀{sub:Ge}{e2 e:E3}{i:Nat},(∀(j:Nat) v,sub[j]?=some (some i)->e2[j]?=some (.mu v)->False)->(aH sub e2 e)[i]?=e[i]?
 | [],_,_,_,_=>rfl
 |_::_,[],_,_,_=>rfl
 |
  o::sub,s::e2,e,i,hn=>by
  show (aH sub e2 (cE o s e))[i]?=_;rw[iM (λj v q1 q2=>hn (j+1) v (by simpa using q1) (by simpa using q2))];exact mG λv z1 z2=>hn 0 v (by rw[z1];rfl) (by rw[z2];rfl)
theorem mB:∀{sub:Ge}{e2 e:E3}{i j:Nat}{v:Val},(∀(j k:Nat) i,sub[j]?=some (some i)->sub[k]?=some (some i)->j=k)->sub[j]?=some (some i)->e2[j]?=some (.mu v)->(aH sub e2 e)[i]?=(e[i]?).map (Sl.re · v)
 | [],_,_,_,j,_,_,q,_=>by simp at q
 |_::_,[],_,_,j,_,_,_,q=>by simp at q
 |
  o::sub,s::e2,e,i,0,v,hj,q1,q2=>by
  have z1:o=some i:=by simpa using q1
  have z2:s=.mu v:=by simpa using q2
  subst z1 z2;show (aH sub e2 (cE (some i) (.mu v) e))[i]?=_;rw[iM (λk u y1 _=>by have:=hj 0 (k+1) i rfl (by simpa using y1);omega)];unfold cE;dsimp only;split
  .rename_i t q;rw[aY (p_.mp q).1,q];rfl
  .rename_i q;rw[q];rfl
 |
  o::sub,s::e2,e,i,j+1,v,hj,q1,q2=>by
  show (aH sub e2 (cE o s e))[i]?=_;have q1':sub[j]?=some (some i):=by simpa using q1
  rw[mB (λa b c y1 y2=>by have:=hj (a+1) (b+1) c (by simpa using y1) (by simpa using y2);omega) q1' (by simpa using q2)];rw[mG λv z1 _=>by have:=hj 0 (j+1) i (by rw[z1];rfl) q1;omega]
noncomputable def aO(sub:Ge)(ns:Ns):Ns:=sub.map λo=>o.bind λi=>(ns[i]?).bind id
def bj{sub:Ge}{ns:Ns}{j n:Nat}(q:(aO sub ns)[j]?=some (some n)):∃i,sub[j]?=some (some i)/\ns[i]?=some (some n):=by
 unfold aO at q;rw[D3] at q;cases z:sub[j]? with
 |none=>rw[z] at q;cases q
 |
  some o=>
  rw[z] at q;cases o with
  |none=>cases q
  |
   some i=>
   refine⟨i,rfl,?_⟩;have q':(ns[i]?).bind id=some n:=DX q;cases y:ns[i]? with
   |none=>rw[y] at q';cases q'
   |some w=>rw[y] at q';have:w=some n:=q';rw[this]
def vf{sub:Ge}{ns:Ns}{j i:Nat}{w:Option Nat}(q:sub[j]?=some (some i))(q2:ns[i]?=some w):(aO sub ns)[j]?=some w:=by unfold aO;rw[D3,q];show some ((ns[i]?).bind id)=some w;rw[q2];rfl
structure Lnk(sub:Ge)(e ei:E3):Prop where
 inj:∀(j k:Nat) (i:Nat),sub[j]?=some (some i)->sub[k]?=some (some i)->j=k
 mu:∀(j:Nat) (v:Val),ei[j]?=some (.mu v)->∃(i:Nat) (s:Sl),sub[j]?=some (some i)/\e[i]?=some s/\s.mt=true
 mt:∀(j:Nat) (s:Sl),ei[j]?=some s->s.mt=true->∃v,s=.mu v
def Sat.back(S:Sat X h0 ns e ae h)(K:Lnk sub e ei)(a:Stp (aO sub ns) ei h g_ e2 h2)
 (hY:∀n,Y n->n<h2.length/\(X n\/h.length<=n)) (hXY:∀n,X n->Y n)
 (hc:∀(j:Nat) v n,e2[j]?=some (.mu v)->g_[j]?=some (some n)->∃o,h2[n]?=some o/\a8 o/\Rc (Oc Y ns) h2 o v):Sat Y h0 ns (aH sub e2 e) ae h2/\Stp ns e h ns (aH sub e2 e) h2:=by
 have hM:∀n,Mt (aO sub ns) ei n->Mt ns e n:=λn ⟨j,s,z1,z2,z3⟩=>by obtain⟨v,rfl⟩:=K.mt j s z2 z3;obtain⟨i,s',y1,y2,y3⟩:=K.mu j v z2;obtain⟨i',y4,y5⟩:=bj z1;rw[y1] at y4;cases y4;exact⟨i,s',y5,y2,y3⟩
 have mv:Mov (Oc X ns) (Oc Y ns) h h2:=λn o p q=>⟨⟨λz=>by
  rcases (hY n z).2 with z |z
  .exact p.1 z
  .have:=bh q;omega,p.2⟩,a.keep n o q λz=>by obtain⟨j,s,z1,_⟩:=z;obtain⟨i,_,y⟩:=bj z1;exact p.2 (aG.mpr ⟨i,y⟩)⟩
 have key:∀i:Nat,(∃(j:Nat) (v:Val) (s:Sl),sub[j]?=some (some i)/\e2[j]?=some (.mu v)/\e[i]?=some s/\s.mt=true/\(aH sub e2 e)[i]?=some (s.re v)/\g_[j]?=ns[i]?)\/((∀n,ns[i]?=some (some n)->¬ Mt (aO sub ns) ei n)/\(aH sub e2 e)[i]?=e[i]?):=λi=>by
  by_cases hx:∃(j:Nat) (v:Val),sub[j]?=some (some i)/\e2[j]?=some (.mu v)
  .obtain⟨j,v,q1,q2⟩:=hx;obtain⟨u,q3,q4⟩:=a.mu j v q2;obtain⟨i',s,y1,y2,y3⟩:=K.mu j u q3;rw[q1] at y1;cases y1;refine .inl ⟨j,v,s,q1,q2,y2,y3,by rw[mB K.inj q1 q2,y2];rfl,?_⟩;rw[q4];have hl:i<ns.length:=by rw[S.l2];exact (p_.mp y2).1
   rw[DQ hl];exact vf q1 (DQ hl)
  .refine .inr ⟨λn q ⟨j,s,z1,z2,z3⟩=>hx ?_,iM λj v y1 y2=>hx ⟨j,v,y1,y2⟩⟩;obtain⟨v,rfl⟩:=K.mt j s z2 z3;obtain⟨i',y4,y5⟩:=bj z1;have:i'=i:=S.inj i' i n y5 q;subst this;obtain⟨v',y6,_⟩:=a.mu' j v z2;exact⟨j,v',y4,y6⟩
 have lenB:(aH sub e2 e).length=e.length:=by
  clear key hc a K S hY hXY hM mv;induction sub generalizing e2 e with
  |nil=>rfl
  |
   cons o sub ih=>
   cases e2 with
   |nil=>rfl
   |
    cons s e2=>
    show (aH sub e2 (cE o s e)).length=_;rw[ih];unfold cE;split
    .split
     .rw[y_]
     .rfl
    .rfl
 refine⟨⟨by rw[lenB];exact S.l1,by rw[lenB];exact S.l2,DU S.lh a.len,λn z=>(hY n z).1,S.inj,λi n q z=>?_,λi s q=>?_⟩,⟨a.len,λm o q hm=>a.keep m o q λz=>hm (hM m z),λ_ _ q=>.inl q,λi s q hl=>?_,λi s q hl=>?_,λi v q=>?_,λi v q=>?_⟩⟩
 .rcases (hY n z).2 with z |z
  .exact S.nx i n q z
  .obtain⟨_,_,_,_,_,_,_,q',_⟩:=S.own q
   have:=bh q';omega
 .rcases key i with ⟨j,v,s0,k1,k2,k3,k4,k5,k6⟩ |⟨k1,k2⟩
  .rw[k5] at q;cases q;have y:=S.sl i s0 k3;cases s0 with
   |ow u=>obtain⟨n,o,y1,y2,y3,_⟩:=y;obtain⟨o',z1,z2,z3⟩:=hc j v n k2 (by rw[k6];exact y1);exact⟨n,o',y1,y2,y3,z1,z2,z3⟩
   |mu u=>obtain⟨n,o,y1,y2,_⟩:=y;obtain⟨o',z1,z2,z3⟩:=hc j v n k2 (by rw[k6];exact y1);exact⟨n,o',y1,y2,z1,z2,z3⟩
   |_=>cases k4
  .rw[k2] at q;exact (S.sl i s q).mono mv λn o q1 q2=>a.keep n o q2 (k1 n q1)
 .rcases key i with ⟨j,v,s0,k1,k2,k3,k4,k5,k6⟩ |⟨k1,k2⟩
  .rw[k3] at q;cases q;cases s <;> first |cases hl;done |cases k4;done
  .rw[k2];exact⟨q,rfl⟩
 .rcases key i with ⟨j,v,s0,k1,k2,k3,k4,k5,k6⟩ |⟨k1,k2⟩
  .rw[k5] at q;cases q;cases s0 <;> first |cases hl;done |cases k4;done
  .rw[k2] at q;exact⟨q,rfl⟩
 .rcases key i with ⟨j,u,s0,k1,k2,k3,k4,k5,k6⟩ |⟨k1,k2⟩
  .rw[k5] at q;cases s0 with
   |mu w=>exact⟨w,k3,rfl⟩
   |ow w=>cases q
   |_=>cases k4
  .rw[k2] at q;exact⟨v,q,rfl⟩
 .rcases key i with ⟨j,u,s0,k1,k2,k3,k4,k5,k6⟩ |⟨k1,k2⟩
  .rw[k3] at q;cases q;exact⟨u,k5,rfl⟩
  .exact⟨v,by rw[k2];exact q,rfl⟩
noncomputable def inS:Sl->Sl
 |.ow v=>.mu v
 |.lo v=>.lm v
 |s=>s
noncomputable def bN(sub:Ge)(e:E3):E3:=sub.map λo=>match o with
 |none=>.no
 |some i=>match e[i]? with
  |some s=>inS s
  |none=>.no
noncomputable def lcV(g:MG3)(c:MT3)(F:ME3):List Val->List Val->E3->R3 (List Val)
 | [],acc,e=>.ok acc e
 |v::vs,acc,e=>if acc.length<16777216 then (match g v e with
  |none=>.stuck
  |some e1=>(c e1).bind λb e2=>if b=true then (F e2).bind λt e3=>(match br e3 t with
   |some (e4,y)=>lcV g c F vs (acc++[y]) e4
   |none=>.stuck) else lcV g c F vs acc e2) else .stuck
noncomputable def vLC(I:MI3)(sub:Ge)(g:MG3)(c:MT3)(F:ME3):ME3:=λe=>(I e).bind λp e1=>match lcV g c F p.1 [] (bN sub (lockO e1 p.2)) with
 |.ok ys e2=>if ys.length<=16777216 then .ok (.new (.lst ys)) (bQ (aH sub e2 (lockO e1 p.2)) p.2) else .stuck
 |_=>.stuck
def gQ(sub:Ge):Prop:=∀(j k:Nat) (i:Nat),sub[j]?=some (some i)->sub[k]?=some (some i)->j=k
def oJ(h:(sub.filterMap id).Nodup):gQ sub:=by
 induction sub with
 |nil=>intro j k i q;simp at q
 |
  cons o sub ih=>
  have d_:(sub.filterMap id).Nodup:=by
   cases o with
   |none=>simpa using h
   |some i=>rw[EC] at h;simp at h;exact h.2
  have hno:∀(i k:Nat),o=some i->sub[k]?=some (some i)->False:=λi k z q=>by subst z;rw[EC] at h;simp at h;exact h.1 (EK q)
  intro j k i q1 q2;cases j with
  |
   zero=>
   cases k with
   |zero=>rfl
   |succ k=>exact (hno i k (by simpa using q1) (by simpa using q2)).elim
  |
   succ j=>
   cases k with
   |zero=>exact (hno i j (by simpa using q2) (by simpa using q1)).elim
   |succ k=>exact Ey (· + 1) (ih d_ j k i (by simpa using q1) (by simpa using q2))
def Xin(X:Nat->Prop)(ns:Ns)(sub:Ge)(n:Nat):Prop:=X n\/(some n∈ns/\some n∉aO sub ns)
def gm(q:some n∈aO sub ns):some n∈ns:=by obtain⟨j,q⟩:=aG.mp q;obtain⟨i,_,q2⟩:=bj q;exact aG.mpr ⟨i,q2⟩
def eK{sub:Ge}{e:E3}{j:Nat}{s:Sl}(q:(bN sub e)[j]?=some s):(sub[j]?=some none/\s=.no)\/(∃i,sub[j]?=some (some i)/\((e[i]?=none/\s=.no)\/∃t,e[i]?=some t/\s=inS t)):=by
 unfold bN at q;rw[D3] at q;cases z:sub[j]? with
 |none=>rw[z] at q;cases q
 |
  some o=>
  rw[z] at q;cases o with
  |none=>cases q;exact .inl ⟨rfl,rfl⟩
  |
   some i=>
   refine .inr ⟨i,rfl,?_⟩;have q':=DX q;dsimp only at q';cases y:e[i]? with
   |none=>rw[y] at q';exact .inl ⟨rfl,q'.symm⟩
   |some t=>rw[y] at q';exact .inr ⟨t,rfl,q'.symm⟩
def Sat.inner(S:Sat X h0 ns e ae h)(hs:gQ sub):Sat (Xin X ns sub) h0 (aO sub ns) (bN sub e) (eB sub ae) h:=by
 refine⟨by unfold eB bN;rw[o_,o_],by unfold aO bN;rw[o_,o_],S.lh,λn z=>?_,λj k n q1 q2=>?_,λj n q z=>?_,λj s q=>?_⟩
 .rcases z with z |⟨z,_⟩
  .exact S.xl n z
  .obtain⟨i,z⟩:=aG.mp z;obtain⟨_,_,_,_,_,_,_,q',_⟩:=S.own z;exact bh q'
 .obtain⟨i,y1,y2⟩:=bj q1;obtain⟨i',y3,y4⟩:=bj q2
  have:=S.inj i i' n y2 y4
  subst this;exact hs j k i y1 y3
 .rcases z with z |⟨_,z⟩
  .obtain⟨i,y1,y2⟩:=bj q;exact S.nx i n y2 z
  .exact z (aG.mpr ⟨j,q⟩)
 .have mv:Mov (Oc X ns) (Oc (Xin X ns sub) (aO sub ns)) h h:=λn o p q=>⟨⟨λz=>by
   rcases z with z |⟨z,_⟩
   .exact p.1 z
   .exact p.2 z,λz=>p.2 (gm z)⟩,q⟩
  have hj:∀{o},sub[j]?=some o->(aO sub ns)[j]?=some (o.bind λi=>(ns[i]?).bind id)/\(eB sub ae)[j]?=some (o.bind λi=>(ae[i]?).bind id):=λ{o} z=>by unfold aO eB;rw[D3,D3,z];exact⟨rfl,rfl⟩
  rcases eK q with ⟨z,rfl⟩ |⟨i,z,⟨y,rfl⟩ |⟨t,y,rfl⟩⟩
  .rw[(hj z).1];rfl
  .rw[(hj z).1];show some ((ns[i]?).bind id)=some none;have:ns[i]?=none:=by rw[Fe] at y ⊢;rw[S.l2];exact y
   rw[this];rfl
  .have k:=(S.sl i t y).mono mv λ_ _ _ q=>q;rw[(hj z).1,(hj z).2];show SlR _ h0 (some ((ns[i]?).bind id)) (some ((ae[i]?).bind id)) h (inS t);have w1:∀x,ns[i]?=some x->some ((ns[i]?).bind id)=some x:=λx q=>by rw[q];rfl
   have w2:∀x,ae[i]?=some x->some ((ae[i]?).bind id)=some x:=λx q=>by rw[q];rfl
   cases t with
   |no=>rw[w1 _ k];rfl
   |sh v=>obtain⟨k1,x,k2,k3⟩:=k;rw[w1 _ k1,w2 _ k2];exact⟨rfl,x,rfl,k3⟩
   |ow v=>obtain⟨m,o,k1,k2,_,k3⟩:=k;rw[w1 _ k1,w2 _ k2];exact⟨m,o,rfl,rfl,k3⟩
   |lo v=>obtain⟨m,o,k1,k2,_,k3⟩:=k;rw[w1 _ k1,w2 _ k2];exact⟨m,o,rfl,rfl,k3⟩
   |mu v=>obtain⟨m,o,k1,k2,k3⟩:=k;rw[w1 _ k1,w2 _ k2];exact⟨m,o,rfl,rfl,k3⟩
   |lm v=>obtain⟨m,o,k1,k2,k3⟩:=k;rw[w1 _ k1,w2 _ k2];exact⟨m,o,rfl,rfl,k3⟩
def lO(hs:gQ sub):Lnk sub e (bN sub e):=by
 refine⟨hs,λj v q=>?_,λj s q hm=>?_⟩
 .rcases eK q with ⟨_,z⟩ |⟨i,z,⟨_,y⟩ |⟨t,y,y2⟩⟩
  .cases z
  .cases y
  .refine⟨i,t,z,y,?_⟩;cases t <;> first |rfl |cases y2
 .rcases eK q with ⟨_,z⟩ |⟨i,z,⟨_,y⟩ |⟨t,y,y2⟩⟩
  .subst z;cases hm
  .subst y;cases hm
  .subst y2;cases t with
   |ow v=>exact⟨v,rfl⟩
   |mu v=>exact⟨v,rfl⟩
   |_=>cases hm
section
variable{I:MI}{I3:MI3}{g:MG}{g3:MG3}{c:MT}{c3:MT3}{F:ME}{F3:ME3}
def Ab(S:Sat X h0 ns e ae h)(hg:RG g g3)(hc:RT c c3)(hF:RE F F3)(hG:∀ns' e' h',Stp ns e h ns' e' h'->G h'):
 ∀
  {ds:List D}{vs:List Val},Rds (Oc X ns) h ds vs->∀{acc:List D}{accv:List Val}{ns1:Ns}{e1:E3}{i_:AE}{h1:AH},Stp ns e h ns1 e1 h1->Sat X h0 ns1 e1 i_ h1->Rds (Oc X ns1) h1 acc accv->lcV g3 c3 F3 vs accv e1=.ok ys e2->
  ∃dy h2 g_ ae2,lcL G g c F ds acc i_ h1=.ok dy h2/\Stp ns e h g_ e2 h2/\Sat X h0 g_ e2 ae2 h2/\Rds (Oc X g_) h2 dy ys:=by
 intro ds;induction ds with
 |nil=>intro vs r acc accv ns1 e1 i_ h1 a1 S1 ra q;cases r;unfold lcL;rw[if_pos (hG _ _ _ a1)];cases q;exact⟨acc,h1,ns1,i_,rfl,a1,S1,ra⟩
 |
  cons d0 ds ih=>
  intro vs r acc accv ns1 e1 i_ h1 a1 S1 ra q;cases r with
  |
   cons r rr=>
   rename_i v vs;unfold lcV at q;unfold lcL;by_cases hl:accv.length<16777216
   .rw[if_pos hl] at q;rw[if_pos ⟨hG _ _ _ a1,by rw[ra.len];exact hl⟩];cases q1:g3 v e1 with
    |none=>rw[q1] at q;cases q
    |
     some e3=>
     rw[q1] at q;dsimp only at q;obtain⟨ae3,ns3,p3,S3,a3⟩:=hg _ _ _ _ _ _ _ _ _ S1 (r.mono (a1.mov S)) q1;rw[p3,c9];have a13:=a1.trans S a3;have pc:=hc X h0 ns3 e3 ae3 h1 S3;cases q4:c3 e3 with
     |stuck=>rw[q4] at q;cases q
     |exc _ _=>rw[q4] at q;cases q
     |
      ok b e4=>
      rw[q4] at q pc;obtain⟨b',h4,ns4,p4,a4,S4,rfl⟩:=pc;rw[p4,c9];have a14:=a13.trans S a4;have ra4:=(ra.mono (a3.mov S1)).mono (a4.mov S3);have q':(if b'=true then (F3 e4).bind λt e3=>(match br e3 t with
       |some (e4,y)=>lcV g3 c3 F3 _ (accv++[y]) e4
       |none=>.stuck) else lcV g3 c3 F3 _ accv e4)=.ok ys e2:=q
      by_cases hb:b'=true
      .rw[if_pos hb] at q' ⊢;have pF:=hF X h0 0 ns4 e4 ae3 h4 S4 (Ef _);cases q5:F3 e4 with
       |stuck=>rw[q5] at q';cases q'
       |exc _ _=>rw[q5] at q';cases q'
       |
        ok t e5=>
        rw[q5] at q' pF;obtain⟨d5,h5,ns5,p5,a5,S5,r5⟩:=pF;rw[p5,c9];have q'':(match br e5 t with
         |some (e4,y)=>lcV g3 c3 F3 _ (accv++[y]) e4
         |none=>.stuck)=.ok ys e2:=q'
        cases q6:br e5 t with
        |none=>rw[q6] at q'';cases q''
        |some w=>obtain⟨e6,y⟩:=w;rw[q6] at q'';obtain⟨ns6,S6,a6,r6⟩:=da S5 r5 q6;exact ih rr ((a14.trans S a5).trans S a6) S6 (((ra4.mono (a5.mov S4)).mono (a6.mov S5)).append (.cons r6 .nil)) q''
      .rw[if_neg hb] at q' ⊢;exact ih rr a14 S4 ra4 q'
   .rw[if_neg hl] at q;cases q
def BX(hs:(sub.filterMap id).Nodup)(hI:RI I I3)(hg:RG g g3)(hc:RT c c3)(hF:RE F F3):RE (eLC I sub g c F) (vLC I3 sub g3 c3 F3):=λX h0 L ns e ae h S hl=>
 Po.bind
  S (hI X h0 ns e ae h S) λit p h1 ns1 e1 a1 S1 r1=>by
  try dsimp only
  obtain⟨r2,gd,hk⟩:=r1;have hs':=oJ hs;have S2:=S1.lockO p.2;have S3:=S2.inner hs';cases q:lcV g3 c3 F3 p.1 [] (bN sub (lockO e1 p.2)) with
  |stuck=>trivial
  |exc _ _=>trivial
  |
   ok ys e2=>
   dsimp only;split
   .rename_i hy;have gd':∀ns' e' h',Stp (aO sub ns1) (bN sub (lockO e1 p.2)) h1 ns' e' h'->it.guard h':=λns' e' h' a=>gd h' λm o qm hm=>a.keep m o qm λ⟨j,s,z1,z2,z3⟩=>by
     obtain⟨i,y1,y2⟩:=bj z1;rcases hm with hm |⟨k,hk1,hk2⟩
     .exact hm.2 (aG.mpr ⟨i,y2⟩)
     .have:i=k:=S1.inj i k m y2 hk2;subst this;obtain⟨s',w1,w2⟩:=hk i hk1;rcases eK z2 with ⟨z,_⟩ |⟨i',z,y⟩
      .rw[y1] at z;cases z
      .rw[y1] at z;cases z;have hl:(lockO e1 p.2)[i]?=some (eG s'):=by rw[hk1];exact iG w1
       rcases y with ⟨y,_⟩ |⟨t,y,rfl⟩
       .rw[hl] at y;cases y
       .rw[hl] at y;cases y;cases s' <;> first |cases w2;done |cases z3;done
    have mvi:Mov (Oc X ns1) (Oc (Xin X ns1 sub) (aO sub ns1)) h1 h1:=λn o p q=>⟨⟨λz=>by
     rcases z with z |⟨z,_⟩
     .exact p.1 z
     .exact p.2 z,λz=>p.2 (gm z)⟩,q⟩
    obtain⟨dy,h2,g_,ae2,p2,a2,S4,r4⟩:=Ab (G:=it.guard) S3 hg hc hF gd' (r2.mono mvi) .refl S3 .nil q;have k3:∀n,Oc (Xin X ns1 sub) g_ n->Oc X ns1 n:=λn z=>⟨λy=>z.1 (.inl y),λy=>by
     by_cases w:some n∈aO sub ns1
     .obtain⟨j,w⟩:=aG.mp w;obtain⟨s,v,o,b1,b2,_⟩:=S3.own w;rcases b2 with b2 |b2
      .obtain⟨v',rfl⟩:=(lO (e:=lockO e1 p.2) hs').mt j s b1 b2;obtain⟨u,c1,c2⟩:=a2.mu' j v' b1;exact z.2 (aG.mpr ⟨j,by rw[c2];exact w⟩)
      .obtain⟨c1,c2⟩:=a2.lk j s b1 b2;exact z.2 (aG.mpr ⟨j,by rw[c2];exact w⟩)
     .exact z.1 (.inr ⟨y,w⟩)⟩
    have bk:=S2.back (Y:=X) (lO hs') a2 (λn z=>⟨A_ (S2.xl n z) a2.len,.inl z⟩) (λ_ z=>z) λj v n q1 q2=>by obtain⟨s,u,o,b1,b2,b3,b4,b5,b6,b7⟩:=S4.own q2;rw[q1] at b1;cases b1;cases b3;exact⟨o,b5,b6,b7.mono λm o' z y=>⟨k3 m z,y⟩⟩
    obtain⟨S5,a5⟩:=bk;have r5:Rds (Oc X ns1) h2 dy ys:=r4.mono λm o' z y=>⟨k3 m z,y⟩;have k_:∀(e':E3),Sat X h0 ns1 e' ae h2->Stp ns1 e1 h1 ns1 e' h2->Po X h0 ns1 e1 ae h1 (relE X h0 L ae) ((noX (lcL it.guard g c F it.items [] (eB sub ae) h1)).bind bJ) (.ok (.new (.lst ys)) e'):=λe' S6 a6=>by rw[p2];have pp:=BvR.po (L:=L) (r:=bJ dy h2) (b:=.new (.lst ys)) S6 (DU hl (DU a1.len a6.len)) ⟨.lst dy,by unfold bJ;rw[if_pos (by rw[r5.len];exact hy)],trivial,.lst r5⟩;obtain⟨d,h',ns',y,y1,y2,y3⟩:=pp;exact⟨d,h',ns',y,a6.trans S1 y1,y2,y3⟩
    cases hp:p.2 with
    |none=>rw[hp] at S5 a5;exact k_ _ S5 a5
    |some k=>rw[hp] at S5 a5;obtain⟨s,w1,w2⟩:=hk k hp;exact k_ _ (S5.unlock k) (a5.unlock w1 w2)
   .trivial
end
inductive R3F where
 |ok (r:Rt) (mv:List Val) |exc (c:Str) (mv:List Val) |stuck
abbrev Fn3:=List Val->R3F
noncomputable def sl1(b:Bool)(v:Val):Sl:=if b=true then .mu v else .sh v
noncomputable def sls(ms:List Bool)(vs:List Val):E3:=List.zipWith sl1 ms vs
noncomputable def ar:List Bool->List Val->E3
 |true::ms,v::vs=>.mu v::ar ms vs
 |true::ms,[]=>.no::ar ms []
 |false::ms,vs=>.no::ar ms vs
 | [],_=>[]
noncomputable def muV:List Bool->E3->Option (List Val)
 |true::ms,.mu v::e=>(muV ms e).map (v :: ·)
 |true::_,_=>none
 |false::ms,_::e=>muV ms e
 |false::_,[]=>none
 | [],_=>some []
def RFp(X:Nat->Prop)(ps:Ns)(ms:List Bool)(vs:List Val)(ds:List D)(h:AH)(r2:R D):R3F->Prop
 |.stuck=>True
 |.ok r mv=>∃d h',r2=.ok d h'/\Stp ps (sls ms vs) h ps (ar ms mv) h'/\RtR X h.length ps (ar ms mv) (ds.map some) h' d r
 |.exc c mv=>∃h',r2=.exc c h'/\Stp ps (sls ms vs) h ps (ar ms mv) h'/\Sat X h.length ps (ar ms mv) (ds.map some) h'
def RF(ms:List Bool)(G2:Fn)(G3:Fn3):Prop:=∀X ps ds vs h,vs.length=ms.length->Sat X h.length ps (sls ms vs) (ds.map some) h->RFp X ps ms vs ds h (G2 ds h) (G3 vs)
noncomputable def fnV(ms:List Bool)(N:Nat)(F:MS3):Fn3:=λvs=>if vs.length=ms.length then (match F (sls ms vs++List.replicate (N-vs.length) .no) with
 |.nx e=>(match muV ms e with |some mv=>.ok (.val .non) mv |none=>.stuck)
 |.rt r e=>(match muV ms e with |some mv=>.ok r mv |none=>.stuck)
 |.exc c e=>(match muV ms e with |some mv=>.exc c mv |none=>.stuck)
 |_=>.stuck) else .stuck
def cb{ms:List Bool}{vs:List Val}{i:Nat}{s:Sl}(q:(sls ms vs)[i]?=some s):∃b v,ms[i]?=some b/\vs[i]?=some v/\s=sl1 b v:=by
 unfold sls at q;rw[EF] at q;cases h1:ms[i]? with
 |none=>rw[h1] at q;cases q
 |
  some b=>
  cases h2:vs[i]? with
  |none=>rw[h1,h2] at q;cases q
  |some v=>rw[h1,h2] at q;cases q;exact⟨b,v,rfl,rfl,rfl⟩
theorem dq:∀{ms:List Bool}{e:E3}{mv:List Val}{i:Nat}{s:Sl},muV ms e=some mv->(ar ms mv)[i]?=some s->(ms[i]?=some false/\s=.no)\/(ms[i]?=some true/\∃v,e[i]?=some (.mu v)/\s=.mu v)
 | [],_,_,_,_,_,q=>by unfold ar at q;simp at q
 |
  true::ms,.mu v::e,mv,i,s,q,q2=>by
  obtain⟨mv',z1,z2⟩:=DZ.mp (show (muV ms e).map (v :: ·)=some mv from q);subst z2;cases i with
  |zero=>
   right;have:Sl.mu v=s:=by simpa [ar] using q2
   subst this;exact⟨rfl,v,rfl,rfl⟩
  |
   succ i=>
   have:=dq (i:=i) (s:=s) z1 (by simpa [ar] using q2)
   simpa using this
 |true::ms,[],mv,i,s,q,q2=>by cases q
 |true::ms,.no::e,mv,i,s,q,q2=>by cases q
 |true::ms,.sh v::e,mv,i,s,q,q2=>by cases q
 |true::ms,.ow v::e,mv,i,s,q,q2=>by cases q
 |true::ms,.lo v::e,mv,i,s,q,q2=>by cases q
 |true::ms,.lm v::e,mv,i,s,q,q2=>by cases q
 |false::ms,[],mv,i,s,q,q2=>by cases q
 |
  false::ms,t::e,mv,i,s,q,q2=>by
  cases i with
  |zero=>
   left;have:Sl.no=s:=by simpa [ar] using q2
   exact⟨rfl,this.symm⟩
  |
   succ i=>
   have:=dq (i:=i) (s:=s) (show muV ms e=some mv from q) (by simpa [ar] using q2)
   simpa using this
theorem iC:∀{ms:List Bool}{e:E3}{mv:List Val}{i:Nat},muV ms e=some mv->ms[i]?=some true->∃v,e[i]?=some (.mu v)/\(ar ms mv)[i]?=some (.mu v)
 | [],_,_,i,_,q=>by simp at q
 |
  true::ms,.mu v::e,mv,i,q,q2=>by
  obtain⟨mv',z1,z2⟩:=DZ.mp (show (muV ms e).map (v :: ·)=some mv from q);subst z2;cases i with
  |zero=>exact⟨v,rfl,rfl⟩
  |succ i=>obtain⟨u,y1,y2⟩:=iC (i:=i) z1 (by simpa using q2);exact⟨u,by simpa using y1,by simpa [ar] using y2⟩
 |true::ms,[],mv,i,q,q2=>by cases q
 |true::ms,.no::e,mv,i,q,q2=>by cases q
 |true::ms,.sh v::e,mv,i,q,q2=>by cases q
 |true::ms,.ow v::e,mv,i,q,q2=>by cases q
 |true::ms,.lo v::e,mv,i,q,q2=>by cases q
 |true::ms,.lm v::e,mv,i,q,q2=>by cases q
 |false::ms,[],mv,i,q,q2=>by cases q
 |
  false::ms,t::e,mv,i,q,q2=>by
  cases i with
  |zero=>simp at q2
  |succ i=>obtain⟨u,y1,y2⟩:=iC (i:=i) (show muV ms e=some mv from q) (by simpa using q2);exact⟨u,by simpa using y1,by simpa [ar] using y2⟩
theorem df:∀{ms:List Bool}{mv:List Val},(ar ms mv).length=ms.length
 | [],_=>rfl
 |true::ms,v::mv=>by show (ar ms mv).length+1=ms.length+1;rw[df]
 |true::ms,[]=>by show (ar ms []).length+1=ms.length+1;rw[df]
 |false::ms,mv=>by show (ar ms mv).length+1=ms.length+1;rw[df]
def B4(hF:RS F F3):RF ms (fnD N F) (fnV ms N F3):=λX ps ds vs h hl S=>by
 unfold fnV;rw[if_pos hl];have lS:(sls ms vs).length=vs.length:=by unfold sls;rw[EN];omega
 have lD:ds.length=vs.length:=by have:=S.l1;rw[o_,lS] at this;exact this
 have lP:ps.length=vs.length:=S.l2.trans lS;have ltS:∀{i:Nat},i<ms.length->i<(sls ms vs).length:=λh=>by omega
 have ltP:∀{i:Nat},i<(sls ms vs).length->i<ps.length:=λh=>S.l2.symm ▸ h;have S1
  : Sat X h.length (ps++List.replicate (N-vs.length) none) (sls ms vs++List.replicate (N-vs.length) .no) (ds.map some++List.replicate (N-vs.length) none) h:=by
  have mns:∀n,some n∈ps++List.replicate (N-vs.length) (none:Option Nat) ↔ some n∈ps:=λn=>by
   rw[EU];constructor
   .rintro (z |z)
    .exact z
    .have:=List.eq_of_mem_replicate z;cases this
   .exact .inl
  have gns:∀{i n:Nat},(ps++List.replicate (N-vs.length) (none:Option Nat))[i]?=some (some n)->ps[i]?=some (some n):=λ{i n} q=>by
   rw[Fx] at q;split at q
   .exact q
   .rw[Em] at q;split at q <;> cases q
  refine⟨?_,?_,S.lh,S.xl,λi j n q1 q2=>S.inj i j n (gns q1) (gns q2),λi n q=>S.nx i n (gns q),λi s q=>?_⟩
  .rw[DY,DY,D6,D6,S.l1]
  .rw[DY,DY,D6,D6,S.l2]
  .rw[Fx] at q;split at q
   .rename_i hi;have k:=S.sl i s q;rw[C_ (ltP hi),C_ (by rw[S.l1];exact hi)];exact k.mono (λn o p q=>⟨⟨p.1,λz=>p.2 ((mns n).mp z)⟩,q⟩) λ_ _ _ q=>q
   .rename_i hi;rw[Em] at q;split at q
    .cases q;rw[Eb (by rw[S.l2];exact Nat.le_of_not_lt hi),Em,if_pos (by rw[S.l2];assumption)];rfl
    .cases q
 have p:=hF _ _ _ _ _ _ S1;have e2:fnD N F ds h=match F (ds.map some++List.replicate (N-vs.length) none) h with
  |.nx _ h'=>.ok .non h'
  |.rt d h'=>.ok d h'
  |.exc c _ h'=>.exc c h'
  |_=>.stuck:=by rw[<- lD];rfl
 rw[e2];have k_:∀(Y:Nat->Prop) (ns':Ns) (e':E3) (c_:AE) (h':AH) (mv:List Val),(∀n,X n->Y n)->Stp (ps++List.replicate (N-vs.length) none) (sls ms vs++List.replicate (N-vs.length) .no) h ns' e' h'->Sat Y h.length ns' e' c_ h'->muV ms e'=some mv->
  Stp ps (sls ms vs) h ps (ar ms mv) h'/\Sat Y h.length ps (ar ms mv) (ds.map some) h'/\∀n,Oc Y ns' n->Oc Y ps n:=by
  intro Y ns' e' c_ h' mv hXY a S2 qm;have kmu:∀{i:Nat},ms[i]?=some true->∃v u n o,e'[i]?=some (.mu v)/\(ar ms mv)[i]?=some (.mu v)/\(sls ms vs)[i]?=some (.mu u)/\ns'[i]?=ps[i]?/\ps[i]?=some (some n)/\(ds.map some)[i]?=some (some (.ref n))/\h'[n]?=some o/\a8 o/\Rc (Oc Y ns') h' o v:=by intro i hi;obtain⟨v,y1,y2⟩:=iC qm hi;have hil:i<ms.length:=(p_.mp hi).1;obtain⟨u,y3,y4⟩:=a.mu i v y1;rw[C_ (ltS hil)] at y3;rw[C_ (ltP (ltS hil))] at y4;obtain⟨n,o,z1,z2,_⟩:=S.sl i _ y3;obtain⟨n',o',w1,w2,w3,w4,w5⟩:=S2.sl i _ y1;rw[y4,z1] at w1;cases w1;exact⟨v,u,n,o',y1,y2,y3,y4,z1,z2,w3,w4,w5⟩
  have kown:∀{i n:Nat},ps[i]?=some (some n)->ms[i]?=some true:=λ{i n} q=>by
   obtain⟨s,v,o,z1,z2,_⟩:=S.own q;obtain⟨b,u,y1,_,y2⟩:=cb z1;cases b with
   |true=>exact y1
   |false=>subst y2;rcases z2 with z2 |z2 <;> cases z2
  have koc:∀n,Oc Y ns' n->Oc Y ps n:=λn z=>⟨z.1,λy=>by obtain⟨i,y⟩:=aG.mp y;obtain⟨v,u,n',o,_,_,_,k1,k2,_⟩:=kmu (kown y);exact z.2 (aG.mpr ⟨i,by rw[k1];exact y⟩)⟩;refine⟨⟨a.len,λm o q hm=>a.keep m o q λ⟨i,s,z1,z2,z3⟩=>hm ?_,λ_ _ q=>.inl q,λi s q hl'=>?_,λi s q hl'=>?_,λi v q=>?_,λi v q=>?_⟩,⟨?_,?_,DU (v_ _) a.len,S2.xl,S.inj,λi n q z=>?_,λi s q=>?_⟩,koc⟩
  .rw[Fx] at z1;split at z1
   .rename_i hi;rw[C_ (by rw[<- S.l2];exact hi)] at z2;exact⟨i,s,z1,z2,z3⟩
   .rw[Em] at z1;split at z1 <;> cases z1
  .obtain⟨b,u,_,_,y⟩:=cb q;subst y;cases b <;> cases hl'
  .rcases dq qm q with ⟨_,z⟩ |⟨_,v,_,z⟩ <;> subst z <;> cases hl'
  .rcases dq qm q with ⟨_,z⟩ |⟨z,_⟩
   .cases z
   .obtain⟨v',u,n,o,_,_,k1,_⟩:=kmu z;exact⟨u,k1,rfl⟩
  .obtain⟨b,u,y1,_,y2⟩:=cb q;cases b with
   |false=>cases y2
   |true=>obtain⟨v',u,n,o,_,k0,k1,_⟩:=kmu y1;exact⟨v',k0,rfl⟩
  .rw[o_,df];omega
  .rw[df];omega
  .obtain⟨v,u,n',o,_,_,_,k1,k2,_⟩:=kmu (kown q);exact S2.nx i n (by rw[k1];exact q) z
  .rcases dq qm q with ⟨z,rfl⟩ |⟨z,v,z2,rfl⟩
   .have hil:i<ms.length:=(p_.mp z).1;have hi:i<(sls ms vs).length:=ltS hil;obtain⟨b,u,y1,_,y2⟩:=cb (DQ hi);rw[z] at y1;cases y1;have k:=S.sl i _ (DQ hi);rw[y2] at k;exact k.1
   .obtain⟨v',u,n,o,k0,_,_,k1,k2,k3,k4,k5,k6⟩:=kmu z;rw[z2] at k0;cases k0;exact⟨n,o,k2,k3,k4,k5,k6.mono λm o' y q=>⟨koc m y,q⟩⟩
 generalize F3 (sls ms vs++List.replicate (N-vs.length) .no)=r3 at *;cases r3 with
 |stuck=>trivial
 |bk _=>trivial
 |ct _=>trivial
 |
  nx e'=>
  obtain⟨c_,h',ns',q,a,S2⟩:=p;rw[q];dsimp only;cases qm:muV ms e' with
  |none=>trivial
  |some mv=>obtain⟨a3,S3,koc⟩:=k_ X ns' e' c_ h' mv (λ_ z=>z) a S2 qm;exact⟨.non,h',rfl,a3,S3,.non⟩
 |
  exc c e'=>
  obtain⟨c_,h',ns',q,a,S2⟩:=p;rw[q];dsimp only;cases qm:muV ms e' with
  |none=>trivial
  |some mv=>obtain⟨a3,S3,koc⟩:=k_ X ns' e' c_ h' mv (λ_ z=>z) a S2 qm;exact⟨h',rfl,a3,S3⟩
 |
  rt r e'=>
  obtain⟨d,c_,h',ns',q,a,rr⟩:=p;rw[q];dsimp only;cases qm:muV ms e' with
  |none=>trivial
  |
   some mv=>
   cases r with
   |val v=>obtain⟨a3,S3,koc⟩:=k_ X ns' e' c_ h' mv (λ_ z=>z) a rr.1 qm;exact⟨d,h',rfl,a3,S3,rr.2.mono λm o y q=>⟨koc m y,q⟩⟩
   |new v=>obtain⟨n,o,z1,z2,z3,z4,z5,z6,z7⟩:=rr;obtain⟨a3,S3,koc⟩:=k_ (Xn X n) ns' e' c_ h' mv (λ_ z=>.inl z) a z6 qm;exact⟨d,h',rfl,a3,n,o,z1,z2,z3,z4,z5,S3,z7.mono λm o y q=>⟨koc m y,q⟩⟩
   |pr v u=>obtain⟨d1,n,o,z1,z2,z3,z4,z5,z6,z7,z8⟩:=rr;obtain⟨a3,S3,koc⟩:=k_ (Xn X n) ns' e' c_ h' mv (λ_ z=>.inl z) a z6 qm;exact⟨d,h',rfl,a3,d1,n,o,z1,z2,z3,z4,z5,S3,z7.mono λm o y q=>⟨koc m y,q⟩,z8.mono λm o y q=>⟨koc m y,q⟩⟩
   |
    par i=>
    obtain⟨R1,R2,v,R3⟩:=rr;obtain⟨a3,S3,koc⟩:=k_ X ns' e' c_ h' mv (λ_ z=>z) a R1 qm;obtain⟨u,k1,k2⟩:=a.mu i v R3;have hi:i<(sls ms vs).length:=by apply Decidable.byContradiction;intro hi;rw[Eb (Nat.le_of_not_lt hi),Em] at k1;split at k1 <;> cases k1
    rw[C_ hi] at k1;rw[C_ (by rw[S.l2];exact hi)] at k2;obtain⟨m,o,w1,w2,_⟩:=S.sl i _ k1;obtain⟨m',o',x1,x2,_⟩:=R1.sl i _ R3;rw[k2,w1] at x1;cases x1;rw[R2] at x2;cases x2;obtain⟨v',y,_⟩:=a3.mu' i u k1;exact⟨_,h',rfl,a3,S3,w2,v',y⟩
noncomputable def dS(i:Nat):List Tm->Bool
 |.bor j::ts=>(i==j) || dS i ts
 |_::ts=>dS i ts
 | []=>false
noncomputable def dM(i:Nat):List Bool->List Tm->Bool
 |true::ms,.bor j::ts=>(i==j) || dM i ms ts
 |_::ms,_::ts=>dM i ms ts
 |_,_=>false
noncomputable def okA(e:E3):List Bool->List Tm->Bool
 |true::ms,.bor i::ts=>((e[i]?).bind Sl.mv).isSome && !(dS i ts)&&okA e ms ts
 |true::_,_::_=>false
 |false::ms,.bor i::ts=>!(dM i ms ts)&&okA e ms ts
 |false::ms,_::ts=>okA e ms ts
 | [],[]=>true
 |_,_=>false
noncomputable def iX(b:Bool)(t:Tm):Option Nat:=match b,t with
 |true,.bor i=>some i
 |_,_=>none
noncomputable def aM(ms:List Bool)(ts:List Tm):List (Option Nat):=List.zipWith iX ms ts
noncomputable def ax(e:E3):List Bool->List Tm->List Nat
 |false::ms,.bor i::ts=>(match e[i]? with
  |some (.sh _)=>ax e ms ts
  |_=>i::ax e ms ts)
 |_::ms,_::ts=>ax e ms ts
 |_,_=>[]
mutual
def aJ:Val->Bool
 |.tup xs=>flatVs xs
 |.lst _=>false
 |.kl _=>false
 |.dct _=>false
 |.set _=>false
 |_=>true
def flatVs:List Val->Bool
 | []=>true
 |v::vs=>aJ v&&flatVs vs
end
noncomputable def gX:List (Key×Val)->Bool
 | []=>true
 |(_,v)::vs=>aJ v&&gX vs
noncomputable def flatC:Val->Bool
 |.lst xs=>flatVs xs
 |.dct xs=>gX xs
 |.set _=>true
 |_=>false
def fq:Rt->Bool
 |.val v=>aJ v
 |.new v=>flatC v
 |.par _=>true
 |.pr v u=>aJ v&&flatC u
noncomputable def iD(e:E3):List Nat->Option E3
 | []=>some e
 |i::is=>match br e (.bor i) with
  |some (e1,_)=>iD e1 is
  |none=>none
def Rt.tm(ts:List Tm):Rt->Tm
 |.val v=>.val v
 |.new v=>.new v
 |.par i=>(ts[i]?).getD (.val .non)
 |.pr v u=>.val (.tup [v,u])
noncomputable def tZ(ms:List Bool)(G:Fn3)(A:MA3):ME3:=λe=>(A e).bind λts e1=>match rss e1 ts with
 |none=>.stuck
 |some vs=>if okA e1 ms ts=true then (match G vs with
  |.stuck=>.stuck
  |.ok r mv=>if (ax e1 ms ts).isEmpty || (fq r&&mv.all flatC) then .ok (r.tm ts) (aH (aM ms ts) (ar ms mv) e1) else (match iD e1 (ax e1 ms ts) with
   |some e2=>.ok (r.tm ts) (aH (aM ms ts) (ar ms mv) e2)
   |none=>.stuck)
  |.exc c mv=>if (ax e1 ms ts).isEmpty || mv.all flatC then .exc c (aH (aM ms ts) (ar ms mv) e1) else .stuck) else .stuck
section
variable{P P':Nat->Prop}{h h':AH}
def Rd.flat(f:aJ v=true)(r:Rd P h d v):Rd P' h' d v:=
 @Rd.rec P h (λd v _=>aJ v=true->Rd P' h' d v) (λo v _=>aJ v=true->Rd P' h' .non v) (λds vs _=>flatVs vs=true->Rds P' h' ds vs) (λws us _=>True) (λ_=>.non) (λb _=>.bl b) (λi _=>.int i) (λx _=>.str x) (λn _=>.ty n) (λx _=>.glb x) (λx _=>.exc x) (λ_ ih f=>.tup (ih f)) (λ_ _ f=>absurd f u_) (λ_ _ r _ f=>by cases r <;> exact absurd f u_) (λ_ _ f=>absurd f u_) (λ_ _ f=>absurd f u_) (λ_ _ f=>absurd f u_) (λ_ f=>absurd f u_) (λ_=>.nil) (λ_ _ a b f=>.cons (a (t_ .. ▸ f).1) (b (t_ .. ▸ f).2)) trivial (λ_ _ _ _=>trivial) d v r f
def Rds.flat(f:flatVs v=true)(r:Rds P h d v):Rds P' h' d v:=
 r.ind (M:=λds vs=>flatVs vs=true->Rds P' h' ds vs) (λ_=>.nil) (λr _ ih f=>by rw[flatVs,t_] at f;exact .cons (Rd.flat f.1 r) (ih f.2)) f
def Rk.flat(f:gX v=true)(r:Rk P h d v):Rk P' h' d v:=
 r.ind (M:=λds vs=>gX vs=true->Rk P' h' ds vs) (λ_=>.nil) (λr _ ih f=>by rw[gX,t_] at f;exact .cons (Rd.flat f.1 r) (ih f.2)) f
def Rc.flat(f:flatC v=true)(r:Rc P h o v):Rc P' h' o v:=by
 cases r with
 |lst r=>exact .lst (Rds.flat (by simpa [flatC] using f) r)
 |fz r=>simp [flatC] at f
 |dct r=>exact .dct (Rk.flat (by simpa [flatC] using f) r)
 |set xs=>exact .set xs
end
theorem iJ:∀{ts:List Tm}{k:Nat},ts[k]?=some (.bor i)->dS i ts=true
 | [],_,q=>by simp at q
 |
  t::ts,0,q=>by
  have:t=.bor i:=by simpa using q
  subst this;simp [dS]
 |
  t::ts,k+1,q=>by
  have:=iJ (ts:=ts) (k:=k) (by simpa using q)
  cases t <;> simp [dS,this]
theorem mz:∀{ms:List Bool}{ts:List Tm}{k:Nat},ms[k]?=some true->ts[k]?=some (.bor i)->dM i ms ts=true
 | [],_,_,q,_=>by simp at q
 |_::_,[],_,_,q=>by simp at q
 |
  b::ms,t::ts,0,q1,q=>by
  have:t=.bor i:=by simpa using q
  have:b=true:=by simpa using q1
  subst_vars;simp [dM]
 |
  b::ms,t::ts,k+1,q1,q=>by
  have:=mz (ms:=ms) (ts:=ts) (k:=k) (by simpa using q1) (by simpa using q)
  cases b <;> cases t <;> simp [dM,this]
theorem fu:∀{ms:List Bool}{ts:List Tm}{k:Nat},okA e ms ts=true->ms[k]?=some true->∃i,ts[k]?=some (.bor i)/\∃u,(e[i]?).bind Sl.mv=some u
 | [],_,_,_,q=>by simp at q
 |b::ms,[],_,o,_=>by cases b <;> simp [okA] at o
 |
  b::ms,t::ts,0,o,q=>by
  have:b=true:=by simpa using q
  subst this;cases t with
  |bor i=>simp only[okA,t_] at o;exact⟨i,rfl,Ex.mp o.1.1⟩
  |_=>simp [okA] at o
 |
  b::ms,t::ts,k+1,o,q=>by
  have o':okA e ms ts=true:=by cases b <;> cases t <;> simp only[okA,t_] at o <;> first |exact o.2 |exact o |(simp at o;done)
  obtain⟨i,y⟩:=fu (k:=k) o' (by simpa using q);exact⟨i,by simpa using y⟩
theorem d7:∀{ms:List Bool}{ts:List Tm}{k j i:Nat},okA e ms ts=true->ms[k]?=some true->ts[k]?=some (.bor i)->ts[j]?=some (.bor i)->j=k
 | [],_,_,_,_,_,q,_,_=>by simp at q
 |b::ms,[],_,_,_,o,_,_,_=>by cases b <;> simp [okA] at o
 |b::ms,t::ts,0,0,i,o,q1,q2,q3=>rfl
 |
  b::ms,t::ts,0,j+1,i,o,q1,q2,q3=>by
  have h1:b=true:=by simpa using q1
  have h2:t=.bor i:=by simpa using q2
  subst h1 h2;simp only[okA,t_] at o
  have:=iJ (i:=i) (ts:=ts) (k:=j) (by simpa using q3)
  rw[this] at o;simp at o
 |
  b::ms,t::ts,k+1,0,i,o,q1,q2,q3=>by
  have h2:t=.bor i:=by simpa using q3
  subst h2;have hm:=mz (i:=i) (ms:=ms) (ts:=ts) (k:=k) (by simpa using q1) (by simpa using q2);have hb:=iJ (i:=i) (ts:=ts) (k:=k) (by simpa using q2);cases b <;> simp [okA,hm,hb] at o
 |
  b::ms,t::ts,k+1,j+1,i,o,q1,q2,q3=>by
  have o':okA e ms ts=true:=by cases b <;> cases t <;> simp only[okA,t_] at o <;> first |exact o.2 |exact o |(simp at o;done)
  exact Ey (· + 1) (d7 (k:=k) (j:=j) (i:=i) o' (by simpa using q1) (by simpa using q2) (by simpa using q3))
theorem dX:∀{ms:List Bool}{ts:List Tm},okA e ms ts=true->ms.length=ts.length
 | [],[],_=>rfl
 | [],_::_,o=>by simp [okA] at o
 |b::ms,[],o=>by cases b <;> simp [okA] at o
 |
  b::ms,t::ts,o=>by
  have o':okA e ms ts=true:=by cases b <;> cases t <;> simp only[okA,t_] at o <;> first |exact o.2 |exact o |(simp at o;done)
  exact Ey (· + 1) (dX o')
theorem gx:∀{ms:List Bool}{ts:List Tm}{k i:Nat},ms[k]?=some false->ts[k]?=some (.bor i)->(∀v,e[i]?≠some (.sh v))->i∈ax e ms ts
 | [],_,_,_,q,_,_=>by simp at q
 |_::_,[],_,_,_,q,_=>by simp at q
 |
  b::ms,t::ts,0,i,q1,q2,hn=>by
  have h1:b=false:=by simpa using q1
  have h2:t=.bor i:=by simpa using q2
  subst h1 h2;unfold ax;split
  .rename_i v q;exact absurd q (hn v)
  .exact D7 ..
 |
  b::ms,t::ts,k+1,i,q1,q2,hn=>by
  have ih:=gx (ms:=ms) (ts:=ts) (k:=k) (by simpa using q1) (by simpa using q2) hn;cases b <;> cases t <;> simp only[ax] <;> first |exact ih |(split;exact ih;exact DV _ ih)
def b8{ms:List Bool}{ts:List Tm}{k i:Nat}(q:(aM ms ts)[k]?=some (some i)):ms[k]?=some true/\ts[k]?=some (.bor i):=by
 unfold aM at q;rw[EF] at q;cases h1:ms[k]? with
 |none=>rw[h1] at q;cases q
 |
  some b=>
  cases h2:ts[k]? with
  |none=>rw[h1,h2] at q;cases q
  |some t=>rw[h1,h2] at q;have q':iX b t=some i:=DX q;cases b <;> cases t <;> first |(cases q';done) |(cases q';exact⟨rfl,rfl⟩)
def vK{ms:List Bool}{ts:List Tm}{k i:Nat}(q1:ms[k]?=some true)(q2:ts[k]?=some (.bor i)):(aM ms ts)[k]?=some (some i):=by unfold aM;rw[EF,q1,q2];rfl
theorem mi:∀{ts:List Tm}{vs:List Val}{k:Nat}{v:Val},rss e ts=some vs->vs[k]?=some v->∃t,ts[k]?=some t/\rs e t=some v
 | [],_,_,_,q,q2=>by cases q;simp at q2
 |
  t::ts,vs,k,v,q,q2=>by
  unfold rss at q;split at q
  .rename_i u us e1 e2;cases q;cases k with
   |zero=>
    have:u=v:=by simpa using q2
    subst this;exact⟨t,rfl,e1⟩
   |succ k=>obtain⟨t',y1,y2⟩:=mi (k:=k) e2 (by simpa using q2);exact⟨t',by simpa using y1,y2⟩
  .cases q
theorem fN:∀{ts:List Tm}{vs:List Val},rss e ts=some vs->vs.length=ts.length
 | [],_,q=>by cases q;rfl
 |
  t::ts,vs,q=>by
  unfold rss at q;split at q
  .rename_i u us e1 e2;cases q;exact Ey (· + 1) (fN e2)
  .cases q
theorem TsR.get:∀{ds:List D}{ts:List Tm}{k:Nat}{t:Tm},TsR X ns ae h ds ts->ts[k]?=some t->∃d,ds[k]?=some d/\((∃v,t=.val v/\Rd (Oc X ns) h d v)\/∃i,t=.bor i/\ae[i]?=some (some d))
 |_,_,_,_,.nil,q=>by simp at q
 |_,_,0,_,.val r rr,q=>by have:=(by simpa using q:Tm.val _=_);subst this;exact⟨_,rfl,.inl ⟨_,rfl,r⟩⟩
 |_,_,0,_,.bor r rr,q=>by have:=(by simpa using q:Tm.bor _=_);subst this;exact⟨_,rfl,.inr ⟨_,rfl,r⟩⟩
 |_,_,k+1,t,.val r rr,q=>by obtain⟨d,y⟩:=rr.get (k:=k) (by simpa using q);exact⟨d,by simpa using y⟩
 |_,_,k+1,t,.bor r rr,q=>by obtain⟨d,y⟩:=rr.get (k:=k) (by simpa using q);exact⟨d,by simpa using y⟩
def Xc(X:Nat->Prop)(ns:Ns)(e:E3)(ms:List Bool)(ts:List Tm)(n:Nat):Prop:=(X n\/some n∈ns)/\some n∉aO (aM ms ts) ns/\∀i∈ax e ms ts,ns[i]?≠some (some n)
def j3(S:Sat X h0 ns e ae h)(rt:TsR X ns ae h ds ts)(qv:rss e ts=some vs)(ok:okA e ms ts=true):
 Sat (Xc X ns e ms ts) h.length (aO (aM ms ts) ns) (sls ms vs) (ds.map some) h:=by
 have l1:=dX ok;have l2:=fN qv;have l3:=TsR.len rt;have hs:gQ (aM ms ts):=λj k i q1 q2=>d7 ok (b8 q2).1 (b8 q2).2 (b8 q1).2;have mv:Mov (Oc X ns) (Oc (Xc X ns e ms ts) (aO (aM ms ts) ns)) h h:=λn o p q=>⟨⟨λz=>by
  rcases z.1 with z |z
  .exact p.1 z
  .exact p.2 z,λz=>p.2 (gm z)⟩,q⟩
 refine⟨?_,?_,v_ _,λn z=>?_,λj k n q1 q2=>?_,λj n q z=>z.2.1 (aG.mpr ⟨j,q⟩),λk s q=>?_⟩
 .unfold sls;rw[o_,EN];omega
 .unfold aO aM sls;rw[o_,EN,EN];omega
 .rcases z.1 with z |z
  .exact S.xl n z
  .obtain⟨i,z⟩:=aG.mp z;obtain⟨_,_,_,_,_,_,_,q',_⟩:=S.own z;exact bh q'
 .obtain⟨i,y1,y2⟩:=bj q1;obtain⟨i',y3,y4⟩:=bj q2
  have:=S.inj i i' n y2 y4
  subst this;exact hs j k i y1 y3
 .obtain⟨b,v,
   q1,q2,rfl⟩:=cb q
  obtain⟨t,q3,q4⟩:=mi qv q2;obtain⟨d,q5,q6⟩:=rt.get q3;have qd:(ds.map some)[k]?=some (some d):=by rw[D3,q5];rfl
  rw[qd];have qn:(aO (aM ms ts) ns)[k]?=some ((iX b t).bind λi=>(ns[i]?).bind id):=by unfold aO aM;rw[D3,EF,q1,q3];rfl
  rw[qn];cases b with
  |
   true=>
   obtain⟨i,y1,u,y2⟩:=fu ok q1;rw[q3] at y1;cases y1;have q4':(e[i]?).bind Sl.val=some v:=q4;obtain⟨s,z1,z2⟩:=Eh.mp y2;rw[z1] at q4';have hv:s.val=some v:=q4';have huv:u=v:=by cases s <;> first |cases z2;done |(cases z2;cases hv;rfl)
   subst huv;have hns:∃n,ns[i]?=some (some n):=by
    have y:=S.sl i s z1;cases s with
    |ow v=>obtain⟨n,o,y1,_⟩:=y;exact⟨n,y1⟩
    |mu v=>obtain⟨n,o,y1,_⟩:=y;exact⟨n,y1⟩
    |_=>cases z2
   obtain⟨n,hn⟩:=hns;obtain⟨n',o,k1,k2,k3,k4,_⟩:=S.write z1 z2;rcases q6 with ⟨_,z,_⟩ |⟨i',z,q6⟩
   .cases z
   .cases z;rw[q6] at k1;cases k1;obtain⟨_,_,_,_,_,_,w,_⟩:=S.own hn;rw[q6] at w;cases w;exact⟨n,o,by show some ((ns[i]?).bind id)=_;rw[hn];rfl,rfl,k2,k3,k4.mono mv⟩
  |
   false=>
   refine⟨by cases t <;> rfl,d,rfl,?_⟩;rcases q6 with ⟨u,rfl,q6⟩ |⟨i,rfl,q6⟩
   .cases q4;exact q6.mono mv
   .have q4':(
     e[i]?).bind Sl.val=some v:=q4
    rcases S.bor q6 q4' with z |⟨n,o,rfl,z1,z2⟩
    .exact z.mono mv
    .refine .cell ⟨λy=>?_,λy=>?_⟩ z1 (z2.mono mv)
     .
      by_cases hsh:∃w,e[i]?=some (.sh w)
      .obtain⟨w,hsh⟩:=hsh;obtain⟨_,x,w1,w2⟩:=S.sl i _ hsh;rw[q6] at w1;cases w1;cases w2 with
       |cell p _ _=>rcases y.1 with y |y;exact p.1 y;exact p.2 y
      .have hl:=gx q1 q3 λw z=>hsh ⟨w,z⟩;cases w:ns[i]? with
       |
        none=>
        have hi:i<e.length:=by
         cases z:e[i]? with
         |none=>rw[z] at q4';cases q4'
         |some _=>exact (p_.mp z).1
        rw[Fe,S.l2] at w;omega
       |
        some w'=>
        cases w' with
        |
         none=>
         cases z:e[i]? with
         |none=>rw[z] at q4';cases q4'
         |
          some s=>
          have k:=S.sl i s z;rw[w] at k;cases s with
          |no=>rw[z] at q4';cases q4'
          |sh w=>exact hsh ⟨w,z⟩
          |ow w=>obtain⟨_,_,k,_⟩:=k;cases k
          |lo w=>obtain⟨_,_,k,_⟩:=k;cases k
          |mu w=>obtain⟨_,_,k,_⟩:=k;cases k
          |lm w=>obtain⟨_,_,k,_⟩:=k;cases k
        |some n'=>obtain⟨_,_,_,_,_,_,w2,_⟩:=S.own w;rw[q6] at w2;cases w2;exact y.2.2 i hl w
     .obtain⟨j,y⟩:=aG.mp y;obtain⟨i',y1,y2⟩:=bj y;obtain⟨y3,y4⟩:=b8 y1;obtain⟨_,_,_,_,_,_,w2,_⟩:=S.own y2;have:i'
       = i:=by
       cases w:ns[i]? with
       |
        none=>
        have hi:i<e.length:=by
         cases z:e[i]? with
         |none=>rw[z] at q4';cases q4'
         |some _=>exact (p_.mp z).1
        rw[Fe,S.l2] at w;omega
       |
        some w'=>
        cases w' with
        |some n'=>obtain⟨_,_,_,_,_,_,w3,_⟩:=S.own w;rw[q6] at w3;cases w3;exact S.inj i' i n y2 w
        |
         none=>
         cases z:e[i]? with
         |none=>rw[z] at q4';cases q4'
         |
          some s=>
          have k:=S.sl i s z;rw[w,q6] at k;cases s with
          |no=>rw[z] at q4';cases q4'
          |
           sh w=>
           obtain⟨_,x,k1,k2⟩:=k;cases k1;cases k2 with
           |cell p _ _=>exact (p.2 (aG.mpr ⟨i',y2⟩)).elim
          |ow w=>obtain⟨_,_,k,_⟩:=k;cases k
          |lo w=>obtain⟨_,_,k,_⟩:=k;cases k
          |mu w=>obtain⟨_,_,k,_⟩:=k;cases k
          |lm w=>obtain⟨_,_,k,_⟩:=k;cases k
      subst this
      have:=d7 ok y3 y4 q3
      subst this;rw[q1] at y3;cases y3
theorem b9:∀{ms:List Bool}{mv:List Val}{j:Nat}{v:Val},(ar ms mv)[j]?=some (.mu v)->v∈mv
 | [],_,_,_,q=>by simp [ar] at q
 |true::ms,u::mv,0,v,q=>by
  have:Sl.mu u=.mu v:=by simpa [ar] using q
  cases this;exact D7 ..
 |true::ms,u::mv,j+1,v,q=>DV _ (b9 (ms:=ms) (mv:=mv) (j:=j) (by simpa [ar] using q))
 |true::ms,[],0,v,q=>by simp [ar] at q
 |true::ms,[],j+1,v,q=>b9 (ms:=ms) (mv:=[]) (j:=j) (by simpa [ar] using q)
 |false::ms,mv,0,v,q=>by simp [ar] at q
 |false::ms,mv,j+1,v,q=>b9 (ms:=ms) (mv:=mv) (j:=j) (by simpa [ar] using q)
theorem gF:∀{ms:List Bool}{ts:List Tm}{i:Nat},i∈ax e ms ts->∃k:Nat,ms[k]?=some false/\ts[k]?=some (.bor i)
 | [],_,_,q=>by simp [ax] at q
 |_::_,[],_,q=>by simp [ax] at q
 |
  b::ms,t::ts,i,q=>by
  have up:i∈ax e ms ts->∃k:Nat,(b::ms)[k]?=some false/\(t::ts)[k]?=some (.bor i):=λz=>by obtain⟨k,y1,y2⟩:=gF z;exact⟨k+1,by simpa using y1,by simpa using y2⟩
  cases b <;> cases t <;> simp only[ax] at q <;> first |exact up q |skip
  split at q
  .exact up q
  .rcases Eg.mp q with rfl |q
   .exact⟨0,rfl,rfl⟩
   .exact up q
def wm(q:br e (.bor i)=some (e1,v)):(∀j,j≠i->e1[j]?=e[j]?)/\e1[i]?=some (.sh v)/\(e[i]?).bind Sl.val=some v:=by
 unfold br at q;dsimp only at q;split at q
 .rename_i u q1;cases q;exact⟨λ_ _=>rfl,q1,by rw[q1];rfl⟩
 .rename_i u q1;cases q;exact⟨λj z=>aN z,aY (p_.mp q1).1,by rw[q1];rfl⟩
 .cases q
theorem kS:∀{is:List Nat}{ns:Ns}{e e2:E3},Sat X h0 ns e ae h->(∀i∈is,∃d,ae[i]?=some (some d))->iD e is=some e2->∃g_,Sat X h0 g_ e2 ae h/\Stp ns e h g_ e2 h/\(∀i,i∉is->e2[i]?=e[i]?)/\(∀i∈is,∃v,e2[i]?=some (.sh v))/\∀i:Nat,(e2[i]?).bind Sl.val=(e[i]?).bind Sl.val
 | [],ns,e,e2,S,_,q=>by cases q;exact⟨ns,S,.refl,λ_ _=>rfl,(λ_ z=>by cases z),λ_=>rfl⟩
 |
  i::is,ns,e,e2,S,hd,q=>by
  unfold iD at q;split at q
  .rename_i e1 v q1;obtain⟨d,hd0⟩:=hd i (D7 ..);obtain⟨ns1,S1,a1,r1⟩:=da (L:=0) (t:=.bor i) S hd0 q1;obtain⟨g_,S2,a2,k1,k2,k3⟩:=kS S1 (λj z=>hd j (DV _ z)) q;obtain⟨y1,y2,y3⟩:=wm q1;refine⟨g_,S2,a1.trans S a2,λj hj=>?_,λj hj=>?_,λj=>?_⟩
   .rw[Eg,not_or] at hj;rw[k1 j hj.2,y1 j hj.1]
   .by_cases z:j∈is
    .exact k2 j z
    .rcases Eg.mp hj with rfl |hj
     .exact⟨v,by rw[k1 j z];exact y2⟩
     .exact absurd hj z
   .rw[k3 j];by_cases z:j=i
    .subst z;rw[y2,y3];rfl
    .rw[y1 j z]
  .cases q
theorem i9:∀{ms:List Bool}{ts:List Tm},(∀(k i:Nat),ms[k]?=some true->ts[k]?=some (.bor i)->e2[i]?=e[i]?)->okA e ms ts=true->okA e2 ms ts=true
 | [],[],_,o=>rfl
 | [],_::_,_,o=>by simp [okA] at o
 |b::ms,[],_,o=>by cases b <;> simp [okA] at o
 |
  b::ms,t::ts,hk,o=>by
  have o':okA e ms ts=true:=by cases b <;> cases t <;> simp only[okA,t_] at o <;> first |exact o.2 |exact o |(simp at o;done)
  have ih:=i9 (λk i q1 q2=>hk (k+1) i (by simpa using q1) (by simpa using q2)) o';cases b with
  |false=>cases t <;> simp only[okA,t_] at o ⊢ <;> first |exact⟨o.1,ih⟩ |exact ih
  |
   true=>
   cases t with
   |bor i=>simp only[okA,t_] at o ⊢;rw[hk 0 i rfl rfl];exact⟨o.1,ih⟩
   |_=>simp [okA] at o
theorem kj:∀{ms:List Bool}{ts:List Tm},(∀(k i:Nat),ms[k]?=some false->ts[k]?=some (.bor i)->∃v,e[i]?=some (.sh v))->ax e ms ts=[]
 | [],_,_=>by simp [ax]
 |_::_,[],_=>by simp [ax]
 |
  b::ms,t::ts,hk=>by
  have ih:=kj (λk i q1 q2=>hk (k+1) i (by simpa using q1) (by simpa using q2));cases b <;> cases t <;> simp only[ax] <;> first |exact ih |skip
  rename_i i;obtain⟨v,q⟩:=hk 0 i rfl rfl;rw[q];exact ih
theorem jd(hv:∀i:Nat,(e2[i]?).bind Sl.val=(e[i]?).bind Sl.val):∀(ts:List Tm),rss e2 ts=rss e ts
 | []=>rfl
 |
  t::ts=>by
  unfold rss;rw[jd hv ts];have:rs e2 t=rs e t:=by
   cases t with
   |bor i=>exact hv i
   |_=>rfl
  rw[this]
def gy(ok:okA e ms ts=true):Lnk (aM ms ts) e (sls ms vs):=by
 refine⟨λj k i q1 q2=>d7 ok (b8 q2).1 (b8 q2).2 (b8 q1).2,λj v q=>?_,λj s q hm=>?_⟩
 .obtain⟨b,u,q1,_,q2⟩:=cb q;cases b with
  |false=>cases q2
  |true=>obtain⟨i,y1,w,y2⟩:=fu ok q1;obtain⟨s,z1,z2⟩:=Eh.mp y2;exact⟨i,s,vK q1 y1,z1,by cases s <;> first |rfl |cases z2⟩
 .obtain⟨b,u,q1,_,q2⟩:=cb q;cases b with
  |false=>subst q2;cases hm
  |true=>exact⟨u,q2⟩
section
variable{X:Nat->Prop}{h0 L:Nat}{ns:Ns}{e:E3}{ae:AE}{h:AH}{ms:List Bool}{ts:List Tm}{ds:List D}{vs:List Val}{S2:Fn}{G3:Fn3}
def d6(Y:Nat->Prop)(hY:∀n,Y n->X n\/Y n)(hl:ax e ms ts=[])(z:¬ Xc X ns e ms ts n)(z2:some n∉aO (aM ms ts) ns):Oc X ns n:=by refine⟨λy=>z ⟨.inl y,z2,λi hi=>by rw[hl] at hi;cases hi⟩,λy=>z ⟨.inr y,z2,λi hi=>by rw[hl] at hi;cases hi⟩⟩
def j6{B:Prop}(S:Sat X h0 ns e ae h)(ok:okA e ms ts=true)(a:Stp (aO (aM ms ts) ns) (sls ms vs) h (aO (aM ms ts) ns) (ar ms mv) h')(hf:ax e ms ts=[]\/(B/\mv.all flatC=true))(z2:h.length<=n)(z4:h'[n]?=some o)(S3:Sat (Xn (Xc X ns e ms ts) n) h.length (aO (aM ms ts) ns) (ar ms mv) (ds.map some) h'):
 Sat (Xn X n) h0 ns (aH (aM ms ts) (ar ms mv) e) ae h'/\Stp ns e h ns (aH (aM ms ts) (ar ms mv) e) h'/\(ax e ms ts=[]->∀m,Oc (Xn (Xc X ns e ms ts) n) (aO (aM ms ts) ns) m->Oc (Xn X n) ns m):=by
 have K:=gy (vs:=vs) ok;have kk:ax e ms ts=[]->∀m,Oc (Xn (Xc X ns e ms ts) n) (aO (aM ms ts) ns) m->Oc (Xn X n) ns m:=λhf m z=>by
  have:=d6 X (λ_ z=>.inl z) hf (λy=>z.1 (.inl y)) z.2
  exact⟨λy=>by
   rcases y with y |y
   .exact this.1 y
   .exact z.1 (.inr y),this.2⟩
 obtain⟨S4,a4⟩:=S.back (Y:=Xn X n) K a (λm z=>by
  rcases z with z |rfl
  .exact⟨A_ (S.xl m z) a.len,.inl z⟩
  .exact⟨bh z4,.inr z2⟩) (λ_ z=>.inl z) λj w n' q1 q2=>by
  obtain⟨s,u,o,b1,b2,b3,b4,b5,b6,b7⟩:=S3.own q2;rw[q1] at b1;cases b1;cases b3;rcases hf with hf |hf
  .exact⟨o,b5,b6,b7.mono λm o' z y=>⟨kk hf m z,y⟩⟩
  .exact⟨o,b5,b6,b7.flat (D4.mp hf.2 w (b9 q1))⟩
 exact⟨S4,a4,kk⟩
def mD(S:Sat X h0 ns e ae h)(hL:L<=h.length)(rt:TsR X ns ae h ds ts)(qv:rss e ts=some vs)(ok:okA e ms ts=true)(hG:RF ms S2 G3)(q:G3 vs=.ok r mv)(hf:ax e ms ts=[]\/(fq r=true/\mv.all flatC=true)):
 Po X h0 ns e ae h (relE X h0 L ae) (S2 ds h) (.ok (r.tm ts) (aH (aM ms ts) (ar ms mv) e)):=by
 have p:=hG _ _ ds vs h (by rw[fN qv,dX ok]) (j3 S rt qv ok);rw[q] at p;obtain⟨d,h',p1,a,rr⟩:=p;have K:=gy (vs:=vs) ok;have xcl:∀n,X n->n<h.length:=S.xl;cases r with
 |
  val v=>
  obtain⟨S3,rv⟩:=rr;obtain⟨S4,a4⟩:=S.back (Y:=X) K a (λn z=>⟨A_ (xcl n z) a.len,.inl z⟩) (λ_ z=>z) λj w n q1 q2=>by
   obtain⟨s,u,o,b1,b2,b3,b4,b5,b6,b7⟩:=S3.own q2;rw[q1] at b1;cases b1;cases b3;rcases hf with hf |hf
   .exact⟨o,b5,b6,b7.mono λm o' z y=>⟨d6 X (λ_ z=>.inl z) hf z.1 z.2,y⟩⟩
   .exact⟨o,b5,b6,b7.flat (D4.mp hf.2 w (b9 q1))⟩
  refine⟨d,h',ns,p1,a4,S4,?_⟩;rcases hf with hf |hf
  .exact rv.mono λm o' z y=>⟨d6 X (λ_ z=>.inl z) hf z.1 z.2,y⟩
  .exact rv.flat hf.1
 |
  new v=>
  obtain⟨n,o,z1,z2,z3,z4,z5,S3,z7⟩:=rr;obtain⟨S4,a4,r4⟩:=j6 S ok a hf z2 z4 S3;refine⟨d,h',ns,p1,a4,S4.weak λ_ z=>.inl z,n,o,z1,DU hL z2,λy=>by have:=xcl n y;omega,z4,z5,S4,?_⟩;rcases hf with hf |hf
  .exact z7.mono λm o' z y=>⟨r4 hf m z,y⟩
  .exact z7.flat hf.1
 |
  pr v u=>
  obtain⟨d1,n,o,rfl,z2,z3,z4,z5,S3,z6,z7⟩:=rr;obtain⟨S4,a4,r4⟩:=j6 S ok a hf z2 z4 S3;have on:Oc X ns n:=⟨λy=>by have:=xcl n y;omega,λy=>by obtain⟨i,y⟩:=aG.mp y;exact S4.nx i n y (.inr rfl)⟩;have wk:Mov (Oc (Xn X n) ns) (Oc X ns) h' h':=λm o' z y=>⟨⟨λc=>z.1 (.inl c),z.2⟩,y⟩;refine⟨_,h',ns,p1,a4,S4.weak λ_ z=>.inl z,.tup (.cons ?_ (.cons (.cell on z4 ?_) .nil))⟩
  .rcases hf with hf |hf
   .exact (z6.mono λm o' z y=>⟨r4 hf m z,y⟩).mono wk
   .exact z6.flat (t_ _ _ ▸ hf.1).1
  .rcases hf with hf |hf
   .exact (z7.mono λm o' z y=>⟨r4 hf m z,y⟩).mono wk
   .exact z7.flat (t_ _ _ ▸ hf.1).2
 |
  par i=>
  obtain⟨S3,w1,w,w2⟩:=rr;obtain⟨S4,a4⟩:=S.back (Y:=X) K a (λn z=>⟨A_ (xcl n z) a.len,.inl z⟩) (λ_ z=>z) λj w n q1 q2=>by
   obtain⟨s,u,o,b1,b2,b3,b4,b5,b6,b7⟩:=S3.own q2;rw[q1] at b1;cases b1;cases b3;rcases hf with hf |hf
   .exact⟨o,b5,b6,b7.mono λm o' z y=>⟨d6 X (λ_ z=>.inl z) hf z.1 z.2,y⟩⟩
   .exact⟨o,b5,b6,b7.flat (D4.mp hf.2 w (b9 q1))⟩
  refine⟨d,h',ns,p1,a4,S4,?_⟩;obtain⟨u,x1,_⟩:=a.mu i w w2;obtain⟨b,u',x2,_,x3⟩:=cb x1;cases b with
  |false=>cases x3
  |
   true=>
   obtain⟨k,y1,_⟩:=fu ok x2;obtain⟨d',y2,z⟩:=rt.get y1;have e1:(Rt.par i).tm ts=.bor k:=by show (ts[i]?).getD _=_;rw[y1];rfl
   rw[e1];rcases z with ⟨_,z,_⟩ |⟨j,z,z2⟩
   .cases z
   .cases z;rw[D3,y2] at w1;cases w1;exact z2
def qF(S:Sat X h0 ns e ae h)(rt:TsR X ns ae h ds ts)(qv:rss e ts=some vs)(ok:okA e ms ts=true)(hG:RF ms S2 G3)(q:G3 vs=.exc c mv)(hf:ax e ms ts=[]\/mv.all flatC=true):
 Po X h0 ns e ae h (relE X h0 L ae) (S2 ds h) (.exc c (aH (aM ms ts) (ar ms mv) e)):=by
 have p:=hG _ _ ds vs h (by rw[fN qv,dX ok]) (j3 S rt qv ok);rw[q] at p;obtain⟨h',p1,a,S3⟩:=p;have K:=gy (vs:=vs) ok;obtain⟨S4,a4⟩:=S.back (Y:=X) K a (λn z=>⟨A_ (S.xl n z) a.len,.inl z⟩) (λ_ z=>z) λj w n q1 q2=>by
  obtain⟨s,u,o,b1,b2,b3,b4,b5,b6,b7⟩:=S3.own q2;rw[q1] at b1;cases b1;cases b3;rcases hf with hf |hf
  .exact⟨o,b5,b6,b7.mono λm o' z y=>⟨d6 X (λ_ z=>.inl z) hf z.1 z.2,y⟩⟩
  .exact⟨o,b5,b6,b7.flat (D4.mp hf w (b9 q1))⟩
 exact⟨h',ns,p1,a4,S4⟩
def vm(hn:n=ms.length)(hG:RF ms S2 G3)(hA:RA A A3):RE (nV n S2 A) (tZ ms G3 A3):=λX h0 L ns e ae h S hl=>
 Po.bind
  S (hA X h0 ns e ae h S) λds ts h1 ns1 e1 a1 S1 r1=>by
  try dsimp only
  cases qv:rss e1 ts with
  |none=>trivial
  |
   some vs=>
   dsimp only;by_cases ok:okA e1 ms ts=true
   .rw[if_pos ok];have hlen:ds.length=n:=by rw[hn,dX ok];exact TsR.len r1
    rw[if_pos hlen];have hL:L<=h1.length:=DU hl a1.len;cases q:G3 vs with
    |stuck=>trivial
    |
     exc c mv=>
     dsimp only;by_cases hf:((ax e1 ms ts).isEmpty || mv.all flatC)=true
     .rw[if_pos hf];refine qF S1 r1 qv ok hG q ?_;rw[Bool.or_eq_true] at hf;rcases hf with hf |hf
      .exact .inl (List.isEmpty_iff.mp hf)
      .exact .inr hf
     .rw[if_neg hf];trivial
    |
     ok r mv=>
     dsimp only;by_cases hf:((ax e1 ms ts).isEmpty || (fq r&&mv.all flatC))=true
     .rw[if_pos hf];refine mD S1 hL r1 qv ok hG q ?_;rw[Bool.or_eq_true,t_] at hf;rcases hf with hf |hf
      .exact .inl (List.isEmpty_iff.mp hf)
      .exact .inr hf
     .rw[if_neg hf];cases qd:iD e1 (ax e1 ms ts) with
      |none=>trivial
      |
       some e2=>
       dsimp only;obtain⟨g_,S2',a2,k1,k2,k3⟩:=kS S1 (λi hi=>by
        obtain⟨k,_,y⟩:=gF hi;obtain⟨d,_,z⟩:=r1.get y;rcases z with ⟨_,z,_⟩ |⟨j,z,z2⟩
        .cases z
        .cases z;exact⟨d,z2⟩) qd
       have ok2:okA e2 ms ts=true:=i9 (λk i q1 q2=>k1 i λz=>by
        obtain⟨k',y1,y2⟩:=gF z
        have:=d7 ok q1 q2 y2
        subst this;rw[q1] at y1;cases y1) ok
       have ln:ax e2 ms ts=[]:=kj λk i q1 q2=>by
        by_cases z:i∈ax e1 ms ts
        .exact k2 i z
        .rw[k1 i z];exact E_ λw=>z (gx q1 q2 λv y=>w ⟨v,y⟩)
       have pp:=mD (L:=L) S2' hL (r1.stp S1 a2) (by rw[jd k3];exact qv) ok2 hG q (.inl ln);obtain⟨d,h',ns',y,y1,y2,y3⟩:=pp;exact⟨d,h',ns',y,a2.trans S1 y1,y2,y3⟩
   .rw[if_neg ok];trivial
end
noncomputable def aI(f:Int->Int->Val):Val->Val->Bv:=λx y=>match x,y with
 |.int i,.int j=>.val (f i j)
 |_,_=>.stuck
open Classical in
def aIc(C:Int->Int->Prop)(f:Int->Int->Val):Val->Val->Bv:=λx y=>match x,y with
 |.int i,.int j=>if C i j then .val (f i j) else .stuck
 |_,_=>.stuck
noncomputable def nQ:Val->Val->Bv:=λx y=>match x,y with
 |.lst xs,.lst ys=>if xs.length+ys.length<=16777216 then .new (.lst (xs++ys)) else .stuck
 |.tup xs,.tup ys=>if xs.length+ys.length<=16777216 then .val (.tup (xs++ys)) else .stuck
 |_,_=>.stuck
noncomputable def qN:Val->Val->Bv:=λx y=>match x,y with
 |.int i,.int j=>.val (.int (i+j))
 |x,y=>nQ x y
noncomputable def aMin:=aI λi j=>.int (i-j)
def nL:=aIc CMulA λi j=>.int (i*j)
def nR:=aIc CDivB λi j=>.int (i.fdiv j)
def mJ:=aIc (λ_ j=>j≠0) λi j=>.int (i.fmod j)
def mL:=aIc iz λi j=>.int (i^j.toNat)
noncomputable def aLt:=aI λi j=>.bl (decide (i<j))
def aLe:=aI λi j=>.bl (decide (i<=j))
noncomputable def aGt:=aI λi j=>.bl (decide (j<i))
noncomputable def aGe:=aI λi j=>.bl (decide (j<=i))
noncomputable def rj:Val->Bv:=λx=>match x with
 |.int i=>.val (.int (-i))
 |_=>.stuck
def la:Val->Val->Bv:=λx y=>match x,y with
 |.lst xs,.int k=>if -(2^63)<=k/\k<2^63/\xs.length*k.toNat<=16777216 then .new (.lst (List.replicate k.toNat xs).flatten) else .stuck
 |_,_=>.stuck
noncomputable def aIx:Val->Val->Bv:=λx y=>match x.items,y with
 |some xs,.int i=>(match atI xs i with
  |some v=>.val v
  |none=>.stuck)
 |_,_=>.stuck
section
def kM(hr:∀i j P h,Rd P h (f2 i j) (f3 i j)):RO (gI f2) (aI f3):=λP h d1 d2 v1 v2 r1 r2=>by
 unfold aI;split
 .obtain rfl:=r1.int;obtain rfl:=r2.int;exact⟨_,rfl,hr _ _ P h⟩
 .trivial
def jF(hr:∀i j P h,Rd P h (f2 i j) (f3 i j)):RO (gIc C f2) (aIc C f3):=λP h d1 d2 v1 v2 r1 r2=>by
 unfold aIc;split
 .obtain rfl:=r1.int;obtain rfl:=r2.int;split
  .rename_i hc;exact⟨_,by unfold gIc;dsimp only;rw[if_pos hc],hr _ _ P h⟩
  .trivial
 .trivial
def A0:RO gi nQ:=λP h d1 d2 v1 v2 r1 r2=>by
 unfold nQ;split
 .obtain⟨n,ds,rfl,e1,_,q1⟩:=r1.lst;obtain⟨m,es,rfl,e2,_,q2⟩:=r2.lst;split
  .rename_i hl;exact⟨.lst (ds++es),by unfold gi;dsimp only;rw[e1,e2];dsimp only;rw[if_pos (by rw[q1.len,q2.len];exact hl)],trivial,.lst (q1.append q2)⟩
  .trivial
 .obtain⟨ds,rfl,q1⟩:=r1.tup;obtain⟨es,rfl,q2⟩:=r2.tup;split
  .rename_i hl;exact⟨_,by unfold gi;dsimp only;rw[if_pos (by rw[q1.len,q2.len];exact hl)],.tup (q1.append q2)⟩
  .trivial
 .trivial
def Aw:RO nu qN:=λP h d1 d2 v1 v2 r1 r2=>by
 unfold qN;split
 .obtain rfl:=r1.int;obtain rfl:=r2.int;exact⟨_,rfl,.int _⟩
 .rename_i hn;have k:=A0 P h d1 d2 v1 v2 r1 r2;have e:nu d1 d2 h=gi d1 d2 h\/nQ v1 v2=.stuck:=by
   cases v1 <;> first |(right;rfl) |(left;skip)
   .obtain⟨ds,rfl,_⟩:=r1.tup;rfl
   .obtain⟨n,ds,rfl,_⟩:=r1.lst;rfl
  rcases e with e |e
  .rw[e];exact k
  .rw[e];trivial
def xy:RO rm aMin:=kM λ_ _ _ _=>.int _
def xp:RO qr nL:=jF λ_ _ _ _=>.int _
def Ay:RO qM nR:=jF λ_ _ _ _=>.int _
def A7:RO rS mJ:=jF λ_ _ _ _=>.int _
def zO:RO rR mL:=jF λ_ _ _ _=>.int _
def DK:RO gLt aLt:=kM λ_ _ _ _=>.bl _
def Dn:RO gLe aLe:=kM λ_ _ _ _=>.bl _
def Bm:RO gGt aGt:=kM λ_ _ _ _=>.bl _
def Dc:RO gGe aGe:=kM λ_ _ _ _=>.bl _
def zR:RU nv rj:=λP h d v r=>by
 unfold rj;split
 .obtain rfl:=r.int;exact⟨_,rfl,.int _⟩
 .trivial
def yr:RO kA la:=λP h d1 d2 v1 v2 r1 r2=>by
 unfold la;split
 .obtain⟨n,ds,rfl,e1,_,q1⟩:=r1.lst;obtain rfl:=r2.int;split
  .rename_i hl;exact⟨.lst (List.replicate _ ds).flatten,by unfold kA;dsimp only;rw[e1];dsimp only;rw[if_pos (by rw[q1.len];exact hl)],trivial,.lst (q1.rep _)⟩
  .trivial
 .trivial
def CG(r:Rds P h ds vs)(e:atI vs i=some v):∃d,atI ds i=some d/\Rd P h d v:=by
 unfold atI at e ⊢;rw[r.len];cases q:ixN vs.length i with
 |none=>rw[q] at e;cases e
 |some j=>rw[q] at e;exact r.get e
def BQ:RO gIx aIx:=λP h d1 d2 v1 v2 r1 r2=>by
 unfold aIx;split
 .rename_i xs i e1;obtain⟨ds,e2,q⟩:=r1.items e1;obtain rfl:=r2.int;split
  .rename_i v e3;obtain⟨d,e4,q2⟩:=CG q e3;exact⟨d,by unfold gIx;rw[e2];dsimp only;rw[e4],q2⟩
  .trivial
 .trivial
end
mutual
def bA:Nat->Val->Option PyData
 |0,_=>none
 |_+1,.non=>some .none
 |_+1,.bl b=>some (.bool b)
 |_+1,.int i=>some (.int i)
 |_+1,.str x=>some (.str x)
 |k+1,.tup xs=>(bZ k xs).map .tuple
 |k+1,.lst xs=>(bZ k xs).map .list
 |_+1,_=>none
def bZ:Nat->List Val->Option (List PyData)
 |_,[]=>some []
 |k,x::xs=>match bA k x,bZ k xs with
  |some a,some b=>some (a::b)
  |_,_=>none
end
def rl(hk:∀d v pd,Rd P h d v->bA k v=some pd->bT k h d=some pd):∀{ds:List D}{vs:List Val}{ps:List PyData},Rds P h ds vs->bZ k vs=some ps->ds.mapM (bT k h)=some ps:=by
 intro ds;induction ds with
 |nil=>intro vs ps r q;cases r;unfold bZ at q;cases q;rfl
 |
  cons d0 ds ih=>
  intro vs ps r q;cases r with
  |
   cons r rr=>
   unfold bZ at q;split at q
   .rename_i a b e1 e2;cases q;rw[E2,hk _ _ _ r e1,ih rr e2];rfl
   .cases q
theorem i5:∀(k:Nat) (d:D) (v:Val) (pd:PyData),ShR P h d v->bA k v=some pd->bT k h d=some pd
 |0,_,_,_,_,q=>by unfold bA at q;cases q
 |
  k+1,d,v,pd,r,q=>by
  have ih:∀{ds:List D}{vs:List Val}{ps:List PyData},Rds P h ds vs->bZ k vs=some ps->ds.mapM (bT k h)=some ps:=rl λd v pd r q=>i5 k d v pd (.inl r) q;cases v with
  |non=>obtain rfl:=r.non;simp only[bA] at q;cases q;rfl
  |bl b=>obtain rfl:=r.bl;simp only[bA] at q;cases q;rfl
  |int b=>obtain rfl:=r.int;simp only[bA] at q;cases q;rfl
  |str b=>obtain rfl:=r.str;simp only[bA] at q;cases q;rfl
  |tup xs=>obtain⟨ds,rfl,r2⟩:=r.tup;simp only[bA] at q;obtain⟨ps,q1,rfl⟩:=DZ.mp q;show (ds.mapM (bT k h)).map PyData.tuple=_;rw[ih r2 q1];rfl
  |lst xs=>obtain⟨n,ds,rfl,_,e1,r2⟩:=r.lst;simp only[bA] at q;obtain⟨ps,q1,rfl⟩:=DZ.mp q;unfold bT;rw[e1];show (ds.mapM (bT k h)).map PyData.list=_;rw[ih r2 q1];rfl
  |_=>simp only[bA] at q;cases q
noncomputable def bU(x y:Val):Option Bool:=match bA 164 x,bA 164 y with
 |some a,some b=>if shp a=true/\shp b=true then some (PyData.eqv a b) else none
 |_,_=>none
noncomputable def aEq(neg:Bool):Val->Val->Bv:=λx y=>match bU x y with
 |some b=>.val (.bl (if neg then !b else b))
 |none=>.stuck
def Bc(r1:ShR P h d1 v1)(r2:ShR P h d2 v2)(q:bU v1 v2=some b):kU h d1 d2=some b:=by
 unfold bU at q;split at q
 .rename_i a c e1 e2;unfold kU;rw[i5 164 _ _ _ r1 e1,i5 164 _ _ _ r2 e2];exact q
 .cases q
def ud(neg:Bool):RO (gEq neg) (aEq neg):=λP h d1 d2 v1 v2 r1 r2=>by
 unfold aEq;split
 .rename_i b q;exact⟨_,by unfold gEq;rw[Bc r1 r2 q],.bl _⟩
 .trivial
noncomputable def jN:Val->Bool
 |.non=>true
 |.bl _=>true
 |.int _=>true
 |.str _=>true
 |_=>false
noncomputable def mM:Val->V
 |.bl b=>.bl b
 |.int i=>.int i
 |.str x=>.str x
 |_=>.non
noncomputable def eq1(x y:Val):Bool:=eqV (mM x) (mM y)
noncomputable def aIn(neg:Bool):Val->Val->Bv:=λx y=>match y.items with
 |some xs=>if jN x=true/\xs.all jN=true then .val (.bl (if neg then !(xs.any λd=>eq1 d x) else xs.any λd=>eq1 d x)) else .stuck
 |none=>.stuck
def lM(r:ShR P h d v)(f:jN v=true):fB d=true/\toV d=mM v:=by
 cases v with
 |non=>obtain rfl:=r.non;exact⟨rfl,rfl⟩
 |bl b=>obtain rfl:=r.bl;exact⟨rfl,rfl⟩
 |int b=>obtain rfl:=r.int;exact⟨rfl,rfl⟩
 |str b=>obtain rfl:=r.str;exact⟨rfl,rfl⟩
 |_=>cases f
def sG(x:D)(y:Val)(hx:toV x=mM y):∀{ds:List D}{vs:List Val},Rds P h ds vs->vs.all jN=true->ds.all fB=true/\(ds.any λd=>eqF d x)=vs.any λd=>eq1 d y:=by
 intro ds;induction ds with
 |nil=>intro vs r f;cases r;exact⟨rfl,rfl⟩
 |
  cons d0 ds ih=>
  intro vs r f;cases r with
  |cons r rr=>rw[EO,t_] at f;obtain⟨h1,h2⟩:=lM (.inl r) f.1;obtain⟨h3,h4⟩:=ih rr f.2;refine⟨by rw[EO,h1,h3];rfl,?_⟩;rw[EB,EB,h4];unfold eqF eq1;rw[h2,hx]
def Bu(neg:Bool):RO (gIn neg) (aIn neg):=λP h d1 d2 v1 v2 r1 r2=>by
 unfold aIn;split
 .rename_i xs e;obtain⟨ds,e2,q⟩:=r2.items e;split
  .rename_i hf;obtain⟨f1,f2⟩:=lM r1 hf.1;obtain⟨f3,f4⟩:=sG d1 v1 f2 q hf.2;exact⟨_,by unfold gIn;rw[e2];dsimp only;rw[if_pos ⟨f1,f3⟩,f4],.bl _⟩
  .trivial
 .trivial
noncomputable def r9(neg:Bool):Val->Val->Bv:=λx y=>match x,y with
 |.non,.non=>.val (.bl (!neg))
 |_,.non=>.val (.bl neg)
 |_,_=>.stuck
def yG(neg:Bool):RO (rJ neg) (r9 neg):=λP h d1 d2 v1 v2 r1 r2=>by
 unfold r9;split
 .obtain rfl:=r1.non;obtain rfl:=r2.non;exact⟨_,rfl,.bl _⟩
 .rename_i hn;obtain rfl:=r2.non;have:d1 ≠ .non:=by
   rintro rfl;rcases r1 with r |⟨n,o,z,_⟩
   .cases r;exact hn rfl
   .cases z
  refine⟨_,?_,.bl neg⟩;unfold rJ;split
  .exact absurd rfl this
  .rfl
  .rename_i h1 h2;exact (h1 rfl).elim
 .trivial
noncomputable def rM:List Val->Bv:=λvs=>match vs with
 | [v]=>(match v.items with
  |some xs=>.val (.int xs.length)
  |none=>(match v with
   |.str z=>if z.length<=16777216 then .val (.int z.length) else .stuck
   |_=>.stuck))
 |_=>.stuck
noncomputable def m9:List Val->Bv:=λvs=>match vs with
 | [.int i,.int j]=>.val (.int (if j<i then j else i))
 |_=>.stuck
noncomputable def dh:List Val->Option (List Bool)
 | []=>some []
 |.bl b::r=>(dh r).map (b :: ·)
 |_=>none
noncomputable def cZ:List Val->Option (List Int)
 | []=>some []
 |.int b::r=>(cZ r).map (b :: ·)
 |_=>none
noncomputable def rY:List Val->Bv:=λvs=>match vs with
 | [.lst xs]=>(match dh xs with
  |some bs=>.val (.bl (bs.all id))
  |none=>.stuck)
 |_=>.stuck
noncomputable def qh:List Val->Bv:=λvs=>match vs with
 | [.lst xs]=>(match cZ xs with
  |some bs=>.val (.int bs.sum)
  |none=>.stuck)
 |_=>.stuck
noncomputable def m7:List Val->Bv:=λvs=>match vs with
 | [v]=>(match v.items with
  |some xs=>.new (.lst xs)
  |none=>.stuck)
 |_=>.stuck
def zK:RFn jV rM:=λP h ds vs r=>by
 unfold rM;split
 .obtain⟨d,hd,rr1⟩:=eh r;subst hd;clear r;have r:=rr1;split
  .rename_i xs e;obtain⟨es,e2,q⟩:=r.items e;exact⟨_,by unfold jV;dsimp only;rw[e2],by rw[<- q.len];exact .int _⟩
  .split
   .rename_i z _;obtain rfl:=r.str;split
    .rename_i hl;exact⟨_,by show (if z.length<=16777216 then _ else _)=_;rw[if_pos hl],.int _⟩
    .trivial
   .trivial
 .trivial
def we:RFn jJ m9:=λP h ds vs r=>by
 unfold m9;split
 .obtain⟨d,d',hd,rr1,r'⟩:=uc r;subst hd;clear r;have r:=rr1;obtain rfl:=r.int;obtain rfl:=r'.int;exact⟨_,rfl,.int _⟩
 .trivial
def tW:∀{ds:List D}{vs:List Val}{bs:List Bool},Rds P h ds vs->dh vs=some bs->cH ds=some bs:=by
 intro ds;induction ds with
 |nil=>intro vs bs r q;cases r;cases q;rfl
 |
  cons d0 ds ih=>
  intro vs bs r q;cases r with
  |
   cons r rr=>
   rename_i v vs;cases v with
   |bl b=>obtain rfl:=ShR.bl (.inl r);obtain⟨b',q1,rfl⟩:=DZ.mp (show (dh vs).map (b :: ·)=some bs from q);show (cH _).map (b :: ·)=_;rw[ih rr q1];rfl
   |_=>cases q
def xA:∀{ds:List D}{vs:List Val}{bs:List Int},Rds P h ds vs->cZ vs=some bs->cL ds=some bs:=by
 intro ds;induction ds with
 |nil=>intro vs bs r q;cases r;cases q;rfl
 |
  cons d0 ds ih=>
  intro vs bs r q;cases r with
  |
   cons r rr=>
   rename_i v vs;cases v with
   |int b=>obtain rfl:=ShR.int (.inl r);obtain⟨b',q1,rfl⟩:=DZ.mp (show (cZ vs).map (b :: ·)=some bs from q);show (cL _).map (b :: ·)=_;rw[ih rr q1];rfl
   |_=>cases q
def y8:RFn ko rY:=λP h ds vs r=>by
 unfold rY;split
 .obtain⟨d,hd,rr1⟩:=eh r;subst hd;clear r;have r:=rr1;obtain⟨n,es,rfl,_,e1,q⟩:=r.lst;split
  .rename_i bs e2;exact⟨_,by unfold ko;dsimp only;rw[e1];show (match cH es with |some bs=>_ |none=>_)=_;rw[tW q e2],.bl _⟩
  .trivial
 .trivial
def yT:RFn kI qh:=λP h ds vs r=>by
 unfold qh;split
 .obtain⟨d,hd,rr1⟩:=eh r;subst hd;clear r;have r:=rr1;obtain⟨n,es,rfl,_,e1,q⟩:=r.lst;split
  .rename_i bs e2;exact⟨_,by unfold kI;dsimp only;rw[e1];show (match cL es with |some bs=>_ |none=>_)=_;rw[xA q e2],.int _⟩
  .trivial
 .trivial
def wu:RFn gL m7:=λP h ds vs r=>by
 unfold m7;split
 .obtain⟨d,hd,rr1⟩:=eh r;subst hd;clear r;have r:=rr1;split
  .rename_i xs e;obtain⟨es,e2,q⟩:=r.items e;exact⟨.lst es,by unfold gL;dsimp only;rw[e2],trivial,.lst q⟩
  .trivial
 .trivial
noncomputable def tyC:Val->Option Cl
 |.non=>some (.b "NoneType")
 |.bl _=>some (.b "bool")
 |.int _=>some (.b "int")
 |.str _=>some (.b "str")
 |.tup _=>some (.b "tuple")
 |.exc x=>some (.o x)
 |.lst _=>some (.b "list")
 |.dct _=>some (.b "dict")
 |_=>none
noncomputable def clV:Val->Option Cl
 |.ty n=>some (.b n)
 |.glb x=>some (.o x)
 |_=>none
noncomputable def nF:List Val->Option (List Cl)
 | []=>some []
 |v::vs=>match clV v,nF vs with
  |some c,some cs=>some (c::cs)
  |_,_=>none
noncomputable def BI:Val->Option (List Cl)
 |.tup cs=>nF cs
 |v=>(clV v).map ([·])
noncomputable def tD(kt:eL):List Val->Bv:=λvs=>match vs with
 | [v,c]=>(match tyC v,BI c with
  |some t,some (c0::cr)=>(match cC kt t (c0::cr),kit kt t c0 with
   |some b,some _=>.val (.bl b)
   |_,_=>.stuck)
  |_,_=>.stuck)
 |_=>.stuck
def DM(r:ShR P h d v)(q:tyC v=some t):tyD h d=some t:=by
 cases v with
 |non=>obtain rfl:=r.non;exact q
 |bl b=>obtain rfl:=r.bl;exact q
 |int b=>obtain rfl:=r.int;exact q
 |str b=>obtain rfl:=r.str;exact q
 |exc b=>obtain rfl:=r.exc;exact q
 |tup b=>obtain⟨ds,rfl,_⟩:=r.tup;exact q
 |lst b=>obtain⟨n,ds,rfl,e,_⟩:=r.lst;unfold tyD;dsimp only;rw[e];exact q
 |dct b=>obtain⟨n,ds,rfl,e,_⟩:=r.dct;unfold tyD;dsimp only;rw[e];exact q
 |_=>cases q
def ur(r:ShR P h d v)(q:clV v=some c):clD d=some c:=by
 cases v with
 |ty b=>obtain rfl:=r.ty;exact q
 |glb b=>obtain rfl:=r.glb;exact q
 |_=>cases q
def ze:∀{ds:List D}{vs:List Val}{cs:List Cl},Rds P h ds vs->nF vs=some cs->ds.mapM clD=some cs:=by
 intro ds;induction ds with
 |nil=>intro vs cs r q;cases r;cases q;rfl
 |
  cons d0 ds ih=>
  intro vs cs r q;cases r with
  |
   cons r rr=>
   unfold nF at q;split at q
   .rename_i c cs' e1 e2;cases q;rw[E2,ur (.inl r) e1,ih rr e2];rfl
   .cases q
def zo(kt:eL):RFn (lA kt) (tD kt):=λP h ds vs r=>by
 unfold tD;split
 .rename_i v c;obtain⟨d,d',rfl,r1,r2⟩:=uc r;split
  .rename_i t c0 cr e1 e2;have e3:=DM r1 e1;split
   .rename_i b b' e4 e5;refine⟨.bl b,?_,.bl b⟩;unfold lA;dsimp only;rw[e3];dsimp only;by_cases ht:∃cs,c=.tup cs
    .obtain⟨cs,rfl⟩:=ht;obtain⟨es,rfl,q⟩:=r2.tup;dsimp only;rw[ze q e2];dsimp only;rw[e4,e5]
    .have e2':(clV c).map ([·])=some (c0::cr):=by
      cases c with
      |tup cs=>exact absurd ⟨cs,rfl⟩ ht
      |_=>exact e2
     obtain⟨cl,y1,y2⟩:=DZ.mp e2';cases y2;have y3:=ur r2 y1;have hd:∀cs,d' ≠ .tup cs:=λcs z=>by subst z;cases y3
     split
     .rename_i cs;exact absurd rfl (hd cs)
     .rw[y3];dsimp only;have:kit kt t c0=some b:=by
       unfold cC at e4;rw[e5] at e4 ⊢;cases b' with
       |true=>exact e4
       |false=>unfold cC at e4;exact e4
      rw[this]
   .trivial
  .trivial
 .trivial
noncomputable def bD(xs:List Val)(lo hi:Option Int):List Val:=(xs.drop (HT.sIx xs.length 0 lo)).take (HT.sIx xs.length xs.length hi-HT.sIx xs.length 0 lo)
abbrev MO3:=E3->R3 (Option Int)
def so(_:Ns)(_:E3)(_:AH)(b c:Option Int):Prop:=b=c
def ROp(F:MO)(G:MO3):Prop:=∀X h0 ns e ae h,Sat X h0 ns e ae h->Po X h0 ns e ae h so (F ae h) (G e)
noncomputable def oj:MO3:=λe=>.ok none e
noncomputable def oO(F:ME3):MO3:=λe=>(F e).bind λt e1=>match rs e1 t with
 |some (.int i)=>.ok (some i) e1
 |_=>.stuck
noncomputable def aSl(x:Val)(lo hi:Option Int):Bv:=match x with
 |.tup xs=>if HT.sIx xs.length 0 lo=0/\HT.sIx xs.length xs.length hi=xs.length then .stuck else .val (.tup (bD xs lo hi))
 |.lst xs=>.new (.lst (bD xs lo hi))
 |.kl xs=>.new (.lst (bD xs lo hi))
 |_=>.stuck
noncomputable def vSl(F:ME3)(L U:MO3):ME3:=λe=>(F e).bind λt e1=>(L e1).bind λlo e2=>(U e2).bind λhi e3=>match rs e3 t.drop with
 |some v=>(aSl v lo hi).at e3
 |none=>.stuck
def uH:ROp n6 oj:=λX h0 ns e ae h S=>Po.ret S rfl
def uQ(hF:RE F F3):ROp (n5 F) (oO F3):=λX h0 ns e ae h S=>
 Po.bind S (hF X h0 0 ns e ae h S (Ef _)) λd t h1 ns1 e1 a1 S1 r1=>by
  by_cases hq:∃i,rs e1 t=some (.int i)
  .obtain⟨i,hq⟩:=hq;have hd:=(r1.sh S1 hq).int;subst hd;show Po X h0 ns1 e1 ae h1 so (R.ok (some i) h1) (match rs e1 t with |some (.int i)=>R3.ok (some i) e1 |_=>.stuck);rw[hq];exact Po.ret S1 rfl
  .have:(match rs e1 t with |some (.int i)=>R3.ok (some i) e1 |_=>.stuck)=(.stuck:R3 (Option Int)):=by
    split
    .rename_i i q;exact absurd ⟨i,q⟩ hq
    .rfl
   show Po X h0 ns1 e1 ae h1 so _ (match rs e1 t with |some (.int i)=>R3.ok (some i) e1 |_=>.stuck);rw[this];trivial
def Dz(hF:RE F F3)(hL:ROp L L3')(hU:ROp U U3):RE (eSl F L U) (vSl F3 L3' U3):=λX h0 LL ns e ae h S hl=>
 Po.bind
  S (hF X h0 LL ns e ae h S hl) λd t h1 ns1 e1 a1 S1 r1=>Po.bind S1 (hL X h0 ns1 e1 ae h1 S1) λlo lo' h2 g_ e2 a2 S2 r2=>Po.bind S2 (hU X h0 g_ e2 ae h2 S2) λhi hi' h3 ns3 e3 a3 S3 r3=>by
  cases r2;cases r3;obtain⟨r1',hn⟩:=r1.drop;have r4:=(r1'.stp S1 a2 hn).stp S2 a3 hn;try dsimp only
  split
  .rename_i v q;have rr:=r4.sh S3 q;refine BvR.po S3 (DU hl (DU a1.len (DU a2.len a3.len))) ?_;unfold aSl;split
   .rename_i xs;obtain⟨ds,rfl,q1⟩:=rr.tup;split
    .trivial
    .rename_i hne;refine⟨_,by unfold gSl;dsimp only;rw[if_neg (by rw[q1.len];exact hne)],.tup ?_⟩;unfold L2.cutD bD;rw[q1.len];exact (q1.drop _).take _
   .rename_i xs;obtain⟨n,ds,rfl,_,e1,q1⟩:=rr.lst;refine⟨.lst (L2.cutD ds lo hi),by unfold gSl;dsimp only;rw[e1],trivial,.lst ?_⟩;unfold L2.cutD bD;rw[q1.len];exact (q1.drop _).take _
   .rename_i xs;have key:∃ds,gSl d lo hi h3=.ok (.ref h3.length) (h3++[.lst (L2.cutD ds lo hi)])/\Rds (Oc X ns3) h3 ds xs:=by
     rcases rr with rr |⟨n,o,rfl,e,rr⟩
     .cases rr with
      |kl q1=>exact⟨_,rfl,q1⟩
      |cell p e rc=>cases rc with |fz q1=>exact⟨_,by unfold gSl aD;dsimp only;rw[e],q1⟩
     .cases rr with |fz q1=>exact⟨_,by unfold gSl aD;dsimp only;rw[e],q1⟩
    obtain⟨ds,e1,q1⟩:=key;refine⟨.lst (L2.cutD ds lo hi),e1,trivial,.lst ?_⟩;unfold L2.cutD bD;rw[q1.len];exact (q1.drop _).take _
   .trivial
  .trivial
def iI:Val->List Val->Option (Val×Val):=λu vs=>match u,vs with
 |.lst xs,[v]=>if xs.length<16777216 then some (.lst (xs++[v]),.non) else none
 |_,_=>none
section
variable{P:Nat->Prop}{h:AH}
def ui(e:h[n]?=some o)(r:Rc P h o (.lst xs)):gZ h (.ref n)=true/\∃ds,h[n]?=some (.lst ds)/\Rds P h ds xs/\∀f,g9 h (.ref n) f=f n ds:=by obtain⟨ds,e1,e2,q⟩:=Rc.seq e r;refine⟨by show (aD h n).isSome=true;rw[e2];rfl,ds,e1,q,λf=>?_⟩;unfold g9;dsimp only;rw[e1]
def rds1(r:Rds P h ds [v]):∃d,ds=[d]/\Rd P h d v:=by cases r with |cons r rr=>cases rr;exact⟨_,rfl,r⟩
end
def oR:RM fo iI:=λP h n o u ds vs u' v e hf r rs q=>by
 unfold iI at q;split at q
 .split at q
  .rename_i hl;cases q;obtain⟨q1,es,q2,q3,q4⟩:=ui e r;obtain⟨d,rfl,rd⟩:=rds1 rs;refine⟨q1,.lst (es++[d]),.non,?_,trivial,.lst (q3.append (.cons rd .nil)),.non⟩;unfold fo;rw[q4];dsimp only;rw[if_pos (by rw[q3.len];exact hl)]
  .cases q
 .cases q
noncomputable def sL:Val->Val->Val->Option Val:=λu i v=>match u,i with
 |.lst xs,.int k=>(match ixN xs.length k with
  |some j=>some (.lst (xs.set j v))
  |none=>none)
 |_,_=>none
def xx:nT wL sL:=λP h n o u di vi d v u' _ e hf r ri rd q=>by
 unfold sL at q;split at q
 .split at q
  .rename_i j hj;cases q;obtain⟨q1,es,q2,q3,q4⟩:=ui e r;obtain rfl:=ri.int;refine⟨.lst (es.set j d),?_,trivial,.lst (q3.set rd j)⟩;unfold wL;dsimp only;rw[q2];dsimp only;rw[q3.len,hj]
  .cases q
 .cases q
structure PEx where
 F:ME
 G:ME3
 ok:RE F G
structure PTs where
 F:MT
 G:MT3
 ok:RT F G
structure PAs where
 F:MA
 G:MA3
 ok:RA F G
structure PSt where
 F:MS
 G:MS3
 ok:RS F G
structure PGt where
 F:MG
 G:MG3
 ok:RG F G
structure PGs where
 F:MGs
 G:mY
 ok:RGs F G
structure PIt where
 F:MI
 G:MI3
 ok:RI F G
structure POp where
 F:MO
 G:MO3
 ok:ROp F G
structure PO2 where
 F:D->D->AH->R D
 G:Val->Val->Bv
 ok:RO F G
structure PU1 where
 F:D->AH->R D
 G:Val->Bv
 ok:RU F G
structure PBf where
 F:Fn
 G:List Val->Bv
 ok:RFn F G
structure PMm where
 F:D->List D->AH->R D
 G:Val->List Val->Option (Val×Val)
 ok:RM F G
structure PSe where
 F:D->D->D->AH->R Unit
 G:Val->Val->Val->Option Val
 ok:nT F G
structure PFn where
 ms:List Bool
 F:Fn
 G:Fn3
 ok:RF ms F G
structure PFx(ms:List Bool) where
 F:Fn
 G:Fn3
 ok:RF ms F G
noncomputable section
noncomputable def PFx.fn{ms:List Bool}(p:PFx ms):PFn:=⟨ms,p.F,p.G,p.ok⟩
noncomputable def af(i:Nat):PEx:=⟨bM i,sg i,zP i⟩
noncomputable def ah(i:Int):PEx:=⟨eC (.int i),vC (.int i),kB λ_ _=>.int i⟩
noncomputable def pBl(i:Bool):PEx:=⟨eC (.bl i),vC (.bl i),kB λ_ _=>.bl i⟩
noncomputable def bW(i:Str):PEx:=⟨eC (.str i),vC (.str i),kB λ_ _=>.str i⟩
noncomputable def pTy(i:String):PEx:=⟨eC (.ty i),vC (.ty i),kB λ_ _=>.ty i⟩
noncomputable def oq(d:D)(v:Val)(r:∀P h,Rd P h d v):PEx:=⟨eC d,vC v,kB r⟩
noncomputable def pUn(o:PU1)(a:PEx):PEx:=⟨eUn o.F a.F,vUn o.G a.G,Bx o.ok a.ok⟩
noncomputable def pOp(o:PO2)(a b:PEx):PEx:=⟨eOp o.F a.F b.F,vOp o.G a.G b.G,Bk o.ok a.ok b.ok⟩
noncomputable def ai:PAs:=⟨iq,vNil,zd⟩
noncomputable def ag(a:PEx)(r:PAs):PAs:=⟨eI a.F r.F,uf a.G r.G,uB a.ok r.ok⟩
noncomputable def pFn(o:PBf)(a:PAs):PEx:=⟨eFn o.F a.F,vFn o.G a.G,BY o.ok a.ok⟩
noncomputable def jW(a:PAs):PEx:=⟨eFn hZ a.F,vTup a.G,xh a.ok⟩
noncomputable def bc(a:PAs):PEx:=⟨eFn bJ a.F,vLst a.G,zu a.ok⟩
noncomputable def dO(a b:PEx):PEx:=⟨qU a.F b.F,vAnd a.G b.G,zN a.ok b.ok⟩
def pOr(a b:PEx):PEx:=⟨eOr a.F b.F,vOr a.G b.G,Df a.ok b.ok⟩
noncomputable def iB(a:PEx):PEx:=⟨rQ a.F,vNot a.G,Az a.ok⟩
noncomputable def qOf(a:PEx):PTs:=⟨tOf a.F,cOf a.G,Dk a.ok⟩
noncomputable def qAn(a b:PTs):PTs:=⟨tAn a.F b.F,cAn a.G b.G,Cj a.ok b.ok⟩
noncomputable def qO(a b:PTs):PTs:=⟨tO a.F b.F,cO a.G b.G,rt_o a.ok b.ok⟩
noncomputable def qNo(a:PTs):PTs:=⟨tNo a.F,cNo a.G,DD a.ok⟩
noncomputable def qY:PTs:=⟨tY,cY,rt_y⟩
noncomputable def xNx:PSt:=⟨sNx,wNx,CP⟩
noncomputable def aT(a:PEx):PSt:=⟨qz a.F,wRet a.G,y7 a.ok⟩
noncomputable def gJ(a:PEx):PSt:=⟨mS a.F,tN a.G,uC a.ok⟩
noncomputable def ak(a b:PSt):PSt:=⟨qW a.F b.F,wSeq a.G b.G,yB a.ok b.ok⟩
noncomputable def xIf(c:PTs)(a b:PSt):PSt:=⟨sIf c.F a.F b.F,wIf c.G a.G b.G,BA c.ok a.ok b.ok⟩
noncomputable def aF(o:Bool)(i:Nat)(a:PEx):PSt:=⟨du a.F (gN i),wAsg o i a.G,yo o i a.ok⟩
noncomputable def gtN(i:Nat):PGt:=⟨gN i,pN i,qT i⟩
noncomputable def gq(i j:Nat)(a:PAs):PSt:=⟨kW i j a.F,wPar i j a.G,yd i j a.ok⟩
noncomputable def eY(c:Str)(a:PAs):PSt:=⟨kN c a.F,oD c a.G,rN c a.ok⟩
noncomputable def fm(i:Nat)(w:PSe)(k a:PEx):PSt:=⟨du a.F (gS (bM i) k.F w.F),wSet i k.G a.G w.G,AR i w.ok k.ok a.ok⟩
noncomputable def mP(i:Nat)(m:PMm)(a:PAs):PEx:=⟨eM m.F (bM i) a.F,sv i m.G a.G,xQ i m.ok a.ok⟩
noncomputable def gW(a:PEx):PIt:=⟨rf a.F,tS a.G,zp a.ok⟩
def dE(a:PAs):PIt:=⟨qJ a.F,kY cP a.G,za a.ok⟩
def iA(i:PIt)(g:PGt)(b:PSt):PSt:=⟨rE i.F g.F b.F,wFor i.G g.G b.G,Ak i.ok g.ok b.ok⟩
def xWh(c:PTs)(b:PSt):PSt:=⟨sWh c.F b.F,wWh c.G b.G,Dh c.ok b.ok⟩
def pLC(i:PIt)(sub:Ge)(hs:(sub.filterMap id).Nodup)(g:PGt)(c:PTs)(a:PEx):PEx:=⟨eLC i.F sub g.F c.F a.F,vLC i.G sub g.G c.G a.G,BX hs i.ok g.ok c.ok a.ok⟩
noncomputable def az(f:PFn)(a:PAs):PEx:=⟨nV f.ms.length f.F a.F,tZ f.ms f.G a.G,vm rfl f.ok a.ok⟩
noncomputable def oN:POp:=⟨n6,oj,uH⟩
noncomputable def oS(a:PEx):POp:=⟨n5 a.F,oO a.G,uQ a.ok⟩
noncomputable def pSl(a:PEx)(l u:POp):PEx:=⟨eSl a.F l.F u.F,vSl a.G l.G u.G,Dz a.ok l.ok u.ok⟩
def fnP(ms:List Bool)(N:Nat)(c:PSt):PFn:=⟨ms,fnD N c.F,fnV ms N c.G,B4 c.ok⟩
noncomputable def aB:PO2:=⟨nu,qN,Aw⟩
noncomputable def bg:PO2:=⟨rm,aMin,xy⟩
noncomputable def bI:PO2:=⟨qr,nL,xp⟩
def i4:PO2:=⟨qM,nR,Ay⟩
def bC:PO2:=⟨rS,mJ,A7⟩
def eW:PO2:=⟨rR,mL,zO⟩
def bLt:PO2:=⟨gLt,aLt,DK⟩
def bLe:PO2:=⟨gLe,aLe,Dn⟩
noncomputable def bGt:PO2:=⟨gGt,aGt,Bm⟩
noncomputable def bGe:PO2:=⟨gGe,aGe,Dc⟩
noncomputable def bq:PO2:=⟨kA,la,yr⟩
noncomputable def bIx:PO2:=⟨gIx,aIx,BQ⟩
noncomputable def bEq:PO2:=⟨gEq false,aEq false,ud false⟩
noncomputable def bNe:PO2:=⟨gEq true,aEq true,ud true⟩
noncomputable def bIn:PO2:=⟨gIn false,aIn false,Bu false⟩
noncomputable def bIs:PO2:=⟨rJ false,r9 false,yG false⟩
noncomputable def gA:PU1:=⟨nv,rj,zR⟩
noncomputable def bf:PBf:=⟨jV,rM,zK⟩
noncomputable def kg:PBf:=⟨jJ,m9,we⟩
noncomputable def nE:PBf:=⟨ko,rY,y8⟩
noncomputable def aA:PBf:=⟨kI,qh,yT⟩
noncomputable def fg:PBf:=⟨gL,m7,wu⟩
noncomputable def bP(kt:eL):PBf:=⟨lA kt,tD kt,zo kt⟩
noncomputable def eO:PMm:=⟨fo,iI,oR⟩
noncomputable def seL:PSe:=⟨wL,sL,xx⟩
end
theorem iF:∀(ns:List Int),Rds P h (ns.map D.int) (ns.map Val.int)
 | []=>.nil
 |_::r=>.cons (.int _) (iF r)
def law3(p:PFn)(hm:p.ms=[false])(hG:∀ns:List Int,ns.length<=63->p.G [.kl (ns.map .int)]=.ok (.val (.bl true)) [])(d:D)(h:AH)(ns:List Int)(hl:ns.length<=63)(sc:Script h d ns):∃h',p.F [d] h=.ok (.bl true) h':=by
 have hp:=p.ok;rw[hm] at hp;have rd:Rd (Oc (λ_=>False) [none]) h d (.kl (ns.map .int)):=by
  rcases sc.form with ⟨n,rfl,e⟩ |rfl
  .exact .cell ⟨λz=>z,by simp⟩ e (.fz (iF ns))
  .exact .kl (iF ns)
 have S:Sat (λ_=>False) h.length [none] (sls [false] [.kl (ns.map .int)]) ([d].map some) h:=by
  refine⟨rfl,rfl,v_ _,λ_ z=>z.elim,λi j n q=>?_,λi n q z=>z,λi s q=>?_⟩
  .cases i with
   |zero=>simp at q
   |succ i=>simp at q
  .cases i with
   |
    zero=>
    have:sl1 false (.kl (ns.map .int))=s:=by simpa [sls] using q
    subst this;exact⟨rfl,d,rfl,rd⟩
   |succ i=>simp [sls] at q
 have:=hp _ _ [d] [.kl (ns.map .int)] h rfl S
 rw[hG ns hl] at this;obtain⟨d',h',e,_,_,r⟩:=this;cases r with
 |bl=>exact⟨h',e⟩
 |cell p e r=>cases r
section
variable(e:E3)
@[simp] theorem ez(a:α)(f:α->E3->R3 β):(R3.ok a e).bind f=f a e:=rfl
@[simp] theorem CL(a:α)(f:α->E3->SR3):(R3.ok a e).toS f=f a e:=rfl
@[simp] theorem CM(f:E3->SR3):(SR3.nx e).then f=f e:=rfl
@[simp] theorem Dx(r:Rt)(f:E3->SR3):(SR3.rt r e).then f=.rt r e:=rfl
@[simp] theorem nJ(f:E3->SR3):(SR3.nx e).loop f=f e:=rfl
@[simp] theorem Dt(f:E3->SR3):(SR3.ct e).loop f=f e:=rfl
@[simp] theorem C3(r:SR3):r.unl none=r:=by cases r <;> rfl
@[simp] theorem sR:lockO e none=e:=rfl
@[simp] theorem qH(k:Nat):lockO e (some k)=lock e k:=rfl
@[simp] theorem nI:bQ e none=e:=rfl
@[simp] theorem nj(k:Nat):bQ e (some k)=unlock e k:=rfl
@[simp] theorem Ad(v:Val):(Bv.val v).at e=.ok (.val v) e:=rfl
@[simp] theorem AM(v:Val):(Bv.new v).at e=.ok (.new v) e:=rfl
@[simp] theorem Aj(v:Val):rs e (.val v)=some v:=rfl
@[simp] theorem yY(v:Val):rs e (.new v)=some v:=rfl
@[simp] theorem Bf(i:Nat):rs e (.bor i)=(e[i]?).bind Sl.val:=rfl
@[simp] theorem xZ(v:Val):(Tm.val v).drop=.val v:=rfl
@[simp] theorem Ag(v:Val):(Tm.new v).drop=.val v:=rfl
@[simp] theorem A2(i:Nat):(Tm.bor i).drop=.bor i:=rfl
@[simp] theorem xa:rss e []=some []:=rfl
@[simp] theorem sE(t:Tm)(ts:List Tm):rss e (t::ts)=match rs e t,rss e ts with
 |some v,some vs=>some (v::vs)
 |_,_=>none:=rfl
@[simp] theorem Ai(v:Val):br e (.val v)=some (e,v):=rfl
@[simp] theorem yk(i:Nat):br e (.bor i)=match e[i]? with
 |some (.sh v)=>some (e,v)
 |some (.ow v)=>some (e.set i (.sh v),v)
 |_=>none:=rfl
@[simp] theorem zg:dem e []=some (e,[]):=rfl
@[simp] theorem vS(t:Tm)(ts:List Tm):dem e (t::ts)=match br e t with
 |some (e1,v)=>match dem e1 ts with
  |some (e2,vs)=>some (e2,v::vs)
  |none=>none
 |none=>none:=rfl
@[simp] theorem yL(b:Bool):bOf (some (.bl b))=some b:=rfl
@[simp] theorem BU(i:Nat):(af i).G e=match e[i]? with
 |some (.sh v)=>.ok (.val v) e
 |some .no=>.stuck
 |some _=>.ok (.bor i) e
 |none=>.stuck:=rfl
@[simp] theorem Cv(i:Int):(ah i).G e=.ok (.val (.int i)) e:=rfl
@[simp] theorem v_bl(i:Bool):(pBl i).G e=.ok (.val (.bl i)) e:=rfl
@[simp] theorem Ds(i:Str):(bW i).G e=.ok (.val (.str i)) e:=rfl
@[simp] theorem v_ty(i:String):(pTy i).G e=.ok (.val (.ty i)) e:=rfl
@[simp] theorem v_un(o:PU1)(a:PEx):(pUn o a).G e=(a.G e).bind λt e1=>match rs e1 t with
 |some v=>(o.G v).at e1
 |none=>.stuck:=rfl
@[simp] theorem v_op(o:PO2)(a b:PEx):(pOp o a b).G e=(a.G e).bind λt1 e1=>(b.G e1).bind λt2 e2=>match rs e2 t1.drop,rs e2 t2 with
 |some v1,some v2=>(o.G v1 v2).at e2
 |_,_=>.stuck:=rfl
@[simp] theorem BD:ai.G e=.ok [] e:=rfl
@[simp] theorem zY(a:PEx)(r:PAs):(ag a r).G e=(a.G e).bind λt e1=>(r.G e1).bind λts e2=>.ok (t.drop::ts) e2:=rfl
@[simp] theorem v_fn(o:PBf)(a:PAs):(pFn o a).G e=(a.G e).bind λts e1=>match rss e1 ts with
 |some vs=>(o.G vs).at e1
 |none=>.stuck:=rfl
@[simp] theorem Dw(a:PAs):(jW a).G e=(a.G e).bind λts e1=>match dem e1 ts with
 |some (e2,vs)=>if vs.length<=16777216 then .ok (.val (.tup vs)) e2 else .stuck
 |none=>.stuck:=rfl
@[simp] theorem Ci(a:PAs):(bc a).G e=(a.G e).bind λts e1=>match dem e1 ts with
 |some (e2,vs)=>if vs.length<=16777216 then .ok (.new (.lst vs)) e2 else .stuck
 |none=>.stuck:=rfl
@[simp] theorem BL(a b:PEx):(dO a b).G e=(a.G e).bind λt e1=>match bOf (rs e1 t) with
 |some true=>b.G e1
 |some false=>.ok (.val (.bl false)) e1
 |none=>.stuck:=rfl
@[simp] theorem y_or(a b:PEx):(pOr a b).G e=(a.G e).bind λt e1=>match bOf (rs e1 t) with
 |some true=>.ok (.val (.bl true)) e1
 |some false=>b.G e1
 |none=>.stuck:=rfl
@[simp] theorem CB(a:PEx):(iB a).G e=(a.G e).bind λt e1=>match bOf (rs e1 t) with
 |some b=>.ok (.val (.bl (!b))) e1
 |none=>.stuck:=rfl
@[simp] theorem c_of(a:PEx):(qOf a).G e=(a.G e).bind λt e1=>match bOf (rs e1 t) with
 |some b=>.ok b e1
 |none=>.stuck:=rfl
@[simp] theorem c_an(a b:PTs):(qAn a b).G e=(a.G e).bind λk e1=>if k=true then b.G e1 else .ok false e1:=rfl
@[simp] theorem c_o(a b:PTs):(qO a b).G e=(a.G e).bind λk e1=>if k=true then .ok true e1 else b.G e1:=rfl
@[simp] theorem c_no(a:PTs):(qNo a).G e=(a.G e).bind λk e1=>.ok (!k) e1:=rfl
@[simp] theorem x_nx:xNx.G e=.nx e:=rfl
@[simp] theorem DC(a:PEx):(aT a).G e=(a.G e).toS iZ:=rfl
@[simp] theorem uD(v:Val):iZ (.val v) e=.rt (.val v) e:=rfl
@[simp] theorem wc(v:Val):iZ (.new v) e=.rt (.new v) e:=rfl
@[simp] theorem wV(i:Nat):iZ (.bor i) e=match e[i]? with
 |some (.sh v)=>.rt (.val v) e
 |some (.ow v)=>.rt (.new v) (e.set i .no)
 |some (.mu _)=>.rt (.par i) e
 |_=>.stuck:=rfl
@[simp] theorem Bd(a:PEx):(gJ a).G e=(a.G e).toS λ_ e1=>.nx e1:=rfl
@[simp] theorem fD(a b:PSt):(ak a b).G e=(a.G e).then b.G:=rfl
@[simp] theorem kz(c:PTs)(a b:PSt):(xIf c a b).G e=(c.G e).toS λk e1=>if k=true then a.G e1 else b.G e1:=rfl
@[simp] theorem CN(o:Bool)(i:Nat)(a:PEx):(aF o i a).G e=(a.G e).toS (cU o i):=rfl
@[simp] theorem Cz:Sl.no.pl=true:=rfl
@[simp] theorem CA(v:Val):(Sl.sh v).pl=true:=rfl
@[simp] theorem C5(v:Val):(Sl.ow v).pl=true:=rfl
@[simp] theorem wB(o:Bool)(i:Nat)(v:Val):cU o i (.val v) e=match e[i]? with
 |some s0=>if s0.pl=true then .nx (e.set i (.sh v)) else .stuck
 |none=>.stuck:=by unfold cU;rfl
@[simp] theorem tu(i:Nat)(v:Val):cU true i (.new v) e=match e[i]? with
 |some s0=>if s0.pl=true then .nx (e.set i (.ow v)) else .stuck
 |none=>.stuck:=by unfold cU;rfl
@[simp] theorem sC(i:Nat)(v:Val):cU false i (.new v) e=match e[i]? with
 |some s0=>if s0.pl=true then .nx (e.set i (.sh v)) else .stuck
 |none=>.stuck:=by unfold cU;rfl
@[simp] theorem vv(o:Bool)(i j:Nat):cU o i (.bor j) e=match e[i]? with
 |some s0=>if s0.pl=true then (match br e (.bor j) with
  |some (e2,v)=>.nx (e2.set i (.sh v))
  |none=>.stuck) else .stuck
 |none=>.stuck:=by unfold cU;rfl
@[simp] theorem g_n(i:Nat)(v:Val):(gtN i).G v e=match e[i]? with
 |some s=>if s.pl=true then some (e.set i (.sh v)) else none
 |none=>none:=rfl
@[simp] theorem Dr(i j:Nat)(a:PAs):(gq i j a).G e=(a.G e).toS λts e1=>match dem e1 ts with
 |some (e2,[v,u])=>match (pN i v e2).bind (pN j u) with
  |some e3=>.nx e3
  |none=>.stuck
 |_=>.stuck:=rfl
@[simp] theorem Du(i:Nat)(v:Val):pN i v e=match e[i]? with
 |some s=>if s.pl=true then some (e.set i (.sh v)) else none
 |none=>none:=rfl
@[simp] theorem vV(c:Str)(a:PAs):(eY c a).G e=(a.G e).toS λts e1=>if ts.length<=16777216 then .exc c e1 else .stuck:=rfl
@[simp] theorem BP(i:Nat)(w:PSe)(k a:PEx):(fm i w k a).G e=(a.G e).toS λt e1=>match (e1[i]?).bind Sl.mv with
 |none=>.stuck
 |some _=>(k.G e1).toS λt2 e2=>match rs e2 t2 with
  |none=>.stuck
  |some vi=>match br e2 t.drop with
   |none=>.stuck
   |some (e3,v)=>match e3[i]? with
    |none=>.stuck
    |some s=>match s.mv with
     |none=>.stuck
     |some u=>match w.G u vi v with
      |some u'=>.nx (e3.set i (s.re u'))
      |none=>.stuck:=rfl
@[simp] theorem Dp(v:Val):(Sl.ow v).mv=some v:=rfl
@[simp] theorem CF(v:Val):(Sl.mu v).mv=some v:=rfl
@[simp] theorem BN(v u:Val):(Sl.ow v).re u=.ow u:=rfl
@[simp] theorem B6(v u:Val):(Sl.mu v).re u=.mu u:=rfl
@[simp] theorem yu(v:Val):(Sl.ow v).val=some v:=rfl
@[simp] theorem xv(v:Val):(Sl.mu v).val=some v:=rfl
@[simp] theorem BS(i:Nat)(m:PMm)(a:PAs):(mP i m a).G e=match e[i]? with
 |some s=>if (s.mv.map rq)=some true then (a.G e).bind λts e1=>match dem e1 ts with
  |some (e2,vs)=>match e2[i]? with
   |some s2=>match s2.mv with
    |some u=>match m.G u vs with
     |some (u',v)=>.ok (.val v) (e2.set i (s2.re u'))
     |none=>.stuck
    |none=>.stuck
   |none=>.stuck
  |none=>.stuck else .stuck
 |none=>.stuck:=rfl
@[simp] theorem sH(xs:List Val):rq (.lst xs)=true:=rfl
@[simp] theorem Dj(a:PEx):(gW a).G e=(a.G e).bind λt e1=>match gE t e1 with
 |some p=>.ok p e1
 |none=>.stuck:=rfl
@[simp] theorem A5(v:Val):gE (.val v) e=(eu v).map λxs=>(xs,none):=rfl
@[simp] theorem ym(k:Nat):gE (.bor k) e=match e[k]? with
 |some (.sh v)=>(eu v).map λxs=>(xs,none)
 |some (.ow (.lst xs))=>some (xs,some k)
 |some (.mu (.lst xs))=>some (xs,some k)
 |_=>none:=rfl
@[simp] theorem zj(xs:List Val):eu (.lst xs)=some xs:=rfl
@[simp] theorem BW(a:PAs):(dE a).G e=(a.G e).bind λts e1=>match (rss e1 ts).bind cP with
 |some xs=>.ok (xs,none) e1
 |none=>.stuck:=rfl
@[simp] theorem Cf(i:PIt)(g:PGt)(b:PSt):(iA i g b).G e=(i.G e).toS λp e1=>(cR g.G b.G p.1 (lockO e1 p.2)).unl p.2:=rfl
@[simp] theorem lX(g:MG3)(B:MS3):cR g B [] e=.nx e:=rfl
theorem dg(g:MG3)(B:MS3)(v:Val)(vs:List Val):cR g B (v::vs) e=match g v e with
 |some e1=>(B e1).loop (cR g B vs)
 |none=>.stuck:=rfl
def x_wh(c:PTs)(b:PSt):(xWh c b).G e=(c.G e).toS λk e1=>if k=true then (b.G e1).loop (xWh c b).G else .nx e1:=rC c.G b.G e
@[simp] theorem v_lc(i:PIt)(sub:Ge)(hs:(sub.filterMap id).Nodup)(g:PGt)(c:PTs)(a:PEx):(pLC i sub hs g c a).G e=(i.G e).bind λp e1=>match lcV g.G c.G a.G p.1 [] (bN sub (lockO e1 p.2)) with
 |.ok ys e2=>if ys.length<=16777216 then .ok (.new (.lst ys)) (bQ (aH sub e2 (lockO e1 p.2)) p.2) else .stuck
 |_=>.stuck:=rfl
@[simp] theorem AV(f:PFn)(a:PAs):(az f a).G e=(a.G e).bind λts e1=>match rss e1 ts with
 |none=>.stuck
 |some vs=>if okA e1 f.ms ts=true then (match f.G vs with
  |.stuck=>.stuck
  |.ok r mv=>if (ax e1 f.ms ts).isEmpty || (fq r&&mv.all flatC) then .ok (r.tm ts) (aH (aM f.ms ts) (ar f.ms mv) e1) else (match iD e1 (ax e1 f.ms ts) with
   |some e2=>.ok (r.tm ts) (aH (aM f.ms ts) (ar f.ms mv) e2)
   |none=>.stuck)
  |.exc c mv=>if (ax e1 f.ms ts).isEmpty || mv.all flatC then .exc c (aH (aM f.ms ts) (ar f.ms mv) e1) else .stuck) else .stuck:=rfl
@[simp] theorem AO(ts:List Tm)(v:Val):(Rt.val v).tm ts=.val v:=rfl
@[simp] theorem AI(ts:List Tm)(v:Val):(Rt.new v).tm ts=.new v:=rfl
@[simp] theorem o_n:oN.G e=.ok none e:=rfl
@[simp] theorem o_s(a:PEx):(oS a).G e=(a.G e).bind λt e1=>match rs e1 t with
 |some (.int i)=>.ok (some i) e1
 |_=>.stuck:=rfl
@[simp] theorem v_sl(a:PEx)(l u:POp):(pSl a l u).G e=(a.G e).bind λt e1=>(l.G e1).bind λlo e2=>(u.G e2).bind λhi e3=>match rs e3 t.drop with
 |some v=>(aSl v lo hi).at e3
 |none=>.stuck:=rfl
theorem eZ(ms:List Bool)(N:Nat)(c:PSt)(vs:List Val):(fnP ms N c).G vs=if vs.length=ms.length then (match c.G (sls ms vs++List.replicate (N-vs.length) .no) with
 |.nx e=>(match muV ms e with |some mv=>.ok (.val .non) mv |none=>.stuck)
 |.rt r e=>(match muV ms e with |some mv=>.ok r mv |none=>.stuck)
 |.exc c e=>(match muV ms e with |some mv=>.exc c mv |none=>.stuck)
 |_=>.stuck) else .stuck:=rfl
end
@[simp] theorem DJ(i j:Int):aB.G (.int i) (.int j)=.val (.int (i+j)):=rfl
@[simp] theorem BH(i j:Int):bg.G (.int i) (.int j)=.val (.int (i-j)):=rfl
@[simp] theorem k_lt(i j:Int):bLt.G (.int i) (.int j)=.val (.bl (decide (i<j))):=rfl
@[simp] theorem k_le(i j:Int):bLe.G (.int i) (.int j)=.val (.bl (decide (i<=j))):=rfl
@[simp] theorem k_gt(i j:Int):bGt.G (.int i) (.int j)=.val (.bl (decide (j<i))):=rfl
@[simp] theorem k_ge(i j:Int):bGe.G (.int i) (.int j)=.val (.bl (decide (j<=i))):=rfl
@[simp] theorem CS(i:Int):gA.G (.int i)=.val (.int (-i)):=rfl
def dH(c:CMulA i j):bI.G (.int i) (.int j)=.val (.int (i*j)):=by show nL (.int i) (.int j)=_;unfold nL aIc;dsimp only;rw[if_pos c]
def uw(c:CDivB i j):i4.G (.int i) (.int j)=.val (.int (i.fdiv j)):=by show nR (.int i) (.int j)=_;unfold nR aIc;dsimp only;rw[if_pos c]
def eD(c:j≠0):bC.G (.int i) (.int j)=.val (.int (i.fmod j)):=by show mJ (.int i) (.int j)=_;unfold mJ aIc;dsimp only;rw[if_pos c]
def tT(c:iz i j):eW.G (.int i) (.int j)=.val (.int (i^j.toNat)):=by show mL (.int i) (.int j)=_;unfold mL aIc;dsimp only;rw[if_pos c]
@[simp] theorem k_ix(x:Val)(i:Int):bIx.G x (.int i)=match x.items with
 |some xs=>(match atI xs i with
  |some v=>.val v
  |none=>.stuck)
 |none=>.stuck:=by show aIx x (.int i)=_;unfold aIx;cases x.items <;> rfl
@[simp] theorem zb(xs:List Val):(Val.lst xs).items=some xs:=rfl
@[simp] theorem B9(xs:List Val):(Val.kl xs).items=some xs:=rfl
@[simp] theorem k_eq(x y:Val):bEq.G x y=match bU x y with
 |some b=>.val (.bl b)
 |none=>.stuck:=by show aEq false x y=_;unfold aEq;cases bU x y <;> rfl
@[simp] theorem k_ne(x y:Val):bNe.G x y=match bU x y with
 |some b=>.val (.bl (!b))
 |none=>.stuck:=by show aEq true x y=_;unfold aEq;cases bU x y <;> rfl
@[simp] theorem CQ(x y:Int):bU (.int x) (.int y)=some (x==y):=rfl
@[simp] theorem k_is(x:Val):bIs.G x .non=match x with
 |.non=>.val (.bl true)
 |_=>.val (.bl false):=by cases x <;> rfl
@[simp] theorem Bj(v:Val):bf.G [v]=match v.items with
 |some xs=>.val (.int xs.length)
 |none=>(match v with
  |.str z=>if z.length<=16777216 then .val (.int z.length) else .stuck
  |_=>.stuck):=rfl
@[simp] theorem BM(i j:Int):kg.G [.int i,.int j]=.val (.int (if j<i then j else i)):=rfl
@[simp] theorem DN(xs:List Val):nE.G [.lst xs]=match dh xs with
 |some bs=>.val (.bl (bs.all id))
 |none=>.stuck:=rfl
@[simp] theorem DB(xs:List Val):aA.G [.lst xs]=match cZ xs with
 |some bs=>.val (.int bs.sum)
 |none=>.stuck:=rfl
@[simp] theorem xJ(v:Val):fg.G [v]=match v.items with
 |some xs=>.new (.lst xs)
 |none=>.stuck:=rfl
@[simp] theorem rP(xs:List Val)(v:Val):eO.G (.lst xs) [v]=if xs.length<16777216 then some (.lst (xs++[v]),.non) else none:=rfl
@[simp] theorem dB:∀(bs:List Int),cZ (bs.map Val.int)=some bs
 | []=>rfl
 |b::r=>by show (cZ (r.map Val.int)).map (b :: ·)=_;rw[dB r];rfl
section
variable(K:W.Frag)(mg:Ga)(X:Cx)(ES:L2.St->XK)
@[irreducible] def DE(e:Expr)(F:ME):Prop:=L2.DE K mg X ES e F
@[irreducible] def DT(e:Expr)(F:MT):Prop:=L2.DT K mg X ES e F
@[irreducible] def DA(es:List Expr)(F:MA):Prop:=L2.DA K mg X ES es F
@[irreducible] def DS(st:Stmt)(F:MS):Prop:=L2.DS K mg X ES st F
@[irreducible] def DSs(st:List Stmt)(F:MS):Prop:=L2.DSs K mg X ES st F
@[irreducible] def DI(tg a_:Expr)(F:MI):Prop:=L2.DI K mg X ES tg a_ F
end
section
variable{K:W.Frag}{mg:Ga}{X:Cx}{ES:L2.St->XK}{e a b c o i tg a_ e_:Expr}{es:List Expr}{st:Stmt}{sts sts':List Stmt}{p q r:PEx}{A:PAs}{t u:PTs}{x y:PSt}{g:PGt}{I:PIt}{pos:Pos}
def kG(i:Nat){x:Str}(hN:X.N[i]?=some x:=by rfl)(hv:Vis X.env.scope x:=by first |exact Or.inl rfl |exact Or.inr (Or.inl rfl) |exact Or.inr (Or.inr rfl))(hd:(x==("__debug__" : Str))=false:=by decide)(hcd:(x==("__classdict__" : Str))=false:=by decide):DE K mg X ES (.Name x pos) (af i).F:=by with_unfolding_all exact yn i hN hv hd hcd
def ij{i:Int}{j:Nat}:DE K mg X ES (.Constant (.int i) j pos) (ah i).F:=by with_unfolding_all exact AD
def B5{i:Bool}{j:Nat}:DE K mg X ES (.Constant (.bool i) j pos) (pBl i).F:=by with_unfolding_all exact Dq
def xP{i:Str}{j:Nat}:DE K mg X ES (.Constant (.str i) j pos) (bW i).F:=by with_unfolding_all exact Ba
def DL{x:Str}{d:D}{v:Val}{r:∀P h,Rd P h d v}(hg:Gl X x)(ha:GC K mg x d)(hm:X.mg=mg:=by rfl)(hd:(x==("__debug__" : Str))=false:=by decide):DE K mg X ES (.Name x pos) (oq d v r).F:=by with_unfolding_all exact Di hg ha hm hd
def BO{x:Str}{n:String}(hg:Gl X x)(hm:mg x=none)(hv:bootBuiltins x=some (.type n))(he:X.mg=mg:=by rfl)(hn:x ≠ "__name__":=by decide)(hd:(x==("__debug__" : Str))=false:=by decide):DE K mg X ES (.Name x pos) (pTy n).F:=by with_unfolding_all exact Bs hg hm hv he hn hd
def CC(ho:OpR X (binaryOp op) r')(hd:OpD K mg r' k.F)(ha:DE K mg X ES a p.F)(hb:DE K mg X ES b q.F):DE K mg X ES (.BinOp a op b pos) (pOp k p q).F:=by with_unfolding_all exact By ho hd ha hb
def ua(hr:IxR X r')(hd:OpD K mg r' k.F)(ha:DE K mg X ES a p.F)(hb:DE K mg X ES b q.F)(hs:iN b:=by exact λ_ _=>rfl):DE K mg X ES (.Subscript a b pos) (pOp k p q).F:=by with_unfolding_all exact C2 hr hd ha hb hs
def zB(ho:OpR X (compareOp op) r')(hd:OpD K mg r' k.F)(ha:DE K mg X ES a p.F)(hb:DE K mg X ES b q.F)(hm:behindInMarks op b=false:=by first |exact o6 _ |with_unfolding_all rfl):DE K mg X ES (.Compare a [op] [b] pos) (pOp k p q).F:=by with_unfolding_all exact xN ho hd ha hb hm
def yf(ho:OpR X (compareOp op) r')(hd:OpD K mg r' k.F)(ha:DE K mg X ES a p.F)(hb:DE K mg X ES b q.F)(hm:behindInMarks op b=false:=by first |exact o6 _ |with_unfolding_all rfl):DT K mg X ES (.Compare a [op] [b] pos) (qOf (pOp k p q)).F:=by with_unfolding_all exact xi ho hd ha hb hm
def oi(ha:DE K mg X ES a p.F)(he:∀l_,isTrue a X.env l_=(do let v <- l_;standAt a.pos;holding [v] (truthy v)):=by intro _;rfl):DT K mg X ES a (qOf p).F:=by with_unfolding_all exact xS ha he
def oC(ha:DT K mg X ES a t.F):DT K mg X ES (.UnaryOp .Not a pos) (qNo t).F:=by with_unfolding_all exact zw ha
def vD(ha:DT K mg X ES a t.F):DW K mg X ES (.BoolOp .And [a] pos) t.F:=by with_unfolding_all exact wX ha
def zv(ha:DT K mg X ES a t.F):DW K mg X ES (.BoolOp .Or [a] pos) t.F:=by with_unfolding_all exact xF ha
def zH(ha:DT K mg X ES a t.F)(hb:DW K mg X ES (.BoolOp .And (b::es) pos) u.F):DW K mg X ES (.BoolOp .And (a::b::es) pos) (qAn t u).F:=by with_unfolding_all exact xR ha hb
def CI(ha:DT K mg X ES a t.F)(hb:DW K mg X ES (.BoolOp .Or (b::es) pos) u.F):DW K mg X ES (.BoolOp .Or (a::b::es) pos) (qO t u).F:=by with_unfolding_all exact DH ha hb
def ZW.dt(h:DW K mg X ES a t.F):DT K mg X ES a t.F:=by with_unfolding_all exact DW.dt h
def zt_w{op}(h:DW K mg X ES (.BoolOp op es pos) t.F):DT K mg X ES (.BoolOp op es pos) t.F:=ZW.dt h
def yK{op}(h:DE K mg X ES a p.F):DE K mg X ES (.BoolOp op [a] pos) p.F:=by with_unfolding_all exact Aq h
def A9(ha:DE K mg X ES a p.F)(hb:DE K mg X ES (.BoolOp .And (b::es) pos) q.F):DE K mg X ES (.BoolOp .And (a::b::es) pos) (dO p q).F:=by with_unfolding_all exact Ao ha hb
def Bq(ha:DE K mg X ES a p.F)(hb:DE K mg X ES (.BoolOp .Or (b::es) pos) q.F):DE K mg X ES (.BoolOp .Or (a::b::es) pos) (pOr p q).F:=by with_unfolding_all exact CW ha hb
def pB(ha:DE K mg X ES a p.F):DE K mg X ES (.UnaryOp .Not a pos) (iB p).F:=by with_unfolding_all exact z0 ha
def BG(ho:UnR X (unaryOp op) r')(hd:UnD K mg r' k.F)(ha:DE K mg X ES a p.F):DE K mg X ES (.UnaryOp op a pos) (pUn k p).F:=by with_unfolding_all exact Cc ho hd ha
def oY:DA K mg X ES [] ai.F:=by with_unfolding_all exact Ax
def fO(ha:DE K mg X ES e p.F)(hr:DA K mg X ES es A.F)(hs:starEach (e::es) X.env=(false,eval e X.env)::starEach es X.env:=by rfl):DA K mg X ES (e::es) (ag p A).F:=by with_unfolding_all exact vp ha hr hs
def As{x1}(h:DA K mg X ES es A.F):DE K mg X ES (.Tuple es x1 pos) (jW A).F:=by with_unfolding_all exact zI h
def Al(h:DA K mg X ES es A.F):DE K mg X ES (.List es pos) (bc A).F:=by with_unfolding_all exact yb h
def gr{id:String}{r':List V->Hp->VK->Prop}{k:PBf}{x:Str}{p0:Pos}(hc:CallR X (.builtin id) r')(hd:aZ K mg r' k.F)(hg:Gl X x)(hm:mg x=none)(hv:bootBuiltins x=some (.builtin id))(ha:DA K mg X ES (e::es) A.F)(hk:X.mg=mg:=by rfl)(hn:x ≠ "__name__":=by decide)(hdb:(x==("__debug__" : Str))=false:=by decide)(he:starEach (e::es) X.env=(false,eval e X.env)::starEach es X.env:=by rfl)(hpl:(backTo pos (starEach es X.env)).any (·.1)=false:=by rfl):DE K mg X ES (.Call (.Name x p0) (e::es) [] pos) (pFn k A).F:=by with_unfolding_all exact tF hc hd hg hm hv ha hk hn hdb he hpl
def jl{id:String}{r':List V->Hp->VK->Prop}{k:PBf}{x:Str}{p0:Pos}(hc:CallR X (.type id) r')(hd:aZ K mg r' k.F)(hg:Gl X x)(hm:mg x=none)(hv:bootBuiltins x=some (.type id))(ha:DA K mg X ES (e::es) A.F)(hk:X.mg=mg:=by rfl)(hn:x ≠ "__name__":=by decide)(hdb:(x==("__debug__" : Str))=false:=by decide)(he:starEach (e::es) X.env=(false,eval e X.env)::starEach es X.env:=by rfl)(hpl:(backTo pos (starEach es X.env)).any (·.1)=false:=by rfl):DE K mg X ES (.Call (.Name x p0) (e::es) [] pos) (pFn k A).F:=by with_unfolding_all exact oX hc hd hg hm hv ha hk hn hdb he hpl
def rT{f:PFn}{x:Str}{p0:Pos}{k n:Nat}{ps:List Str}(C:Callee X.prog X.w X.K X.mg X.base x k ps (spD K mg n f.F))(hr:Room k X.A)(hg:Gl X x)(hx:fE X ES)(ha:DA K mg X ES (e::es) A.F)(hn:f.ms.length=n)(hdb:(x==("__debug__" : Str))=false)(he:starEach (e::es) X.env=(false,eval e X.env)::starEach es X.env)(hpl:(backTo pos (starEach es X.env)).any (·.1)=false):DE K mg X ES (.Call (.Name x p0) (e::es) [] pos) (az f A).F:=by subst hn;with_unfolding_all exact sP C hr hg hx ha hdb he hpl
def ux:DSs K mg X ES [] xNx.F:=by with_unfolding_all exact wR
def fJ(h1:DS K mg X ES st x.F):DSs K mg X ES [st] x.F:=by with_unfolding_all exact wd h1
def ay(h1:DS K mg X ES st x.F)(h2:DSs K mg X ES sts y.F):DSs K mg X ES (st::sts) (ak x y).F:=by with_unfolding_all exact rz h1 h2
def jY(he:DE K mg X ES e p.F):DS K mg X ES (.Return (some e) pos) (aT p).F:=by with_unfolding_all exact xH he
def uZ(he:DE K mg X ES e p.F)(hs:swapsWith e none pos.line X.env=pure false:=by rfl):DS K mg X ES (.Expr e pos) (gJ p).F:=by with_unfolding_all exact vY he hs
def jE(hc:DT K mg X ES c t.F)(ha:DSs K mg X ES sts x.F)(hb:DSs K mg X ES sts' y.F):DS K mg X ES (.If c sts sts' pos) (xIf t x y).F:=by with_unfolding_all exact CK hc ha hb
def vn{i:Nat}{x:Str}(hN:X.N.Nodup)(hi:X.N[i]?=some x)(hx:Loc X.env.scope x)(hf:X.fn x=true\/X.env.scope.names.lookup x=some .local):DG K mg X ES (.Name x pos) (gtN i).F:=wZ hN hi hx hf
def uW(he:DE K mg X ES e p.F)(ho:DE K mg X ES o (af j).F)(hi:DE K mg X ES i q.F)(hs':ku X r')(hd:iY K mg r' w.F)(hs:swapsWithSole [.Subscript o i p1] e pos.line X.env=pure false:=by rfl)(hw:swappedStores [.Subscript o i p1] e X.env=pure none:=by rfl)(h1:(assignEach [.Subscript o i p1] X.env).map (·.2)=[assign (.Subscript o i p1) X.env]:=by rfl)
 (ha:∀v,assign (.Subscript o i p1) X.env v=(do
  let ov <- holding [v] (eval o X.env)
  let iv <- holding [v,ov] (eval i X.env)
  standAt p1
  holding [v,ov,iv] (setItem ov iv v)
  release [v,ov,iv] []):=by intro _;rfl):DS K mg X ES (.Assign [.Subscript o i p1] e pos) (fm j w q p).F:=by with_unfolding_all exact zU he (yh ho hi hs' hd ha) hs hw h1
def xu{ow:Bool}{i:Nat}{x:Str}{pos':Pos}(hN:X.N.Nodup)(hi:X.N[i]?=some x)(hx:Loc X.env.scope x)(he:DE K mg X ES e p.F)(hs:swapsWith e (some (.Name x pos')) pos.line X.env=pure false)(hf:X.fn x=true\/X.env.scope.names.lookup x=some .local):DS K mg X ES (.Assign [.Name x pos'] e pos) (aF ow i p).F:=by with_unfolding_all exact zE hN hi hx he hs hf
def pQ{i j:Nat}{x y:Str}{px py pt:Pos}{kt k2 pt2}(hN:X.N.Nodup)(ha:DA K mg X ES [a,b] A.F)(hc:X.calm=true:=by rfl)(hi:X.N[i]?=some x:=by rfl)(hj:X.N[j]?=some y:=by rfl)(hij:i≠j:=by decide)(hx:X.env.scope.names.lookup x=some .local:=by rfl)(hy:X.env.scope.names.lookup y=some .local:=by rfl)(hw:swappedStores [.Tuple [.Name x px,.Name y py] kt pt] (.Tuple [a,b] k2 pt2) X.env=pure (some [x,y]):=by rfl)(hs:swapsWithSole [.Tuple [.Name x px,.Name y py] kt pt] (.Tuple [a,b] k2 pt2) pos.line X.env=pure false:=by rfl):DS K mg X ES (.Assign [.Tuple [.Name x px,.Name y py] kt pt] (.Tuple [a,b] k2 pt2) pos) (gq i j A).F:=by with_unfolding_all exact AU hc hN hi hj hij hx hy ha hw hs
def tE{x:Str}{C:Addr}{E:XK}{np cpos:Pos}(hc:X.calm=true)(hR:Rz X E)(hg:Gl X x)(hm:mg x=some (.ref C))(hq:W.excIn X.K C gG "ValueError.__new__"=true)(ha:DA K mg X (λ_=>E) (e::es) A.F)(hk:X.mg=mg:=by rfl)(he:starEach (e::es) X.env=(false,eval e X.env)::starEach es X.env:=by rfl)(f_:(backTo cpos (starEach es X.env)).any (·.1)=false:=by rfl)(hd:(x==("__debug__" : Str))=false:=by decide):DS K mg X (λ_=>E) (.Raise (some (.Call (.Name x np) (e::es) [] cpos)) none pos) (eY x A).F:=by with_unfolding_all exact sZ hc hR hg hm hq ha hk he f_ hd
def yq(hK:X.K=K)(he:DE K mg X ES e p.F):DI K mg X ES tg e (gW p).F:=by with_unfolding_all exact yS hK he
def oE(hg:Gl X "range")(hm:mg "range"=none)(ha:DA K mg X ES [a] A.F)(hk:X.mg=mg:=by rfl)(hs:starEach [a] X.env=[(false,eval a X.env)]:=by rfl):DI K mg X ES tg (.Call (.Name "range" p0) [a] [] pos) (dE A).F:=by with_unfolding_all exact pD hg hm ha hk hs
def zk(hp:PassesOwn (model X.prog X.w) X.A X.env X.xe)(hc:X.calm=true)(hi:DI K mg X ES tg a_ I.F)(hg:DG K mg X ES tg g.F)(hb:DSs K mg X ES sts x.F)(hs:∀x,foldedSetIterable a_ X.env x=pure x:=by intro _;rfl):DS K mg X ES (.For tg a_ sts [] pos) (iA I g x).F:=by with_unfolding_all exact An hp hc hi hg hb hs
def qy(hp:PassesOwn (model X.prog X.w) X.A X.env X.xe)(hc:DT K mg X ES c t.F)(hb:DSs K mg X ES sts x.F):DS K mg X ES (.While c sts [] pos) (xWh t x).F:=by with_unfolding_all exact sS hp hc hb
def Br{scope:Scope}(M:List Str)(kn:List (Str×NameKind))(N:List Str)(sub:Ge){hsb:(sub.filterMap id).Nodup}(hc:X.calm=true)(hi:DI K mg X ES tg a_ I.F)(hg:∀cl C s₂ H fp,DG K mg (ao X N scope cl C s₂ H fp) (λ_=>E0) tg g.F)(he:∀cl C s₂ H fp,DE K mg (ao X N scope cl C s₂ H fp) (λ_=>E0) e_ p.F)(hM:X.N=M)(hkn:X.env.scope.names=kn)(d_:bK M scope.names sub N=true)(hk:scope.kind=.function)(m_:∀x∈scope.names,x.2 ≠ .cell)(b_:∀x∈scope.names,x.2=.local->scope.names.lookup x.1=some .local)(j':cc kn scope.names=true)(n_:sub.length=N.length)(hs:∀x,foldedSetIterable a_ X.env x=pure x):DE K mg X ES (.ListComp e_ [⟨tg,a_,[],0⟩] scope pos) (pLC I sub hsb g qY p).F:=by with_unfolding_all exact BJ M kn N sub hc hi hg he hM hkn d_ hk m_ b_ j' n_ hs
def vU{scope:Scope}(M:List Str)(kn:List (Str×NameKind))(N:List Str)(sub:Ge){hsb:(sub.filterMap id).Nodup}(hc:X.calm=true)(hi:DI K mg X ES tg a_ I.F)(hg:∀cl C s₂ H fp,DG K mg (ao X N scope cl C s₂ H fp) (λ_=>E0) tg g.F)(ht:∀cl C s₂ H fp,DT K mg (ao X N scope cl C s₂ H fp) (λ_=>E0) c t.F)(he:∀cl C s₂ H fp,DE K mg (ao X N scope cl C s₂ H fp) (λ_=>E0) e_ p.F)(hM:X.N=M)(hkn:X.env.scope.names=kn)(d_:bK M scope.names sub N=true)(hk:scope.kind=.function)(m_:∀x∈scope.names,x.2 ≠ .cell)(b_:∀x∈scope.names,x.2=.local->scope.names.lookup x.1=some .local)(j':cc kn scope.names=true)(n_:sub.length=N.length)(hs:∀x,foldedSetIterable a_ X.env x=pure x):DE K mg X ES (.ListComp e_ [⟨tg,a_,[c],0⟩] scope pos) (pLC I sub hsb g t p).F:=by with_unfolding_all exact wG M kn N sub hc hi hg ht he hM hkn d_ hk m_ b_ j' n_ hs
def Bi{ow:Bool}{px spos:Pos}{iT:Nat}{xT:Str}{scope:Scope}(M:List Str)(kn:List (Str×NameKind))(N:List Str)(sub:Ge){hsb:(sub.filterMap id).Nodup}(hc:X.calm=true)(hN:X.N.Nodup)(hix:X.N[iT]?=some xT)(hxl:Loc X.env.scope xT)(hi:DI K mg X ES tg a_ I.F)(hg:∀cl C s₂ H fp,DG K mg (ao X N scope cl C s₂ H fp) (λ_=>E0) tg g.F)(he:∀cl C s₂ H fp,DE K mg (ao X N scope cl C s₂ H fp) (λ_=>E0) e_ p.F)(hsw:swapsWith (.ListComp e_ [⟨tg,a_,[],0⟩] scope pos) (some (.Name xT px)) spos.line X.env=pure true)(hM:X.N=M)(hkn:X.env.scope.names=kn)(d_:bK M scope.names sub N=true)(hk:scope.kind=.function)(m_:∀x∈scope.names,x.2 ≠ .cell)(b_:∀x∈scope.names,x.2=.local->scope.names.lookup x.1=some .local)(j':cc kn scope.names=true)(n_:sub.length=N.length)(hs:∀x,foldedSetIterable a_ X.env x=pure x)(hf:X.fn xT=true\/X.env.scope.names.lookup xT=some .local):DS K mg X ES (.Assign [.Name xT px] (.ListComp e_ [⟨tg,a_,[],0⟩] scope pos) spos) (aF ow iT (pLC I sub hsb g qY p)).F:=by with_unfolding_all exact Bz M kn N sub hc hN hix hxl hi hg he hsw hM hkn d_ hk m_ b_ j' n_ hs hf
def zl{j:Nat}{name:Str}{id:String}{apos cpos:Pos}{r':V->List V->Hp->VK->Prop}{k:PMm}(hK:X.K=K)(slot:Slot "list" name id)(hty:typeOf (.builtin id)=pure (.type "method_descriptor"))(hm:MtM X id r')(hd:MtD K mg r' k.F)(ho:DE K mg X ES o (af j).F)(ha:DA K mg X ES (e::es) A.F)(hbase:attributeBase o name X.env (eval o X.env)=eval o X.env:=by rfl)(hfew:((backTo cpos (starEach (e::es) X.env)).all (λx=>!x.1)&&(backToKw cpos (keywordEach [] X.env)).all (λx=>x.1.isSome)&&decide ((e::es).length+([]:List Keyword).length+(if ([]:List Keyword).isEmpty then 0 else 1)<30))=true:=by rfl)(hline:(apos.endLine==cpos.line)=true:=by rfl)(hs:starEach (e::es) X.env=(false,eval e X.env)::starEach es X.env:=by rfl)(f_:(backTo cpos (starEach es X.env)).any (·.1)=false:=by rfl):DE K mg X ES (.Call (.Attribute o name apos) (e::es) [] cpos) (mP j k A).F:=by with_unfolding_all exact de_m hK slot hty hm hd ho ha hbase hfew hline hs f_
def lQ:DO K mg X ES none oN.F:=wK
def lN(he:DE K mg X ES e p.F):DO K mg X ES (some e) (oS p).F:=by with_unfolding_all exact wY he
def lz{l u:POp}{lo hi:Option Expr}{p2:Pos}(hK:X.K=K)(he:DE K mg X ES e p.F)(hl:DO K mg X ES lo l.F)(hu:DO K mg X ES hi u.F):DE K mg X ES (.Subscript e (.Slice lo hi none p2) pos) (pSl p l u).F:=by with_unfolding_all exact sY hK he hl hu
def yM:OpD K mg (λx y H Q=>rI0 (λi j=>.int (i+j)) x y H Q\/(i6 x y H Q\/(fG K x y H Q\/fK K x y H Q))) aB.F:=yX
def xM:OpD K mg (rI0 λi j=>.int (i-j)) bg.F:=AY
def zS:OpD K mg (rI CMulA λi j=>.int (i*j)) bI.F:=xO
def x9:OpD K mg (rI CDivB λi j=>.int (i.fdiv j)) i4.F:=yw
def yN:OpD K mg (rI (λ_ j=>j≠0) λi j=>.int (i.fmod j)) bC.F:=AL
def zi:OpD K mg (rI iz λi j=>.int (i^j.toNat)) eW.F:=Ap
def ub:OpD K mg (rI0 λi j=>.bl (decide (i<j))) bLt.F:=Cm
def Cg:OpD K mg (rI0 λi j=>.bl (decide (i<=j))) bLe.F:=Dy
def Co:OpD K mg (rI0 λi j=>.bl (decide (j<i))) bGt.F:=Cy
def ug:OpD K mg (rI0 λi j=>.bl (decide (j<=i))) bGe.F:=BV
def AX:OpD K mg tf bq.F:=vM
def tU:OpD K mg (λx y H Q=>m8 K x y H Q\/nY K x y H Q) bIx.F:=yp
def tM:OpD K mg (m5 K) bEq.F:=yA
def BF:OpD K mg (nG K) bNe.F:=AA
def BC:OpD K mg (rIn K false) bIn.F:=(zM false)
def Ah:aZ K mg (λxs H Q=>(∃p ys,xs=[.ref p]/\(SqL K H p ys\/SqT K H p ys)/\Q (.int ys.length) H)\/(∃z,xs=[.str z]/\z.length<=sizeLine/\Q (.int z.length) H)) bf.F:=zy
def vg:aZ K mg (λxs H Q=>∃i j,xs=[.int i,.int j]/\Q (.int (if j<i then j else i)) H) kg.F:=vj
def A8:aZ K mg (λxs H Q=>∃(a:Addr) (bs:List Bool),xs=[.ref a]/\SqL K H a (bs.map V.bl)/\Q (.bl (bs.all id)) H) nE.F:=zm
def xo:aZ K mg (λxs H Q=>∃(a:Addr) (ns:List Int),xs=[.ref a]/\SqL K H a (ns.map V.int)/\Q (.int ns.sum) H) aA.F:=AF
def lZ:aZ K mg (λxs H Q=>∃p ys,xs=[.ref p]/\(SqL K H p ys\/SqT K H p ys)/\∀l,H l=none->Q (.ref l) (upd H l (.lst ys))) fg.F:=wA
def xI(ok:KitsOk K mg kt):aZ K mg (λxs H Q=>(∃x c t v b,xs=[x,c]/\TyX K H x t/\cn c=some v/\W.kitOne K t v=some b/\Q (.bl b) H)\/
 (∃x tp cs t vs b,xs=[x,.ref tp]/\SqT K H tp cs/\TyX K H x t/\cs.mapM cn=some vs/\W.kitAny K t vs=some b/\Q (.bl b) H)) (bP kt).F:=xX ok
def pR:MtD K mg iR eO.F:=pZ
def wU:iY K mg nU seL.F:=u3
def Bg:UnD K mg (rU λi=>.int (-i)) gA.F:=yt
variable{P:Program}{w:World}{base:Heap}{fx:Str}{fst:Stmt}{k n m:Nat}{ps N:List Str}{ms:List Bool}
def okP(D:Def K mg fx fst)(S:FnScope N ps (aj fst))
 (hb:∀(kV doc pm:Value) (an:Option Addr) (cdv ct:Value) (us:List Value),us.length=ps.length->bindArgs (W.fnOf fx fx (bF fst) (aV fst) (aj fst) .none kV doc pm an cdv ct) ⟨us,[]⟩=pure (ps.zip us))
 (j_:∀(f:Addr) (cdv:Value) (A:Around) (outer:List Env) (s:Shared) (H:Hp) (E:XK),Room k (A.deeper (envOfC fx (aj fst) s.heap.objs.size f cdv))->
  DSs K mg (bV (CX1 P w) P w K mg base N fx (aj fst) f cdv A outer s H E) (λ_=>E) (aV fst) x.F) (hn:ps.length=n) (hm:N.length=m):Callee P w K mg base fx (k+1) ps (spD K mg n (fnP ms m x).F):=by
 subst hn hm;with_unfolding_all exact D.okD S hb j_
end
def zq(b:Bool)(ms:List Bool)(v:Val)(vs:List Val):sls (b::ms) (v::vs)=sl1 b v::sls ms vs:=rfl
def vW:sls [] []=[]:=rfl
def BZ(v:Val):sl1 true v=.mu v:=rfl
def Bn(v:Val):sl1 false v=.sh v:=rfl
section
variable(e:E3)
def uR:okA e [] []=true:=rfl
def yU(i:Nat)(ms:List Bool)(ts:List Tm):okA e (true::ms) (.bor i::ts)=(((e[i]?).bind Sl.mv).isSome && !(dS i ts)&&okA e ms ts):=rfl
def yy(i:Nat)(ms:List Bool)(ts:List Tm):okA e (false::ms) (.bor i::ts)=(!(dM i ms ts)&&okA e ms ts):=rfl
def A4(v:Val)(ms:List Bool)(ts:List Tm):okA e (false::ms) (.val v::ts)=okA e ms ts:=rfl
def rh(i:Nat):dS i []=false:=rfl
def xt(i:Nat)(v:Val)(ts:List Tm):dS i (.val v::ts)=dS i ts:=rfl
def sT(i:Nat):dM i [] []=false:=rfl
def AJ(i:Nat)(t:Tm)(ms:List Bool)(ts:List Tm):dM i (false::ms) (t::ts)=dM i ms ts:=by cases t <;> rfl
def pS:ax e [] []=[]:=rfl
theorem vP(i:Nat)(ms:List Bool)(ts:List Tm):ax e (false::ms) (.bor i::ts)=match e[i]? with
 |some (.sh _)=>ax e ms ts
 |_=>i::ax e ms ts:=rfl
def wt(v:Val)(ms:List Bool)(ts:List Tm):ax e (false::ms) (.val v::ts)=ax e ms ts:=rfl
def yg(t:Tm)(ms:List Bool)(ts:List Tm):ax e (true::ms) (t::ts)=ax e ms ts:=by cases t <;> rfl
end
def qc:aM [] []=[]:=rfl
def uT(b:Bool)(t:Tm)(ms:List Bool)(ts:List Tm):aM (b::ms) (t::ts)=iX b t::aM ms ts:=rfl
def wN(i:Nat):iX true (.bor i)=some i:=rfl
def Aa(t:Tm):iX false t=none:=by cases t <;> rfl
def qP(e:E3):aH [] [] e=e:=rfl
def A1(o:Option Nat)(sub:Ge)(s:Sl)(i e:E3):aH (o::sub) (s::i) e=aH sub i (cE o s e):=rfl
theorem uU(i:Nat)(v:Val)(e:E3):cE (some i) (.mu v) e=match e[i]? with
 |some t=>e.set i (t.re v)
 |none=>e:=rfl
def yP(s:Sl)(e:E3):cE none s e=e:=rfl
def rG(vs:List Val):ar [] vs=[]:=rfl
def zh(ms:List Bool)(v:Val)(vs:List Val):ar (true::ms) (v::vs)=.mu v::ar ms vs:=rfl
def zQ(ms:List Bool)(vs:List Val):ar (false::ms) vs=.no::ar ms vs:=by cases vs <;> rfl
def vB(e:E3):muV [] e=some []:=by cases e <;> rfl
def CH(ms:List Bool)(v:Val)(e:E3):muV (true::ms) (.mu v::e)=(muV ms e).map (v :: ·):=rfl
def Cs(ms:List Bool)(s:Sl)(e:E3):muV (false::ms) (s::e)=muV ms e:=by cases s <;> rfl
def oU(v:Val):fq (.val v)=aJ v:=rfl
def oI(v:Val):fq (.new v)=flatC v:=rfl
def lF(v:Val)(vs:List Val):flatVs (v::vs)=(aJ v&&flatVs vs):=by simp [flatVs]
def pH(i:Int):aJ (.int i)=true:=by simp [aJ]
def tJ(i:Bool):aJ (.bl i)=true:=by simp [aJ]
def n8:aJ .non=true:=by simp [aJ]
def jB(h0:0<=i)(h:l[i.toNat]?=some x):atI l i=some x:=by have hl:=(p_.mp h).1;unfold atI ixN;rw[if_pos h0,if_pos (by omega)];exact h
theorem jI(xs:List Val)(k:Int)(v:Val):seL.G (.lst xs) (.int k) v=match ixN xs.length k with
 |some j=>some (.lst (xs.set j v))
 |none=>none:=rfl
mutual
def vq:Val->Val->Bool
 |.non,.non=>true
 |.bl a,.bl b=>a==b
 |.bl a,.int j=>(if a then 1 else 0)==j
 |.int i,.bl b=>i==(if b then 1 else 0)
 |.int i,.int j=>i==j
 |.str x,.str y=>x==y
 |.tup xs,.tup ys=>vqs xs ys
 |.lst xs,.lst ys=>vqs xs ys
 |_,_=>false
def vqs:List Val->List Val->Bool
 | [],[]=>true
 |x::xs,y::ys=>vq x y&&vqs xs ys
 |_,_=>false
end
mutual
def wfV:Nat->Val->Bool
 |_,.non=>true
 |_,.bl _=>true
 |_,.int _=>true
 |_,.str x=>PyData.strOk x
 |k+1,.tup xs=>bL k xs
 |k+1,.lst xs=>bL k xs
 |_,_=>false
def bL:Nat->List Val->Bool
 |_,[]=>true
 |k,x::xs=>wfV k x&&bL k xs
end
mutual
def cN:Val->PyData
 |.bl b=>.bool b
 |.int i=>.int i
 |.str x=>.str x
 |.tup xs=>.tuple (bR xs)
 |.lst xs=>.list (bR xs)
 |_=>.none
def bR:List Val->List PyData
 | []=>[]
 |x::xs=>cN x::bR xs
end
mutual
theorem iu:∀(k:Nat) (v:Val),wfV k v=true->(∀j,k<j->bA j v=some (cN v))/\(cN v).canLay0=true/\(cN v).depth<=k
 |k,.non,_=>⟨λj hj=>by cases j with |zero=>exact absurd hj (EX _) |succ j=>rfl,rfl,Ef _⟩
 |k,.bl b,_=>⟨λj hj=>by cases j with |zero=>exact absurd hj (EX _) |succ j=>rfl,rfl,Ef _⟩
 |k,.int b,_=>⟨λj hj=>by cases j with |zero=>exact absurd hj (EX _) |succ j=>rfl,rfl,Ef _⟩
 |k,.str b,w=>⟨λj hj=>by cases j with |zero=>exact absurd hj (EX _) |succ j=>rfl,by cases k <;> exact w,Ef _⟩
 |0,.tup xs,w=>absurd w u_
 |0,.lst xs,w=>absurd w u_
 |
  k+1,.tup xs,w=>by
  obtain⟨h1,h2,h3⟩:=gj k xs w;exact⟨λj hj=>by cases j with |zero=>exact absurd hj (EX _) |succ j=>simp only[bA,cN,h1 j (Nat.lt_of_succ_lt_succ hj),Option.map_some],h2,by simpa [cN,PyData.depth] using h3⟩
 |
  k+1,.lst xs,w=>by
  obtain⟨h1,h2,h3⟩:=gj k xs w;exact⟨λj hj=>by cases j with |zero=>exact absurd hj (EX _) |succ j=>simp only[bA,cN,h1 j (Nat.lt_of_succ_lt_succ hj),Option.map_some],h2,by simpa [cN,PyData.depth] using h3⟩
 |k,.ty _,w=>by cases k <;> exact absurd w u_
 |k,.glb _,w=>by cases k <;> exact absurd w u_
 |k,.exc _,w=>by cases k <;> exact absurd w u_
 |k,.kl _,w=>by cases k <;> exact absurd w u_
 |k,.dct _,w=>by cases k <;> exact absurd w u_
 |k,.set _,w=>by cases k <;> exact absurd w u_
theorem gj:∀(k:Nat) (vs:List Val),bL k vs=true->(∀j,k<j->bZ j vs=some (bR vs))/\PyData.canLayAll0 (bR vs)=true/\PyData.depthAll (bR vs)<=k
 |k,[],_=>⟨λj hj=>by simp [bZ,bR],rfl,Ef _⟩
 |
  k,v::vs,w=>by
  have w':(wfV k v&&bL k vs)=true:=w;rw[t_] at w';obtain⟨h1,h2,h3⟩:=iu k v w'.1;obtain⟨i1,i2,i3⟩:=gj k vs w'.2;exact⟨λj hj=>by simp [bZ,bR,h1 j hj,i1 j hj],by simp [bR,PyData.canLayAll0,h2,i2],Nat.max_le.mpr ⟨h3,i3⟩⟩
end
mutual
theorem o4:∀(k:Nat) (v u:Val),wfV k v=true->wfV k u=true->PyData.eqv (cN v) (cN u)=vq v u
 |
  k,v,u,hv,hu=>by
  cases v <;> first |(cases k <;> exact absurd hv u_) |skip
  all_goals (cases u <;> first |(cases k <;> exact absurd hu u_) |rfl |(cases k with |zero=>exact absurd hv u_ |succ k=>exact l0 k _ _ hv hu))
theorem l0:∀(k:Nat) (v u:List Val),bL k v=true->bL k u=true->PyData.eqvAll (bR v) (bR u)=vqs v u
 |_,[],[],_,_=>rfl
 |_,[],_::_,_,_=>rfl
 |_,_::_,[],_,_=>rfl
 |
  k,x::xs,y::ys,hv,hu=>by
  have h1:(wfV k x&&bL k xs)=true:=hv;have h2:(wfV k y&&bL k ys)=true:=hu;rw[t_] at h1 h2;show (PyData.eqv (cN x) (cN y)&&PyData.eqvAll (bR xs) (bR ys))=(vq x y&&vqs xs ys);rw[o4 k x y h1.1 h2.1,l0 k xs ys h1.2 h2.2]
end
def xE(hk:k<=160)(hx:wfV k x=true)(hy:wfV k y=true):bU x y=some (vq x y):=by obtain⟨h1,h2,h3⟩:=iu k x hx;obtain⟨i1,i2,i3⟩:=iu k y hy;unfold bU;rw[h1 164 (by omega),i1 164 (by omega)];dsimp only;rw[if_pos ⟨ja h2 (by omega),ja i2 (by omega)⟩,o4 k x y hx hy]
def uu(hx:wfV 60 x=true)(hy:wfV 60 y=true):bU x y=some (vq x y):=xE (by decide) hx hy
mutual
theorem mj:∀(k:Nat) (v:Val),wfV k v=true->vq v v=true
 |
  k,v,hv=>by
  cases v <;> first |(cases k <;> exact absurd hv u_) |rfl |exact E7 _ |(cases k with |zero=>exact absurd hv u_ |succ k=>exact kO k _ hv)
theorem kO:∀(k:Nat) (v:List Val),bL k v=true->vqs v v=true
 |_,[],_=>rfl
 |
  k,x::xs,hv=>by
  have h1:(wfV k x&&bL k xs)=true:=hv;rw[t_] at h1;show (vq x x&&vqs xs xs)=true;rw[mj k x h1.1,kO k xs h1.2];rfl
end
noncomputable def rgV(k:Nat):List Val:=(List.range k).map λj=>Val.int (j:Nat)
def d4(h:k<1000000):cP [.int (k:Nat)]=some (rgV k):=by simp only[cP];rw[if_pos (⟨by omega,by omega⟩:RgB _),EZ];unfold nX rgV;simp only[Int.zero_add]
def ve(h0:0<=i)(h:i<1000000):cP [.int i]=some (rgV i.toNat):=by
 have:=d4 (k:=i.toNat) (by omega)
 rwa [show ((i.toNat:Nat):Int)=i from by omega] at this
theorem eJ(fv fw:α->Val)(P:E3->Prop):∀(l:List α) (acc:List Val) (e:E3),P e->(∀a∈l,∀e,P e->∃e1 t e2,g (fv a) e=some e1/\F e1=.ok t e2/\br e2 t=some (e2,fw a)/\P e2)->acc.length+l.length<=16777216->∃e',P e'/\lcV g qY.G F (l.map fv) acc e=.ok (acc++l.map fw) e'
 | [],acc,e,hp,_,_=>⟨e,hp,by simp [lcV]⟩
 |
  v::vs,acc,e,hp,hf,hl=>by
  obtain⟨e1,t,e2,q1,q2,q3,q4⟩:=hf v (D7 ..) e hp;obtain⟨e',p',q5⟩:=eJ fv fw P vs (acc++[fw v]) e2 q4 (λu hu=>hf u (DV _ hu)) (by simp at hl ⊢;omega);refine⟨e',p',?_⟩;rw[z_];unfold lcV;have cy:qY.G=cY:=rfl;rw[cy] at q5 ⊢;rw[if_pos (by simp at hl;omega),q1];simp only[cY,ez,E4,q2,q3,q5];simp
def kd(v:Val):inS (.mu v)=.mu v:=rfl
theorem er(k:Nat):∀xs:List Val,bL k xs=xs.all (wfV k)
 | []=>by simp [bL]
 |x::xs=>by simp [bL,er k xs]
def wH(i:Nat)(v:Val)(e:E3):cE (some i) (.sh v) e=e:=rfl
noncomputable def fY(ms:List Bool)(r:SR3):R3F:=match r with
 |.nx e=>(match muV ms e with |some mv=>.ok (.val .non) mv |none=>.stuck)
 |.rt r e=>(match muV ms e with |some mv=>.ok r mv |none=>.stuck)
 |.exc c e=>(match muV ms e with |some mv=>.exc c mv |none=>.stuck)
 |_=>.stuck
def eA(h:vs.length=ms.length):(fnP ms N c).G vs=fY ms (c.G (sls ms vs++List.replicate (N-vs.length) .no)):=by rw[eZ,if_pos h];rfl
def cW(ms:List Bool)(r:Rt)(e:E3):fY ms (.rt r e)=match muV ms e with |some mv=>.ok r mv |none=>.stuck:=rfl
def aE{Q:SR3->Prop}(I:E3->Prop){a b:PSt}{e:E3}(h1:∃e1,a.G e=.nx e1/\I e1)(h2:∀e1,I e1->Q (b.G e1)):Q ((ak a b).G e):=by obtain⟨e1,q,i⟩:=h1;rw[fD,q];exact h2 e1 i
def sm8(h:m.natAbs<1099511627776):Sm 8000 m:=A_ (show m.natAbs<2^40 from h) (Nat.pow_le_pow_right (by decide) (by decide))
def AW(xs ys:List Val):aB.G (.lst xs) (.lst ys)=if xs.length+ys.length<=16777216 then .new (.lst (xs++ys)) else .stuck:=rfl
theorem ar1{α:Type}{P:List α->Prop}(h:∀a,P [a]):∀us:List α,us.length=1->P us
 | [a],_=>h a
theorem ar2{α:Type}{P:List α->Prop}(h:∀a b,P [a,b]):∀us:List α,us.length=2->P us
 | [a,b],_=>h a b
section
variable{P:Nat->Prop}{h:AH}
def Dm(r:Rk P h ws us):lkD us k=some v->∃d,lkD ws k=some d/\Rd P h d v:=
 r.ind (M:=λws us=>lkD us k=some v->∃d,lkD ws k=some d/\Rd P h d v) (λq=>by cases q) (λ{k2 d v2 ds vs} r _ ih q=>by
  unfold lkD at q ih ⊢;rw[Ew] at q ⊢;dsimp only at q ⊢;by_cases hk:k2=k
  .rw[Ek hk] at q ⊢;cases q;exact⟨d,rfl,r⟩
  .rw[D5 hk] at q ⊢;exact ih q)
def wj(r:Rk P h ws us):us.map (·.1)=ws.map (·.1):=
 r.ind (M:=λws us=>us.map (·.1)=ws.map (·.1)) rfl λ_ _ ih=>by rw[z_,z_,ih]
def yz(r:Rk P h ws us):ws.length=us.length:=
 r.ind (M:=λws us=>ws.length=us.length) rfl λ_ _ ih=>Ey (· + 1) ih
def yI(r:Rk P h ws us)(q:Rk P h ws' us'):Rk P h (ws++ws') (us++us'):=
 r.ind (M:=λws us=>Rk P h (ws++ws') (us++us')) q λr _ ih=>.cons r ih
def AG(rd:Rd P h d v)(r:Rk P h ws us):Rk P h (et ws k d) (et us k v):=by
 unfold et;rw[j0 (wj r)];by_cases hc:(ws.any λkv=>decide (kv.1=k))=true
 .rw[if_pos hc,if_pos hc];exact r.ind (M:=λws us=>Rk P h (ws.map λkv=>if kv.1=k then (kv.1,d) else kv) (us.map λkv=>if kv.1=k then (kv.1,v) else kv)) .nil (λ{k2 d2 v2 ds vs} r _ ih=>by
   rw[z_,z_];dsimp only;by_cases hk:k2=k
   .rw[if_pos hk,if_pos hk];exact .cons rd ih
   .rw[if_neg hk,if_neg hk];exact .cons r ih)
 .rw[if_neg hc,if_neg hc];exact yI r (.cons rd .nil)
def Bb:∀{ks:List Key}{ds:List D}{vs:List Val},Rds P h ds vs->Rk P h (ks.zip ds) (ks.zip vs):=by
 intro ks;induction ks with
 |nil=>intro ds vs _;exact .nil
 |
  cons k ks ih=>
  intro ds vs r;cases r with
  |nil=>exact .nil
  |cons r rr=>exact .cons r (ih rr)
end
def sX:Val->Val->Bv:=λx y=>match x with
 |.dct kvs=>(match y with
  |.str k=>(match lkD kvs (.inr k) with
   |some v=>.val v
   |none=>.stuck)
  |_=>.stuck)
 |_=>.stuck
def zX:RO jP sX:=λP h d1 d2 v1 v2 r1 r2=>by
 unfold sX;split
 .rename_i kvs;split
  .rename_i k;split
   .rename_i v q;obtain⟨n,ws,rfl,e,rk⟩:=r1.dct;obtain rfl:=r2.str;obtain⟨d,q1,rd⟩:=Dm rk q;refine⟨d,?_,rd⟩;unfold jP;dsimp only;rw[e];dsimp only;rw[q1]
   .trivial
  .trivial
 .trivial
noncomputable def cT:PO2:=⟨jP,sX,zX⟩
noncomputable def sD:Val->Val->Val->Option Val:=λo i v=>match o with
 |.dct kvs=>(match i with
  |.str k=>if kvs.length<16777216 then some (.dct (et kvs (.inr k) v)) else none
  |_=>none)
 |_=>none
def zf:nT wD sD:=λP h n o u di vi d v u' np e hf r ri rd q=>by
 unfold sD at q;split at q
 .rename_i kvs;split at q
  .rename_i k;split at q
   .rename_i hl;cases q;obtain rfl:=ri.str;cases r with
    |dct rk=>rename_i ws;refine⟨.dct (et ws (.inr k) d),?_,trivial,.dct (AG rd rk)⟩;unfold wD;dsimp only;rw[e];dsimp only;rw[if_pos (by rw[yz rk];exact hl)]
   .cases q
  .cases q
 .cases q
noncomputable def seD:PSe:=⟨wD,sD,zf⟩
def nK(ks:List Str)(A:MA3):ME3:=λe=>(A e).bind λts e1=>match dem e1 ts with
 |some (e2,vs)=>if ks.length=vs.length then .ok (.new (.dct ((ks.map Sum.inr).zip vs))) e2 else .stuck
 |none=>.stuck
def vE(ks:List Str)(hA:RA A A3):RE (ie ks A) (nK ks A3):=λX h0 L ns e ae h S hl=>by
 have SG:=S.grow (.dct []);have p:=hA (Xn X h.length) h0 ns e ae (h++[.dct []]) SG;unfold nK ie;cases q:A3 e with
 |stuck=>trivial
 |exc c e'=>rw[q] at p;obtain⟨h',ns',y,a,S'⟩:=p;exact⟨h',ns',by rw[y];rfl,(Stp.grow _).trans S a,S'.weak λn z=>.inl z⟩
 |
  ok ts e1=>
  rw[q] at p;obtain⟨ds,h1,ns1,y,a1,S1,r1⟩:=p;rw[y];show Po X h0 ns e ae h (relE X h0 L ae) _ (match dem e1 ts with
   |some (e2,vs)=>if ks.length=vs.length then .ok (.new (.dct ((ks.map Sum.inr).zip vs))) e2 else .stuck
   |none=>.stuck)
  cases qd:dem e1 ts with
  |none=>trivial
  |
   some w=>
   obtain⟨e2,vs⟩:=w;dsimp only;by_cases hlen:ks.length=vs.length
   .rw[if_pos hlen];obtain⟨g_,S2,a2,r2⟩:=dU S1 r1 qd;have hk:h1[h.length]?=some (.dct []):=a1.keep _ _ lY λ⟨i,s,z,_⟩=>SG.nx i _ z (.inr rfl);have A:=((Stp.grow (.dct [])).trans S a1).trans S a2;have hlt:=bh hk;have mv:Mov (Oc (Xn X h.length) g_) (Oc (Xn X h.length) g_) h1 (h1.set h.length (.dct ((ks.map Sum.inr).zip ds))):=λm o p q=>⟨p,by have:m≠h.length:=λz=>p.1 (.inr z);rw[aN this];exact q⟩;have S3:Sat (Xn X h.length) h0 g_ e2 ae (h1.set h.length (.dct ((ks.map Sum.inr).zip ds))):=⟨S2.l1,S2.l2,by rw[y_];exact S2.lh,λm z=>by rw[y_];exact S2.xl m z,S2.inj,S2.nx,λj s qj=>(S2.sl j s qj).mono mv λm o qm qo=>by have:m≠h.length:=λz=>S2.nx j m qm (.inr z);rw[aN this];exact qo⟩;have A3':Stp ns e h g_ e2 (h1.set h.length (.dct ((ks.map Sum.inr).zip ds))):=⟨by rw[y_];exact A.len,λm o qm hm=>by have:m≠h.length:=D_ (bh qm);rw[aN this];exact A.keep m o qm hm,A.nw,A.lk,A.lk',A.mu,A.mu'⟩;refine⟨.ref h.length,_,g_,?_,A3',S3.weak λn z=>.inl z,h.length,_,rfl,hl,λz=>En _ (S.xl _ z),aY hlt,trivial,S3,.dct ((Bb r2).mono mv)⟩;show (match h1[h.length]? with
     |some (.dct [])=>if ks.length=ds.length then R.ok (D.ref h.length) (h1.set h.length (.dct ((ks.map Sum.inr).zip ds))) else .stuck
     |_=>.stuck)=_
    rw[hk];dsimp only;rw[if_pos (by rw[r2.len];exact hlen)]
   .rw[if_neg hlen];trivial
def m6(ks:List Str)(a:PAs):PEx:=⟨ie ks a.F,nK ks a.G,vE ks a.ok⟩
theorem oQ(e:E3)(ks:List Str)(a:PAs):(m6 ks a).G e=(a.G e).bind λts e1=>match dem e1 ts with
 |some (e2,vs)=>if ks.length=vs.length then .ok (.new (.dct ((ks.map Sum.inr).zip vs))) e2 else .stuck
 |none=>.stuck:=rfl
section
variable{K:W.Frag}{mg:Ga}{X:Cx}{ES:L2.St->XK}{a b:Expr}{p q:PEx}{pos:Pos}
def vN(hu:X.A.units+1<cLine)(ha:DE K mg X ES a p.F)(hb:DE K mg X ES b q.F)(hs:nc b):DE K mg X ES (.Subscript a b pos) (pOp cT p q).F:=by with_unfolding_all exact vH hu ha hb hs
def fX(hv:DE K mg X ES v F)(hr:PPs X pos ks vs (tps K mg ES prs)):PPs X pos (some (.Constant (.str k) j kp)::ks) (v::vs) (tps K mg ES ((k,F)::prs)):=by with_unfolding_all exact rO hv hr
def vk(hp:PPs X pos keys values (tps K mg ES prs))(h1:ks=prs.map (·.1):=by rfl)(h2:A.F=aL prs:=by rfl)(hn:ks.Nodup:=by decide)(hall:keys.all (·.isSome)=true:=by rfl)(hl:keys.length=values.length:=by rfl)(h0:keys≠[]:=by intro h;cases h)(h15:keys.length<=15:=by decide)(hp15:prs.length<=15:=by decide):DE K mg X ES (.Dict keys values pos) (m6 ks A).F:=by subst h1;show DE K mg X ES (.Dict keys values pos) (ie (prs.map (·.1)) A.F);rw[h2];with_unfolding_all exact uX hp hall hl h0 h15 hn hp15
end
def se:List Val->Bv:=λvs=>match vs with
 | [.lst xs]=>(match dh xs with
  |some bs=>.val (.bl (bs.any id))
  |none=>.stuck)
 |_=>.stuck
def yJ:RFn j4 se:=λP h ds vs r=>by
 unfold se;split
 .obtain⟨d,hd,rr1⟩:=eh r;subst hd;clear r;have r:=rr1;obtain⟨n,es,rfl,_,e1,q⟩:=r.lst;split
  .rename_i bs e2;exact⟨_,by unfold j4;dsimp only;rw[e1];show (match cH es with |some bs=>_ |none=>_)=_;rw[tW q e2],.bl _⟩
  .trivial
 .trivial
noncomputable def ni:PBf:=⟨j4,se,yJ⟩
theorem Cd(xs:List Val):ni.G [.lst xs]=match dh xs with
 |some bs=>.val (.bl (bs.any id))
 |none=>.stuck:=rfl
def zr{K:W.Frag}{mg:Ga}:aZ K mg (λxs H Q=>∃(a:Addr) (bs:List Bool),xs=[.ref a]/\SqL K H a (bs.map V.bl)/\Q (.bl (bs.any id)) H) ni.F:=xV
theorem je(P:Nat->E3->Prop)(m:Nat)(hs:∀i,i<m->∀e,P i e->∃e1 e2,g (.int (i:Nat)) e=some e1/\(B e1=.nx e2\/B e1=.ct e2)/\P (i+1) e2):∀(k i:Nat) (e:E3),i+k=m->P i e->∃e',P m e'/\cR g B ((List.range' i k).map λj=>Val.int (j:Nat)) e=.nx e'
 |
  0,i,e,h,p=>by
  obtain rfl:i=m:=by omega
  exact⟨e,p,rfl⟩
 |
  k+1,i,e,h,p=>by
  obtain⟨e1,e2,q1,q2,q3⟩:=hs i (by omega) e p;obtain⟨e',p',q4⟩:=je P m hs k (i+1) e2 (by omega) q3;refine⟨e',p',?_⟩;rw[List.range'_succ,z_,dg,q1];rcases q2 with q2 |q2
  .simp only[q2,nJ];exact q4
  .simp only[q2,Dt];exact q4
def qX(P:Nat->E3->Prop)(m:Nat)(h0:P 0 e)(hs:∀i,i<m->∀e,P i e->∃e1 e2,g (.int (i:Nat)) e=some e1/\(B e1=.nx e2\/B e1=.ct e2)/\P (i+1) e2):∃e',P m e'/\cR g B (rgV m) e=.nx e':=by
 have:=je P m hs m 0 e (by omega) h0
 rw[<- List.range_eq_range'] at this;exact this
def iS(k:Nat):(rgV k).length=k:=by unfold rgV;rw[o_,List.length_range]
def lg(xs:List Val)(n:Nat):bD xs none (some (n:Int))=xs.take n:=by
 unfold bD;rw[HT.sIx_none,HT.sIx_nat,D8,Nat.sub_zero];by_cases h:n<=xs.length
 .rw[EW h]
 .rw[EM (by omega),Eo (v_ _),Eo (by omega)]
def cG(xs:List Val)(n:Nat):bD xs (some (n:Int)) none=xs.drop n:=by
 unfold bD;rw[HT.sIx_none,HT.sIx_nat];by_cases h:n<=xs.length
 .rw[EW h,Eo (by rw[E6];exact v_ _)]
 .rw[EM (by omega),Ed (v_ _),Ed (by omega),Es]
def uO(xs:List Val):bD xs none (some (-1))=xs.dropLast:=by unfold bD;rw[HT.sIx_none,D8,Nat.sub_zero,List.dropLast_eq_take];show xs.take (if (-1:Int)<0 then ((-1:Int)+(xs.length:Int)).toNat else min (-1:Int).toNat xs.length)=_;rw[if_pos (by decide)];congr 1;omega
def wC(xs:List Val)(a b:Nat):bD xs (some (a:Int)) (some (b:Int))=(xs.take b).drop a:=by
 unfold bD;rw[HT.sIx_nat,HT.sIx_nat,List.drop_take];by_cases ha:a<=xs.length
 .rw[EW ha];by_cases hb:b<=xs.length
  .rw[EW hb]
  .rw[EM (by omega),Eo (by rw[E6];exact v_ _),Eo (by rw[E6];omega)]
 .rw[EM (by omega:xs.length<=a),Ed (v_ _),Ed (by omega:xs.length<=a),Es,Es]
def cj(xs:List Val)(lo hi:Option Int):aSl (.lst xs) lo hi=.new (.lst (bD xs lo hi)):=rfl
def CT(xs:List Val)(lo hi:Option Int):aSl (.kl xs) lo hi=.new (.lst (bD xs lo hi)):=rfl
theorem iK{g:MG3}{c:MT3}{F:ME3}{α:Type}(pz:α->Bool)(fv fw:α->Val)(P:E3->Prop):∀(l:List α) (acc:List Val) (e:E3),P e->(∀a∈l,∀e,P e->∃e1 e2,g (fv a) e=some e1/\c e1=.ok (pz a) e2/\P e2/\(pz a=true->∃t e3,F e2=.ok t e3/\br e3 t=some (e3,fw a)/\P e3))->acc.length+l.length<=16777216->∃e',P e'/\lcV g c F (l.map fv) acc e=.ok (acc++(l.filter pz).map fw) e'
 | [],acc,e,hp,_,_=>⟨e,hp,by simp [lcV]⟩
 |
  a::l,acc,e,hp,hf,hl=>by
  obtain⟨e1,e2,q1,q2,q3,q4⟩:=hf a (D7 ..) e hp;rw[DR] at hl;cases hz:pz a with
  |false=>obtain⟨e',p',q⟩:=iK pz fv fw P l acc e2 q3 (λu hu=>hf u (DV _ hu)) (by omega);refine⟨e',p',?_⟩;rw[hz] at q2;rw[z_];unfold lcV;rw[if_pos (by omega),q1];simp only[q2,ez,EE,E8,q];rw[List.filter_cons_of_neg (by rw[hz];exact u_)]
  |true=>obtain⟨t,e3,r1,r2,r3⟩:=q4 hz;obtain⟨e',p',q⟩:=iK pz fv fw P l (acc++[fw a]) e3 r3 (λu hu=>hf u (DV _ hu)) (by simp;omega);refine⟨e',p',?_⟩;rw[hz] at q2;rw[z_];unfold lcV;rw[if_pos (by omega),q1];simp only[q2,ez,E4,r1,r2,q];rw[List.filter_cons_of_pos hz,z_,E1];rfl
section
variable{K:W.Frag}{mg:Ga}{X:Cx}{ES:L2.St->XK}{e:Expr}{es:List Expr}{p:PEx}{A:PAs}{pos:Pos}
def zcF{f:PFn}{x:Str}{p0:Pos}{k j n:Nat}{ps:List Str}(C:Callee X.prog X.w X.K X.mg X.base x j ps (spD K mg n f.F))(hr:Room k X.A)(ha:DA K mg X ES (e::es) A.F)(hk:j<=k:=by omega)(hg:Gl X x:=by exact rfl)(hx:fE X ES:=by first |exact lI Bh |exact tG |assumption)(hn:f.ms.length=n:=by rfl)(hdb:(x==("__debug__" : Str))=false:=by decide)(he:starEach (e::es) X.env=(false,eval e X.env)::starEach es X.env:=by rfl)(hpl:(backTo pos (starEach es X.env)).any (·.1)=false:=by rfl):DE K mg X ES (.Call (.Name x p0) (e::es) [] pos) (az f A).F:=rT C (hr.mono hk) hg hx ha hn hdb he hpl
def zsS{ow:Bool}(i:Nat){x:Str}{pos':Pos}(hN:X.N.Nodup)(he:DE K mg X ES e p.F)(hi:X.N[i]?=some x:=by exact rfl)(hx:Loc X.env.scope x:=by first |exact Or.inl rfl |exact Or.inr rfl)(hs:swapsWith e (some (.Name x pos')) pos.line X.env=pure false:=by rfl)(hf:X.fn x=true\/X.env.scope.names.lookup x=some .local:=by first |exact .inl rfl |exact .inr rfl |assumption):DS K mg X ES (.Assign [.Name x pos'] e pos) (aF ow i p).F:=xu hN hi hx he hs hf
def zgN(i:Nat){x:Str}(hN:X.N.Nodup)(hi:X.N[i]?=some x:=by exact rfl)(hx:Loc X.env.scope x:=by first |exact Or.inl rfl |exact Or.inr rfl)(hf:X.fn x=true\/X.env.scope.names.lookup x=some .local:=by first |exact .inl rfl |exact .inr rfl |assumption):DG K mg X ES (.Name x pos) (gtN i).F:=vn hN hi hx hf
end
def p9{P:Nat->Prop}{h:AH}:∀{ds:List D}{vs:List Val}{ns:List Int},Rds P h ds vs->cZ vs=some ns->gU ds=some ns:=by
 intro ds;induction ds with
 |nil=>intro vs ns r e;cases r;cases e;rfl
 |
  cons d ds ih=>
  intro vs ns r e;cases r with
  |
   cons r rr=>
   rename_i v vs;cases v with
   |int i=>obtain⟨ms,e1,rfl⟩:=DZ.mp e;obtain rfl:=ShR.int (.inl r);show (gU ds).map _=_;rw[ih rr e1];rfl
   |_=>cases e
open PySem PySem.Spec PyProof.Rows L2 PySem.W
noncomputable def adr(K:Frag)(x:Str):Addr:=match nsIn K mainGlobals x with
 |some (some (.ref a))=>a
 |_=>0
noncomputable def ff(K:Frag)(x:Str):Bool:=match nsIn K mainGlobals x with
 |some (some (.ref _))=>true
 |_=>false
noncomputable def nH(K:Frag)(x:Str):Bool:=match nsIn K mainGlobals x with
 |some none=>true
 |_=>false
noncomputable def xcB(K:Frag)(C:Addr):Bool:=(clsIn K C).isSome&&(findIn K (.ref C) "__getattribute__" == some (some (.builtin "BaseException.__getattribute__"))&&(findIn K (.ref C) "__getattr__" == some none&&(findIn K (.ref C) "__class__" == some (some (.builtin "object.__class__"))&&(specialIn K (.builtin "object.__class__") "__get__" == some (some (.builtin "getset_descriptor.__get__"))&&(takesIn K (.builtin "object.__class__")==some true&&(mroIn K C (.type "object")==some true&&mroIn K C (.type "BaseException")==some true))))))
noncomputable def hdB(K:Frag)(C:Addr):Bool:=typeIn K (.ref C)==some (.type "type")&&((clsIn K C).isSome&&mroIn K C (.type "BaseException")==some true)
noncomputable def clA(K:Frag):Cl->Value
 |.b n=>.type n
 |.o x=>.ref (adr K x)
noncomputable def sN(K:Frag):Cl->Bool
 |.b _=>true
 |.o x=>ff K x
noncomputable def sJ(K:Frag)(p:Cl×Cl×Bool):Bool:=kitOne K (clA K p.1) (clA K p.2.1)==some p.2.2&&(sN K p.1&&sN K p.2.1)
noncomputable def xkB(K:Frag):Cl->Bool
 |.b _=>true
 |.o x=>xcB K (adr K x)
noncomputable def nD:D->Value->Bool
 |.int i,.int j _=>i==j
 |.str x,.str y _=>x==y
 |.non,.none=>true
 |.bl b,.bool c=>b==c
 |_,_=>false
noncomputable def dV:D->V
 |.int i=>.int i
 |.str x=>.str x
 |.bl b=>.bl b
 |_=>.non
noncomputable def jK:List D->List Value->Bool
 | [],[]=>true
 |d::ds,v::vs=>nD d v&&jK ds vs
 |_,_=>false
noncomputable def gcB(K:Frag)(x:Str):D->Bool
 |.tup ds=>(match nsIn K mainGlobals x with
  |some (some (.ref a))=>(match K.lookup a with
   |some ⟨.type "tuple",_,.seq its _,_⟩=>decide (its.size<=1000)&&jK ds its.toList
   |_=>false)
  |_=>false)
 |d=>match nsIn K mainGlobals x with
  |some (some v)=>nD d v
  |_=>false
noncomputable def bFn:List String:=["abs", "all", "any", "isinstance", "len", "max", "min", "sorted", "sum"]
noncomputable def bTy:List String:=["bool", "dict", "int", "list", "set", "str", "tuple"]
noncomputable def bIt:List String:=["range", "zip", "enumerate"]
def AQ:(bFn.all λn=>bootBuiltins (Str.ofString n)==some (.builtin n))=true:=by decide
def Au:(bTy.all λn=>bootBuiltins (Str.ofString n)==some (.type n))=true:=by decide
def boF{n:String}(h:bFn.contains n=true):bootBuiltins (Str.ofString n)=some (.builtin n):=Ea.mp (D4.mp AQ n (Er.mp h))
def boT{n:String}(h:bTy.contains n=true):bootBuiltins (Str.ofString n)=some (.type n):=Ea.mp (D4.mp Au n (Er.mp h))
structure Tb where
 us:List Str
 rs:List Str
 hs:List (Str×List Str)
 kt:eL
 gs:List (Str×D)
noncomputable def Tb.ok(b:Tb)(K:Frag):Bool:=(bFn++(bTy++bIt)).all (λn=>nH K (Str.ofString n))&&(b.us.all (ff K)&&(b.rs.all (λx=>excIn K (adr K x) gG "ValueError.__new__" && ff K x)&&(b.hs.all (λp=>hdB K (adr K p.1)&&p.2.all λc=>mroIn K (adr K c) (.ref (adr K p.1))==some true&&ff K c)&&(b.kt.all (λp=>sJ K p&&xkB K p.1)&&b.gs.all λp=>gcB K p.1 p.2))))
structure Tx(b:Tb)(K:Frag)(mg:Ga):Prop where
 n:∀{n:String},(bFn++(bTy++bIt)).contains n=true->mg (Str.ofString n)=none
 m:∀{x:Str},b.us.contains x=true->mg x=some (.ref (adr K x))
 x:∀{x:Str},b.rs.contains x=true->excIn K (adr K x) gG "ValueError.__new__"=true
 h:∀{x:Str}{l:List Str},(x,l)∈b.hs->XHand K (adr K x)/\∀c∈l,∀Ce,mg c=some (.ref Ce)->mroIn K Ce (.ref (adr K x))=some true
 k:KitsOk K mg b.kt
 g:∀{x:Str}{d:D},b.gs.lookup x=some d->GC K mg x d
section
variable{K:Frag}{h:Heap}{mg:Ga}{x:Str}(X:K.In h)(G:h.Ns mainGlobals mg)
include X G
def jz(e:ff K x=true):mg x=some (.ref (adr K x)):=by
 unfold ff at e;split at e
 .rename_i a q;unfold adr;rw[q];exact mg_of X G q
 .cases e
def tK(e:nH K x=true):mg x=none:=by
 unfold nH at e;split at e
 .rename_i q;exact mg_none_of X G q
 .cases e
omit X G in
def Cq{C:Addr}(e:xcB K C=true):XCls K C:=by simp only[xcB,t_,Ea] at e;obtain⟨e1,e2,e3,e4,e5,e6,e7,e8⟩:=e;exact⟨e1,e2,e3,e4,e5,e6,e7,e8⟩
def tX{c:Cl}{v:Value}(e:sN K c=true)(q:ClV mg c v):v=clA K c:=by
 cases c with
 |b n=>exact q
 |o y=>obtain⟨a,rfl,m⟩:=q;rw[jz X G (show ff K y=true from e)] at m;cases m;rfl
omit X G in
def o7{d:D}{v:Value}(e:nD d v=true):RelV (dV d) v/\∀ρ H,RelD K mg ρ H d (dV d):=by
 unfold nD at e;split at e
 .cases Ea.mp e;exact⟨⟨_,rfl⟩,λ_ _=>.int _⟩
 .cases Ea.mp e;exact⟨⟨_,rfl⟩,λ_ _=>.str _⟩
 .exact⟨rfl,λ_ _=>.non⟩
 .cases Ea.mp e;exact⟨rfl,λ_ _=>.bl _⟩
 .cases e
omit X G in
theorem lU:∀{ds:List D}{vs:List Value},jK ds vs=true->Vals (ds.map dV) vs/\∀ρ H,RelDs K mg ρ H ds (ds.map dV)
 | [],[],_=>⟨.nil,λ_ _=>.nil⟩
 |
  d::ds,v::vs,e=>by
  rw[jK,t_] at e;obtain⟨a1,a2⟩:=o7 (K:=K) (mg:=mg) e.1;obtain⟨b1,b2⟩:=lU e.2;exact⟨.cons a1 b1,λρ H=>.cons (a2 ρ H) (b2 ρ H)⟩
 | [],_::_,e=>nomatch e
 |_::_,[],e=>nomatch e
def Bp{d:D}(e:gcB K x d=true):GC K mg x d:=by
 unfold gcB at e;split at e
 .rename_i ds;split at e
  .rename_i a q;split at e
   .rename_i dd its n sl l;rw[t_] at e;obtain⟨v1,v2⟩:=lU (K:=K) (mg:=mg) e.2;exact zV X G q l (DU (Fp e.1) (by decide)) v1 v2
   .cases e
  .cases e
 .split at e
  .rename_i v q;obtain⟨v1,v2⟩:=o7 (K:=K) (mg:=mg) e;exact⟨_,_,mg_of X G q,v1,v2⟩
  .cases e
omit X G in
theorem qb{d:D}:∀{l:List (Str×D)},l.lookup x=some d->(x,d)∈l
 | [],h=>nomatch h
 |
  (y,e)::l,h=>by
  rw[ED] at h;split at h
  .rename_i q;cases h;rw[Ea.mp q];exact D7
  .exact DV _ (qb h)
def Bl{b:Tb}(e:b.ok K=true):Tx b K mg:=by
 unfold Tb.ok at e;simp only[t_] at e;obtain⟨e1,e2,e3,e4,e5,e6⟩:=e;simp only[D4,t_] at e1 e2 e3 e4 e5 e6;refine⟨λh=>tK X G (e1 _ (Er.mp h)),λh=>jz X G (e2 _ (Er.mp h)),λh=>(e3 _ (Er.mp h)).1,λh=>?_,⟨λp hp t v h1 h2=>?_,λp hp x C e' m=>?_⟩,λh=>Bp X G (e6 _ (qb h))⟩
 .obtain⟨a1,a2⟩:=e4 _ h;refine⟨?_,λc hc Ce m=>?_⟩
  .simp only[hdB,t_,Ea] at a1;exact⟨a1.1,a1.2.1,a1.2.2⟩
  .obtain⟨b1,b2⟩:=a2 c hc;rw[jz X G b2] at m;cases m;exact Ea.mp b1
 .obtain⟨a1,_⟩:=e5 p hp;simp only[sJ,t_,Ea] at a1;rw[tX X G a1.2.1 h1,tX X G a1.2.2 h2];exact a1.1
 .obtain⟨a1,a2⟩:=e5 p hp;simp only[sJ,t_,Ea] at a1;have a3:=a1.2.1;rw[e'] at a2 a3;rw[jz X G (show ff K x=true from a3)] at m;cases m;exact Cq a2
end
def dNm(s:Stmt):Str:=match s with
 |.FunctionDef n ..=>n
 |_=>""
def AllD(K:Frag)(mg:Ga)(top:Nat->Stmt):List Nat->Prop
 | []=>True
 |i::l=>Def K mg (dNm (top i)) (top i)/\AllD K mg top l
theorem AllD.get{K:Frag}{mg:Ga}{top:Nat->Stmt}:∀{l:List Nat},AllD K mg top l->∀i,l.contains i=true->Def K mg (dNm (top i)) (top i)
 | [],_,i,h=>nomatch h
 |
  j::l,⟨a,b⟩,i,h=>by
  rcases Eg.mp (Er.mp h) with rfl |h
  .exact a
  .exact b.get i (Er.mpr h)
structure Ty(b:Tb)(top:Nat->Stmt)(ds:List Nat)(K:Frag)(mg:Ga):Prop extends Tx b K mg where
 d:AllD K mg top ds
noncomputable def scB(N P:List Str)(sc:Scope):Bool:=decide (sc.kind=.function)&&(!sc.isCoroutine&&(!sc.isGenerator&&(decide N.Nodup&&(decide (N.take P.length=P)&&(P.all (λx=>decide (sc.names.lookup x=some .local\/sc.names.lookup x=some .cell))&&sc.names.all λy=>decide (y.2 ≠ .free))))))
def b0{N P:List Str}{sc:Scope}(e:scB N P sc=true):FnScope N P sc:=by simp only[scB,t_,decide_eq_true_eq,D4,Fm] at e;obtain⟨e1,e2,e3,e4,e5,e6,e7⟩:=e;exact⟨e1,e2,e3,e4,e5,e6,e7⟩
section
variable{K:W.Frag}{mg:Ga}{X:Cx}{ES:L2.St->XK}{c tg a_ e_:Expr}{p:PEx}{t:PTs}{x:PSt}{g:PGt}{I:PIt}{pos:Pos}
def zElc{scope:Scope}(M:List Str)(kn:List (Str×NameKind))(N:List Str)(sub:Ge){hsb:(sub.filterMap id).Nodup}(hi:DI K mg X ES tg a_ I.F)(hg:N.Nodup->∀cl C s₂ H fp,DG K mg (ao X N scope cl C s₂ H fp) (λ_=>E0) tg g.F)(he:N.Nodup->∀cl C s₂ H fp,DE K mg (ao X N scope cl C s₂ H fp) (λ_=>E0) e_ p.F)(hnd:N.Nodup:=by decide)(hc:X.calm=true:=by rfl)(hM:X.N=M:=by rfl)(hkn:X.env.scope.names=kn:=by rfl)(d_:bK M scope.names sub N=true:=by decide)(hk:scope.kind=.function:=by rfl)(m_:∀x∈scope.names,x.2 ≠ .cell:=by decide)(b_:∀x∈scope.names,x.2=.local->scope.names.lookup x.1=some .local:=by decide)(j':cc kn scope.names=true:=by decide)(n_:sub.length=N.length:=by rfl)(hs:∀x,foldedSetIterable a_ X.env x=pure x:=by intro _;rfl):DE K mg X ES (.ListComp e_ [⟨tg,a_,[],0⟩] scope pos) (pLC I sub hsb g qY p).F:=Br M kn N sub hc hi (hg hnd) (he hnd) hM hkn d_ hk m_ b_ j' n_ hs
def yx{scope:Scope}(M:List Str)(kn:List (Str×NameKind))(N:List Str)(sub:Ge){hsb:(sub.filterMap id).Nodup}(hi:DI K mg X ES tg a_ I.F)(hg:N.Nodup->∀cl C s₂ H fp,DG K mg (ao X N scope cl C s₂ H fp) (λ_=>E0) tg g.F)(ht:N.Nodup->∀cl C s₂ H fp,DT K mg (ao X N scope cl C s₂ H fp) (λ_=>E0) c t.F)(he:N.Nodup->∀cl C s₂ H fp,DE K mg (ao X N scope cl C s₂ H fp) (λ_=>E0) e_ p.F)(hnd:N.Nodup:=by decide)(hc:X.calm=true:=by rfl)(hM:X.N=M:=by rfl)(hkn:X.env.scope.names=kn:=by rfl)(d_:bK M scope.names sub N=true:=by decide)(hk:scope.kind=.function:=by rfl)(m_:∀x∈scope.names,x.2 ≠ .cell:=by decide)(b_:∀x∈scope.names,x.2=.local->scope.names.lookup x.1=some .local:=by decide)(j':cc kn scope.names=true:=by decide)(n_:sub.length=N.length:=by rfl)(hs:∀x,foldedSetIterable a_ X.env x=pure x:=by intro _;rfl):DE K mg X ES (.ListComp e_ [⟨tg,a_,[c],0⟩] scope pos) (pLC I sub hsb g t p).F:=vU M kn N sub hc hi (hg hnd) (ht hnd) (he hnd) hM hkn d_ hk m_ b_ j' n_ hs
def qE{ow:Bool}{px spos:Pos}{iT:Nat}{xT:Str}{scope:Scope}(hN:X.N.Nodup)(M:List Str)(kn:List (Str×NameKind))(N:List Str)(sub:Ge){hsb:(sub.filterMap id).Nodup}(hi:DI K mg X ES tg a_ I.F)(hg:N.Nodup->∀cl C s₂ H fp,DG K mg (ao X N scope cl C s₂ H fp) (λ_=>E0) tg g.F)(he:N.Nodup->∀cl C s₂ H fp,DE K mg (ao X N scope cl C s₂ H fp) (λ_=>E0) e_ p.F)(hsw:swapsWith (.ListComp e_ [⟨tg,a_,[],0⟩] scope pos) (some (.Name xT px)) spos.line X.env=pure true:=by rfl)(hnd:N.Nodup:=by decide)(hc:X.calm=true:=by rfl)(hix:X.N[iT]?=some xT:=by rfl)(hxl:Loc X.env.scope xT:=by first |exact Or.inl rfl |exact Or.inr rfl)(hM:X.N=M:=by rfl)(hkn:X.env.scope.names=kn:=by rfl)(d_:bK M scope.names sub N=true:=by decide)(hk:scope.kind=.function:=by rfl)(m_:∀x∈scope.names,x.2 ≠ .cell:=by decide)(b_:∀x∈scope.names,x.2=.local->scope.names.lookup x.1=some .local:=by decide)(j':cc kn scope.names=true:=by decide)(n_:sub.length=N.length:=by rfl)(hs:∀x,foldedSetIterable a_ X.env x=pure x:=by intro _;rfl)(hf:X.fn xT=true\/X.env.scope.names.lookup xT=some .local:=by first |exact .inl rfl |exact .inr rfl |assumption):DS K mg X ES (.Assign [.Name xT px] (.ListComp e_ [⟨tg,a_,[],0⟩] scope pos) spos) (aF ow iT (pLC I sub hsb g qY p)).F:=Bi M kn N sub hc hN hix hxl hi (hg hnd) (he hnd) hsw hM hkn d_ hk m_ b_ j' n_ hs hf
end
section
variable{K:W.Frag}{mg:Ga}{P:Program}{w:World}{base:Heap}{fx:Str}{fst:Stmt}{k n m:Nat}{ps N:List Str}{ms:List Bool}{x:PSt}
def cS(D:Def K mg fx fst)(S:FnScope N ps (aj fst))
 (hb:∀(kV doc pm:Value) (an:Option Addr) (cdv ct:Value) (us:List Value),us.length=ps.length->bindArgs (W.fnOf fx fx (bF fst) (aV fst) (aj fst) .none kV doc pm an cdv ct) ⟨us,[]⟩=pure (ps.zip us))
 (j_:N.Nodup->∀(f:Addr) (cdv:Value) (A:Around) (outer:List Env) (s:Shared) (H:Hp) (E:XK),Room k (A.deeper (envOfC fx (aj fst) s.heap.objs.size f cdv))->
  DSs K mg (bV (CX1 P w) P w K mg base N fx (aj fst) f cdv A outer s H E) (λ_=>E) (aV fst) x.F) (hn:ps.length=n:=by rfl) (hm:N.length=m:=by rfl):Callee P w K mg base fx (k+1) ps (spD K mg n (fnP ms m x).F):=okP D S hb (j_ S.nd) hn hm
end
def dJ(lo:Int)(k:Nat):List Val:=(List.range k).map λi=>Val.int (lo-(i:Nat))
def iH:List Val->Option (List Val)
 | [.int i,.int j,.int k]=>@ite _ (k=-1/\RgB i/\RgB j) (Classical.propDecidable _) (some (dJ i (i-j).toNat)) none
 |_=>none
def vQ(lo:Int)(k:Nat):Rds P h (AIt.rgd lo k).items (dJ lo k):=by
 show Rds P h ((List.range k).map λi=>D.int (lo-(i:Nat))) ((List.range k).map λi=>Val.int (lo-(i:Nat)));generalize List.range k=l;induction l with
 |nil=>exact .nil
 |cons i l ih=>exact .cons (.int _) ih
def yV(hA:RA A A3):RI (tj A) (kY iH A3):=λX h0 ns e ae h S=>
 Po.bind
  S (hA X h0 ns e ae h S) λds ts h1 ns1 e1 a1 S1 r1=>by
  try dsimp only
  cases q:(rss e1 ts).bind iH with
  |none=>trivial
  |
   some xs=>
   obtain⟨vs,q1,q2⟩:=Eh.mp q;have r:=TsR.sh S1 r1 q1;unfold iH at q2;split at q2
   .split
     at q2
    .rename_i hb;obtain⟨rfl,hb⟩:=hb;cases q2;cases r with
     |
      cons ra rr=>
      cases rr with
      |
       cons rb rr=>
       cases rr with
       |cons rc rr=>cases rr;obtain rfl:=ra.int;obtain rfl:=rb.int;obtain rfl:=rc.int;dsimp only;rw[if_pos ⟨rfl,hb.1.lo,hb.1.hi,hb.2.lo,hb.2.hi⟩];exact Po.ret S1 ⟨vQ _ _,λ_ _=>trivial,λ_ z=>nomatch z⟩
    .cases q2
   .cases q2
def nB(a:PAs):PIt:=⟨tj a.F,kY iH a.G,yV a.ok⟩
theorem tP(a:PAs)(e:E3):(nB a).G e=(a.G e).bind λts e1=>match (rss e1 ts).bind iH with
 |some xs=>.ok (xs,none) e1
 |none=>.stuck:=rfl
def yH{i j:Int}(hi:RgB i)(hj:RgB j):iH [.int i,.int j,.int (-1)]=some (dJ i (i-j).toNat):=if_pos ⟨rfl,hi,hj⟩
section
variable{K:W.Frag}{mg:Ga}{X:Cx}{ES:L2.St->XK}{tg a b c:Expr}{p pos:Pos}{A:PAs}
def n9(hg:Gl X "range")(hm:mg "range"=none)(ha:DA K mg X ES [a,b,c] A.F)(hk:X.mg=mg:=by rfl)(hs:starEach [a,b,c] X.env=[(false,eval a X.env),(false,eval b X.env),(false,eval c X.env)]:=by rfl)(hs2:starEach [b,c] X.env=[(false,eval b X.env),(false,eval c X.env)]:=by rfl):DI K mg X ES tg (.Call (.Name "range" p) [a,b,c] [] pos) (nB A).F:=by with_unfolding_all exact pM hg hm ha hk hs hs2
end
section
variable{K:Frag}{h:Heap}{mg:Ga}(X:K.In h)(G:h.Ns mainGlobals mg)
include X G
def yR(e:tH.all (nH K)=true)(P:Addr)(q:Str):¬ sx K mg P q:=λ⟨x,f,oc,od,fd,sl,c,a1,a2,a3,_⟩=>by
 have:=tK X G (D4.mp e x a1)
 rw[a3] at this;cases this
end
def trV(k:Trp):Val:=.tup [.int k.1,.int (k.2.length:Nat),.lst (k.2.map Val.int)]
def nN:Val->Option Trp
 |.tup [.int s,.int n,.lst vs]=>match cZ vs with
  |some xs=>if n=(xs.length:Nat) then some (s,xs) else none
  |none=>none
 |_=>none
def fH:List Val->Option (List Trp)
 | []=>some []
 |v::vs=>match nN v,fH vs with
  |some k,some ks=>some (k::ks)
  |_,_=>none
def vo(k:Trp):nN (trV k)=some k:=by unfold nN trV;dsimp only;rw[dB];dsimp only;rw[if_pos rfl]
theorem jo:∀ks:List Trp,fH (ks.map trV)=some ks
 | []=>rfl
 |
  k::ks=>by
  rw[z_,fH,vo,jo ks]
def pP{P:Nat->Prop}{h:AH}:∀{ds:List D}{vs:List Val}{ks:List Trp},Rds P h ds vs->fH vs=some ks->fQ h ds=some ks:=by
 intro ds;induction ds with
 |nil=>intro vs ks r e;cases r;cases e;rfl
 |
  cons d ds ih=>
  intro vs ks r e;cases r with
  |
   cons r rr=>
   rename_i v vs;unfold fH at e;split at e
   .rename_i k ks' e1 e2;cases e;rw[fQ,ih rr e2];have:nW
     h d=some k:=by
     unfold nN at e1;split at e1
     .rename_i s n us;split at e1
      .rename_i xs q;split at e1
       .rename_i hn;cases e1;obtain⟨d2,rfl,rs⟩:=ShR.tup (.inl r);cases rs with
        |
         cons r1 rs=>
         cases rs with
         |
          cons r2 rs=>
          cases rs with
          |cons r3 rs=>cases rs;obtain rfl:=ShR.int (.inl r1);obtain rfl:=ShR.int (.inl r2);obtain⟨m,es,rfl,_,g1,g2⟩:=ShR.lst (.inl r3);unfold nW;dsimp only;rw[g1];dsimp only;rw[p9 g2 q];dsimp only;rw[if_pos hn]
       .cases e1
      .cases e1
     .cases e1
    rw[this]
   .cases e
def fj:List Val->Bv:=λvs=>match vs with
 | [.lst us]=>match fH us with
  |some ks=>if upB ks=true/\2<=ks.length/\ks.length<=1000/\(¬ ks.length<minRun' ks.length ks.length 0) then .new (.lst us) else .stuck
  |none=>.stuck
 |_=>.stuck
def su:RFn eX fj:=λP h ds vs r=>by
 unfold fj;split
 .obtain⟨d,hd,r1⟩:=eh r;subst hd;split
  .rename_i ks q;split
   .rename_i hb;obtain⟨n,es,rfl,g1,_,g2⟩:=ShR.lst r1;refine⟨.lst es,?_,trivial,.lst g2⟩;unfold eX aD;dsimp only;rw[g1];dsimp only;rw[pP g2 q];dsimp only;rw[if_pos hb]
   .trivial
  .trivial
 .trivial
noncomputable def fM:PBf:=⟨eX,fj,su⟩
def xb(ks:List Trp)(h:upB ks=true)(h2:2<=ks.length)(h3:ks.length<=1000)(hm:¬ ks.length<minRun' ks.length ks.length 0):fM.G [.lst (ks.map trV)]=.new (.lst (ks.map trV)):=by show fj [.lst (ks.map trV)]=_;unfold fj;dsimp only;rw[jo];dsimp only;rw[if_pos ⟨h,h2,h3,hm⟩]
def lG{X:Cx}{K:W.Frag}(hK:X.K=K)(hu:X.A.units+190<cLine):CallR X (.builtin "sorted") (gK K):=by subst hK;exact kT (by omega)
def rX{K:W.Frag}{mg:Ga}:aZ K mg (gK K) fM.F:=sV
def oy{K:W.Frag}{mg:Ga}:iY K mg nO seD.F:=uY
def xD(i j:Nat)(a b:PEx)(g:AH->D×AH)(hb:∀ae h,b.F ae h=.ok (g h).1 (g h).2):(gq i j (ag a (ag b ai))).F=(ak (aF false i a) (aF true j b)).F:=by
 funext ae h;show kW i j (eI a.F (eI b.F iq)) ae h=(du a.F (gN i) ae h).then (du b.F (gN j))
 unfold kW eI;rw[show du a.F (gN i) ae h=(a.F ae h).toS ae λd h1=>(gN i d ae h1).toS ae λc_ h2=>.nx c_ h2 from rfl];cases a.F ae h with
 |
  ok d h1=>
  show (((b.F ae h1).bind λx h2=>(iq ae h2).bind λxs h3=>R.ok (x::xs) h3).bind λxs h2=>R.ok (d::xs) h2).toS ae (λds h1=>match ds with
   | [d,e]=>.nx ((ae.set i (some d)).set j (some e)) h1
   |_=>.stuck)=(b.F (ae.set i (some d)) h1).toS (ae.set i (some d)) λd' h'=>.nx ((ae.set i (some d)).set j (some d')) h'
  rw[hb,hb];rfl
 |exc c h1=>rfl
 |stuck=>rfl
def nM(i j:Nat)(a b:PEx)(g:AH->D×AH)(hb:∀ae h,b.F ae h=.ok (g h).1 (g h).2):PSt:=⟨(gq i j (ag a (ag b ai))).F,(ak (aF false i a) (aF true j b)).G,by rw[xD i j a b g hb];exact (ak (aF false i a) (aF true j b)).ok⟩
def yE(i j:Nat)(a b:PEx)(g:AH->D×AH)(hb:∀ae h,b.F ae h=.ok (g h).1 (g h).2)(e:E3):(nM i j a b g hb).G e=(ak (aF false i a) (aF true j b)).G e:=rfl
def vy{K:W.Frag}{mg:Ga}{X:Cx}{ES:L2.St->XK}{a b:Expr}{p q:PEx}{pos:Pos}{g:AH->D×AH}{hb:∀ae h,q.F ae h=.ok (g h).1 (g h).2}{i j:Nat}{x y:Str}{px py pt:Pos}{kt k2 pt2}(hN:X.N.Nodup)(ha:DA K mg X ES [a,b] (ag p (ag q ai)).F)(hc:X.calm=true:=by rfl)(hi:X.N[i]?=some x:=by rfl)(hj:X.N[j]?=some y:=by rfl)(hij:i≠j:=by decide)(hx:X.env.scope.names.lookup x=some .local:=by rfl)(hy:X.env.scope.names.lookup y=some .local:=by rfl)(hw:swappedStores [.Tuple [.Name x px,.Name y py] kt pt] (.Tuple [a,b] k2 pt2) X.env=pure (some [x,y]):=by rfl)(hs:swapsWithSole [.Tuple [.Name x px,.Name y py] kt pt] (.Tuple [a,b] k2 pt2) pos.line X.env=pure false:=by rfl):DS K mg X ES (.Assign [.Tuple [.Name x px,.Name y py] kt pt] (.Tuple [a,b] k2 pt2) pos) (nM i j p q g hb).F:=pQ hN ha hc hi hj hij hx hy hw hs
def nr(h:AH):D×AH:=(.ref (h++[Ob.lst [.int 1]]).length,h++[Ob.lst [.int 1]]++[Ob.lst [.ref h.length]])
def Cn(ae:AE)(h:AH):(bc (ag (bc (ag (ah 1) ai)) ai)).F ae h=.ok (nr h).1 (nr h).2:=by with_unfolding_all rfl
end L3
namespace KK
open PySem PySem.Spec PyProof.Rows L2 L3
def top(i:Nat):Stmt:=PySem.Challenge.pw_weightrooms_k61_the_list_behind.main.body.getD i (.Pass ⟨0,0,0,0⟩)
def cB:eL:=[((.b "NoneType"),(.b "bool"),false),((.b "bool"),(.b "bool"),true),((.b "int"),(.b "bool"),false),((.b "str"),(.b "bool"),false),((.b "tuple"),(.b "bool"),false),((.b "list"),(.b "bool"),false),((.b "dict"),(.b "bool"),false),((.b "NoneType"),(.b "int"),false),((.b "bool"),(.b "int"),true),((.b "int"),(.b "int"),true),((.b "str"),(.b "int"),false),((.b "tuple"),(.b "int"),false),((.b "list"),(.b "int"),false),((.b "dict"),(.b "int"),false),((.b "NoneType"),(.b "list"),false),((.b "bool"),(.b "list"),false),((.b "int"),(.b "list"),false),((.b "str"),(.b "list"),false),((.b "tuple"),(.b "list"),false),((.b "list"),(.b "list"),true),((.b "dict"),(.b "list"),false)]
noncomputable def d9:D:=(.int 40)
abbrev tb:Tb:=⟨["NoWeights", "TooMany"],["NoWeights", "TooMany"],[],cB,[("MOST_WEIGHTS",d9)]⟩
abbrev TT(K:W.Frag)(mg:Ga):Prop:=Ty tb top [5,8,9,11,12,14,15,16,17,18,19,20] K mg
section
variable{P:Program}{w:World}{K:W.Frag}{mg:Ga}{base:Heap}
noncomputable def cm:PEx:=oq d9 (.int 40) (λ_ _=>.int _)
def g8(e:E3):cm.G e=.ok (.val (.int 40)) e:=rfl
def dI(s:String):Lean.TSyntax `term:=⟨Lean.mkIdent (s.replace "%" "").toName⟩
def dA(f:String)(a:Lean.TSyntax `term):Lean.TSyntax `term:=Lean.Syntax.mkApp (dI f) #[a]
def dF:List (Lean.TSyntax `tactic)->Lean.MacroM (Lean.TSyntax `tactic)
 | []=>`(tactic|fail)
 |a::l=>do `(tactic|first | $a:tactic | $(<- dF l):tactic)
def dL(f:String->Lean.MacroM (Lean.TSyntax `tactic)):List String->Lean.MacroM (List (Lean.TSyntax `tactic))
 | []=>pure []
 |s::l=>do return (<- f s)::(<- dL f l)
set_option hygiene false in
def dQ(ap:String->Lean.TSyntax `term)(s:String):Lean.MacroM (Lean.TSyntax `tactic):=match (s.splitOn ";").map ap with
 | [d,c,a,b]=>`(tactic|((case d=>with_reducible exact $d);(case c=>exact $c);(case a=>exact $a);(case b=>exact $b)))
 |d::c::_=>`(tactic|((case d=>with_reducible exact $d);(case c=>exact $c)))
 |_=>`(tactic|fail)
set_option hygiene false in
def dR(ap:String->Lean.TSyntax `term)(g:String):Lean.MacroM (Lean.TSyntax `tactic):=match g.splitOn ":" with
 | [r]=>`(tactic|refine $(ap r))
 |r::l=>do `(tactic|(refine' $(ap r);$(<- dF (<- dL (dQ ap) l)):tactic))
 | []=>`(tactic|fail)
set_option hygiene false in
local macro_rules | `('d')=>do
 let h <- `(?_)
 let u <- `(_)
 let R:=dI "rfl"
 let qA <- `(?a)
 let qB <- `(?b)
 let qC <- `(?c)
 let qD <- `(?d)
 let qp <- `((λ_ _=>rfl))
 let ap:=λ(s:String)=>let w:=s.splitOn " ";Lean.Syntax.mkApp (dI (w.getD 0 "")) (((w.getD 1 "").toList.map λc=>([('1',dI "hr.u100"),('8',dI "hr.u180"),('A',qA),('B',qB),('C',qC),('D',qD),('K',dI "T.k"),('_',u),('b',dA "%boT" R),('f',dA "%boF" R),('g',dA "T.g" R),('k',dA "T.n" R),('m',dA "T.m" R),('n',dI "nd"),('o',dI "%own1"),('p',qp),('r',R),('t',dI "T"),('u',dA "%Dl" (dI "hr")),('v',dA "%kG" u),('x',dA "T.x" R),('z',dI "%rz1")].lookup c).getD h).toArray)
 let rd:=λ(s:String)=>dL (dR ap) (s.splitOn "|")
 let e0 <- `(tactic|refine zcF (by $(<- dF (<- rd "%ih|kZ t|k8 t|jx t|gP t|kC t|js t|fR t|iV t|gO t|ju t|fS t")):tactic) hr ?_)
 `(by repeat' $(<- dF ((<- rd "%kG _|ij|oY|fO ??|ay ??|fJ ?|zsS _n?|jE ???|jY ?|As ?|oi ?|xP|B5|ux|Al ?")++[e0]++(<- rd "%ua CD??:tU;ixK r|yf CD??:Co;BR:ug;tV:ub;uh:BC;inK r:tM;eqDK r8:BF;neDK r8|gr CDrkf?:Ah;Bo r:xo;ph rr:vg;pI r:rX;lG r1:xI K;C1 r|CC CD??:yN;uE:x9;qL:yM;xr r:zi;Ar:zS;AZ:AX;yO:xM;A6|jl CDrkb?:lZ;oA r|zB CD??:ug;tV:ub;uh:tM;eqDK r8:Cg;B2|zl rABCDv?:pR;oT;PySem.F.slot_list_append;PySem.F.type_list_append|BG CD?:Bg;yj|uW ?v?CD:oy;rL u:wU;qw|zt_w ?|A9 ??|vN u??p|DL rg|pB ?|yK ?|Bq ??|lz r???|BO rkb|zgN _n|oE rk?|n9 rk?|yq r?|lQ|lN ?|uZ ?|zk or???|pQ n?|vy n?|tE rzrmx?|qy o??|oC ?|zH ??|vD ?|CI ??|zv ?"))):tactic)
def ig:PSt:=
 (aT (m6 ["cells", "at", "left"] (ag (pFn fg (ag (pSl (af 0) oN (oS (ah 63))) ai)) (ag (ah 0) (ag (ah 0) ai)))))
def cp:PFn:=fnP [false] 1 ig
def lC:cp.ms=[false]:=rfl
def kZ(T:TT K mg):Callee P w K mg base "_law_feed" 1 ["_law_script"] (spD K mg 1 cp.F):=cS (T.d.get 14 rfl) (b0 (N:=["_law_script"]) (by decide)) (λ_ _ _ _ _ _=>ar1 λ_=>rfl) λnd _ _ _ _ _ _ _ hr=>(fJ (jY (vk (fX (jl (oA (K:=K) rfl) lZ rfl (T.n rfl) (by first |exact boF rfl |exact boT rfl) (fO (lz rfl (kG 0) lQ (lN ij)) oY)) (fX ij (fX ij vz))))))
def hX:PSt:=
 (ak (xIf (qOf (pOp bGt (pOp cT (af 0) (bW "left")) (ah 0))) (ak (aF false 2 (pOp bC (pOp cT (af 0) (bW "left")) (af 1)))
  (ak (fm 0 seD (bW "left") (pOp i4 (pOp cT (af 0) (bW "left")) (af 1)))
  (aT (af 2)))) xNx)
  (ak (aF false 3 (pOp cT (af 0) (bW "at")))
  (ak (fm 0 seD (bW "at") (pOp aB (af 3) (ah 1)))
  (ak (aF false 4 (af 3))
  (ak (xIf (qOf (pOp bGt (pFn bf (ag (pOp cT (af 0) (bW "cells")) ai)) (ah 0))) (aF false 4 (pOp bIx (pOp cT (af 0) (bW "cells")) (pOp bC (af 3) (pFn bf (ag (pOp cT (af 0) (bW "cells")) ai))))) xNx)
  (ak (xIf (qAn (qOf (pOp bGe (af 4) (pOp eW (ah 10) (ah 18)))) (qOf (pOp bLt (af 3) (pFn bf (ag (pOp cT (af 0) (bW "cells")) ai))))) (ak (fm 0 seD (bW "left") (pOp i4 (af 4) (af 1)))
  (aT (pOp bC (af 4) (af 1)))) xNx)
  (ak (aF false 5 (pOp bC (pOp bI (pOp aB (pOp aB (pOp aB (pOp bC (af 4) (ah 1000003)) (pOp bI (pOp bI (ah 61) (af 3)) (af 3))) (pOp bI (ah 7) (af 3))) (ah 1)) (ah 48271)) (ah 999983)))
  (aT (pOp bC (pOp i4 (pOp bC (pOp bI (pOp bC (pOp aB (pOp bI (af 5) (ah 69623)) (pOp bI (ah 7919) (af 3))) (ah 1999993)) (ah 16811)) (ah 524287)) (ah 5)) (af 1))))))))))
def aC:PFn:=fnP [true,false] 6 hX
def lK:aC.ms=[true,false]:=rfl
def k8(T:TT K mg):Callee P w K mg base "_law_draw" 1 ["_law_feed_here", "_law_many"] (spD K mg 2 aC.F):=cS (T.d.get 15 rfl) (b0 (N:=["_law_feed_here", "_law_many", "_law_found", "_law_at", "_law_cell", "_law_number"]) (by decide)) (λ_ _ _ _ _ _=>ar2 λ_ _=>rfl) λnd _ _ _ _ _ _ _ hr=>'d'
def eT:PSt:=
 (aF false 2 (pOp aB (pOp bI (af 2) (ah 100000)) (az aC (ag (af 0) (ag (ah 100000) ai)))))
def fU:PSt:=
 (ak (aF false 2 (ah 0))
  (ak (iA (dE (ag (af 1) ai)) (gtN 3) (eT))
  (aT (af 2))))
def bz:PFn:=fnP [true,false] 4 fU
def kH:bz.ms=[true,false]:=rfl
def jx(T:TT K mg):Callee P w K mg base "_law_great" 2 ["_law_feed_here", "_law_pieces"] (spD K mg 2 bz.F):=cS (T.d.get 16 rfl) (b0 (N:=["_law_feed_here", "_law_pieces", "_law_number", "_law_k"]) (by decide)) (λ_ _ _ _ _ _=>ar2 λ_ _=>rfl) λnd _ _ _ _ _ _ _ hr=>'d'
def cV:PSt:=
 (ak (aF false 1 (az aC (ag (af 0) (ag (ah 6) ai))))
  (ak (aF false 2 (pOp bIx (bc (ag (pOp aB (ah 1) (az aC (ag (af 0) (ag (ah 6) ai)))) (ag (pOp aB (ah 1) (az aC (ag (af 0) (ag (ah 40) ai)))) (ag (ah 40) (ag (ah 39) ai))))) (az aC (ag (af 0) (ag (ah 4) ai)))))
  (ak (aF true 3 (pLC (dE (ag (af 2) ai)) [none,some 0] (by decide) (gtN 0) qY (pOp aB (ah 1) (az aC (ag (af 1) (ag (ah 4) ai))))))
  (ak (xIf (qOf (pOp bGt (af 1) (ah 0))) (aF true 3 (pOp bq (bc (ag (ah 1) ai)) (af 2))) xNx)
  (ak (xIf (qOf (pOp bIn (af 1) (bc (ag (ah 2) (ag (ah 3) ai))))) (fm 3 seL (az aC (ag (af 0) (ag (af 2) ai))) (pOp aB (ah 2) (az aC (ag (af 0) (ag (ah 30) ai))))) xNx)
  (ak (xIf (qOf (pOp bEq (af 1) (ah 4))) (fm 3 seL (ah 0) (pOp aB (ah 1) (pOp bC (az bz (ag (af 0) (ag (ah 6) ai))) (pOp bg (pOp eW (ah 10) (ah 30)) (ah 1))))) xNx)
  (ak (xIf (qOf (pOp bEq (af 1) (ah 5))) (aF true 3 (pLC (dE (ag (af 2) ai)) [none,some 0] (by decide) (gtN 0) qY (pOp aB (ah 1) (pOp bC (az bz (ag (af 1) (ag (ah 6) ai))) (pOp bg (pOp eW (ah 10) (ah 30)) (ah 1)))))) xNx)
  (aT (af 3)))))))))
def bE:PFn:=fnP [true] 4 cV
def iL:bE.ms=[true]:=rfl
def gP(T:TT K mg):Callee P w K mg base "_law_weights" 3 ["_law_feed_here"] (spD K mg 1 bE.F):=cS (T.d.get 18 rfl) (b0 (N:=["_law_feed_here", "_law_way", "_law_many", "_law_weights_here"]) (by decide)) (λ_ _ _ _ _ _=>ar1 λ_=>rfl) λnd _ _ _ _ _ _ _ hr=>(ay 'd' (ay 'd' (ay (qE nd ["_law_feed_here", "_law_way", "_law_many", "_law_weights_here"] (aj (top 18)).names ["_law_k", "_law_feed_here"] [none,some 0] 'd' (λnd _ _ _ _ _=>'d') (λnd _ _ _ _ _=>'d')) (ay 'd' (ay 'd' (ay 'd' (ay (jE 'd' (fJ (qE nd ["_law_feed_here", "_law_way", "_law_many", "_law_weights_here"] (aj (top 18)).names ["_law_k", "_law_feed_here"] [none,some 0] 'd' (λnd _ _ _ _ _=>'d') (λnd _ _ _ _ _=>'d'))) 'd') 'd')))))))
noncomputable def mU:PSt:=
 (aT (dO (pFn (bP cB) (ag (af 0) (ag (pTy "int") ai))) (iB (pFn (bP cB) (ag (af 0) (ag (pTy "bool") ai))))))
noncomputable def cw:PFn:=fnP [false] 1 mU
def lE:cw.ms=[false]:=rfl
def kC(T:TT K mg):Callee P w K mg base "is_whole" 1 ["thing"] (spD K mg 1 cw.F):=cS (T.d.get 5 rfl) (b0 (N:=["thing"]) (by decide)) (λ_ _ _ _ _ _=>ar1 λ_=>rfl) λnd _ _ _ _ _ _ _ hr=>'d'
def fT:PSt:=
 (aT (dO (az cw (ag (af 0) ai)) (pOp bGe (af 0) (ah 1))))
def bH:PFn:=fnP [false] 1 fT
def kr:bH.ms=[false]:=rfl
def js(T:TT K mg):Callee P w K mg base "is_weight" 2 ["thing"] (spD K mg 1 bH.F):=cS (T.d.get 8 rfl) (b0 (N:=["thing"]) (by decide)) (λ_ _ _ _ _ _=>ar1 λ_=>rfl) λnd _ _ _ _ _ _ _ hr=>'d'
def dD:PSt:=
 (ak (xIf (qO (qNo (qOf (pFn (bP cB) (ag (af 0) (ag (pTy "list") ai))))) (qOf (pOp bEq (pFn bf (ag (af 0) ai)) (ah 0)))) (eY "NoWeights" (ag (bW "this is no list of weights") ai)) xNx)
  (ak (xIf (qNo (qOf (pFn nE (ag (pLC (gW (af 0)) [none] (by decide) (gtN 0) qY (az bH (ag (af 0) ai))) ai)))) (eY "NoWeights" (ag (bW "a weight is a whole number from 1 on") ai)) xNx)
  (xIf (qOf (pOp bGt (pFn bf (ag (af 0) ai)) cm)) (eY "TooMany" (ag (bW "these are more weights than forty") ai)) xNx)))
def bx:PFn:=fnP [false] 1 dD
def gD:bx.ms=[false]:=rfl
def fR(T:TT K mg):Callee P w K mg base "check_weights" 3 ["thing"] (spD K mg 1 bx.F):=cS (T.d.get 9 rfl) (b0 (N:=["thing"]) (by decide)) (λ_ _ _ _ _ _=>ar1 λ_=>rfl) λnd _ _ _ _ _ _ _ hr=>(ay 'd' (ay (jE (oC (oi (gr (allK (K:=K) rfl rfl) A8 rfl (T.n rfl) (by first |exact boF rfl |exact boT rfl) (fO (zElc ["thing"] (aj (top 9)).names ["weight"] [none] 'd' (λnd _ _ _ _ _=>'d') (λnd _ _ _ _ _=>'d')) 'd')))) 'd' 'd') 'd'))
def dj:PSt:=
 (aT (pOp aB (pOp bq (bc (ag (ah 1) ai)) (pOp bg (af 1) (ah 1))) (bc (ag (pOp aB (pOp bg (af 0) (af 1)) (ah 1)) ai))))
def bo:PFn:=fnP [false,false] 2 dj
def jw:bo.ms=[false,false]:=rfl
def iV(T:TT K mg):Callee P w K mg base "first_list" 1 ["whole", "many"] (spD K mg 2 bo.F):=cS (T.d.get 11 rfl) (b0 (N:=["whole", "many"]) (by decide)) (λ_ _ _ _ _ _=>ar2 λ_ _=>rfl) λnd _ _ _ _ _ _ _ hr=>'d'
def aU:PSt:=
 (ak (gq 4 5 (ag (pFn aA (ag (pSl (af 0) (oS (pOp aB (af 3) (ah 1))) oN) ai)) (ag (pOp bg (pOp bg (af 2) (af 3)) (ah 1)) ai)))
  (xIf (qOf (pOp bGt (af 4) (af 5))) (aT (pOp aB (pOp aB (pSl (af 0) oN (oS (af 3))) (bc (ag (pOp aB (pOp bIx (af 0) (af 3)) (ah 1)) ai))) (az bo (ag (pOp bg (af 4) (ah 1)) (ag (af 5) ai))))) xNx))
def cQ:PSt:=
 (ak (gJ (az bx (ag (af 0) ai)))
  (ak (gq 1 2 (ag (pFn aA (ag (af 0) ai)) (ag (pFn bf (ag (af 0) ai)) ai)))
  (ak (iA (nB (ag (pOp bg (af 2) (ah 2)) (ag (pUn gA (ah 1)) (ag (pUn gA (ah 1)) ai)))) (gtN 3) (aU))
  (ak (xIf (qAn (qOf (pOp bLt (af 2) cm)) (qOf (pOp bLt (af 2) (af 1)))) (aT (az bo (ag (af 1) (ag (pOp aB (af 2) (ah 1)) ai)))) xNx)
  (aT (bc (ag (pOp aB (af 1) (ah 1)) ai)))))))
def aS:PFn:=fnP [false] 6 cQ
def iQ:aS.ms=[false]:=rfl
def gO(T:TT K mg):Callee P w K mg base "list_behind" 4 ["weights"] (spD K mg 1 aS.F):=cS (T.d.get 12 rfl) (b0 (N:=["weights", "whole", "many", "at", "rest", "places"]) (by decide)) (λ_ _ _ _ _ _=>ar1 λ_=>rfl) λnd _ _ _ _ _ _ _ hr=>'d'
def fW:PSt:=
 (ak (xIf (qNo (qOf (pFn (bP cB) (ag (af 0) (ag (pTy "list") ai))))) (aT (pBl false)) xNx)
  (aT (iB (pFn ni (ag (pLC (gW (af 0)) [none] (by decide) (gtN 0) qY (pOr (pFn (bP cB) (ag (af 0) (ag (pTy "bool") ai))) (pOr (iB (pFn (bP cB) (ag (af 0) (ag (pTy "int") ai)))) (pOp bLt (af 0) (ah 1))))) ai)))))
def bY:PFn:=fnP [false] 1 fW
def lj:bY.ms=[false]:=rfl
def ju(T:TT K mg):Callee P w K mg base "_law_right" 1 ["_law_found"] (spD K mg 1 bY.F):=cS (T.d.get 19 rfl) (b0 (N:=["_law_found"]) (by decide)) (λ_ _ _ _ _ _=>ar1 λ_=>rfl) λnd _ _ _ _ _ _ _ hr=>(ay 'd' (fJ (jY (pB (gr (anyK (K:=K) rfl rfl) zr rfl (T.n rfl) (by first |exact boF rfl |exact boT rfl) (fO (zElc ["_law_found"] (aj (top 19)).names ["_law_one"] [none] 'd' (λnd _ _ _ _ _=>'d') (λnd _ _ _ _ _=>'d')) 'd'))))))
def aQ:PSt:=
 (ak (gq 2 3 (ag (pFn bf (ag (af 0) ai)) (ag (pFn aA (ag (af 0) ai)) ai)))
  (ak (xIf (qOf (pOp bEq (af 1) (af 0))) (aT (pBl false)) xNx)
  (ak (xIf (qAn (qOf (pOp bEq (pFn bf (ag (af 1) ai)) (af 2))) (qOf (pOp bEq (pFn aA (ag (af 1) ai)) (af 3)))) (ak (aF false 4 (pOp bIx (pLC (dE (ag (af 2) ai)) [none,some 1,some 0] (by decide) (gtN 0) (qOf (pOp bNe (pOp bIx (af 1) (af 0)) (pOp bIx (af 2) (af 0)))) (af 0)) (ah 0)))
  (ak (aF false 5 (pOp bg (pOp bg (af 3) (pFn aA (ag (pSl (af 0) oN (oS (pOp aB (af 4) (ah 1)))) ai))) (pOp bg (pOp bg (af 2) (ah 2)) (af 4))))
  (ak (xIf (qO (qOf (pOp bNe (pOp bIx (af 1) (af 4)) (pOp aB (pOp bIx (af 0) (af 4)) (ah 1)))) (qOf (pOp bEq (pSl (af 0) (oS (pOp aB (af 4) (ah 1))) oN) (pOp bq (bc (ag (ah 1) ai)) (pOp bg (pOp bg (af 2) (ah 1)) (af 4)))))) (aT (pBl false)) xNx)
  (ak (aF false 6 (dO (pOp bEq (pSl (af 0) (oS (pOp aB (af 4) (ah 1))) (oS (pOp aB (af 4) (ah 2)))) (bc (ag (af 5) ai))) (pOp bEq (pSl (af 0) (oS (pOp aB (af 4) (ah 2))) oN) (pOp bq (bc (ag (ah 1) ai)) (pOp bg (pOp bg (af 2) (ah 2)) (af 4))))))
  (aT (dO (af 6) (pOp bEq (pSl (af 1) (oS (pOp aB (af 4) (ah 1))) (oS (pUn gA (ah 1)))) (pOp bq (bc (ag (ah 1) ai)) (pOp bg (pOp bg (af 2) (ah 2)) (af 4)))))))))) xNx)
  (ak (xIf (qOf (pOp bNe (pSl (af 0) (oS (ah 1)) oN) (pOp bq (bc (ag (ah 1) ai)) (pOp bg (af 2) (ah 1))))) (aT (pBl false)) xNx)
  (ak (xIf (qAn (qOf (pOp bEq (pFn bf (ag (af 1) ai)) (pOp aB (af 2) (ah 1)))) (qOf (pOp bEq (pFn aA (ag (af 1) ai)) (af 3)))) (aT (dO (pOp bLe (pFn bf (ag (af 1) ai)) (ah 40)) (pOp bEq (pSl (af 1) oN (oS (pUn gA (ah 1)))) (pOp bq (bc (ag (ah 1) ai)) (af 2))))) xNx)
  (aT (dO (pOp bEq (af 1) (bc (ag (pOp aB (af 3) (ah 1)) ai))) (pOr (pOp bEq (af 2) (af 3)) (pOp bEq (af 2) (ah 40))))))))))
def au:PFn:=fnP [false,false] 7 aQ
def gh:au.ms=[false,false]:=rfl
def fS(T:TT K mg):Callee P w K mg base "_law_is_behind" 1 ["_law_weights_here", "_law_found"] (spD K mg 2 au.F):=cS (T.d.get 17 rfl) (b0 (N:=["_law_weights_here", "_law_found", "_law_many", "_law_total", "_law_at", "_law_most", "_law_last"]) (by decide)) (λ_ _ _ _ _ _=>ar2 λ_ _=>rfl) λnd _ _ _ _ _ _ _ hr=>(ay 'd' (ay 'd' (ay (jE 'd' (ay (zsS 4 nd (ua (ixK (K:=K) rfl) tU (yx ["_law_weights_here", "_law_found", "_law_many", "_law_total", "_law_at", "_law_most", "_law_last"] (aj (top 17)).names ["_law_k", "_law_found", "_law_weights_here"] [none,some 1,some 0] 'd' (λnd _ _ _ _ _=>'d') (λnd _ _ _ _ _=>'d') (λnd _ _ _ _ _=>'d')) 'd' (λ_ _=>rfl))) 'd') 'd') 'd')))
def j7:PSt:=
 (ak (aF true 5 (pFn fg (ag (af 3) ai)))
  (ak (aF true 6 (az aS (ag (af 5) ai)))
  (ak (xIf (qO (qOf (pOp bNe (af 5) (af 3))) (qO (qNo (qOf (az bY (ag (af 6) ai)))) (qNo (qOf (az au (ag (af 3) (ag (af 6) ai))))))) (aT (pBl false)) xNx)
  (ak (aF true 7 (pFn fg (ag (af 6) ai)))
  (ak (gJ (mP 6 eO (ag (ah 0) ai)))
  (ak (xIf (qOf (pOp bNe (az aS (ag (af 5) ai)) (af 7))) (aT (pBl false)) xNx)
  (ak (fm 5 seL (az aC (ag (af 1) (ag (pFn bf (ag (af 5) ai)) ai))) (pOp aB (ah 1) (az aC (ag (af 1) (ag (ah 9) ai)))))
  (ak (xIf (qNo (qOf (az au (ag (af 5) (ag (az aS (ag (af 5) ai)) ai))))) (aT (pBl false)) xNx)
  (aF false 3 (af 7))))))))))
def g0:PSt:=
 (ak (aF false 3 (az bE (ag (af 1) ai)))
  (iA (dE (ag (ah 3) ai)) (gtN 4) (j7)))
def eV:PSt:=
 (ak (aF false 3 (az aS (ag (af 3) ai)))
  (gJ (mP 7 eO (ag (af 3) ai))))
def mQ:PSt:=
 (ak (aF true 1 (az cp (ag (af 0) ai)))
  (ak (iA (dE (ag (pOp aB (ah 3) (pFn kg (ag (ah 12) (ag (pFn bf (ag (af 0) ai)) ai)))) ai)) (gtN 2) (g0))
  (ak (nM 3 7 (bc (ag (ah 1) ai)) (bc (ag (bc (ag (ah 1) ai)) ai)) nr Cn)
  (ak (xWh (qOf (pOp bLt (pFn aA (ag (af 3) ai)) (ah 7))) (eV))
  (ak (aF false 8 (pLC (gW (af 7)) [none] (by decide) (gtN 0) qY (jW (ag (pFn aA (ag (af 0) ai)) (ag (pFn bf (ag (af 0) ai)) (ag (af 0) ai))))))
  (aT (dO (pOp bEq (pFn bf (ag (af 7) ai)) (ah 64)) (pOp bEq (af 8) (pFn fM (ag (af 8) ai))))))))))
def jy:PFn:=fnP [false] 9 mQ
def vJ(T:TT K mg):Callee P w K mg base "law" 5 ["_law_script"] (spD K mg 1 jy.F):=cS (T.d.get 20 rfl) (b0 (N:=["_law_script", "_law_feed_here", "_law_bout", "_law_weights_here", "_law_step", "_law_handed", "_law_found", "_law_told", "_law_ranks"]) (by decide)) (λ_ _ _ _ _ _=>ar1 λ_=>rfl) λnd _ _ _ _ _ _ _ hr=>(ay 'd' (ay 'd' (ay 'd' (ay 'd' (ay (qE nd ["_law_script", "_law_feed_here", "_law_bout", "_law_weights_here", "_law_step", "_law_handed", "_law_found", "_law_told", "_law_ranks"] (aj (top 20)).names ["_law_one"] [none] 'd' (λnd _ _ _ _ _=>'d') (λnd _ _ _ _ _=>'d')) 'd')))))
end
def fdD(cs:List Int)(a l:Int):Val:=.dct [(.inr "cells",.lst (cs.map .int)),(.inr "at",.int a),(.inr "left",.int l)]
def Fd(n:Nat)(v:Val):Prop:=∃cs a l,v=fdD cs a l/\0<=a/\a<=n
def Fd.mono{n m:Nat}{v:Val}(h:Fd n v)(q:n<=m):Fd m v:=by obtain⟨cs,a,l,e,h0,h1⟩:=h;exact⟨cs,a,l,e,h0,by omega⟩
def de(cs:List Int)(a l:Int):cT.G (fdD cs a l) (.str "cells")=.val (.lst (cs.map .int)):=rfl
def ic(cs:List Int)(a l:Int):cT.G (fdD cs a l) (.str "at")=.val (.int a):=rfl
def d8(cs:List Int)(a l:Int):cT.G (fdD cs a l) (.str "left")=.val (.int l):=rfl
def dZ(cs:List Int)(a l x:Int):seD.G (fdD cs a l) (.str "at") (.int x)=some (fdD cs x l):=rfl
def dn(cs:List Int)(a l x:Int):seD.G (fdD cs a l) (.str "left") (.int x)=some (fdD cs a x):=rfl
def jD:eW.G (.int 10) (.int 18)=.val (.int (10^18)):=tT ⟨by decide,by decide,by decide⟩
def cA{a m:Int}(h:0<m):0<=a.fmod m/\a.fmod m<m:=⟨Int.fmod_nonneg_of_pos a h,Int.fmod_lt_of_pos a h⟩
set_option hygiene false in
local macro_rules | `(tactic|simp![$args,*])=>do
 let l <- ("% ez CL CM Dx nJ C3 sR qH nI nj Ad AM Aj yY Bf xZ Ag A2 xa sE Ai yk zg vS yL BU Cv v_bl Ds v_ty v_un v_op BD zY v_fn Dw Ci BL y_or CB c_of c_an c_o c_no x_nx DC uD wc wV Bd fD kz CN Cz CA C5 wB tu sC vv g_n Dr Du vV BP Dp CF BN B6 yu xv BS sH Dj A5 ym zj BW Cf lX v_lc AV AO AI o_n o_s v_sl DJ BH k_lt k_le k_gt k_ge CS k_ix zb B9 k_eq k_ne CQ Bj BM DN DB xJ rP List.getElem?_cons_zero List.getElem?_cons_succ List.set_cons_zero List.set_cons_succ List.length_cons List.length_nil Option.bind_some Option.map_some Option.isSome_some if_true if_false Bool.not_true Bool.not_false Bool.and_true Bool.true_and Bool.and_false Bool.or_true Bool.true_or Bool.or_false Nat.reduceLeDiff Nat.reduceAdd Nat.reduceSub Nat.zero_add Nat.sub_self List.cons_append List.nil_append List.append_nil List.replicate reduceCtorEq decide_true decide_false Bool.false_eq_true List.all_cons List.all_nil List.isEmpty_nil List.isEmpty_cons List.map_cons List.map_nil Int.reduceBEq Int.reduceAdd Int.reduceSub Int.reduceMul Int.cast_ofNat_Int zq vW yU A4 yy uR rh xt sT AJ pS vP wt yg uT qc wN Aa qP A1 uU yP rG zh zQ vB CH Cs BZ Bn oU oI pH tJ n8 jI bN kd Int.reduceNeg wH oQ Cd lC lK kH iL lE kr gD jw iQ lj gh g8".splitOn " ").tail.mapM λs=>`(Lean.Parser.Tactic.simpLemma| $(Lean.mkIdent s.toName):term)
 `(tactic|simp only[$(l.toArray),*,$args,*])
def uG{ns:List Int}(hl:ns.length<=63):∃v,cp.G [.kl (ns.map .int)]=.ok (.new v) []/\Fd 0 v:=by
 refine⟨fdD ns 0 0,?_,ns,0,0,rfl,by omega,by omega⟩;unfold cp;rw[eZ];unfold ig;have e:aSl (.kl (ns.map Val.int)) none (some 63)=.new (.lst (ns.map Val.int)):=by
  have:=CT (ns.map Val.int) none (some ((63:Nat):Int))
  rw[lg,Eo (by rw[o_];exact hl)] at this;exact this
 have c:Val.items (.lst (ns.map Val.int))=some (ns.map Val.int):=rfl;simp![oQ,e,c];rfl
def aW{n:Nat}{v:Val}{m:Int}(f:Fd n v)(hn:n<=1000000000)(h0:0<m)(hm:Sm 8000 m):∃r v',aC.G [v,.int m]=.ok (.val (.int r)) [v']/\Fd (n+1) v'/\0<=r/\r<m:=by
 obtain⟨cs,a,l,rfl,a0,a1⟩:=f;have m0:m≠0:=by omega
 have d1:=λi=>eD (i:=i) m0;have d2:=λi=>uw (i:=i) (CDivB.of m0 hm);unfold aC;rw[eZ];unfold hX;have x1:bI.G (.int 61) (.int a)=.val (.int (61*a)):=dH (CMulA.left (by decide) (by decide));have x2:bI.G (.int (61*a)) (.int a)=.val (.int (61*a*a)):=dH (CMulA.right (by omega) (by omega));have x3:bI.G (.int 7) (.int a)=.val (.int (7*a)):=dH (CMulA.left (by decide) (by decide));have x4:∀x:Int,bI.G (.int x) (.int 48271)=.val (.int (x*48271)):=λx=>dH (CMulA.right (by decide) (by decide));have x5:∀x:Int,bI.G (.int x) (.int 69623)=.val (.int (x*69623)):=λx=>dH (CMulA.right (by decide) (by decide));have x6:bI.G (.int 7919) (.int a)=.val (.int (7919*a)):=dH (CMulA.left (by decide) (by decide));have x7:∀x:Int,bI.G (.int x) (.int 16811)=.val (.int (x*16811)):=λx=>dH (CMulA.right (by decide) (by decide));have y1:∀x:Int,bC.G (.int x) (.int 1000003)=.val (.int (x.fmod 1000003)):=λx=>eD (by decide);have y2:∀x:Int,bC.G (.int x) (.int 999983)=.val (.int (x.fmod 999983)):=λx=>eD (by decide);have y3:∀x:Int,bC.G (.int x) (.int 1999993)=.val (.int (x.fmod 1999993)):=λx=>eD (by decide);have y4:∀x:Int,bC.G (.int x) (.int 524287)=.val (.int (x.fmod 524287)):=λx=>eD (by decide);have y5:∀x:Int,i4.G (.int x) (.int 5)=.val (.int (x.fdiv 5)):=λx=>uw (CDivB.of (by decide) (sm8 (by decide)));by_cases hc:0<l
 .have hc':decide (0<l)=true:=Ek hc;refine⟨l.fmod m,fdD cs a (l.fdiv m),?_,⟨cs,a,_,rfl,a0,by omega⟩,cA h0⟩;simp![hc',d1,d2,de,ic,d8,dZ,dn]
 .have hc':decide (0<l)=false:=D5 hc;have k_:∀x:Int,∃r v',(R3F.ok (Rt.val (.int (x.fmod m))) [fdD cs (a+1) l]:R3F)=.ok (.val (.int r)) [v']/\Fd (n+1) v'/\0<=r/\r<m:=λx=>⟨_,_,rfl,⟨cs,_,_,rfl,by omega,by omega⟩,cA h0⟩;have z18:((10:Int)^18)=1000000000000000000:=by decide
  by_cases hl:0<cs.length
  .have r:=cA (a:=a) (m:=(cs.length:Nat)) (by omega);have hi:(a.fmod (cs.length:Nat)).toNat<cs.length:=by omega
   have at1:atI (cs.map Val.int) (a.fmod (cs.length:Nat))=some (.int cs[(a.fmod (cs.length:Nat)).toNat]):=jB r.1 (by rw[D3,DQ hi];rfl);have l1:decide ((0:Int)<((cs.length:Nat):Int))=true:=Ek (by omega);have e1:bC.G (.int a) (.int (cs.length:Nat))=.val (.int (a.fmod (cs.length:Nat))):=eD (by omega);by_cases hb:(10^18:Int)<=cs[(a.fmod (cs.length:Nat)).toNat]
   .have hb':=Ek hb;by_cases ha:a<(cs.length:Nat)
    .have ha':=Ek ha;refine⟨(cs[(a.fmod (cs.length:Nat)).toNat]).fmod m,fdD cs (a+1) ((cs[(a.fmod (cs.length:Nat)).toNat]).fdiv m),?_,⟨cs,_,_,rfl,by omega,by omega⟩,cA h0⟩;simp![hc',d1,d2,de,ic,d8,dZ,dn,o_,l1,e1,at1,jD,hb',ha']
    .have ha':=D5 ha;simp![hc',d1,d2,de,ic,d8,dZ,dn,o_,l1,e1,at1,jD,hb',ha',x1,x2,x3,x4,x5,x6,x7,y1,y2,y3,y4,y5];exact k_ _
   .have hb':=D5 hb;simp![hc',d1,d2,de,ic,d8,dZ,dn,o_,l1,e1,at1,jD,hb',x1,x2,x3,x4,x5,x6,x7,y1,y2,y3,y4,y5];exact k_ _
  .have l1:decide ((0:Int)<((cs.length:Nat):Int))=false:=D5 (by omega);have hb':decide ((10^18:Int)<=a)=false:=D5 (by rw[z18];omega);simp![hc',d1,d2,de,ic,d8,dZ,dn,o_,l1,jD,hb',x1,x2,x3,x4,x5,x6,x7,y1,y2,y3,y4,y5];exact k_ _
def Ct:cP [.int 6]=some [.int 0,.int 1,.int 2,.int 3,.int 4,.int 5]:=ve (i:=6) (by decide) (by decide)
def pX{n:Nat}{v:Val}(f:Fd n v)(hn:n<=900000000):∃r v',bz.G [v,.int 6]=.ok (.val (.int r)) [v']/\Fd (n+6) v'/\0<=r:=by have s:Sm 8000 100000:=sm8 (by decide);obtain⟨r1,v1,e1,f1,a1,_⟩:=aW (m:=100000) f (by omega) (by decide) s;obtain⟨r2,v2,e2,f2,a2,_⟩:=aW (m:=100000) f1 (by omega) (by decide) s;obtain⟨r3,v3,e3,f3,a3,_⟩:=aW (m:=100000) f2 (by omega) (by decide) s;obtain⟨r4,v4,e4,f4,a4,_⟩:=aW (m:=100000) f3 (by omega) (by decide) s;obtain⟨r5,v5,e5,f5,a5,_⟩:=aW (m:=100000) f4 (by omega) (by decide) s;obtain⟨r6,v6,e6,f6,a6,_⟩:=aW (m:=100000) f5 (by omega) (by decide) s;have c6:∀x:Int,bI.G (.int x) (.int 100000)=.val (.int (x*100000)):=λx=>dH (CMulA.right (by decide) (by decide));refine⟨((((((0*100000+r1)*100000+r2)*100000+r3)*100000+r4)*100000+r5)*100000+r6),v6,?_,f6.mono (by omega),by omega⟩;unfold bz;rw[eZ];unfold fU eT;simp![Ct,dg,c6,e1,e2,e3,e4,e5,e6]
def zA(x:Int):cw.G [.int x]=.ok (.val (.bl true)) []:=by unfold cw;rw[eZ];rfl
def xk{x:Int}(h:1<=x):bH.G [.int x]=.ok (.val (.bl true)) []:=by
 have w:=zA x;have g:bGe.G (.int x) (.int 1)=.val (.bl true):=by rw[show bGe.G (.int x) (.int 1)=.val (.bl (decide (1<=x))) from rfl,Ek h]
 unfold bH;rw[eZ];unfold fT;simp![w,g]
theorem oh:∀n:Nat,dh (List.replicate n (Val.bl true))=some (List.replicate n true)
 |0=>rfl
 |
  n+1=>by
  rw[D1];show (dh (List.replicate n (Val.bl true))).map (true :: ·)=_;rw[oh n];rfl
def liV(ws:List Int):Val:=.lst (ws.map Val.int)
structure W40(ws:List Int):Prop where
 pos:1<=ws.length
 len:ws.length<=40
 one:∀w∈ws,1<=w
def zZ{ws:List Int}(W:W40 ws):bx.G [liV ws]=.ok (.val .non) []:=by
 have wl:=W.len;have wp:=W.pos;obtain⟨e',⟨s,rfl,_⟩,lc⟩:=eJ (g:=(gtN 0).G) (F:=(az bH (ag (af 0) ai)).G) Val.int (λ_=>Val.bl true) (λe=>∃s:Sl,e=[s]/\s.pl=true) ws [] [.no] ⟨.no,rfl,rfl⟩ (by
  rintro w hw _ ⟨s,rfl,hs⟩;have e:=xk (W.one w hw);refine⟨[.sh (.int w)],.val (.bl true),[.sh (.int w)],?_,?_,rfl,_,rfl,rfl⟩
  .simp![hs]
  .simp![e]) (by rw[EG];omega)
 rw[Et,show (ws.map λ_=>Val.bl true)=List.replicate ws.length (.bl true) from List.map_const' ..] at lc;have il:(bP cB).G [.lst (ws.map Val.int),.ty "list"]=.val (.bl true):=rfl;have ll:((ws.map Val.int).length:Nat)=ws.length:=o_ ..;have e0:(((ws.length:Nat):Int)==0)=false:=by rw[D2];omega
 have bt:=oh ws.length;have at_:(List.replicate ws.length true).all id=true:=by rw[D4];intro b hb;exact (EV.mp hb).2
 have le:¬ (40:Int)<(ws.length:Nat):=by omega
 have lr:(List.replicate ws.length (Val.bl true)).length<=16777216:=by rw[D6];omega
 unfold bx;rw[eZ];unfold dD;unfold liV;generalize ws.map Val.int=wv at *;generalize hR:List.replicate ws.length (Val.bl true)=rv at *;simp![il,ll,e0,bN,inS,lc,lr,bt,at_,le]
def vr(v:Val)(n:Nat)(h:n<=1000):bq.G (.lst [v]) (.int (n:Nat))=.new (.lst (List.replicate n v)):=by
 have e:bq.G=la:=rfl;rw[e];have fl:(List.replicate n [v]).flatten=List.replicate n v:=by
  induction n with
  |zero=>rfl
  |succ n ih=>rw[D1,Ep,ih (by omega),D1];rfl
 unfold la;dsimp only;rw[EZ,fl,if_pos ⟨by omega,by omega,by show 1*n<=_;omega⟩]
def fZ:List Int->Option (List Int)
 |a::m::r=>match fZ (m::r) with
  |some t=>some (a::t)
  |none=>if m=1 then none else some ((a+1)::(List.replicate r.length 1++[m-1]))
 |_=>none
def beh(ws:List Int):List Int:=match fZ ws with
 |some t=>t
 |none=>if ws.length<40/\(ws.length:Int)<ws.sum then List.replicate ws.length 1++[ws.sum-(ws.length:Nat)] else [ws.sum+1]
theorem dC:∀{ws:List Int},ws≠[]->(∀w∈ws,1<=w)->(∃pre a m k,ws=pre++a::m::List.replicate k 1/\2<=m/\fZ ws=some (pre++(a+1)::(List.replicate k 1++[m-1])))\/∃a k,ws=a::List.replicate k 1/\fZ ws=none
 | [],h,_=>absurd rfl h
 | [a],_,_=>.inr ⟨a,0,rfl,rfl⟩
 |
  x::y::r,_,hp=>by
  rcases dC (ws:=y::r) (by simp) (λw hw=>hp w (DV _ hw)) with ⟨pre,a,m,k,e,hm,hb⟩ |⟨a,k,e,hb⟩
  .refine .inl ⟨x::pre,a,m,k,by rw[e];rfl,hm,?_⟩;rw[fZ,hb];rfl
  .injection e with e1 e2;subst e1 e2;by_cases h1:y=1
   .subst h1;refine .inr ⟨x,k+1,by rw[D1],?_⟩;rw[fZ,hb];exact if_pos rfl
   .have:=hp y (by simp)
    refine .inl ⟨[],x,y,k,rfl,by omega,?_⟩;rw[fZ,hb];show (if y=1 then none else _)=_;rw[if_neg h1,D6];rfl
theorem bG:∀k:Nat,(List.replicate k (1:Int)).sum=k
 |0=>rfl
 |k+1=>by rw[D1,Ej,bG k];omega
def W40.beh{ws:List Int}(W:W40 ws):W40 (beh ws):=by
 have wp:=W.pos;have wl:=W.len;unfold KK.beh;rcases dC (λz=>by rw[z] at wp;exact absurd wp (by decide)) W.one with ⟨pre,a,m,k,e,hm,hb⟩ |⟨a,k,e,hb⟩
 .rw[hb];have ha:=W.one a (by rw[e];simp);have hl:ws.length=pre.length+(k+2):=by rw[e];simp
  refine⟨by simp;omega,by simp;omega,λw hw=>?_⟩;simp only[EU,Eg,List.not_mem_nil,or_false] at hw;rcases hw with hw |rfl |hw |rfl
  .exact W.one w (by rw[e];simp [hw])
  .omega
  .rw[(EV.mp hw).2];decide
  .omega
 .rw[hb];have hs:(ws.length:Int)<=ws.sum:=by have ha:=W.one a (by rw[e];simp);rw[e,DR,D6,Ej,bG];omega
  dsimp only;split
  .rename_i h;refine⟨by simp,by simp;omega,λw hw=>?_⟩;rcases EU.mp hw with hw |hw
   .rw[(EV.mp hw).2];decide
   .rw[Ei.mp hw];omega
  .refine⟨by simp,by simp,λw hw=>?_⟩;rw[Ei.mp hw];omega
def jR{xs ys:List Int}(h:xs.length+ys.length<=1000):aB.G (liV xs) (liV ys)=.new (liV (xs++ys)):=by unfold liV;rw[AW,if_pos (by rw[o_,o_];omega),ET]
def cD(n:Nat)(h:n<=1000):bq.G (.lst [.int 1]) (.int (n:Nat))=.new (liV (List.replicate n 1)):=by rw[vr (.int 1) n h];unfold liV;rw[List.map_replicate]
def ql{op ap:PO2}{w m x y:Int}{u v o:Val}(h1:m-1=x)(h2:w-m+1=y)(h3:op.G (.lst [.int 1]) (.int x)=.new u)(h4:ap.G u (.lst [.int y])=.new o):(aT (pOp ap (pOp op (bc (ag (ah 1) ai)) (pOp bg (af 1) (ah 1))) (bc (ag (pOp aB (pOp bg (af 0) (af 1)) (ah 1)) ai)))).G [.sh (.int w),.sh (.int m)]=.rt (.new o) [.sh (.int w),.sh (.int m)]:=by simp![h1,h2,h3,h4]
def lq{w x:Int}{m:Nat}(hx:x=(m:Nat)+1)(h:m<=900):bo.G [.int w,.int x]=.ok (.new (liV (List.replicate m 1++[w-(m:Nat)]))) []:=by have r:=ql (op:=bq) (ap:=aB) (w:=w) (m:=x) (v:=.non) (show x-1=(m:Nat) by omega) (show w-x+1=w-(m:Nat) by omega) (cD m (by omega)) (jR (ys:=[w-(m:Nat)]) (by rw[D6,Fu];omega));unfold bo;rw[eA rfl];show fY [false,false] (dj.G [.sh (.int w),.sh (.int x)])=_;unfold dj;rw[r];rfl
def bw(ws:List Int)(j:Nat):aA.G [.lst ((ws.map Val.int).drop j)]=.val (.int (ws.drop j).sum):=by
 have:=dB (ws.drop j)
 rw[ER] at this;generalize (ws.map Val.int).drop j=dv at *;simp![this]
def Av{ws:List Int}{S N r:Int}{j:Nat}{s4 s5:Sl}(hr:(ws.drop (j+1)).sum=r)(hle:¬ N-(j:Nat)-1<r)(h4:s4.pl=true)(h5:s5.pl=true):aU.G [.sh (liV ws),.sh (.int S),.sh (.int N),.sh (.int (j:Nat)),s4,s5]=.nx [.sh (liV ws),.sh (.int S),.sh (.int N),.sh (.int (j:Nat)),.sh (.int r),.sh (.int (N-(j:Nat)-1))]:=by have cf:=cG (ws.map Val.int) (j+1);have sc:=bw ws (j+1);rw[hr] at sc;rw[show (((j+1:Nat):Nat):Int)=((j:Nat):Int)+1 from rfl] at cf;unfold aU;unfold liV;generalize (ws.map Val.int).drop (j+1)=dv at *;generalize ws.map Val.int=wv at *;generalize aA=fs at *;simp![cj,cf,sc,h4,h5,hle]
def vT{ws pre out:List Int}{S N r a:Int}{j:Nat}{s4 s5:Sl}(hr:(ws.drop (j+1)).sum=r)(hlt:N-(j:Nat)-1<r)(ht:ws.take j=pre)(ha:ws[j]?=some a)(fe:bo.G [.int (r-1),.int (N-(j:Nat)-1)]=.ok (.new (liV out)) [])(l1:pre.length+1+out.length<=1000)(h4:s4.pl=true)(h5:s5.pl=true):aU.G [.sh (liV ws),.sh (.int S),.sh (.int N),.sh (.int (j:Nat)),s4,s5]=.rt (.new (liV (pre++[a+1]++out))) [.sh (liV ws),.sh (.int S),.sh (.int N),.sh (.int (j:Nat)),.sh (.int r),.sh (.int (N-(j:Nat)-1))]:=by have cf:=cG (ws.map Val.int) (j+1);have sc:=bw ws (j+1);rw[hr] at sc;rw[show (((j+1:Nat):Nat):Int)=((j:Nat):Int)+1 from rfl] at cf;have ct:=lg (ws.map Val.int) j;rw[<- List.map_take,ht] at ct;have at_:atI (ws.map Val.int) ((j:Nat):Int)=some (.int a):=jB (by omega) (by rw[EZ,D3,ha];rfl);have c1:=jR (xs:=pre) (ys:=[a+1]) (by simp;omega);have c2:=jR (xs:=pre++[a+1]) (ys:=out) (by simp;omega);unfold aU;rw[show liV [a+1]=.lst [.int (a+1)] from rfl] at c1;generalize liV (pre++[a+1]++out)=o2 at *;generalize liV (pre++[a+1])=o1 at *;generalize liV out=o0 at *;unfold liV at *;generalize (ws.map Val.int).drop (j+1)=dv at *;generalize pre.map Val.int=pv at *;generalize ws.map Val.int=wv at *;generalize aA=fs at *;simp![cj,cf,sc,h4,h5,hlt,ct,at_,c1,c2,fe]
def kP(i:Int)(k:Nat):dJ i (k+1)=.int i::dJ (i-1) k:=by
 unfold dJ;rw[Fs,z_,List.map_map];congr 1
 .congr 1;omega
 .refine List.map_congr_left λt _=>?_;show Val.int (i-((t+1:Nat):Int))=Val.int (i-1-(t:Nat));congr 1;omega
def gt3{v x0 x1 x2:Val}{s3 s4 s5:Sl}(h3:s3.pl=true):(gtN 3).G v [.sh x0,.sh x1,.sh x2,s3,s4,s5]=some [.sh x0,.sh x1,.sh x2,.sh v,s4,s5]:=by simp![h3]
theorem gb{ws:List Int}{S N:Int}{R:SR3->Prop}(p:Nat)(hR:∀s3 s4 s5:Sl,s3.pl=true->s4.pl=true->s5.pl=true->R (cR (gtN 3).G aU.G (dJ ((p:Nat)-1) p) [.sh (liV ws),.sh (.int S),.sh (.int N),s3,s4,s5])):∀(t:Nat),(∀j,p<=j->j<p+t->¬ N-(j:Nat)-1<(ws.drop (j+1)).sum)->∀s3 s4 s5:Sl,s3.pl=true->s4.pl=true->s5.pl=true->R (cR (gtN 3).G aU.G (dJ (((p+t:Nat):Int)-1) (p+t)) [.sh (liV ws),.sh (.int S),.sh (.int N),s3,s4,s5])
 |0,_,s3,s4,s5,h3,h4,h5=>hR s3 s4 s5 h3 h4 h5
 |
  t+1,h,s3,s4,s5,h3,h4,h5=>by
  have ih:=gb p hR t (λj h1 h2=>h j h1 (by omega)) (.sh (.int ((p+t:Nat):Int))) (.sh (.int (ws.drop (p+t+1)).sum)) (.sh (.int (N-((p+t:Nat):Int)-1))) rfl rfl rfl;have bb:=Av (S:=S) (s4:=s4) (s5:=s5) (rfl:(ws.drop (p+t+1)).sum=_) (h (p+t) (by omega) (by omega)) h4 h5;rw[show p+(t+1)=p+t+1 by omega,kP,dg,show (((p+t+1:Nat):Int)-1)=((p+t:Nat):Int) by omega];have g:=gt3 (v:=.int ((p+t:Nat):Int)) (x0:=liV ws) (x1:=.int S) (x2:=.int N) (s4:=s4) (s5:=s5) h3;rw[g];simp only[bb,nJ];exact ih
def j9{xs:List Int}{k j:Nat}(h:xs.length<=j):((xs++List.replicate k 1).drop j).sum=((k-(j-xs.length):Nat):Int):=by rw[List.drop_append,Ed h,Et,List.drop_replicate,bG]
def bhQ(v:Val)(r:SR3):Prop:=fY [false] r=.ok (.new v) []
def fc{ws:List Int}(W:W40 ws):aS.G [liV ws]=.ok (.new (liV (beh ws))) []:=by
 have wp:=W.pos;have wl:=W.len;have ck:=zZ W;have sm:=bw ws 0;rw[D8,D8] at sm;have ll:((ws.map Val.int).length:Nat)=ws.length:=o_ ..;have rg:=yH (i:=((ws.length:Nat):Int)-2) (j:=-1) ⟨by omega,by omega⟩ ⟨by decide,by decide⟩;rw[show (((ws.length:Nat):Int)-2 - -1).toNat=ws.length-1 by omega] at rg;have hc:=dC (λz=>by rw[z] at wp;exact absurd wp (by decide)) W.one;unfold aS;rw[eA rfl];show bhQ (liV (beh ws)) (cQ.G [.sh (liV ws),.no,.no,.no,.no,.no]);unfold cQ;refine aE (λe=>e=[.sh (liV ws),.no,.no,.no,.no,.no]) ⟨_,by generalize liV ws=wv at *;simp![ck],rfl⟩ ?_;rintro _ rfl;refine aE (λe=>e=[.sh (liV ws),.sh (.int ws.sum),.sh (.int (ws.length:Nat)),.no,.no,.no]) ⟨_,by unfold liV;generalize ws.map Val.int=wv at *;generalize aA=fs at *;simp![sm,ll],rfl⟩ ?_;rintro _ rfl;rcases hc with ⟨pre,a,m,k,e,hm,hb⟩ |⟨a,k,e,hb⟩
 .have hn:ws.length=pre.length+k+2:=by rw[e];simp;omega
  have be:beh ws=pre++[a+1]++(List.replicate k 1++[m-1]):=by unfold beh;rw[hb];simp
  obtain⟨s3,s4,s5,lo⟩:=gb (ws:=ws) (S:=ws.sum) (N:=(ws.length:Nat)) (R:=λr=>∃s3 s4 s5:Sl,r=.rt (.new (liV (beh ws))) [.sh (liV ws),.sh (.int ws.sum),.sh (.int (ws.length:Nat)),s3,s4,s5]) (pre.length+1) (λs3 s4 s5 h3 h4 h5=>by
   have dr:(ws.drop (pre.length+1)).sum=m+(k:Nat):=by rw[e,show pre++a::m::List.replicate k 1=(pre++[a])++m::List.replicate k 1 by simp,List.drop_append,Ed (by simp),Et,show pre.length+1-(pre++[a]).length=0 by simp,D8,Ej,bG]
   have fe:=lq (w:=m+(k:Nat)-1) (x:=((ws.length:Nat):Int)-(pre.length:Nat)-1) (m:=k) (by omega) (by omega);rw[show m+(k:Nat)-1-(k:Nat)=m-1 by omega] at fe;have by_:=vT (S:=ws.sum) (N:=(ws.length:Nat)) (pre:=pre) (a:=a) (s4:=s4) (s5:=s5) dr (by omega) (by rw[e];simp) (by rw[e];simp) fe (by simp;omega) h4 h5;rw[<- be] at by_;refine⟨.sh (.int (pre.length:Nat)),.sh (.int (m+(k:Nat))),.sh (.int (((ws.length:Nat):Int)-(pre.length:Nat)-1)),?_⟩;rw[kP,dg,show (((pre.length+1:Nat):Int)-1)=((pre.length:Nat):Int) by omega,gt3 h3];simp only[by_];rfl) k (λj h1 h2=>by
   rw[e,show pre++a::m::List.replicate k 1=(pre++[a,m])++List.replicate k 1 by simp,j9 (by simp;omega)];simp;omega) .no .no .no rfl rfl rfl
  rw[show (((pre.length+1+k:Nat):Int)-1)=((ws.length:Nat):Int)-2 by omega,show pre.length+1+k=ws.length-1 by omega] at lo;unfold bhQ;generalize liV (beh ws)=bv at *;generalize liV ws=wv at *;generalize dJ (((ws.length:Nat):Int)-2) (ws.length-1)=rv at *;simp![tP,rg,lo,cW]
 .have hn:ws.length=k+1:=by rw[e];simp
  obtain⟨s3,s4,s5,h3,h4,h5,lo⟩:=gb (ws:=ws) (S:=ws.sum) (N:=(ws.length:Nat)) (R:=λr=>∃s3 s4 s5:Sl,s3.pl=true/\s4.pl=true/\s5.pl=true/\r=.nx [.sh (liV ws),.sh (.int ws.sum),.sh (.int (ws.length:Nat)),s3,s4,s5]) 0 (λs3 s4 s5 h3 h4 h5=>⟨s3,s4,s5,h3,h4,h5,rfl⟩) k (λj h1 h2=>by rw[e,show a::List.replicate k 1=[a]++List.replicate k 1 by rfl,j9 (by simp)];simp;omega) .no .no .no rfl rfl rfl;rw[show (((0+k:Nat):Int)-1)=((ws.length:Nat):Int)-2 by omega,show 0+k=ws.length-1 by omega] at lo;refine aE (λe=>e=[.sh (liV ws),.sh (.int ws.sum),.sh (.int (ws.length:Nat)),s3,s4,s5]) ⟨_,by generalize liV ws=wv at *;generalize dJ (((ws.length:Nat):Int)-2) (ws.length-1)=rv at *;simp![tP,rg,lo],rfl⟩ ?_;rintro _ rfl;have fe:=lq (w:=ws.sum) (x:=((ws.length:Nat):Int)+1) (m:=ws.length) rfl (by omega);unfold beh bhQ;rw[hb];dsimp only;by_cases h1:ws.length<40
  .have l1:((ws.length:Nat):Int)<40:=by omega
   by_cases h2:(ws.length:Int)<ws.sum
   .rw[if_pos ⟨h1,h2⟩];generalize liV (List.replicate ws.length 1++[ws.sum-(ws.length:Nat)])=ov at *;generalize liV ws=wv at *;simp![l1,h2,fe,cW]
   .rw[if_neg (λz=>h2 z.2),show liV [ws.sum+1]=.lst [.int (ws.sum+1)] from rfl];generalize liV ws=wv at *;simp![l1,h2,cW]
  .have l1:¬ ((ws.length:Nat):Int)<40:=by omega
   rw[if_neg (λz=>h1 z.1),show liV [ws.sum+1]=.lst [.int (ws.sum+1)] from rfl];generalize liV ws=wv at *;simp![l1,cW]
theorem lT:∀a b:List Int,L3.vqs (a.map Val.int) (b.map Val.int)=decide (a=b)
 | [],[]=>rfl
 | [],y::ys=>by rw[D5 (by simp)];rfl
 |x::xs,[]=>by rw[D5 (by simp)];rfl
 |
  x::xs,y::ys=>by
  show ((x==y)&&L3.vqs (xs.map Val.int) (ys.map Val.int))=_;rw[lT xs ys];by_cases h1:x=y <;> by_cases h2:xs=ys <;> simp [h1,h2]
def eqL(a b:List Int):bU (liV a) (liV b)=some (decide (a=b)):=by
 have wf:∀l:List Int,wfV 60 (liV l)=true:=λl=>by show bL 59 (l.map .int)=true;rw[er,List.all_map,D4];intro _ _;rfl
 rw[uu (wf a) (wf b)];show some (L3.vqs (a.map Val.int) (b.map Val.int))=_;rw[lT]
def eqT{a b:List Int}(h:a=b):bU (liV a) (liV b)=some true:=by rw[eqL,Ek h]
def eqF{a b:List Int}(h:a≠b):bU (liV a) (liV b)=some false:=by rw[eqL,D5 h]
theorem qf:∀n:Nat,dh (List.replicate n (Val.bl false))=some (List.replicate n false)
 |0=>rfl
 |
  n+1=>by
  rw[D1];show (dh (List.replicate n (Val.bl false))).map (false :: ·)=_;rw[qf n];rfl
def tw{ws:List Int}(W:W40 ws):bY.G [liV ws]=.ok (.val (.bl true)) []:=by
 have wl:=W.len;have il:(bP cB).G [.lst (ws.map Val.int),.ty "list"]=.val (.bl true):=rfl;obtain⟨e',⟨s,rfl,_⟩,lc⟩:=eJ (g:=(gtN 0).G) (F:=(pOr (pFn (bP cB) (ag (af 0) (ag (pTy "bool") ai))) (pOr (iB (pFn (bP cB) (ag (af 0) (ag (pTy "int") ai)))) (pOp bLt (af 0) (ah 1)))).G) Val.int (λ_=>Val.bl false) (λe=>∃s:Sl,e=[s]/\s.pl=true) ws [] [.no] ⟨.no,rfl,rfl⟩ (by
  rintro w hw _ ⟨s,rfl,hs⟩;have h1:=W.one w hw;have i1:(bP cB).G [.int w,.ty "bool"]=.val (.bl false):=rfl;have i2:(bP cB).G [.int w,.ty "int"]=.val (.bl true):=rfl;have i3:¬ w<1:=by omega
  refine⟨[.sh (.int w)],.val (.bl false),[.sh (.int w)],?_,?_,rfl,_,rfl,rfl⟩
  .simp![hs]
  .simp![i1,i2,i3]) (by rw[EG];omega)
 rw[Et,show (ws.map λ_=>Val.bl false)=List.replicate ws.length (.bl false) from List.map_const' ..] at lc;have bt:=qf ws.length;have an:(List.replicate ws.length false).any id=false:=by rw[List.any_eq_false];intro b hb;rw[(EV.mp hb).2];decide
 have lr:(List.replicate ws.length (Val.bl false)).length<=16777216:=by rw[D6];omega
 unfold bY;rw[eZ];unfold fW;unfold liV;generalize ws.map Val.int=wv at *;generalize hR:List.replicate ws.length (Val.bl false)=rv at *;simp![il,bN,inS,lc,lr,bt,an]
def AB(xs:List Val)(a:Nat):bD xs (some (a:Int)) (some (-1))=xs.dropLast.drop a:=by
 unfold bD;rw[HT.sIx_nat,List.dropLast_eq_take,List.drop_take];have e:HT.sIx xs.length xs.length (some (-1))=xs.length-1:=by show (if (-1:Int)<0 then ((-1:Int)+(xs.length:Int)).toNat else min (-1:Int).toNat xs.length)=_;rw[if_pos (by decide)];omega
 rw[e];by_cases ha:a<=xs.length
 .rw[EW ha]
 .rw[EM (by omega:xs.length<=a),Ed (v_ _),Ed (by omega:xs.length<=a),Es,Es]
def sj{f:Nat->Bool}{n p:Nat}(hp:p<n)(h1:∀k,k<p->f k=false)(h2:f p=true):∃r,(List.range n).filter f=p::r:=by obtain⟨q,rfl⟩:∃q,n=p+(q+1):=⟨n-p-1,by omega⟩;rw[List.range_add,List.filter_append,show (List.range p).filter f=[] from List.filter_eq_nil_iff.mpr λk hk=>by rw[h1 k (EL.mp hk)];decide,Et,Fs,z_,Nat.add_zero,List.filter_cons_of_pos h2];exact⟨_,rfl⟩
def ot{c:PTs}{A B R:PSt}{e:E3}{Q:SR3->Prop}(ht:c.G e=.ok true e)(h:Q ((A.G e).then R.G)):Q ((ak (xIf c A B) R).G e):=by rw[fD,kz,ht];exact h
def ibQ(r:SR3):Prop:=fY [false,false] r=.ok (.val (.bl true)) []
def ibR(R:PSt)(r:SR3):Prop:=ibQ (r.then R.G)
def jA{L:List Int}{i:Nat}{z x:Int}(h:L[i]?=some x)(hz:z=(i:Nat)):atI (L.map Val.int) z=some (.int x):=by subst hz;refine jB (by omega) ?_;rw[EZ,D3,h];rfl
def rn(ws:List Int)(j:Nat):aA.G [.lst ((ws.map Val.int).take j)]=.val (.int (ws.take j).sum):=by
 have:=dB (ws.take j)
 rw[List.map_take] at this;generalize (ws.map Val.int).take j=dv at *;simp![this]
def CZ{F W:List Int}{k:Nat}{x y:Int}(h1:F[k]?=some x)(h2:W[k]?=some y):(qOf (pOp bNe (pOp bIx (af 1) (af 0)) (pOp bIx (af 2) (af 0)))).G [.sh (.int (k:Nat)),.sh (liV F),.sh (liV W)]=.ok (!(x==y)) [.sh (.int (k:Nat)),.sh (liV F),.sh (liV W)]:=by have a1:=jA h1 (z:=(k:Nat)) rfl;have a2:=jA h2 (z:=(k:Nat)) rfl;unfold liV;generalize F.map Val.int=fv at *;generalize W.map Val.int=wv at *;simp![a1,a2]
def Cr{F W:List Int}(hl:F.length=W.length)(h40:W.length<=1000):∃s,lcV (gtN 0).G (qOf (pOp bNe (pOp bIx (af 1) (af 0)) (pOp bIx (af 2) (af 0)))).G (af 0).G (rgV W.length) [] [.no,.sh (liV F),.sh (liV W)]=.ok (((List.range W.length).filter λk=>!(F.getD k 0==W.getD k 0)).map λk:Nat=>Val.int k) [s,.sh (liV F),.sh (liV W)]:=by
 obtain⟨e',⟨s,_,rfl⟩,lc⟩:=iK (g:=(gtN 0).G) (c:=(qOf (pOp bNe (pOp bIx (af 1) (af 0)) (pOp bIx (af 2) (af 0)))).G) (F:=(af 0).G) (λk=>!(F.getD k 0==W.getD k 0)) (λk:Nat=>Val.int k) (λk:Nat=>Val.int k) (λe=>∃s:Sl,s.pl=true/\e=[s,.sh (liV F),.sh (liV W)]) (List.range W.length) [] [.no,.sh (liV F),.sh (liV W)] ⟨.no,rfl,rfl⟩ (by
  rintro k hk _ ⟨s,hs,rfl⟩;have hk:=EL.mp hk;have q:=CZ (F:=F) (W:=W) (k:=k) (x:=F.getD k 0) (y:=W.getD k 0) (by rw[DP,DQ (show k<F.length by omega)];rfl) (by rw[DP,DQ hk];rfl);generalize liV F=fv at *;generalize liV W=wv at *;refine⟨[.sh (.int (k:Nat)),.sh fv,.sh wv],_,?_,q,⟨_,rfl,rfl⟩,λ_=>⟨.val (.int (k:Nat)),[.sh (.int (k:Nat)),.sh fv,.sh wv],?_,rfl,.sh (.int (k:Nat)),rfl,rfl⟩⟩
  .simp![hs]
  .simp![ez]) (by rw[EG,List.length_range];omega)
 exact⟨s,lc⟩
def cK{c:PTs}{A R:PSt}{e:E3}{Q:SR3->Prop}(ht:c.G e=.ok false e)(h:Q (R.G e)):Q ((ak (xIf c A xNx) R).G e):=by rw[fD,kz,ht];exact h
def C7{pre:List Int}{a m:Int}{k:Nat}(hm:2<=m)(hl:pre.length+k+2<=40):au.G [liV (pre++a::m::List.replicate k 1),liV (pre++(a+1)::(List.replicate k 1++[m-1]))]=.ok (.val (.bl true)) []:=by
 have hW:(pre++a::m::List.replicate k (1:Int)).length=pre.length+k+2:=by simp;omega
 have hF:(pre++(a+1)::(List.replicate k (1:Int)++[m-1])).length=pre.length+k+2:=by simp;omega
 have sW:(pre++a::m::List.replicate k (1:Int)).sum=pre.sum+a+m+(k:Nat):=by rw[Fh,Ej,Ej,bG];omega
 have sF:(pre++(a+1)::(List.replicate k (1:Int)++[m-1])).sum=pre.sum+a+m+(k:Nat):=by rw[Fh,Ej,Fh,bG,Ej,FA];omega
 have wP:(pre++a::m::List.replicate k (1:Int))[pre.length]?=some a:=by simp
 have fP:(pre++(a+1)::(List.replicate k (1:Int)++[m-1]))[pre.length]?=some (a+1):=by simp
 have lo:∀j,j<pre.length->(pre++(a+1)::(List.replicate k (1:Int)++[m-1])).getD j 0=(pre++a::m::List.replicate k (1:Int)).getD j 0:=λj hj=>by rw[DP,DP,C_ hj,C_ hj]
 have tk:(pre++a::m::List.replicate k (1:Int)).take (pre.length+1)=pre++[a]:=by rw[show pre++a::m::List.replicate k (1:Int)=(pre++[a])++m::List.replicate k 1 by simp];exact List.take_left' (by simp)
 have d1:(pre++a::m::List.replicate k (1:Int)).drop (pre.length+1)=m::List.replicate k 1:=by rw[show pre++a::m::List.replicate k (1:Int)=(pre++[a])++m::List.replicate k 1 by simp];exact Fw (by simp)
 have d2:(pre++a::m::List.replicate k (1:Int)).drop (pre.length+2)=List.replicate k 1:=by rw[show pre++a::m::List.replicate k (1:Int)=(pre++[a,m])++List.replicate k 1 by simp];exact Fw (by simp)
 have s1:((pre++a::m::List.replicate k (1:Int)).take (pre.length+2)).drop (pre.length+1)=[m]:=by rw[show pre++a::m::List.replicate k (1:Int)=(pre++[a,m])++List.replicate k 1 by simp,List.take_left' (by simp),show pre++[a,m]=(pre++[a])++[m] by simp];exact Fw (by simp)
 have s2:(pre++(a+1)::(List.replicate k (1:Int)++[m-1])).dropLast.drop (pre.length+1)=List.replicate k 1:=by rw[show pre++(a+1)::(List.replicate k (1:Int)++[m-1])=(pre++[a+1]++List.replicate k 1)++[m-1] by simp,List.dropLast_concat];exact Fw (by simp)
 have ne:pre++(a+1)::(List.replicate k (1:Int)++[m-1])≠pre++a::m::List.replicate k (1:Int):=λz=>by rw[z,wP] at fP;injection fP with fP;omega
 obtain⟨r,fh⟩:=sj (f:=λj=>!((pre++(a+1)::(List.replicate k (1:Int)++[m-1])).getD j 0==(pre++a::m::List.replicate k (1:Int)).getD j 0)) (n:=(pre++a::m::List.replicate k (1:Int)).length) (p:=pre.length) (by omega) (λj hj=>by rw[lo j hj,E7];rfl) (by rw[DP,DP,wP,fP];show (!(a+1==a))=true;rw[D2.mpr (by omega)];rfl);obtain⟨s,lc⟩:=Cr (hF.trans hW.symm) (by omega);rw[fh,z_] at lc;generalize pre++a::m::List.replicate k (1:Int)=W at *;generalize pre++(a+1)::(List.replicate k (1:Int)++[m-1])=F at *;generalize hp:pre.length=p at *;have ll:((W.map Val.int).length:Nat)=W.length:=o_ ..;have lf:((F.map Val.int).length:Nat)=F.length:=o_ ..;have sw:=bw W 0;have sf:=bw F 0;rw[D8,D8] at sw sf;have e0:=eqF ne;have rg:cP [.int (W.length:Nat)]=some (rgV W.length):=d4 (by omega);unfold au;rw[eA rfl];show ibQ (aQ.G [.sh (liV W),.sh (liV F),.no,.no,.no,.no,.no]);unfold aQ;refine aE (λe=>e=[.sh (liV W),.sh (liV F),.sh (.int (W.length:Nat)),.sh (.int W.sum),.no,.no,.no]) ⟨_,by unfold liV;generalize W.map Val.int=wv at *;generalize F.map Val.int=fv at *;generalize aA=fs at *;simp![sw,ll],rfl⟩ ?_;rintro _ rfl;refine aE (λe=>e=[.sh (liV W),.sh (liV F),.sh (.int (W.length:Nat)),.sh (.int W.sum),.no,.no,.no]) ⟨_,by generalize liV W=wv at *;generalize liV F=fv at *;simp![e0],rfl⟩ ?_;rintro _ rfl;refine ot (by
  have h1:(((F.length:Nat):Int)==((W.length:Nat):Int))=true:=by rw[Ea];omega
  have h2:(F.sum==W.sum)=true:=by rw[Ea];omega
  unfold liV;generalize W.map Val.int=wv at *;generalize F.map Val.int=fv at *;generalize aA=fs at *;simp![sf,lf,h1,h2]) ?_
 show ibR _ _;have lr:(r.map λk:Nat=>Val.int k).length<=16777215:=by
  have:=List.length_filter_le (λj=>!(F.getD j 0==W.getD j 0)) (List.range W.length)
  rw[fh,List.length_range,DR] at this;rw[o_];omega
 have a0:∀l:List Val,atI (Val.int (p:Nat)::l) 0=some (.int (p:Nat)):=λl=>jB (by decide) rfl;refine aE (λe=>e=[.sh (liV W),.sh (liV F),.sh (.int (W.length:Nat)),.sh (.int W.sum),.sh (.int (p:Nat)),.no,.no]) ⟨_,by generalize liV W=wv at *;generalize liV F=fv at *;generalize (r.map λk:Nat=>Val.int k)=rv at *;generalize rgV W.length=gv at *;simp![rg,bN,inS,lc,lr,a0],rfl⟩ ?_;rintro _ rfl;have st:=rn W (p+1);have ct:=lg (W.map Val.int) (p+1);rw[show (((p+1:Nat):Nat):Int)=((p:Nat):Int)+1 from rfl] at ct;have mm:W.sum-(W.take (p+1)).sum-(((W.length:Nat):Int)-2-(p:Nat))=m:=by rw[tk,Fh,Ej,FA];omega
 refine aE (λe=>e=[.sh (liV W),.sh (liV F),.sh (.int (W.length:Nat)),.sh (.int W.sum),.sh (.int (p:Nat)),.sh (.int m),.no]) ⟨_,by unfold liV;generalize (W.map Val.int).take (p+1)=tv at *;generalize W.map Val.int=wv at *;generalize F.map Val.int=fv at *;generalize aA=fs at *;simp![cj,ct,st,mm],rfl⟩ ?_;rintro _ rfl;have w1:=jA wP (z:=(p:Nat)) rfl;have f1:=jA fP (z:=(p:Nat)) rfl;have c1:=cG (W.map Val.int) (p+1);rw[show (((p+1:Nat):Nat):Int)=((p:Nat):Int)+1 from rfl,<- ER,d1] at c1;have c2:=cG (W.map Val.int) (p+2);rw[show (((p+2:Nat):Nat):Int)=((p:Nat):Int)+2 from rfl,<- ER,d2] at c2;have c3:=wC (W.map Val.int) (p+1) (p+2);rw[show (((p+1:Nat):Nat):Int)=((p:Nat):Int)+1 from rfl,show (((p+2:Nat):Nat):Int)=((p:Nat):Int)+2 from rfl,<- List.map_take,<- ER,s1] at c3;have c4:=AB (F.map Val.int) (p+1);rw[show (((p+1:Nat):Nat):Int)=((p:Nat):Int)+1 from rfl,<- List.map_dropLast,<- ER,s2] at c4;have k1:((W.length:Nat):Int)-1-(p:Nat)=((k+1:Nat):Int):=by omega
 have k2:((W.length:Nat):Int)-2-(p:Nat)=((k:Nat):Int):=by omega
 have r1:=cD (k+1) (by omega);have r2:=cD k (by omega);rw[<- k1] at r1;rw[<- k2] at r2;have q1:=eqF (show m::List.replicate k 1≠List.replicate (k+1) 1 from λz=>by rw[D1] at z;injection z with z;omega);have q2:=eqT (rfl:List.replicate k (1:Int)=List.replicate k 1);have q3:=eqT (rfl:[m]=[m]);rw[show liV [m]=.lst [.int m] from rfl] at q3;rw[show ([m].map Val.int)=[.int m] from rfl] at c3;rw[show (List.replicate k (1:Int)).map Val.int=(List.replicate k (1:Int)).map Val.int from rfl] at c2;have aa:(a+1==a+1)=true:=E7 _;refine aE (λe=>e=[.sh (liV W),.sh (liV F),.sh (.int (W.length:Nat)),.sh (.int W.sum),.sh (.int (p:Nat)),.sh (.int m),.no]) ⟨_,by generalize liV (List.replicate (k+1) 1)=o1 at *;unfold liV at *;generalize (m::List.replicate k 1).map Val.int=mv at *;generalize W.map Val.int=wv at *;generalize F.map Val.int=fv at *;generalize bq=op at *;simp![w1,f1,aa,cj,c1,r1,q1],rfl⟩ ?_;rintro _ rfl;refine aE (λe=>e=[.sh (liV W),.sh (liV F),.sh (.int (W.length:Nat)),.sh (.int W.sum),.sh (.int (p:Nat)),.sh (.int m),.sh (.bl true)]) ⟨_,by unfold liV at *;generalize (List.replicate k 1).map Val.int=kv at *;generalize W.map Val.int=wv at *;generalize F.map Val.int=fv at *;generalize bq=op at *;simp![cj,c3,q3,c2,r2,q2],rfl⟩ ?_;rintro _ rfl;unfold ibR ibQ;unfold liV at *;generalize (List.replicate k 1).map Val.int=kv at *;generalize W.map Val.int=wv at *;generalize F.map Val.int=fv at *;generalize bq=op at *;simp![cj,c4,r2,q2,cW]
def ev_B{op:PO2}{wv fv kv:List Val}{N S M:Int}(lf:((fv.length:Nat):Int)=M)(h4:M<=40)(c2:bD fv none (some (-1))=kv)(r2:op.G (.lst [.int 1]) (.int N)=.new (.lst kv))(q2:bU (.lst kv) (.lst kv)=some true):(aT (dO (pOp bLe (pFn bf (ag (af 1) ai)) (ah 40)) (pOp bEq (pSl (af 1) oN (oS (pUn gA (ah 1)))) (pOp op (bc (ag (ah 1) ai)) (af 2))))).G [.sh (.lst wv),.sh (.lst fv),.sh (.int N),.sh (.int S),.no,.no,.no]=.rt (.val (.bl true)) [.sh (.lst wv),.sh (.lst fv),.sh (.int N),.sh (.int S),.no,.no,.no]:=by simp![lf,h4,cj,c2,r2,q2]
def Cb{a:Int}{k:Nat}(ha:2<=a)(hl:k+2<=40):au.G [liV (a::List.replicate k 1),liV (List.replicate (k+1) 1++[a-1])]=.ok (.val (.bl true)) []:=by
 have hW:(a::List.replicate k (1:Int)).length=k+1:=by simp
 have hF:(List.replicate (k+1) (1:Int)++[a-1]).length=k+2:=by simp
 have sW:(a::List.replicate k (1:Int)).sum=a+(k:Nat):=by rw[Ej,bG]
 have sF:(List.replicate (k+1) (1:Int)++[a-1]).sum=a+(k:Nat):=by rw[Fh,bG,Ej,FA];omega
 have ne:List.replicate (k+1) (1:Int)++[a-1]≠a::List.replicate k 1:=λz=>by
  have:=Ey List.length z
  rw[hW,hF] at this;omega
 have d1:(a::List.replicate k (1:Int)).drop 1=List.replicate k 1:=rfl;have s2:(List.replicate (k+1) (1:Int)++[a-1]).dropLast=List.replicate (k+1) 1:=List.dropLast_concat;generalize a::List.replicate k (1:Int)=W at *;generalize List.replicate (k+1) (1:Int)++[a-1]=F at *;have sw:=bw W 0;have sf:=bw F 0;rw[D8,D8] at sw sf;have e0:=eqF ne;have h1:(((F.length:Nat):Int)==((W.length:Nat):Int))=false:=by rw[D2];omega
 have h2:(((F.length:Nat):Int)==((W.length:Nat):Int)+1)=true:=by rw[Ea];omega
 have h3:(F.sum==W.sum)=true:=by rw[Ea];omega
 have h4:((F.length:Nat):Int)<=40:=by omega
 have c1:=cG (W.map Val.int) 1;rw[show (((1:Nat):Nat):Int)=1 from rfl,<- ER,d1] at c1;have c2:=uO (F.map Val.int);rw[<- List.map_dropLast,s2] at c2;have k1:((W.length:Nat):Int)-1=((k:Nat):Int):=by omega
 have k2:((W.length:Nat):Int)=((k+1:Nat):Int):=by omega
 have r1:=cD k (by omega);have r2:=cD (k+1) (by omega);rw[<- k1] at r1;rw[<- k2] at r2;have q1:=eqT (rfl:List.replicate k (1:Int)=List.replicate k 1);have q2:=eqT (rfl:List.replicate (k+1) (1:Int)=List.replicate (k+1) 1);have ll:(((W.map Val.int).length:Nat):Int)=(W.length:Nat):=by rw[o_]
 have lf:(((F.map Val.int).length:Nat):Int)=(F.length:Nat):=by rw[o_]
 generalize ((W.length:Nat):Int)=N at *;generalize ((F.length:Nat):Int)=M at *;unfold au;rw[eA rfl];show ibQ (aQ.G [.sh (liV W),.sh (liV F),.no,.no,.no,.no,.no]);unfold aQ;refine aE (λe=>e=[.sh (liV W),.sh (liV F),.sh (.int N),.sh (.int W.sum),.no,.no,.no]) ⟨_,by unfold liV;generalize W.map Val.int=wv at *;generalize F.map Val.int=fv at *;generalize aA=fs at *;simp![sw,ll],rfl⟩ ?_;rintro _ rfl;refine cK (by generalize liV W=wv at *;generalize liV F=fv at *;simp![e0]) ?_;refine cK (by unfold liV;generalize W.map Val.int=wv at *;generalize F.map Val.int=fv at *;generalize aA=fs at *;generalize bq=op at *;simp![lf,h1]) ?_;refine cK (by unfold liV at *;generalize (List.replicate k 1).map Val.int=kv at *;generalize W.map Val.int=wv at *;generalize F.map Val.int=fv at *;generalize bq=op at *;simp![cj,c1,r1,q1]) ?_;refine ot (by unfold liV at *;generalize W.map Val.int=wv at *;generalize F.map Val.int=fv at *;generalize bq=op at *;generalize aA=fs at *;simp![lf,sf,h2,h3]) ?_;have ev:=ev_B (op:=bq) (wv:=W.map Val.int) (S:=W.sum) lf h4 c2 r2 q2;unfold ibQ;rw[show liV W=.lst (W.map Val.int) from rfl,show liV F=.lst (F.map Val.int) from rfl,ev];rfl
def CJ{a:Int}{k:Nat}(ha:1<=a)(hl:k+1<=40)(h:k+1=40\/a=1):au.G [liV (a::List.replicate k 1),liV [(a::List.replicate k (1:Int)).sum+1]]=.ok (.val (.bl true)) []:=by
 have hW:(a::List.replicate k (1:Int)).length=k+1:=by simp
 have sW:(a::List.replicate k (1:Int)).sum=a+(k:Nat):=by rw[Ej,bG]
 have ne:[(a::List.replicate k (1:Int)).sum+1]≠a::List.replicate k 1:=λz=>by
  have:=Ey List.sum z
  rw[Ej,FA] at this;omega
 have d1:(a::List.replicate k (1:Int)).drop 1=List.replicate k 1:=rfl;generalize a::List.replicate k (1:Int)=W at *;have sw:=bw W 0;rw[D8,D8] at sw;have e0:=eqF ne;have h2:((1:Int)==((W.length:Nat):Int)+1)=false:=by rw[D2];omega
 have h3:(W.sum+1==W.sum)=false:=by rw[D2];omega
 have c1:=cG (W.map Val.int) 1;rw[show (((1:Nat):Nat):Int)=1 from rfl,<- ER,d1] at c1;have k1:((W.length:Nat):Int)-1=((k:Nat):Int):=by omega
 have r1:=cD k (by omega);rw[<- k1] at r1;have q1:=eqT (rfl:List.replicate k (1:Int)=List.replicate k 1);have q2:=eqT (rfl:[W.sum+1]=[W.sum+1]);have fs1:aA.G [.lst [.int (W.sum+1)]]=.val (.int (W.sum+1)):=by
  have:=bw [W.sum+1] 0
  rw[D8,D8,Ej,FA,Int.add_zero] at this;exact this
 have ll:(((W.map Val.int).length:Nat):Int)=(W.length:Nat):=by rw[o_]
 have h7:((W.length:Nat):Int)≠W.sum->((W.length:Nat):Int)=40:=λz=>by omega
 generalize ((W.length:Nat):Int)=N at *;unfold au;rw[eA rfl];show ibQ (aQ.G [.sh (liV W),.sh (liV [W.sum+1]),.no,.no,.no,.no,.no]);unfold aQ;rw[show liV [W.sum+1]=.lst [.int (W.sum+1)] from rfl] at *;refine aE (λe=>e=[.sh (liV W),.sh (.lst [.int (W.sum+1)]),.sh (.int N),.sh (.int W.sum),.no,.no,.no]) ⟨_,by unfold liV;generalize W.map Val.int=wv at *;generalize aA=fs at *;simp![sw,ll],rfl⟩ ?_;rintro _ rfl;refine cK (by generalize liV W=wv at *;simp![e0]) ?_;refine cK (by generalize liV W=wv at *;generalize aA=fs at *;generalize bq=op at *;cases h1:((1:Int)==N) <;> simp![h1,fs1,h3]) ?_;refine cK (by unfold liV at *;generalize (List.replicate k 1).map Val.int=kv at *;generalize W.map Val.int=wv at *;generalize bq=op at *;simp![cj,c1,r1,q1]) ?_;refine cK (by generalize liV W=wv at *;generalize aA=fs at *;generalize bq=op at *;simp![h2]) ?_;unfold ibQ;generalize liV W=wv at *;cases h5:(N==W.sum) with
 |true=>simp![q2,h5,cW]
 |
  false=>
  have h6:(N==40)=true:=by rw[Ea];rw[D2] at h5;exact h7 h5
  simp![q2,h5,h6,cW]
def pe{ws:List Int}(W:W40 ws):au.G [liV ws,liV (beh ws)]=.ok (.val (.bl true)) []:=by
 have wp:=W.pos;have wl:=W.len;unfold beh;rcases dC (λz=>by rw[z] at wp;exact absurd wp (by decide)) W.one with ⟨pre,a,m,k,e,hm,hb⟩ |⟨a,k,e,hb⟩
 .rw[hb];have hl:ws.length=pre.length+(k+2):=by rw[e];simp
  rw[e];exact C7 hm (by omega)
 .rw[hb];have ha:=W.one a (by rw[e];simp);have hl:ws.length=k+1:=by rw[e];simp
  have hs:ws.sum=a+(k:Nat):=by rw[e,Ej,bG]
  dsimp only;by_cases h:ws.length<40/\(ws.length:Int)<ws.sum
  .rw[if_pos h,show ws.sum-(ws.length:Nat)=a-1 by omega,hl,e];exact Cb (by omega) (by omega)
  .rw[if_neg h,e];exact CJ ha (by omega) (by omega)
def p30:eW.G (.int 10) (.int 30)=.val (.int 1000000000000000000000000000000):=tT ⟨by decide,by decide,by decide⟩
def md30(x:Int):bC.G (.int x) (.int 999999999999999999999999999999)=.val (.int (x.fmod 999999999999999999999999999999)):=eD (by decide)
def gt0{x v:Val}{s:Sl}(hs:s.pl=true):(gtN 0).G x [s,.mu v]=some [.sh x,.mu v]:=by simp![hs]
theorem jQ{n c:Nat}{F:ME3}(hd:∀(i:Nat) (v x:Val),Fd (n+c*i) v->i<40->∃r v',F [.sh x,.mu v]=.ok (.val (.int r)) [.sh x,.mu v']/\Fd (n+c*(i+1)) v'/\1<=r):∀(vs:List Val) (i:Nat) (acc:List Val) (v:Val) (s:Sl),i+vs.length<=40->acc.length+vs.length<=1000->Fd (n+c*i) v->s.pl=true->∃(ws:List Int) (v':Val) (s':Sl),ws.length=vs.length/\(∀w∈ws,(1:Int)<=w)/\Fd (n+c*(i+vs.length)) v'/\lcV (gtN 0).G qY.G F vs acc [s,.mu v]=.ok (acc++ws.map Val.int) [s',.mu v']
 | [],i,acc,v,s,_,_,f,_=>⟨[],v,s,rfl,(λ_ h=>nomatch h),f,by simp [lcV]⟩
 |
  x::vs,i,acc,v,s,hi,ha,f,hs=>by
  rw[DR] at hi ha;obtain⟨r,v1,q2,f1,h1⟩:=hd i v x f (by omega);obtain⟨ws,v',s',hl,hR,f',q5⟩:=jQ hd vs (i+1) (acc++[.int r]) v1 (.sh x) (by omega) (by simp;omega) f1 rfl;refine⟨r::ws,v',s',by rw[DR,DR,hl],λw hw=>?_,by rw[DR,show i+(vs.length+1)=i+1+vs.length by omega];exact f',?_⟩
  .rcases Eg.mp hw with rfl |hw
   .exact h1
   .exact hR w hw
  .unfold lcV;have cy:qY.G=cY:=rfl;rw[cy] at q5 ⊢;rw[if_pos (by omega),gt0 hs];have dm:br [.sh x,.mu v1] (.val (.int r))=some ([.sh x,.mu v1],.int r):=rfl;simp only[cY,ez,E4,q2,dm,q5];simp
def j8{n c m:Nat}{v:Val}{F:ME3}(hd:∀(i:Nat) (v x:Val),Fd (n+c*i) v->i<40->∃r v',F [.sh x,.mu v]=.ok (.val (.int r)) [.sh x,.mu v']/\Fd (n+c*(i+1)) v'/\1<=r)(f:Fd n v)(hm:m<=40):∃(ws:List Int) (v':Val) (s:Sl),ws.length=m/\(∀w∈ws,(1:Int)<=w)/\Fd (n+c*m) v'/\lcV (gtN 0).G qY.G F (rgV m) [] [.no,.mu v]=.ok (ws.map Val.int) [s,.mu v']:=by
 have:=jQ hd (rgV m) 0 [] v .no (by rw[iS];omega) (by rw[iS,EG];omega) f rfl
 rw[iS,Nat.zero_add] at this;exact this
def iO{ws:List Int}{i:Nat}{x:Int}(h:∀w∈ws,(1:Int)<=w)(hx:1<=x):∀w∈ws.set i x,(1:Int)<=w:=λw hw=>by
 rcases Fg hw with z |z
 .exact h w z
 .omega
def n4{n:Nat}{z:Int}(h0:0<=z)(h1:z<(n:Nat)):ixN n z=some z.toNat:=by unfold ixN;rw[if_pos h0,if_pos (by omega)]
def jG{c:PTs}{A R:PSt}{e:E3}{Q:SR3->Prop}(I:E3->Prop)(h:(c.G e=.ok false e/\I e)\/(c.G e=.ok true e/\∃e',A.G e=.nx e'/\I e'))(k:∀e',I e'->Q (R.G e')):Q ((ak (xIf c A xNx) R).G e):=by
 rcases h with ⟨h1,h2⟩ |⟨h1,e',h2,h3⟩
 .rw[fD,kz,h1];exact k e h2
 .rw[fD,kz,h1];show Q ((if true=true then A.G e else xNx.G e).then R.G);rw[if_pos rfl,h2];exact k e' h3
def vw{op:PO2}{N w:Int}{v o2 u:Val}(h:op.G (.lst [.int 1]) (.int N)=.new u):(aF true 3 (pOp op (bc (ag (ah 1) ai)) (af 2))).G [.mu v,.sh (.int w),.sh (.int N),.ow o2]=.nx [.mu v,.sh (.int w),.sh (.int N),.ow u]:=by simp![h]
def wlQ(n:Nat)(r:SR3):Prop:=∃ws v',Fd (n+1000) v'/\W40 ws/\fY [true] r=.ok (.new (liV ws)) [v']
def wlI(n m:Nat)(w:Int)(e:E3):Prop:=∃v ws,Fd n v/\ws.length=m/\(∀w∈ws,(1:Int)<=w)/\e=[.mu v,.sh (.int w),.sh (.int (m:Nat)),.ow (liV ws)]
def nC{n:Nat}{v:Val}(f:Fd n v)(hn:n<=1000000):∃ws v',Fd (n+1000) v'/\W40 ws/\bE.G [v]=.ok (.new (liV ws)) [v']:=by
 unfold bE;rw[eA rfl];show wlQ n (cV.G [.mu v,.no,.no,.no]);unfold cV;obtain⟨w,v1,e1,f1,w0,w1⟩:=aW (m:=6) f (by omega) (by decide) (sm8 (by decide));refine aE (λe=>e=[.mu v1,.sh (.int w),.no,.no]) ⟨_,by simp![e1],rfl⟩ ?_;rintro _ rfl;obtain⟨r1,v2,e2,f2,r10,r11⟩:=aW (m:=6) f1 (by omega) (by decide) (sm8 (by decide));obtain⟨r2,v3,e3,f3,r20,r21⟩:=aW (m:=40) f2 (by omega) (by decide) (sm8 (by decide));obtain⟨r3,v4,e4,f4,r30,r31⟩:=aW (m:=4) f3 (by omega) (by decide) (sm8 (by decide));obtain⟨m,m1,m2,at4⟩:∃m:Nat,1<=m/\m<=40/\atI [Val.int (1+r1),.int (1+r2),.int 40,.int 39] r3=some (.int (m:Nat)):=by
  have hc:r3=0\/r3=1\/r3=2\/r3=3:=by omega
  rcases hc with rfl |rfl |rfl |rfl
  .exact⟨(1+r1).toNat,by omega,by omega,by rw[Int.toNat_of_nonneg (by omega)];rfl⟩
  .exact⟨(1+r2).toNat,by omega,by omega,by rw[Int.toNat_of_nonneg (by omega)];rfl⟩
  .exact⟨40,by decide,by decide,rfl⟩
  .exact⟨39,by decide,by decide,rfl⟩
 refine aE (λe=>e=[.mu v4,.sh (.int w),.sh (.int (m:Nat)),.no]) ⟨_,by simp![e2,e3,e4,at4],rfl⟩ ?_;rintro _ rfl;have rg:cP [.int (m:Nat)]=some (rgV m):=d4 (by omega);obtain⟨ws,v5,s5,l5,h5,f5,lc⟩:=j8 (n:=n+4) (c:=1) (m:=m) (v:=v4) (F:=(pOp aB (ah 1) (az aC (ag (af 1) (ag (ah 4) ai)))).G) (λi v x f hi=>by obtain⟨r,v',e,f',h0,h1⟩:=aW (m:=4) f (by omega) (by decide) (sm8 (by decide));exact⟨1+r,v',by simp![e],by rw[show n+4+1*(i+1)=n+4+1*i+1 by omega];exact f',by omega⟩) f4 m2;have lm:(ws.map Val.int).length<=16777216:=by rw[o_];omega
 refine aE (wlI (n+50) m w) ⟨[.mu v5,.sh (.int w),.sh (.int (m:Nat)),.ow (liV ws)],by unfold liV;generalize ws.map Val.int=wv at *;generalize rgV m=gv at *;simp![rg,bN,kd,lc,lm],v5,ws,f5.mono (by omega),l5,h5,rfl⟩ ?_;rintro _ ⟨v6,w6,f6,l6,h6,rfl⟩;refine jG (wlI (n+50) m w) ?_ ?_
 .by_cases hw:0<w
  .exact .inr ⟨by simp![hw],[.mu v6,.sh (.int w),.sh (.int (m:Nat)),.ow (liV (List.replicate m 1))],vw (cD m (by omega)),v6,_,f6,by rw[D6],λw hw=>by rw[(EV.mp hw).2];decide,rfl⟩
  .exact .inl ⟨by simp![hw],v6,w6,f6,l6,h6,rfl⟩
 rintro _ ⟨v7,w7,f7,l7,h7,rfl⟩;refine jG (wlI (n+60) m w) ?_ ?_
 .by_cases hw:w=2\/w=3
  .obtain⟨p,u1,g1,k1,p0,p1⟩:=aW (m:=30) f7 (by omega) (by decide) (sm8 (by decide));obtain⟨q,u2,g2,k2,q0,q1⟩:=aW (m:=(m:Nat)) k1 (by omega) (by omega) (sm8 (by omega));have ix:=n4 (n:=w7.length) q0 (by omega);have st:(w7.map Val.int).set q.toNat (.int (2+p))=(w7.set q.toNat (2+p)).map Val.int:=by rw[List.map_set]
   have ll:((w7.map Val.int).length:Nat)=w7.length:=o_ ..;refine .inr ⟨by rcases hw with rfl |rfl <;> rfl,[.mu u2,.sh (.int w),.sh (.int (m:Nat)),.ow (liV (w7.set q.toNat (2+p)))],?_,u2,_,k2.mono (by omega),by rw[y_];exact l7,iO h7 (by omega),rfl⟩;unfold liV;rw[<- st];generalize w7.map Val.int=wv at *;simp![g1,g2,jI,ll,ix]
  .refine .inl ⟨?_,v7,w7,f7.mono (by omega),l7,h7,rfl⟩;have:w=0\/w=1\/w=4\/w=5:=by omega
   rcases this with rfl |rfl |rfl |rfl <;> rfl
 rintro _ ⟨v8,w8,f8,l8,h8,rfl⟩;have pw:=p30;refine jG (wlI (n+100) m w) ?_ ?_
 .by_cases hw:w=4
  .obtain⟨x,u1,g1,k1,x0⟩:=pX f8 (by omega);have md:=md30 x;have mr:=cA (a:=x) (m:=999999999999999999999999999999) (by decide);have ix:=n4 (n:=w8.length) (z:=0) (by decide) (by omega);have ll:((w8.map Val.int).length:Nat)=w8.length:=o_ ..;generalize hy:x.fmod 999999999999999999999999999999=y at *;have st:(w8.map Val.int).set (0:Int).toNat (.int (1+y))=(w8.set 0 (1+y)).map Val.int:=by rw[List.map_set];rfl
   refine .inr ⟨by subst hw;rfl,[.mu u1,.sh (.int w),.sh (.int (m:Nat)),.ow (liV (w8.set 0 (1+y)))],?_,u1,_,k1.mono (by omega),by rw[y_];exact l8,iO h8 (by omega),rfl⟩;unfold liV;rw[<- st];generalize w8.map Val.int=wv at *;simp![g1,pw,md,jI,ll,ix]
  .have:(w==4)=false:=by rw[D2];exact hw
   exact .inl ⟨by simp![this],v8,w8,f8.mono (by omega),l8,h8,rfl⟩
 rintro _ ⟨v9,w9,f9,l9,h9,rfl⟩;refine jG (wlI (n+1000) m w) ?_ ?_
 .by_cases hw:w=5
  .obtain⟨ws,u1,s1,l1,h1,k1,lc⟩:=j8 (n:=n+100) (c:=6) (m:=m) (v:=v9) (F:=(pOp aB (ah 1) (pOp bC (az bz (ag (af 1) (ag (ah 6) ai))) (pOp bg (pOp eW (ah 10) (ah 30)) (ah 1)))).G) (λi v x f hi=>by obtain⟨r,v',e,f',h0⟩:=pX f (by omega);have md:=md30 r;have mr:=cA (a:=r) (m:=999999999999999999999999999999) (by decide);generalize r.fmod 999999999999999999999999999999=y at *;exact⟨1+y,v',by simp![e,pw,md],by rw[show n+100+6*(i+1)=n+100+6*i+6 by omega];exact f',by omega⟩) f9 m2;have lm:(ws.map Val.int).length<=16777216:=by rw[o_];omega
   refine .inr ⟨by subst hw;rfl,[.mu u1,.sh (.int w),.sh (.int (m:Nat)),.ow (liV ws)],?_,u1,ws,k1.mono (by omega),l1,h1,rfl⟩;unfold liV;generalize ws.map Val.int=wv at *;generalize w9.map Val.int=w0 at *;generalize rgV m=gv at *;simp![rg,bN,kd,lc,lm]
  .have:(w==5)=false:=by rw[D2];exact hw
   exact .inl ⟨by simp![this],v9,w9,f9.mono (by omega),l9,h9,rfl⟩
 rintro _ ⟨v10,ws,f10,l10,h10,rfl⟩;refine⟨ws,v10,f10,⟨by omega,by omega,h10⟩,?_⟩;generalize liV ws=wv at *;simp![cW]
def tR(ws:List Int):L3.flatC (liV ws)=true:=by
 show L3.flatVs (ws.map Val.int)=true;induction ws with
 |nil=>rfl
 |cons w ws ih=>rw[z_,lF,ih];rfl
def stQ(n:Nat)(ws:List Int)(x0 x2 x4 x8:Sl)(r:SR3):Prop:=∃v' s5 s6 s7,Fd (n+2) v'/\s5.pl=true/\s6.pl=true/\s7.pl=true/\r=.nx [x0,.ow v',x2,.sh (liV (beh ws)),x4,s5,s6,s7,x8]
def ip{n:Nat}{v:Val}{ws:List Int}{x0 x2 x4 x5 x6 x7 x8:Sl}(f:Fd n v)(hn:n<=1000000)(W:W40 ws)(h5:x5.pl=true)(h6:x6.pl=true)(h7:x7.pl=true):stQ n ws x0 x2 x4 x8 (j7.G [x0,.ow v,x2,.sh (liV ws),x4,x5,x6,x7,x8]):=by
 have wp:=W.pos;have wl:=W.len;have W2:=W.beh;have l2:=W2.len;have b1:=fc W;have rt:=tw W2;have ib:=pe W;have fb:=tR (beh ws);have e1:=eqT (rfl:ws=ws);have e2:=eqT (rfl:beh ws=beh ws);have lw:(ws.map Val.int).length<=16777216:=by rw[o_];omega
 have lb:((beh ws).map Val.int).length<=16777216:=by rw[o_];omega
 have lb':((beh ws).map Val.int).length<16777216:=by rw[o_];omega
 unfold j7;refine aE (λe=>e=[x0,.ow v,x2,.sh (liV ws),x4,.ow (liV ws),x6,x7,x8]) ⟨_,by unfold liV at *;generalize ws.map Val.int=wv at *;simp![h5,lw],rfl⟩ ?_;rintro _ rfl;refine aE (λe=>e=[x0,.ow v,x2,.sh (liV ws),x4,.ow (liV ws),.ow (liV (beh ws)),x7,x8]) ⟨_,by generalize liV (beh ws)=bv at *;generalize liV ws=wv at *;simp![h6,b1,fb],rfl⟩ ?_;rintro _ rfl;refine cK (by generalize liV (beh ws)=bv at *;generalize liV ws=wv at *;simp![e1,rt,ib]) ?_;refine aE (λe=>e=[x0,.ow v,x2,.sh (liV ws),x4,.ow (liV ws),.ow (liV (beh ws)),.ow (liV (beh ws)),x8]) ⟨_,by unfold liV at *;generalize (beh ws).map Val.int=bv at *;generalize ws.map Val.int=wv at *;simp![h7,lb],rfl⟩ ?_;rintro _ rfl;refine aE (λe=>e=[x0,.ow v,x2,.sh (liV ws),x4,.ow (liV ws),.ow (.lst ((beh ws).map Val.int++[.int 0])),.ow (liV (beh ws)),x8]) ⟨_,by unfold liV at *;generalize (beh ws).map Val.int=bv at *;generalize ws.map Val.int=wv at *;simp![lb'],rfl⟩ ?_;rintro _ rfl;generalize (beh ws).map Val.int++[.int 0]=junk at *;refine cK (by generalize liV (beh ws)=bv at *;generalize liV ws=wv at *;simp![b1,fb,e2]) ?_;obtain⟨q,v1,g1,k1,q0,q1⟩:=aW (m:=9) f (by omega) (by decide) (sm8 (by decide));obtain⟨p,v2,g2,k2,p0,p1⟩:=aW (m:=(ws.length:Nat)) k1 (by omega) (by omega) (sm8 (by omega));have ix:=n4 (n:=ws.length) p0 p1;have st:(ws.map Val.int).set p.toNat (.int (1+q))=(ws.set p.toNat (1+q)).map Val.int:=by rw[List.map_set]
 have ll:((ws.map Val.int).length:Nat)=ws.length:=o_ ..;have W3:W40 (ws.set p.toNat (1+q)):=⟨by rw[y_];exact wp,by rw[y_];exact wl,iO W.one (by omega)⟩;refine aE (λe=>e=[x0,.ow v2,x2,.sh (liV ws),x4,.ow (liV (ws.set p.toNat (1+q))),.ow (.lst junk),.ow (liV (beh ws)),x8]) ⟨_,by unfold liV;rw[<- st];generalize (beh ws).map Val.int=bv at *;generalize ws.map Val.int=wv at *;simp![g1,g2,jI,ll,ix],rfl⟩ ?_;rintro _ rfl;have b3:=fc W3;have f3:=tR (beh (ws.set p.toNat (1+q)));have i3:=pe W3;refine cK (by generalize liV (beh (ws.set p.toNat (1+q)))=b3 at *;generalize liV (ws.set p.toNat (1+q))=w3 at *;generalize liV (beh ws)=bv at *;generalize liV ws=wv at *;simp![b3,f3,i3]) ?_;refine⟨v2,.ow (liV (ws.set p.toNat (1+q))),.ow (.lst junk),.sh (liV (beh ws)),k2,rfl,rfl,rfl,?_⟩;generalize liV (ws.set p.toNat (1+q))=w3 at *;generalize liV (beh ws)=bv at *;generalize liV ws=wv at *;simp![ez]
def rg3:cP [.int 3]=some [.int 0,.int 1,.int 2]:=d4 (k:=3) (by decide)
def boQ(n:Nat)(x0 x2 x8:Sl)(r:SR3):Prop:=∃v' s3 s4 s5 s6 s7,Fd (n+1010) v'/\s3.pl=true/\s4.pl=true/\s5.pl=true/\s6.pl=true/\s7.pl=true/\r=.nx [x0,.ow v',x2,s3,s4,s5,s6,s7,x8]
def vd{n:Nat}{v:Val}{x0 x2 x3 x4 x5 x6 x7 x8:Sl}(f:Fd n v)(hn:n<=100000)(h3:x3.pl=true)(h4:x4.pl=true)(h5:x5.pl=true)(h6:x6.pl=true)(h7:x7.pl=true):boQ n x0 x2 x8 (g0.G [x0,.ow v,x2,x3,x4,x5,x6,x7,x8]):=by obtain⟨ws,v1,f1,W,e1⟩:=nC f (by omega);unfold g0;refine aE (λe=>e=[x0,.ow v1,x2,.sh (liV ws),x4,x5,x6,x7,x8]) ⟨_,by generalize liV ws=wv at *;simp![e1,h3],rfl⟩ ?_;rintro _ rfl;obtain⟨v2,a5,a6,a7,f2,p5,p6,p7,s1⟩:=ip (x0:=x0) (x2:=x2) (x4:=.sh (.int 0)) (x8:=x8) f1 (by omega) W h5 h6 h7;obtain⟨v3,b5,b6,b7,f3,q5,q6,q7,s2⟩:=ip (x0:=x0) (x2:=x2) (x4:=.sh (.int 1)) (x8:=x8) f2 (by omega) W.beh p5 p6 p7;obtain⟨v4,c5,c6,c7,f4,r5,r6,r7,s3⟩:=ip (x0:=x0) (x2:=x2) (x4:=.sh (.int 2)) (x8:=x8) f3 (by omega) W.beh.beh q5 q6 q7;refine⟨v4,.sh (liV (beh (beh (beh ws)))),.sh (.int 2),c5,c6,c7,f4.mono (by omega),rfl,rfl,r5,r6,r7,?_⟩;generalize liV (beh (beh (beh ws)))=w4 at *;generalize liV (beh (beh ws))=w3 at *;generalize liV (beh ws)=w2 at *;generalize liV ws=w1 at *;simp![rg3,dg,lX,h4,s1,s2,s3]
def trL:Nat->List Int->List (List Int)
 |0,_=>[]
 |k+1,ws=>beh ws::trL k (beh ws)
def nq:Nat->List Int->Bool
 |0,ws=>!decide (ws.sum<7)
 |k+1,ws=>decide (ws.sum<7)&&nq k (beh ws)
theorem lV:∀(k:Nat) (ws:List Int),(trL k ws).length=k
 |0,_=>rfl
 |k+1,ws=>by rw[trL,DR,lV k]
theorem tL{x0 x1 x2 x4 x5 x6 x8:Sl}:∀(k:Nat) (ws:List Int) (acc:List Val),W40 ws->nq k ws=true->acc.length+k<=1000->∃w',(xWh (qOf (pOp bLt (pFn aA (ag (af 3) ai)) (ah 7))) eV).G [x0,x1,x2,.sh (liV ws),x4,x5,x6,.ow (.lst acc),x8]=.nx [x0,x1,x2,.sh w',x4,x5,x6,.ow (.lst (acc++(trL k ws).map liV)),x8]
 |
  0,ws,acc,W,h,_=>by
  have sw:=bw ws 0;rw[D8,D8] at sw;have hs:¬ ws.sum<7:=by rw[nq,Fm,decide_eq_false_iff_not] at h;exact h
  refine⟨liV ws,?_⟩;rw[x_wh,trL,List.map_nil,Fb];unfold liV at *;generalize ws.map Val.int=wv at *;generalize aA=fs at *;simp![sw,hs]
 |
  k+1,ws,acc,W,h,hl=>by
  have sw:=bw ws 0;rw[D8,D8] at sw;rw[nq,t_,decide_eq_true_iff] at h;have b1:=fc W;obtain⟨w',ih⟩:=tL (x0:=x0) (x1:=x1) (x2:=x2) (x4:=x4) (x5:=x5) (x6:=x6) (x8:=x8) k (beh ws) (acc++[liV (beh ws)]) W.beh h.2 (by rw[DY,Fu];omega);refine⟨w',?_⟩;rw[trL,z_];rw[E1] at ih;rw[show acc++liV (beh ws)::(trL k (beh ws)).map liV=acc++([liV (beh ws)]++(trL k (beh ws)).map liV) from rfl,<- ih];have al:acc.length<16777216:=by omega
  have bd:eV.G [x0,x1,x2,.sh (liV ws),x4,x5,x6,.ow (.lst acc),x8]=.nx [x0,x1,x2,.sh (liV (beh ws)),x4,x5,x6,.ow (.lst (acc++[liV (beh ws)])),x8]:=by unfold eV;generalize liV (beh ws)=bv at *;generalize liV ws=wv at *;simp![b1,al]
  have tt:(qOf (pOp bLt (pFn aA (ag (af 3) ai)) (ah 7))).G [x0,x1,x2,.sh (liV ws),x4,x5,x6,.ow (.lst acc),x8]=.ok true [x0,x1,x2,.sh (liV ws),x4,x5,x6,.ow (.lst acc),x8]:=by unfold liV at *;generalize ws.map Val.int=wv at *;generalize aA=fs at *;simp![sw,h.1]
  rw[x_wh,tt];show (eV.G _).loop _=_;rw[bd];rfl
def wg{x:List (List Int)}(h:∀ws∈x,ws.length<=1000)(hl:x.length<=1000):∃s,lcV (gtN 0).G qY.G (jW (ag (pFn aA (ag (af 0) ai)) (ag (pFn bf (ag (af 0) ai)) (ag (af 0) ai)))).G (x.map liV) [] [.no]=.ok ((x.map λws=>(ws.sum,ws)).map trV) [s]:=by
 obtain⟨e',⟨s,rfl,_⟩,lc⟩:=eJ (g:=(gtN 0).G) (F:=(jW (ag (pFn aA (ag (af 0) ai)) (ag (pFn bf (ag (af 0) ai)) (ag (af 0) ai)))).G) liV (λws=>trV (ws.sum,ws)) (λe=>∃s:Sl,e=[s]/\s.pl=true) x [] [.no] ⟨.no,rfl,rfl⟩ (by
  rintro ws hw _ ⟨s,rfl,hs⟩;have sw:=bw ws 0;rw[D8,D8] at sw;have ll:((ws.map Val.int).length:Nat)=ws.length:=o_ ..;refine⟨[.sh (liV ws)],.val (trV (ws.sum,ws)),[.sh (liV ws)],?_,?_,rfl,_,rfl,rfl⟩
  .generalize liV ws=wv at *;simp![hs]
  .unfold liV trV;dsimp only;generalize ws.map Val.int=wv at *;generalize aA=fs at *;simp![sw,ll]) (by rw[EG];omega)
 rw[Et] at lc;refine⟨s,?_⟩;rw[List.map_map];exact lc
def CV(ks:List Trp):bU (.lst (ks.map trV)) (.lst (ks.map trV))=some true:=by
 have:wfV 60 (.lst (ks.map trV))=true:=by show bL 59 (ks.map trV)=true;rw[er,List.all_map,D4];intro k _;show (true&&(true&&(bL 57 (k.2.map Val.int)&&true)))=true;rw[er,List.all_map,Bool.true_and,Bool.true_and,Bool.and_true,D4];intro _ _;rfl
 rw[uu this this,mj 60 _ this]
def lawQ(r:SR3):Prop:=fY [false] r=.ok (.val (.bl true)) []
def lwI(ns:List Int)(i:Nat)(e:E3):Prop:=∃v s2 s3 s4 s5 s6 s7,Fd (1010*i) v/\s2.pl=true/\s3.pl=true/\s4.pl=true/\s5.pl=true/\s6.pl=true/\s7.pl=true/\e=[.sh (.kl (ns.map .int)),.ow v,s2,s3,s4,s5,s6,s7,.no]
def W1:W40 [1]:=⟨by decide,by decide,λw hw=>by rw[Ei.mp hw];decide⟩
def cx:List (List Int):=[1]::trL 63 [1]
def vG:cx.length=64:=by unfold cx;rw[DR,lV]
def pf:∀ws∈cx,ws.length<=1000:=λws hw=>by
 have:cx.all (λws=>decide (ws.length<=1000))=true:=by decide
 exact Fp (D4.mp this ws hw)
def xm:upB (cx.map λws=>(ws.sum,ws))=true:=by decide
def uN:¬ (64:Nat)<minRun' 64 64 0:=by rw[show minRun' 64 64 0=32 from by rw[minRun'_succ,if_neg (by decide),minRun'_succ,if_pos (by decide)];decide];decide
def zc(ns:List Int)(hl:ns.length<=63):jy.G [.kl (ns.map .int)]=.ok (.val (.bl true)) []:=by
 obtain⟨v,e1,f⟩:=uG hl;have ll:((ns.map Val.int).length:Nat)=ns.length:=o_ ..;unfold jy;rw[eA rfl];show lawQ (mQ.G [.sh (.kl (ns.map .int)),.no,.no,.no,.no,.no,.no,.no,.no]);unfold mQ;refine aE (λe=>e=[.sh (.kl (ns.map .int)),.ow v,.no,.no,.no,.no,.no,.no,.no]) ⟨_,by simp![e1],rfl⟩ ?_;rintro _ rfl;obtain⟨e',⟨v',s2,s3,s4,s5,s6,s7,f',h2,h3,h4,h5,h6,h7,rfl⟩,lo⟩:=qX (g:=(gtN 2).G) (B:=g0.G) (lwI ns) (3+min 12 ns.length) (e:=[.sh (.kl (ns.map .int)),.ow v,.no,.no,.no,.no,.no,.no,.no]) ⟨v,.no,.no,.no,.no,.no,.no,f,rfl,rfl,rfl,rfl,rfl,rfl,rfl⟩ (by rintro i hi _ ⟨v,s2,s3,s4,s5,s6,s7,f,h2,h3,h4,h5,h6,h7,rfl⟩;obtain⟨v',t3,t4,t5,t6,t7,f',g3,g4,g5,g6,g7,q⟩:=vd (x0:=.sh (.kl (ns.map .int))) (x2:=.sh (.int (i:Nat))) (x8:=.no) f (by omega) h3 h4 h5 h6 h7;refine⟨_,_,?_,.inl q,v',_,t3,t4,t5,t6,t7,by rw[show 1010*(i+1)=1010*i+1010 by omega];exact f',rfl,g3,g4,g5,g6,g7,rfl⟩;simp![h2]);have rg:cP [.int ((3+min 12 ns.length:Nat):Int)]=some (rgV (3+min 12 ns.length)):=d4 (by omega);have mn:((3:Int)+if ((ns.length:Nat):Int)<12 then ((ns.length:Nat):Int) else 12)=((3+min 12 ns.length:Nat):Int):=by split <;> omega
 rw[<- mn] at rg;refine aE (λe=>e=[.sh (.kl (ns.map .int)),.ow v',s2,s3,s4,s5,s6,s7,.no]) ⟨_,by generalize rgV (3+min 12 ns.length)=gv at *;simp![ll,rg,lo],rfl⟩ ?_;rintro _ rfl;refine aE (λe=>e=[.sh (.kl (ns.map .int)),.ow v',s2,.sh (liV [1]),s4,s5,s6,.ow (.lst [liV [1]]),.no]) ⟨_,by rw[yE,show liV [1]=.lst [.int 1] from rfl];simp![h3,h7],rfl⟩ ?_;rintro _ rfl;obtain⟨w',wo⟩:=tL (x0:=.sh (.kl (ns.map .int))) (x1:=.ow v') (x2:=s2) (x4:=s4) (x5:=s5) (x6:=s6) (x8:=.no) 63 [1] [liV [1]] W1 (by decide) (by decide);rw[show [liV [1]]++(trL 63 [1]).map liV=cx.map liV from rfl] at wo;refine aE (λe=>e=[.sh (.kl (ns.map .int)),.ow v',s2,.sh w',s4,s5,s6,.ow (.lst (cx.map liV)),.no]) ⟨_,wo,rfl⟩ ?_;rintro _ rfl;have ln:=vG;obtain⟨s,lc⟩:=wg pf (by omega);have lk:((cx.map λws=>(ws.sum,ws)).map trV).length<=16777216:=by rw[o_,o_];omega
 have kl:(cx.map λws=>(ws.sum,ws)).length=64:=by rw[o_];exact ln
 have ks:=xb (cx.map λws=>(ws.sum,ws)) xm (by omega) (by omega) (by rw[kl];exact uN);have ee:=CV (cx.map λws=>(ws.sum,ws));have l64:(((cx.map liV).length:Nat):Int)=64:=by rw[o_];omega
 generalize (cx.map λws=>(ws.sum,ws)).map trV=rv at *;generalize cx.map liV=av at *;have lu:unlock (lock [.sh (.kl (ns.map .int)),.ow v',s2,.sh w',s4,s5,s6,.ow (.lst av),.no] 7) 7=[.sh (.kl (ns.map .int)),.ow v',s2,.sh w',s4,s5,s6,.ow (.lst av),.no]:=rfl;refine aE (λe=>e=[.sh (.kl (ns.map .int)),.ow v',s2,.sh w',s4,s5,s6,.ow (.lst av),.sh (.lst rv)]) ⟨_,by simp![bN,inS,lc,lk,lu],rfl⟩ ?_;rintro _ rfl;unfold lawQ;generalize fM=fs at *;simp![l64,ks,ee,cW]
end KK
namespace PySem.W.Fast
def q__:=trivial
def tw10033742996398444071:=q__
def tw10164500891395871450:=q__
def tw10351982736986863903:=q__
def tw10465271634567262173:=q__
def tw10929695927892580363:=q__
def tw10964352980351204845:=q__
def tw11362076876398221524:=q__
def tw11642534216359819450:=q__
def tw11669479092427476711:=q__
def tw11785572776870172255:=q__
def tw11869186653351916198:=q__
def tw12072328474769326210:=q__
def tw12088629912224873295:=q__
def tw121064828248683241:=q__
def tw12291382514140475170:=q__
def tw12317500116166518919:=q__
def tw12675031432039121188:=q__
def tw12791887218940022999:=q__
def tw12941555102503603067:=q__
def tw13067917367275081544:=q__
def tw13199352819183638201:=q__
def tw13451483893017285177:=q__
def tw13475692227091675560:=q__
def tw13477629859028841267:=q__
def tw13563132769483063015:=q__
def tw13577731832828698294:=q__
def tw13658861036003300370:=q__
def tw13790569246683741468:=q__
def tw14021409047981344033:=q__
def tw14304649938294028634:=q__
def tw14724824521615457061:=q__
def tw14766563930833346994:=q__
def tw14788253858533137660:=q__
def tw15249292602596376164:=q__
def tw15333800068917286738:=q__
def tw15538284578027941098:=q__
def tw156638157300142139:=q__
def tw1618893352201867096:=q__
def tw16348434287699269637:=q__
def tw16560190254068567880:=q__
def tw16684258901367175783:=q__
def tw16704768157047115370:=q__
def tw17161815500767162057:=q__
def tw17162080820804371191:=q__
def tw17341731907967339498:=q__
def tw17412795639656447698:=q__
def tw17488036764354344250:=q__
def tw1756355916173727906:=q__
def tw17599329329511785785:=q__
def tw17642343709090214149:=q__
def tw18049314376688428740:=q__
def tw18272168203036815599:=q__
def tw18294791617921843799:=q__
def tw1993151603664390250:=q__
def tw203271261433255078:=q__
def tw2401360091471641052:=q__
def tw2409985826595324990:=q__
def tw2539310464463412924:=q__
def tw2652254218061436094:=q__
def tw2684972926423182225:=q__
def tw2869407916216097319:=q__
def tw2874332010757585588:=q__
def tw3117561934345579703:=q__
def tw313291550514521010:=q__
def tw3161584880291272611:=q__
def tw3200229540664780450:=q__
def tw3256675045102392652:=q__
def tw3332654114844426152:=q__
def tw3419747419007559042:=q__
def tw3495744777774426451:=q__
def tw3565013424576223656:=q__
def tw3725035405176636122:=q__
def tw3835986109250646804:=q__
def tw4016943538323257261:=q__
def tw422825396601393780:=q__
def tw4335060847627932155:=q__
def tw4650150908768324634:=q__
def tw4684871972127997457:=q__
def tw4886656120368185837:=q__
def tw4947257064395418582:=q__
def tw5005237386152203318:=q__
def tw5035807558144565831:=q__
def tw5147514982730528380:=q__
def tw5185070736205540238:=q__
def tw5580669811018615059:=q__
def tw5723747197211344670:=q__
def tw6188537512160055645:=q__
def tw6275594112878876464:=q__
def tw6289684402994456337:=q__
def tw6745269111039768015:=q__
def tw7383286905288610422:=q__
def tw7681616213264546756:=q__
def tw7698547105774396390:=q__
def tw770155095948143865:=q__
def tw7772814814038012192:=q__
def tw7807191359388337173:=q__
def tw8007867149904794428:=q__
def tw8184777685506035230:=q__
def tw8364781553899610328:=q__
def tw8393620468534298282:=q__
def tw8400333204732810403:=q__
def tw8435189941830467634:=q__
def tw8468602562898832717:=q__
def tw8477819955015641754:=q__
def tw8502579623062738717:=q__
def tw8594433707069402014:=q__
def tw8805560386931905847:=q__
def tw8960554149292559911:=q__
def tw9084776898900173264:=q__
def tw9251703571312784073:=q__
def tw9323958962230901695:=q__
def tw9483551975945932127:=q__
def tw9584793852140212439:=q__
def tw9596465129763492857:=q__
def tw9672376856999315798:=q__
def tw9718041221951094153:=q__
def tw9734180920077676729:=q__
def tw9767017847450438457:=q__
def tw9873134839869797057:=q__
def tw9953655374697794123:=q__
def tw9991511413713869847:=q__
end PySem.W.Fast
open PySem PySem.W PyProof.Rows L2 L3 KK
set_option maxRecDepth 100000 in
set_option maxHeartbeats 0 in
theorem PySem.Challenge.cw_weightrooms_k61_the_list_behind_holds : PySem.Challenge.rw_weightrooms_k61_the_list_behind.Holds := by
 w_on;o_law;k_head;(case hw=>w_witness2)
 k_fill
 refine L2.walk_lawD (l:=PySem.Challenge.rw_weightrooms_k61_the_list_behind) (x:="_law_script") (k:=5) rfl rfl ⟨rfl,by decide,by decide⟩ (λw h Y=>W.kIn_of Y) ?F ?D
 case F=>
  intro w mg h KX G base kb nb;refine qu (vJ ⟨Bl KX G (by kernel_rfl),?_⟩) (yR KX G (by kernel_rfl)) (law3 jy rfl zc);repeat first
   |exact trivial
   |refine⟨by refine' pW KX G ?a ?l ?c ?k;(case a=>k_is);(case l=>k_is);(case c=>k_is);(case k=>k_is),?_⟩
 case D=>
  intro w mg h KX G;refine⟨top 20,?_,(λ_ _ _ _ _ _=>ar1 λ_=>rfl)⟩;refine' pW KX G ?a ?l ?c ?k;case a|l|c|k=>k_is
