import PyProof.Rows.All
import Wide.All
import OpenK.AllK
import Wide.FinOn
import Lean
import PyProof.EqAt
import PyProof.EqKinds
import PyProof.TupleCall
import PyProof.NeKinds
import PyProof.Draws
import PyProof.ZipIter
import PyProof.DictUpdate
import PyProof.AutoSeq1
import PyProof.ListRange
import PyProof.ListMulRoad
import PyProof.FactsAll.tuple_2
import PyProof.Rows.SortShell
import PyProof.EnumFor
import PyProof.EnumMake
import PyProof.EnumStmt
import PyProof.Rows.SortWalk
import KE.KDictList
import PyProof.SumAny
import PyProof.ConsumeWalk
import PyProof.WalksMore
import PyProof.Rows.TupAssign
import PyProof.ExcArgsOwn
import PySem.Challenge.RW_kindleweb_k98_whole_refusals_apart
set_option Elab.async false
set_option linter.all false
set_option maxRecDepth 100000
set_option maxHeartbeats 4000000
section
open PySem PySem.Spec PyProof.Rows
noncomputable def be2:=@wpAny_bind
noncomputable def be4:=@Heap.get?_push_of_some
noncomputable def be5:=@List.size_toArray
noncomputable def be6:=@wpAny_pure
noncomputable def be7:=@Nat.le_refl
noncomputable def be8:=@List.mem_cons
noncomputable def be9:=@List.length_map
noncomputable def bf0:=@Heap.get?_push_size
noncomputable def bf1:=@List.not_mem_nil
noncomputable def bf2:=@Nat.lt_of_lt_of_le
noncomputable def bf3:=@List.getElem?_eq_getElem
noncomputable def bf4:=@Heap.lt_size
noncomputable def bf7:=@List.getElem?_eq_some_iff
noncomputable def bg1:=@decide_eq_false
noncomputable def bg8:=@List.length_append
noncomputable def bg9:=@List.getElem?_map
noncomputable def bh4:=@Bool.false_ne_true
noncomputable def bh5:=@List.mem_singleton
noncomputable def bh6:=@Nat.ne_of_lt
noncomputable def bh8:=@List.getElem?_set_ne
noncomputable def bh9:=@Option.some.inj
noncomputable def bi1:=@wpAny_field
noncomputable def bi2:=@or_false
noncomputable def bi3:=@List.getD_eq_getElem?_getD
noncomputable def bi4:=@PySem.F.excBase_ValueError
noncomputable def bi5:=@List.mem_append_right
noncomputable def bi7:=@Bool.false_eq_true
noncomputable def bi8:=@wpAny_newObj_type
noncomputable def bi9:=@List.map_append
noncomputable def bj0:=@List.mem_cons_self
noncomputable def bj1:=@decide_eq_true
noncomputable def bj2:=@List.take_length
noncomputable def bj3:=@List.mem_cons_of_mem
noncomputable def bj4:=@wpAny_callSpecial?_slot
noncomputable def bj5:=@Nat.le_trans
noncomputable def bj6:=@PyProof.Rows.callWith_type1
noncomputable def bj7:=@List.take_add_one
noncomputable def bj8:=@wpAny_call_entry
noncomputable def bj9:=@Nat.lt_irrefl
noncomputable def bk2:=@wpAny_mono
noncomputable def bk3:=@PySem.mem_of_lookup
noncomputable def bk7:=@List.lookup_cons
noncomputable def bk9:=@Array.length_toList
noncomputable def bl0:=@List.replicate_succ
noncomputable def bl2:=@Nat.le_add_right
noncomputable def bl4:=@Nat.ne_of_gt
noncomputable def bl6:=@wpAny_setField_rec
noncomputable def bm2:=@Bool.and_eq_true
noncomputable def bm3:=@List.length_cons
noncomputable def bm4:=@beq_self_eq_true
noncomputable def bm6:=@Nat.le_of_lt
noncomputable def bm7:=@List.getElem?_set_self
noncomputable def bm8:=@Obj.data_mapFields
noncomputable def bm9:=@List.append_nil
noncomputable def bn0:=@List.length_set
noncomputable def bn5:=@List.map_cons
noncomputable def bn6:=@beq_eq_false_iff_ne
noncomputable def bn7:=@List.flatten_cons
noncomputable def bn9:=@List.getElem?_cons_succ
noncomputable def bo1:=@Nat.zero_le
noncomputable def bo2:=@List.mem_of_getElem?
noncomputable def bo7:=@Heap.get?_update_other
noncomputable def bo8:=@Array.getElem?_eq_getElem
noncomputable def bp0:=@List.length_singleton
noncomputable def bp1:=@Heap.get?_update_self
noncomputable def bp3:=@Heap.size_push
noncomputable def bp4:=@wpAny_comprehension_free
noncomputable def bp5:=@Bool.eq_iff_iff
noncomputable def bp7:=@List.find?_cons
noncomputable def bp9:=@List.length_take
noncomputable def bq0:=@if_false
noncomputable def bq1:=@List.all_eq_true
noncomputable def bq3:=@call_meets
noncomputable def bq5:=@isSubtype_type
noncomputable def bq9:=@PyProof.Rows.slot_tuple_getitem
noncomputable def br0:=@builtinLookup_eq_fast
noncomputable def br1:=@wpAny_pyIter_tuple
noncomputable def br4:=@wpAny_attempt
noncomputable def br8:=@wpAny_setField
noncomputable def br9:=@wpAny_truthy_bool
noncomputable def bs0:=@List.length_range
noncomputable def bs1:=@decide_eq_true_eq
noncomputable def bs2:=@PySem.F.plainAttrs_list
noncomputable def bs3:=@List.mem_append
noncomputable def bs4:=@F.slot_int_rmul
noncomputable def bs9:=@Array.getElem?_eq_none
noncomputable def bt1:=@sizeLine_eq
noncomputable def bt2:=@wpAny_of_eq
noncomputable def bt5:=@wpAny_Call_Name_kw
noncomputable def bt7:=@wpAny_seqItems
noncomputable def bt8:=@Array.getElem?_eq_some_iff
noncomputable def bu0:=@Array.getElem?_toList
noncomputable def bu1:=@Obj.isFreed_of_fields
noncomputable def bu2:=@wpAny_execs_nil
noncomputable def bu3:=@wpAny_passesOwn
noncomputable def bu5:=@PassesOwn.never
noncomputable def bu6:=@codeAny_builtin
noncomputable def bv4:=@List.mem_map
noncomputable def bv6:=@wpAny_holding
noncomputable def bw0:=@Bool.and_false
end
noncomputable abbrev ao:=PySem.Value
noncomputable abbrev aq:=PySem.Shared
noncomputable abbrev ar:=PySem.Addr
noncomputable abbrev av:=PySem.Program
noncomputable abbrev aw:=PySem.Around
noncomputable abbrev ax:=PySem.World
noncomputable abbrev aa:=List (Int×Int)
noncomputable abbrev ac:=PySem.W.Frag
noncomputable abbrev ad:=List (List Int)
noncomputable abbrev ae:=List Int
namespace L2
open PySem PySem.Spec PyProof.Rows
noncomputable abbrev aH:=Sum Int Str
noncomputable def l9:aH->ao->Bool
 |.inl k,v=>Value.isInt k v
 |.inr x,v=>Value.isStrOf x v
noncomputable def Z9 (w:ax):aH->Int
 |.inl k=>hashInt k
 |.inr x=>hashStr w x
theorem gZ:∀{k:aH}{v:ao},l9 k v=true->(∃i t,k=Sum.inl i/\v=Value.int i t)∨(∃x t,k=Sum.inr x/\v=Value.str x t)
 |.inl i,v,h=>by
  obtain⟨t,e⟩:=Value.isInt_shape (k:=i) (v:=v) h
  exact .inl ⟨i,t,rfl,e⟩
 |.inr x,v,h=>by
  obtain⟨t,e⟩:=Value.isStrOf_shape (x:=x) (v:=v) h
  exact .inr ⟨x,t,rfl,e⟩
theorem aa0 (i:Int)(t:Tok):l9 (.inl i) (.int i t)=true:=by simp[l9,Value.isInt]
theorem wX (x:Str)(t:Tok):l9 (.inr x) (.str x t)=true:=by simp[l9,Value.isStrOf]
theorem aa1 (a b:Int):decide ((Sum.inl a:aH)=Sum.inl b)=(a==b):=by
 by_cases e:a=b
 ·subst e;simp
 ·have h:¬(Sum.inl a:aH)=Sum.inl b:=λq=>e (Sum.inl.inj q)
  rw[bg1 h];exact (bn6.mpr e).symm
theorem aa2 (a b:Str):decide ((Sum.inr a:aH)=Sum.inr b)=decide (a=b):=by
 by_cases e:a=b
 ·subst e;simp
 ·have h:¬(Sum.inr a:aH)=Sum.inr b:=λq=>e (Sum.inr.inj q)
  rw[bg1 h,bg1 e]
theorem aa3 (a:Int)(b:Str):decide ((Sum.inl a:aH)=Sum.inr b)=false:=bg1 (λq=>nomatch q)
theorem aa4 (a:Str)(b:Int):decide ((Sum.inr a:aH)=Sum.inl b)=false:=bg1 (λq=>nomatch q)
noncomputable def cT (prog:av)(w:ax):PySem.KeyKind prog w aH where
 is:=l9
 hash:=Z9 w
 inj:=λv a b ha hb=>by
  rcases gZ ha with⟨i,t,rfl,rfl⟩|⟨x,t,rfl,rfl⟩
  ·rcases gZ hb with⟨j,u,rfl,e⟩|⟨y,u,rfl,e⟩
   ·injection e with e1 _;rw[e1]
   ·exact nomatch e
  ·rcases gZ hb with⟨j,u,rfl,e⟩|⟨y,u,rfl,e⟩
   ·exact nomatch e
   ·injection e with e1 _;rw[e1]
 byValue:=λk v h=>by
  rcases gZ h with⟨i,t,rfl,rfl⟩|⟨x,t,rfl,rfl⟩<;>rfl
 pyHash:=λhv h=>by
  rcases gZ hv with⟨i,t,rfl,rfl⟩|⟨x,t,rfl,rfl⟩
  ·exact wpAny_pyHash_int h
  ·exact wpAny_pyHash_str h
 eqBool:=λhu hv h=>by
  rcases gZ hu with⟨i,t,rfl,rfl⟩|⟨x,t,rfl,rfl⟩
  ·rcases gZ hv with⟨j,u,rfl,rfl⟩|⟨y,u,rfl,rfl⟩
   ·rw[aa1]at h;exact wpAny_eqBool_int h
   ·rw[aa3]at h;exact SeqAt.EqAt.int_str i t y u _ _ _ _ h
  ·rcases gZ hv with⟨j,u,rfl,rfl⟩|⟨y,u,rfl,rfl⟩
   ·rw[aa4]at h;exact SeqAt.EqAt.str_int x t j u _ _ _ _ h
   ·rw[aa2]at h;exact wpAny_eqBool_str h
 «strs»:=λk x t v h=>by
  rcases gZ h with⟨i,u,rfl,e⟩|⟨y,u,rfl,e⟩
  ·exact nomatch e
  ·injection e with e1 _
   subst e1;cases v<;>rfl
theorem aa5 (prog:av)(w:ax)(i:Int)(t:Tok):(cT prog w).is (.inl i) (.int i t)=true:=aa0 i t
theorem aa6 (prog:av)(w:ax)(x:Str)(t:Tok):(cT prog w).is (.inr x) (.str x t)=true:=wX x t
inductive V where
 |non|bl (b:Bool)|int (i:Int)|str (x:Str)|byt (b:Array UInt8)|flt (b:UInt64)|ref (a:ar)|ty (n:String)
 deriving DecidableEq
noncomputable def b7:V->ao->Prop
 |.non,u=>u=Value.none
 |.bl b,u=>u=Value.bool b
 |.int i,u=>∃t,u=Value.int i t
 |.str x,u=>∃t,u=Value.str x t
 |.byt b,u=>∃t,u=Value.bytes b t
 |.flt b,u=>∃t,u=Value.float b t
 |.ref a,u=>u=Value.ref a
 |.ty n,u=>u=Value.type n
noncomputable abbrev aY:List V->List ao->Prop:=Paired b7
theorem aY.length {xs:List V}{us:List ao}(r:aY xs us):xs.length=us.length:=Paired.length r
theorem aY.get:∀{xs:List V}{us:List ao}{i:Nat}{x:V},aY xs us->xs[i]? = some x->∃u,us[i]? = some u/\b7 x u
 |_,_,_,_,.nil,e=>by simp at e
 |_,_,0,_,.cons r _,e=>by simp at e;subst e;exact⟨_,rfl,r⟩
 |_,_,i+1,x,.cons _ t,e=>by
  obtain⟨u,h1,h2⟩:=aY.get (i:=i) (x:=x) t (by simpa using e)
  exact⟨u,by simpa using h1,h2⟩
theorem aY.append:∀{xs ys:List V}{us ws:List ao},aY xs us->aY ys ws->aY (xs++ys) (us++ws)
 |_,_,_,_,.nil,s=>s
 |_,_,_,_,.cons r t,s=>.cons r (aY.append t s)
theorem aY.take:∀{xs:List V}{us:List ao} (n:Nat),aY xs us->aY (xs.take n) (us.take n)
 |_,_,0,_=>.nil
 |_,_,_+1,.nil=>.nil
 |_,_,n+1,.cons r t=>.cons r (aY.take n t)
theorem aY.drop:∀{xs:List V}{us:List ao} (n:Nat),aY xs us->aY (xs.drop n) (us.drop n)
 |_,_,0,r=>r
 |_,_,_+1,.nil=>.nil
 |_,_,n+1,.cons _ t=>aY.drop n t
noncomputable def g9:Option V->Option ao->Prop
 |some v,some u=>b7 v u
 |none,none=>True
 |_,_=>False
noncomputable def KV {κ:Type}:List (κ×V)->List (κ×ao)->Prop:=Paired λ(p:κ×V) (q:κ×ao)=>p.1=q.1/\b7 p.2 q.2
noncomputable def kV:aH->V
 |.inl i=>.int i
 |.inr x=>.str x
inductive HO where
 |lst (xs:List V)
 |tup (xs:List V)
 |dK (kvs:List (aH×V))|dT (kvs:List (List aH×V))
 |set (S:Int->Bool) (n:Nat)
 |ins (C dx:ar) (fs:List (Str×V))
 |own (x:ar)
 |xd (fs:List (Str×V))
 |met (f x:ar)
 |rng (lo hi:Int)
 |frz (o:Obj) (u:HO)
 |tbl (ps:Array ao)
 |ext (φ:Heap->Prop)
noncomputable abbrev Hp:=ar->Option HO
noncomputable def upd (H:Hp)(a:ar)(o:HO):Hp:=λb=>if b=a then some o else H b
theorem bD {H:Hp}{a:ar}{o:HO}:upd H a o a=some o:=by unfold upd;rw[if_pos rfl]
theorem b6 {H:Hp}{a b:ar}{o:HO}(h:b≠a):upd H a o b=H b:=by unfold upd;rw[if_neg h]
theorem aa7 {H:Hp}{a b:ar}{o u:HO}(h:H a=some o)(h':H b=some u)(d:o≠u):a≠b:=by
 intro e;subst e;rw[h]at h';exact d (bh9 h')
theorem cU {H:Hp}{a b:ar}{o:HO}(h:H a=some o)(h':H b=none):a≠b:=by
 intro e;subst e;rw[h]at h';cases h'
noncomputable def fM (h:Heap)(a:ar):Prop:=∀o,h.get? a=some o->o.dict=none
theorem fM.new (h:Heap)(o:Obj)(d:o.dict=none)(s:o.isFreed=false:=by rfl):fM (h.push o) h.objs.size:=λu e=>by
 rw[bf0 h (o:=o) s]at e;cases e;exact d
theorem fM.stay {h h':Heap}{a:ar}{o:Obj}(n:fM h a)(e:h.get? a=some o)(e':h'.get? a=some o):fM h' a:=λu hu=>by
 rw[e']at hu;cases hu;exact n _ e
section
variable (P:av)(w:ax)
noncomputable def cI (H:Hp)(h:Heap)(a:ar):HO->Prop
 |.lst xs=>xs.length<=sizeLine/\∃(its:List ao) (n:Nat),aY xs its/\h.get? a=some { cls:=.type "list",data:=.seq its.toArray n }
 |.tup xs=>xs.length<=sizeLine/\∃its:List ao,aY xs its/\IsTup h a its.toArray/\fM h a
 |.dK kvs=>kvs.length<=sizeLine/\(a==sysModules)=false/\∃vs,KV kvs vs/\h.DictOf (cT P w) a vs
 |.dT kvs=>kvs.length<=sizeLine/\(a==sysModules)=false/\∃xs:List (List aH×ar×ao),
   Paired (λ(p:List aH×V) (q:List aH×ar×ao)=>p.1=q.1/\H q.2.1=some (.tup (p.1.map kV))/\b7 p.2 q.2.2) kvs xs/\
   ∃o es ep,h.get? a=some o/\o.ExactDict/\o.data = .dict es ep/\es.toList=xs.map (entryOfKey (tupleKind (cT P w)))/\(xs.map (·.1)).Nodup
 |.set S n=>h.SetOf (intKind P w) a S n
 |.ins C dx fs=>H dx=some (.own a)/\fs.length<=1000/\dx≠a/\h.get? a=some (PySem.W.instObj C dx)/\
   ∃mA,h.Ns1 dx mA/\(∀f,g9 (fs.lookup f) (mA f))/\PySem.Within mA (fs.map (·.1))
 |.own _=>∃o,h.get? a=some o
 |.xd fs=>∃mA,h.Ns1 a mA/\∀f,g9 (fs.lookup f) (mA f)
 |.rng lo hi=>∃t u v,h.get? a=some { cls:=.type "range",data:=.fields #[.int lo t,.int hi u,.int 1 v] }
 |.frz o u=>h.get? a=some o/\cI H h a u
 |.tbl ps=>h.get? a=some { cls:=.none,data:=.fields ps }
 |.met f x=>h.get? a=some (PySem.W.methodObj (.ref f) (.ref x))
 |.ext φ=>φ h/\(∃o,h.get? a=some o)/\∀h1 h2:Heap,φ h1->(∀o,h1.get? a=some o->h2.get? a=some o)->φ h2
noncomputable def bU (H:Hp)(h:Heap):Prop:=∀a o,H a=some o->cI P w H h a o
end
section
variable {P:av}{w:ax}{H H':Hp}{h h':Heap}{a:ar}{o:HO}
theorem cI.lt (x:cI P w H h a o):a<h.objs.size:=by
 cases o with
 |lst xs=>obtain⟨_,_,_,_,e⟩:=x;exact bf4 e
 |tup xs=>obtain⟨_,_,_,p,_⟩:=x;exact p.lt
 |dK kvs=>obtain⟨_,_,_,_,o,_,_,e,_⟩:=x;exact bf4 e
 |dT kvs=>obtain⟨_,_,_,_,o,_,_,e,_⟩:=x;exact bf4 e
 |set S n=>obtain⟨o,_,_,_,e,_⟩:=x;exact bf4 e
 |ins C dx fs=>obtain⟨_,_,_,e,_⟩:=x;exact bf4 e
 |own y=>obtain⟨_,e⟩:=x;exact bf4 e
 |xd fs=>obtain⟨_,⟨_,_,_,e,_⟩,_⟩:=x;exact bf4 e
 |rng lo hi=>obtain⟨_,_,_,e⟩:=x;exact bf4 e
 |frz ob u=>obtain⟨e,_⟩:=x;exact bf4 e
 |tbl ps=>exact bf4 (show h.get? a=some _ from x)
 |met f y=>exact bf4 (show h.get? a=some _ from x)
 |ext φ=>obtain⟨_,⟨_,e⟩,_⟩:=x;exact bf4 e
theorem Paired.mapP {α β:Type}{F G:α->β->Prop}:∀{l₁:List α}{l₂:List β},Paired F l₁ l₂->(∀a b,F a b->G a b)->Paired G l₁ l₂
 |_,_,.nil,_=>.nil
 |_,_,.cons r t,f=>.cons (f _ _ r) (Paired.mapP t f)
theorem cI.stay (x:cI P w H h a o)(k:∀b u,(b=a∨H b=some (.own a))->h.get? b=some u->h'.get? b=some u)(ho:∀b,H b=some (.own a)->H' b=some (.own a))(ht:∀b xs,H b=some (.tup xs)->H' b=some (.tup xs)):cI P w H' h' a o:=by
 induction o with
 |lst xs=>obtain⟨z,its,n,r,e⟩:=x;exact⟨z,its,n,r,k _ _ (.inl rfl) e⟩
 |tup xs=>obtain⟨z,its,r,⟨ob,e,c⟩,nd⟩:=x;exact⟨z,its,r,⟨ob,k _ _ (.inl rfl) e,c⟩,nd.stay e (k _ _ (.inl rfl) e)⟩
 |dK kvs=>obtain⟨z,y,vs,r,ob,es,ep,e,c⟩:=x;exact⟨z,y,vs,r,ob,es,ep,k _ _ (.inl rfl) e,c⟩
 |dT kvs=>
  obtain⟨z,y,xs,r,ob,es,ep,e,c⟩:=x
  exact⟨z,y,xs,Paired.mapP r λp q z=>⟨z.1,ht _ _ z.2.1,z.2.2⟩,ob,es,ep,k _ _ (.inl rfl) e,c⟩
 |set S n=>obtain⟨ob,es,ep,t,e,c⟩:=x;exact⟨ob,es,ep,t,k _ _ (.inl rfl) e,c⟩
 |ins C dx fs=>
  obtain⟨d,z,ne,e,mA,⟨od,es,ep,e2,c⟩,r⟩:=x
  exact⟨ho _ d,z,ne,k _ _ (.inl rfl) e,mA,⟨od,es,ep,k _ _ (.inr d) e2,c⟩,r⟩
 |own y=>obtain⟨ob,e⟩:=x;exact⟨ob,k _ _ (.inl rfl) e⟩
 |xd fs=>obtain⟨mA,⟨od,es,ep,e,c⟩,r⟩:=x;exact⟨mA,⟨od,es,ep,k _ _ (.inl rfl) e,c⟩,r⟩
 |rng lo hi=>obtain⟨t,u,v,e⟩:=x;exact⟨t,u,v,k _ _ (.inl rfl) e⟩
 |frz ob u ih=>obtain⟨e,q⟩:=x;exact⟨k _ _ (.inl rfl) e,ih q⟩
 |tbl ps=>
  have e:h.get? a=some { cls:=.none,data:=.fields ps }:=x;show h'.get? a=some { cls:=.none,data:=.fields ps };exact k a _ (.inl rfl) e
 |met f y=>
  have e:h.get? a=some (PySem.W.methodObj (.ref f) (.ref y)):=x;show h'.get? a=some (PySem.W.methodObj (.ref f) (.ref y));exact k a _ (.inl rfl) e
 |ext φ=>obtain⟨p,⟨o,e⟩,st⟩:=x;exact⟨st _ _ p λo q=>k _ _ (.inl rfl) q,⟨o,k _ _ (.inl rfl) e⟩,st⟩
theorem bU.lt (x:bU P w H h)(e:H a=some o):a<h.objs.size:=(x a o e).lt
theorem bU.fresh (x:bU P w H h)(e:h.objs.size<=a):H a=none:=by
 cases q:H a with
 |none=>rfl
 |some u=>exact absurd (bf2 (x.lt q) e) (bj9 _)
theorem bU.kept (x:bU P w H h)(k:∀b u,h.get? b=some u->h'.get? b=some u):bU P w H h':=λa o e=>
 (x a o e).stay (λb u _ q=>k b u q) (λ_ q=>q) λ_ _ q=>q
theorem bU.laid (x:bU P w H h)(k:∀b u,h.get? b=some u->h'.get? b=some u)(hp:h.objs.size<=a)(new:cI P w (upd H a o) h' a o):bU P w (upd H a o) h':=λb u e=>by
 have hn:=x.fresh hp;by_cases hb:b=a
 ·subst hb;rw[bD]at e;cases e;exact new
 ·rw[b6 hb]at e
  exact (x b u e).stay (λc v _ q=>k c v q) (λc q=>by rw[b6 (cU q hn)];exact q) λc xs q=>by rw[b6 (cU q hn)];exact q
end
noncomputable def Rd (H:Hp)(a:ar)(u:HO):Prop:=H a=some u∨∃o,H a=some (.frz o u)
theorem Rd.ok {P:av}{w:ax}{H:Hp}{h:Heap}{a:ar}{u:HO}(r:Rd H a u)(x:bU P w H h):cI P w H h a u:=by
 rcases r with r|⟨o,r⟩
 ·exact x a u r
 ·obtain⟨_,q⟩:=x a _ r
  exact q
noncomputable def mL:Option HO->Prop
 |some (.lst _)=>True
 |some (.dK _)=>True
 |some (.dT _)=>True
 |some (.set _ _)=>True
 |some (.ins _ _ _)=>True
 |some (.ext _)=>True
 |_=>False
section
variable {P:av}{w:ax}{H:Hp}{h h':Heap}{x e:ar}{o':HO}
theorem bU.write (ok:bU P w H h)(mu:mL (H x))(he:e=x∨H e=some (.own x))(k:∀b u,b≠e->h.get? b=some u->h'.get? b=some u)(heo:∃u,h'.get? e=some u)(new:cI P w (upd H x o') h' x o'):bU P w (upd H x o') h':=λb u q=>by
 have nown:∀c y,H c=some (.own y)->c≠x:=λc y r z=>by subst z;rw[r]at mu;exact mu
 have ntup:∀c xs,H c=some (.tup xs)->c≠x:=λc xs r z=>by subst z;rw[r]at mu;exact mu
 by_cases hb:b=x
 ·subst hb;rw[bD]at q;cases q;exact new
 ·rw[b6 hb]at q
  by_cases hbe:b=e
  ·have q':H b=some (.own x):=by
    rcases he with z|z
    ·exact absurd (hbe.trans z) hb
    ·rw[hbe];exact z
   rw[q]at q';cases q'
   obtain⟨v,hv⟩:=heo
   exact⟨v,by rw[hbe];exact hv⟩
  ·refine (ok b u q).stay (λc v hc r=>k c v ?_ r) (λc r=>by rw[b6 (nown c b r)];exact r) λc xs r=>by rw[b6 (ntup c xs r)];exact r
   rcases hc with rfl|hc
   ·exact hbe
   ·rintro rfl
    rcases he with z|z
    ·exact nown c b hc z
    ·rw[hc]at z;cases z;exact hb rfl
end
structure Un (fs ex:List ar)(H H':Hp)(h h':Heap):Prop where
 keep:∀b o,h.get? b=some o->H b=none->b∉fs->b∉ex->h'.get? b=some o
 slot:∀b o,h.get? b=some o->H b=none->b∈fs->b∉ex->∃sl,h'.get? b=some { o with slots:=sl }
 free:∀b o,h.get? b=some o->H b=none->b∉ex->H' b=none
 there:∀b o,h.get? b=some o->b∉ex->∃o',h'.get? b=some o'
 tups:∀b xs,H b=some (.tup xs)->H' b=some (.tup xs)
 frzs:∀b o u,H b=some (.frz o u)->H' b=some (.frz o u)
 tbls:∀b ps,H b=some (.tbl ps)->∃more,H' b=some (.tbl (ps++more))
section
variable {fs fs' ex ex':List ar}{H H1 H2:Hp}{h h1 h2 h':Heap}{a x e:ar}{o:HO}
theorem Un.any (u:Un fs ex H H1 h h1){b:ar}{ob:Obj}(q:h.get? b=some ob)(n:H b=none)(hx:b∉ex):∃sl,h1.get? b=some { ob with slots:=sl }:=by
 by_cases hb:b∈fs
 ·exact u.slot b ob q n hb hx
 ·exact⟨ob.slots,u.keep b ob q n hb hx⟩
theorem Un.kept (k:∀b u,h.get? b=some u->h'.get? b=some u):Un fs ex H H h h':=
 ⟨λb ob q _ _ _=>k b ob q,λb ob q _ _ _=>⟨ob.slots,k b ob q⟩,λ_ _ _ n _=>n,λb ob q _=>⟨ob,k b ob q⟩,λ_ _ q=>q,λ_ _ _ q=>q,λ_ ps q=>⟨#[],by rw[q];simp⟩⟩
theorem Un.refl:Un fs ex H H h h:=Un.kept λ_ _ q=>q
theorem Un.laid (k:∀b u,h.get? b=some u->h'.get? b=some u)(hp:h.objs.size<=a)(hn:H a=none):Un fs ex H (upd H a o) h h' where
 keep:=λb u q _ _ _=>k b u q
 slot:=λb u q _ _ _=>⟨u.slots,k b u q⟩
 free:=λb u q n _=>by rw[b6 (bh6 (bf2 (bf4 q) hp))];exact n
 there:=λb u q _=>⟨u,k b u q⟩
 tups:=λb xs q=>by rw[b6 (cU q hn)];exact q
 frzs:=λb u xs q=>by rw[b6 (cU q hn)];exact q
 tbls:=λb ps q=>⟨#[],by rw[b6 (cU q hn),q];simp⟩
theorem Un.write (mu:mL (H x))(he:e=x∨H e=some (.own x))(k:∀b u,b≠e->h.get? b=some u->h'.get? b=some u)(heo:∃u,h'.get? e=some u):Un fs ex H (upd H x o) h h':=by
 have hx:∀b,H b=none->b≠x:=λb n z=>by subst z;rw[n]at mu;exact mu
 have hb:∀b,H b=none->b≠e:=λb n z=>by
  subst z;rcases he with r|r
  ·exact hx b n r
  ·rw[n]at r;cases r
 have hm:∀b u,H b=some u->¬mL (some u)->b≠x:=λb u q nm z=>by subst z;rw[q]at mu;exact nm mu
 refine⟨λb u q n _ _=>k b u (hb b n) q,λb u q n _ _=>⟨u.slots,k b u (hb b n) q⟩,λb u q n _=>by rw[b6 (hx b n)];exact n,λb u q _=>?_,
  λb xs q=>by rw[b6 (hm b _ q λz=>z)];exact q,λb u xs q=>by rw[b6 (hm b _ q λz=>z)];exact q,λb ps q=>⟨#[],by rw[b6 (hm b _ q λz=>z),q];simp⟩⟩
 by_cases hbe:b=e
 ·subst hbe;exact heo
 ·exact⟨u,k b u hbe q⟩
end
noncomputable def oF (h:Heap)(H:Hp):List ar:=(List.range h.objs.size).filter λa=>(H a).isSome
noncomputable def iG (h:Heap)(H:Hp):Heap:=PySem.W.hideAll h (oF h H)
theorem aa8 (h:Heap)(H:Hp):(iG h H).objs.size=h.objs.size:=PySem.W.hideAll_size _ _
theorem aa9 {h:Heap}{H:Hp}{b:ar}{o:Obj}(e:h.get? b=some o)(n:H b=none):(iG h H).get? b=some o:=
 PySem.W.hideAll_get _ e λhm=>by
  have q:(H b).isSome=true:=(List.mem_filter.mp hm).2;rw[n]at q;simp at q
theorem ab0 {h:Heap}{H:Hp}{b:ar}{o:Obj}(e:(iG h H).get? b=some o):h.get? b=some o/\H b=none:=by
 have e':h.get? b=some o:=PySem.W.of_hideAll (oF h H) e;refine⟨e',?_⟩;cases q:H b with
 |none=>rfl
 |some x=>
  have hm:b∈oF h H:=List.mem_filter.mpr ⟨List.mem_range.mpr (bf4 e'),by simp[q]⟩;have z:(iG h H).get? b=none:=PySem.W.hideAll_none (oF h H) hm;rw[z]at e;cases e
noncomputable def ab1 (g h:Heap)(L:ar):List (ar×Obj):=(List.range h.objs.size).filterMap λa=>if a=L∨(g.get? a).isSome=true then none else (h.get? a).map λo=>(a,o)
noncomputable def dA (g h:Heap)(L d:ar):List (ar×Obj):=(ab1 g h L).filter λp=>decide (p.1≠d)
structure Mod (K:ac)(mg:Str->Option ao)(base:Heap):Prop where
 kin:K.In base
 glob:base.Ns mainGlobals mg
 blt:∃mb,base.Ns builtinsNs mb/\∀x:Str,x≠"__name__"->mb x=bootBuiltins x
 nolimit:base.NoLimit
structure Cx where
 prog:av
 w:ax
 K:ac
 mg:Str->Option ao
 base:Heap
 A:aw
 N:List Str
 s₀:aq
 H₀:Hp
 env:Env
 outer:List Env
 stack:List Env
 ex:List ar
 fn:Str->Bool
 calm:Bool
 pn:List (ar×Obj)
 xe:ao->aq->Prop
noncomputable def bF (l:List Env):List ar:=l.filterMap (·.frame)
noncomputable abbrev Cx.fs (X:Cx):List ar:=bF X.outer
noncomputable def gA (sc:Scope)(x:Str):Prop:=sc.names.lookup x=some .local∨sc.names.lookup x=some .cell∨sc.names.lookup x=some .free
noncomputable def hG (sc:Scope)(x:Str):Prop:=sc.names.lookup x=some .local∨sc.names.lookup x=some .cell
noncomputable def ab2 (env:Env)(h:Heap)(m:Str->Option ao)(x:Str)(u:ao):Prop:=
 (env.kindOf x=some .local/\m x=some u)∨((env.kindOf x=some .cell∨env.kindOf x=some .free)/\∃c,env.cells.lookup x=some c/\h.IsCell c (some u))
structure Cx.Ok (X:Cx):Prop where
 mod:Mod X.K X.mg X.base
 kind:X.env.scope.kind = .function
 glob:X.env.globals=mainGlobals
 blt:X.env.builtins=builtinsNs
 above:X.s₀.heap.objs.size<=X.env.locals
 inj:∀x y c,X.env.cells.lookup x=some c->X.env.cells.lookup y=some c->x=y
 has:∀x,(X.env.kindOf x=some .cell∨X.env.kindOf x=some .free)->∃c,X.env.cells.lookup x=some c
 cab:∀x c,X.fn x=true->X.env.cells.lookup x=some c->X.s₀.heap.objs.size<=c
 hd:X.calm=true->X.A.handled=none
 frames:X.A.frames=some X.stack
 stk:X.stack=X.outer∨(X.stack=X.env::X.outer/\X.env.frame=some X.env.locals)
 exf:∀b∈X.ex,b≠X.env.locals/\∀x c,X.env.cells.lookup x=some c->c≠b
 bs:∀b o,X.base.get? b=some o->X.s₀.heap.get? b=some o/\X.H₀ b=none
 bsz:X.base.objs.size<=X.s₀.heap.objs.size
 noex:∀b o,X.base.get? b=some o->b∉X.ex
 exfs:∀b∈X.ex,b∉X.fs
 funs:X.s₀.heap.FunFrames X.base X.outer
 frf:∀b∈X.fs,X.H₀ b=none
structure aE (X:Cx)(af:List (ar×Obj))(σ:List (Option V))(H:Hp)(s:aq):Prop where
 ok:X.Ok
 os:s.os=X.s₀.os
 bare:AllBare s.gens
 base:Un X.fs X.ex X.H₀ H X.s₀.heap s.heap
 loc:∃m,s.heap.Ns X.env.locals m/\∀(i:Nat) (x:Str) (v:V),X.N[i]? = some x->σ[i]? = some (some v)->gA X.env.scope x->∃u,b7 v u/\ab2 X.env s.heap m x u
 cell:∀x c,X.env.cells.lookup x=some c->∃v,s.heap.IsCell c v
 free:H X.env.locals=none
 freeC:∀x c,X.env.cells.lookup x=some c->H c=none
 pin:∀p∈X.pn++af,s.heap.get? p.1=some p.2/\H p.1=none/\p.1≠X.env.locals/\p.1∉X.fs/\∀v,p.2.data≠.cell v
 hok:bU X.prog X.w H s.heap
 len:σ.length=X.N.length
section
variable {X:Cx}{af:List (ar×Obj)}{σ:List (Option V)}{H H':Hp}{s:aq}{h':Heap}
theorem Cx.Ok.nofr (ok:X.Ok){b:ar}{o:Obj}(e:X.base.get? b=some o):b∉X.fs:=λhb=>by
 have:=(ok.funs.mem hb).1
 rw[e]at this;cases this
theorem aE.bs (I:aE X af σ H s):∀b o,X.base.get? b=some o->s.heap.get? b=some o/\H b=none:=λb o e=>
 ⟨I.base.keep b o (I.ok.bs b o e).1 (I.ok.bs b o e).2 (I.ok.nofr e) (I.ok.noex b o e),I.base.free b o (I.ok.bs b o e).1 (I.ok.bs b o e).2 (I.ok.noex b o e)⟩
theorem aE.bk (I:aE X af σ H s):∀b o,X.base.get? b=some o->s.heap.get? b=some o:=λb o e=>(I.bs b o e).1
theorem aE.mod (I:aE X af σ H s):Mod X.K X.mg X.base:=I.ok.mod
theorem aE.kIn (I:aE X af σ H s):X.K.In s.heap:=I.ok.mod.kin.keeps I.bk
theorem aE.fr (I:aE X af σ H s):∃m,Fr X.base X.env.locals s.heap m:=
 let ⟨m,hn,_⟩:=I.loc
 ⟨m,hn,I.bk,bj5 I.ok.bsz I.ok.above⟩
theorem aE.lt (I:aE X af σ H s):X.env.locals<s.heap.objs.size:=let ⟨_,hn,_⟩:=I.loc;hn.lt
theorem aE.sz (I:aE X af σ H s):X.s₀.heap.objs.size<=s.heap.objs.size:=bj5 I.ok.above (bm6 I.lt)
theorem aE.nofs (I:aE X af σ H s){a:ar}(h:s.heap.objs.size<=a):a∉X.fs:=λhb=>by
 obtain⟨_,o,ho,_⟩:=I.ok.funs.mem hb
 exact absurd (bf2 (bf4 ho) (bj5 I.sz h)) (bj9 _)
theorem aE.cne (I:aE X af σ H s):∀x c,X.env.cells.lookup x=some c->c≠X.env.locals:=λx c e z=>by
 obtain⟨v,o,ho,hd⟩:=I.cell x c e
 obtain⟨m,⟨o',es,ep,ho',hd',_⟩,_⟩:=I.loc
 rw[z,ho']at ho;cases ho;rw[hd']at hd;cases hd
theorem aE.funs (I:aE X af σ H s):s.heap.FunFrames X.base X.outer:=by
 have all:∀(l:List Env),(∀b∈bF l,b∈X.fs)->X.s₀.heap.FunFrames X.base l->s.heap.FunFrames X.base l:=by
  intro l
  induction l with
  |nil=>intro _ _;trivial
  |cons env r ih=>
   intro hs hl
   obtain⟨hk,⟨L,o,hf,hn,ho,hd⟩,hr⟩:=hl
   have hL:L∈X.fs:=hs L (by unfold bF;rw[List.filterMap_cons,hf];exact bj0)
   obtain⟨sl,e⟩:=I.base.slot L o ho (I.ok.frf L hL) hL λz=>I.ok.exfs L z hL
   exact⟨hk,⟨L,_,hf,hn,e,hd⟩,ih (λb hb=>hs b (by unfold bF;rw[List.filterMap_cons,hf];exact bj3 _ hb)) hr⟩
 exact all X.outer (λ_ hb=>hb) I.ok.funs
theorem aE.stack (I:aE X af σ H s):s.heap.FunFrames X.base X.stack:=by
 rcases I.ok.stk with e|⟨e,hf⟩
 ·rw[e];exact I.funs
 ·rw[e]
  obtain⟨m,hn,_⟩:=I.loc
  refine .cons (by rw[I.ok.kind];decide) hf hn ?_ I.funs;exact Heap.get?_none_of_le (bj5 I.ok.bsz I.ok.above)
theorem aE.stkSub (I:aE X af σ H s):∀b∈bF X.stack,b∈X.env.locals::X.fs:=λb hb=>by
 rcases I.ok.stk with e|⟨e,hf⟩
 ·rw[e]at hb;exact bj3 _ hb
 ·rw[e]at hb
  unfold bF at hb;rw[List.filterMap_cons,hf]at hb;exact hb
theorem aE.stkFree (I:aE X af σ H s):∀b∈bF X.stack,H b=none:=λb hb=>by
 rcases be8.mp (I.stkSub b hb) with e|hb
 ·rw[e];exact I.free
 ·obtain⟨_,o,ho,_⟩:=I.ok.funs.mem hb
  exact I.base.free b o ho (I.ok.frf b hb) λz=>I.ok.exfs b z hb
theorem aE.step {g':Array GenState}{t':Nat}{d':Drawn}{ch:List ar}(I:aE X af σ H s)(hch:∀b∈ch,(b∈X.ex∨X.s₀.heap.objs.size<=b)/\b≠X.env.locals/\(∀x c,X.env.cells.lookup x=some c->c≠b)/\∀p∈X.pn++af,p.1≠b)(keep:∀b o,b≠X.env.locals->b∉X.fs->b∉ch->s.heap.get? b=some o->H b=none->h'.get? b=some o)(slot:∀b o,b≠X.env.locals->b∈X.fs->b∉ch->s.heap.get? b=some o->H b=none->∃sl,h'.get? b=some { o with slots:=sl })(free:∀b o,b∉ch->s.heap.get? b=some o->H b=none->H' b=none)(there:∀b o,b∉ch->s.heap.get? b=some o->∃o',h'.get? b=some o')(tups:∀b xs,H b=some (.tup xs)->H' b=some (.tup xs))(frzs:∀b o u,H b=some (.frz o u)->H' b=some (.frz o u))(tbls:∀b ps,H b=some (.tbl ps)->∃more,H' b=some (.tbl (ps++more)))(ns:∀m,s.heap.Ns X.env.locals m->h'.Ns X.env.locals m)(hok:bU X.prog X.w H' h')(hg:AllBare g') :
  aE X af σ H' { s with heap:=h',gens:=g',drawn:=d',toks:=t' }:=by
 have neL:∀b o,X.s₀.heap.get? b=some o->b≠X.env.locals:=λb o e=>bh6 (bf2 (bf4 e) I.ok.above)
 have neC:∀b o,X.s₀.heap.get? b=some o->b∉X.ex->b∉ch:=λb o e hx hb=>by
  rcases (hch b hb).1 with z|z
  ·exact hx z
  ·exact absurd (bf2 (bf4 e) z) (bj9 _)
 have cellK:∀x c,X.env.cells.lookup x=some c->∀v,s.heap.IsCell c v->h'.IsCell c v:=λx c e v ⟨o,ho,hd⟩=>by
  have nch:c∉ch:=λz=>(hch c z).2.2.1 x c e rfl
  by_cases hc:c∈X.fs
  ·obtain⟨sl,q⟩:=slot c o (I.cne x c e) hc nch ho (I.freeC x c e)
   exact⟨_,q,hd⟩
  ·exact⟨o,keep c o (I.cne x c e) hc nch ho (I.freeC x c e),hd⟩
 refine⟨I.ok,I.os,hg,⟨λb o e n hb hx=>?_,λb o e n hb hx=>?_,λb o e n hx=>?_,λb o e hx=>?_,λb xs e=>tups b xs (I.base.tups b xs e),λb o xs e=>frzs b o xs (I.base.frzs b o xs e),λb ps e=>?_⟩,?_,λx c e=>?_,?_,λx c e=>?_,λp hp=>?_,hok,I.len⟩
 ·exact keep b o (neL b o e) hb (neC b o e hx) (I.base.keep b o e n hb hx) (I.base.free b o e n hx)
 ·obtain⟨sl,e1⟩:=I.base.slot b o e n hb hx
  obtain⟨sl',e2⟩:=slot b _ (neL b o e) hb (neC b o e hx) e1 (I.base.free b o e n hx)
  exact⟨sl',e2⟩
 ·obtain⟨o',e1⟩:=I.base.there b o e hx
  exact free b o' (neC b o e hx) e1 (I.base.free b o e n hx)
 ·obtain⟨o',e1⟩:=I.base.there b o e hx
  exact there b o' (neC b o e hx) e1
 ·obtain⟨m1,e1⟩:=I.base.tbls b ps e
  obtain⟨m2,e2⟩:=tbls b _ e1
  exact⟨m1++m2,by rw[e2,Array.append_assoc]⟩
 ·obtain⟨m,hn,hl⟩:=I.loc
  refine⟨m,ns m hn,λi x v e1 e2 e3=>?_⟩
  obtain⟨u,r,l⟩:=hl i x v e1 e2 e3
  refine⟨u,r,?_⟩;rcases l with l|⟨k,c,e,z⟩
  ·exact .inl l
  ·exact .inr ⟨k,c,e,cellK x c e _ z⟩
 ·obtain⟨v,z⟩:=I.cell x c e
  exact⟨v,cellK x c e v z⟩
 ·obtain⟨m,⟨o,_,_,ho,_⟩,_⟩:=I.loc
  exact free _ o (λz=>(hch _ z).2.1 rfl) ho I.free
 ·obtain⟨v,o,ho,hd⟩:=I.cell x c e
  exact free c o (λz=>(hch c z).2.2.1 x c e rfl) ho (I.freeC x c e)
 ·obtain⟨e,n,ne,nf,d⟩:=I.pin p hp
  have nch:p.1∉ch:=λz=>(hch p.1 z).2.2.2 p hp rfl
  exact⟨keep p.1 p.2 ne nf nch e n,free p.1 p.2 nch e n,ne,nf,d⟩
theorem aE.un {t':Nat}(I:aE X af σ H s)(u:Un X.fs [] H H' s.heap h')(hok:bU X.prog X.w H' h'):aE X af σ H' { s with heap:=h',toks:=t' }:=by
 obtain⟨m,⟨o,es,ep,ho,r⟩,_⟩:=id I.loc
 obtain⟨sl,hL⟩:=u.any ho I.free (by simp)
 exact I.step (g':=s.gens) (d':=s.drawn) (ch:=[]) (λ_ z=>nomatch z) (λb o _ hb _ e n=>u.keep b o e n hb (by simp)) (λb o _ hb _ e n=>u.slot b o e n hb (by simp)) (λb o _ e n=>u.free b o e n (by simp)) (λb o _ e=>u.there b o e (by simp)) u.tups u.frzs u.tbls (λm' hm=>by
  obtain⟨o',es',ep',ho',r'⟩:=hm
  rw[ho]at ho';cases ho'
  exact⟨_,es',ep',hL,r'⟩) hok I.bare
theorem aE.call {g':Array GenState}{t':Nat}{d':Drawn}{ch:List ar}(I:aE X af σ H s)(u:Un (bF X.stack) ch H H' s.heap h')(hok:bU X.prog X.w H' h')(hg:AllBare g')(hch:∀b∈ch,(b∈X.ex∨X.s₀.heap.objs.size<=b)/\b≠X.env.locals/\(∀x c,X.env.cells.lookup x=some c->c≠b)/\∀p∈X.pn++af,p.1≠b) :
  aE X af σ H' { s with heap:=h',gens:=g',drawn:=d',toks:=t' }:=by
 obtain⟨m,⟨o,es,ep,ho,r⟩,_⟩:=id I.loc
 obtain⟨sl,hL⟩:=u.any ho I.free λz=>(hch _ z).2.1 rfl
 exact I.step (ch:=ch) hch (λb o hL hb hc e n=>u.keep b o e n (λz=>(be8.mp (I.stkSub b z)).elim hL hb) hc) (λb o _ _ hc e n=>u.any e n hc) (λb o hc e n=>u.free b o e n hc) (λb o hc e=>u.there b o e hc) u.tups u.frzs u.tbls (λm' hm=>by
  obtain⟨o',es',ep',ho',r'⟩:=hm
  rw[ho]at ho';cases ho'
  exact⟨_,es',ep',hL,r'⟩) hok hg
theorem aE.turned {t':Nat}{it:ar}(I:aE X af σ H s)(k:∀b o,b≠it->s.heap.get? b=some o->h'.get? b=some o)(hn:H it=none)(hL:it≠X.env.locals)(h1:it∈X.ex∨X.s₀.heap.objs.size<=it)(h2:∀x c,X.env.cells.lookup x=some c->c≠it)(h3:∀p∈X.pn++af,p.1≠it):aE X af σ H { s with heap:=h',toks:=t' }:=by
 have nit:∀b u,H b=some u->b≠it:=λb u e z=>by rw[z,hn]at e;cases e
 refine I.step (g':=s.gens) (d':=s.drawn) (ch:=[it]) (λb hb=>?_) (λb o _ _ hc e _=>k b o (λz=>hc (by simp[z])) e) (λb o _ _ hc e _=>⟨o.slots,k b o (λz=>hc (by simp[z])) e⟩) (λ_ _ _ _ n=>n)
  (λb o hc e=>⟨o,k b o (λz=>hc (by simp[z])) e⟩) (λ_ _ e=>e) (λ_ _ _ e=>e) (λb ps e=>⟨#[],by rw[e];simp⟩) (λm hm=>?_) (λb u e=>?_) I.bare
 ·have e:b=it:=by simpa using hb
  subst e
  exact⟨h1,hL,h2,h3⟩
 ·obtain⟨o,es,ep,ho,r⟩:=hm
  exact⟨o,es,ep,k _ o (Ne.symm hL) ho,r⟩
 ·refine (I.hok b u e).stay (λc v hc q=>k c v ?_ q) (λ_ q=>q) λ_ _ q=>q
  rcases hc with z|z
  ·rw[z];exact nit b u e
  ·exact nit c _ z
theorem aE.tok (I:aE X af σ H s)(t:Nat):aE X af σ H { s with toks:=t }:=I.un (h':=s.heap) (t':=t) Un.refl I.hok
theorem aE.kept {t':Nat}(I:aE X af σ H s)(k:∀b u,s.heap.get? b=some u->h'.get? b=some u):aE X af σ H { s with heap:=h',toks:=t' }:=I.un (Un.kept k) (I.hok.kept k)
theorem aE.laid {a:ar}{o:HO}{t':Nat}(I:aE X af σ H s)(k:∀b u,s.heap.get? b=some u->h'.get? b=some u)(hp:s.heap.objs.size<=a)(new:cI X.prog X.w (upd H a o) h' a o) :
  aE X af σ (upd H a o) { s with heap:=h',toks:=t' }:=I.un (Un.laid k hp (I.hok.fresh hp)) (I.hok.laid k hp new)
theorem aE.write {x e:ar}{o:HO}{t':Nat}(I:aE X af σ H s)(mu:mL (H x))(he:e=x∨H e=some (.own x))(k:∀b u,b≠e->s.heap.get? b=some u->h'.get? b=some u)(heo:∃u,h'.get? e=some u)(new:cI X.prog X.w (upd H x o) h' x o):aE X af σ (upd H x o) { s with heap:=h',toks:=t' }:=I.un (Un.write mu he k heo) (I.hok.write mu he k heo new)
theorem aE.weak {σ':List (Option V)}(I:aE X af σ H s)(hl:σ'.length=σ.length)(w:∀(i:Nat) v,σ'[i]? = some (some v)->σ[i]? = some (some v)):aE X af σ' H s:=
 ⟨I.ok,I.os,I.bare,I.base,let ⟨m,hn,hl'⟩:=I.loc;⟨m,hn,λi x v e1 e2 e3=>hl' i x v e1 (w i v e2) e3⟩,I.cell,I.free,I.freeC,I.pin,I.hok,hl.trans I.len⟩
theorem aE.pins_of {pins':List (ar×Obj)}(I:aE X af σ H s)(h:∀p∈pins',s.heap.get? p.1=some p.2/\H p.1=none/\p.1≠X.env.locals/\p.1∉X.fs/\∀v,p.2.data≠.cell v):aE X pins' σ H s:=
 ⟨I.ok,I.os,I.bare,I.base,I.loc,I.cell,I.free,I.freeC,λp hp=>(bs3.mp hp).elim (λz=>I.pin p (List.mem_append_left _ z)) (h p),I.hok,I.len⟩
theorem rQ {N:List Str}(hN:N.Nodup){i j:Nat}{x:Str}(a:N[i]? = some x)(b:N[j]? = some x):i=j:=by
 obtain⟨h1,e1⟩:=bf7.mp a
 obtain⟨h2,e2⟩:=bf7.mp b
 exact (List.getElem_inj hN).mp (e1.trans e2.symm)
theorem oG {M:Model}{A:aw}{E:ao->aq->Prop}{i:Nat}{x:Str}{v:V}{u:ao}{Q:Unit->aq->Prop}(I:aE X af σ H s)(hN:X.N.Nodup)(hi:X.N[i]? = some x)(hx:hG X.env.scope x)(r:b7 v u)(h:∀s',aE X af (σ.set i (some v)) H s'->(∃a,Heap.SameBut a s.heap s'.heap/\(a=X.env.locals∨X.env.cells.lookup x=some a))->Q () s')(hf:X.fn x=true∨X.env.scope.names.lookup x=some .local:=by first|exact .inl rfl|exact .inr rfl|assumption):wpAny M A (storeName X.env x u) Q E s:=by
 obtain⟨m,hn,hl⟩:=id I.loc
 have hcls:(X.env.scope.kind==.class||(X.env.scope.kind==.module&&X.env.locals != X.env.globals))=false:=by rw[I.ok.kind];rfl
 have hiσ:i<σ.length:=by rw[I.len];exact (bf7.mp hi).1
 have cne:=I.cne;have tracked:∀{a:ar}{h':Heap},(∃o,s.heap.get? a=some o/\H a=none)->Heap.SameBut a s.heap h'->bU X.prog X.w H h':=λ{a h'} ha hs b ob e=>by
  obtain⟨_,_,hfree⟩:=ha
  refine (I.hok b ob e).stay (λc w' hc q=>(hs.2 c ?_).trans q) (λ_ q=>q) λ_ _ q=>q
  rintro rfl;rcases hc with rfl|hc
  ·rw[hfree]at e;cases e
  ·rw[hfree]at hc;cases hc
 rcases hx with hk|hk
 ·refine wpAny_storeName_local hk hn (λh' hn' hs=>?_) hcls
  obtain⟨oL,_,_,hoL,_⟩:=id hn
  refine h _ ⟨I.ok,I.os,I.bare,⟨λb o e n hb hx=>?_,λb o e n hb hx=>?_,I.base.free,λb o e hx=>?_,I.base.tups,I.base.frzs,I.base.tbls⟩,⟨_,hn',λj y v' e1 e2 e3=>?_⟩,λy c e=>?_,I.free,I.freeC,λp hp=>?_,tracked ⟨oL,hoL,I.free⟩ hs,by simpa using I.len⟩ ⟨_,hs,.inl rfl⟩
  ·exact (hs.2 b (bh6 (bf2 (bf4 e) I.ok.above))).trans (I.base.keep b o e n hb hx)
  ·obtain⟨sl,e1⟩:=I.base.slot b o e n hb hx
   exact⟨sl,(hs.2 b (bh6 (bf2 (bf4 e) I.ok.above))).trans e1⟩
  ·obtain⟨o',e1⟩:=I.base.there b o e hx
   exact⟨o',(hs.2 b (bh6 (bf2 (bf4 e) I.ok.above))).trans e1⟩
  ·by_cases hj:j=i
   ·subst hj
    rw[hi]at e1;cases e1;rw[bm7 hiσ]at e2;cases e2
    exact⟨u,r,.inl ⟨hk,by simp⟩⟩
   ·rw[bh8 (Ne.symm hj)]at e2
    obtain⟨u',r',q⟩:=hl j y v' e1 e2 e3
    refine⟨u',r',?_⟩;rcases q with⟨k,e⟩|⟨k,c,e,z⟩
    ·refine .inl ⟨k,?_⟩
     have:y≠x:=λe=>hj (rQ hN e1 (e▸hi))
     simp[this,e]
    ·exact .inr ⟨k,c,e,z.sameBut hs (cne y c e)⟩
  ·obtain⟨w',z⟩:=I.cell y c e
   exact⟨w',z.sameBut hs (cne y c e)⟩
  ·obtain⟨e,n,ne,nf,d⟩:=I.pin p hp
   exact⟨(hs.2 p.1 ne).trans e,n,ne,nf,d⟩
 ·have hfn:X.fn x=true:=by
   rcases hf with z|z
   ·exact z
   ·rw[z]at hk;cases hk
  obtain⟨c,hc⟩:=I.ok.has x (.inl hk)
  obtain⟨w',z⟩:=I.cell x c hc
  refine wpAny_storeName_cell I.ok.kind hk hc z (λh' hc' hs=>?_)
  obtain⟨oc,hoc,hocd⟩:=id z
  refine h { s with heap:=h' } ⟨I.ok,I.os,I.bare,⟨λb o e n hb hx=>?_,λb o e n hb hx=>?_,I.base.free,λb o e hx=>?_,I.base.tups,I.base.frzs,I.base.tbls⟩,⟨m,hn.sameBut hs (Ne.symm (cne x c hc)),λj y v' e1 e2 e3=>?_⟩,λy c' e=>?_,I.free,I.freeC,λp hp=>?_,tracked ⟨oc,hoc,I.freeC x c hc⟩ hs,by simpa using I.len⟩ ⟨c,hs,.inr hc⟩
  ·exact (hs.2 b (bh6 (bf2 (bf4 e) (I.ok.cab x c hfn hc)))).trans (I.base.keep b o e n hb hx)
  ·obtain⟨sl,e1⟩:=I.base.slot b o e n hb hx
   exact⟨sl,(hs.2 b (bh6 (bf2 (bf4 e) (I.ok.cab x c hfn hc)))).trans e1⟩
  ·obtain⟨o',e1⟩:=I.base.there b o e hx
   exact⟨o',(hs.2 b (bh6 (bf2 (bf4 e) (I.ok.cab x c hfn hc)))).trans e1⟩
  ·by_cases hj:j=i
   ·subst hj
    rw[hi]at e1;cases e1;rw[bm7 hiσ]at e2;cases e2
    exact⟨u,r,.inr ⟨.inl hk,c,hc,hc'⟩⟩
   ·rw[bh8 (Ne.symm hj)]at e2
    obtain⟨u',r',q⟩:=hl j y v' e1 e2 e3
    refine⟨u',r',?_⟩;rcases q with q|⟨k,c',e,z'⟩
    ·exact .inl q
    ·refine .inr ⟨k,c',e,z'.sameBut hs ?_⟩
     rintro rfl;exact hj (rQ hN e1 (I.ok.inj _ _ _ e hc▸hi))
  ·by_cases hcc:c'=c
   ·subst hcc;exact⟨_,hc'⟩
   ·obtain⟨w2,z2⟩:=I.cell y c' e
    exact⟨w2,z2.sameBut hs hcc⟩
  ·obtain⟨e,n,ne,nf,d⟩:=I.pin p hp
   refine⟨(hs.2 p.1 ?_).trans e,n,ne,nf,d⟩;intro q;rw[q,hoc]at e;have q':oc=p.2:=bh9 e;exact d w' (by rw[<- q'];exact hocd)
theorem rR {M:Model}{A:aw}{E:ao->aq->Prop}{i:Nat}{x:Str}{v:V}{u:ao}{Q:Unit->aq->Prop}(I:aE X af σ H s)(hN:X.N.Nodup)(hi:X.N[i]? = some x)(hx:hG X.env.scope x)(r:b7 v u)(h:∀s',aE X af (σ.set i (some v)) H s'->Q () s')(hf:X.fn x=true∨X.env.scope.names.lookup x=some .local:=by first|exact .inl rfl|exact .inr rfl|assumption):wpAny M A (storeName X.env x u) Q E s:=
 oG I hN hi hx r (λs' I' _=>h s' I') hf
theorem aE.call' {s':aq}{ch:List ar}(I:aE X af σ H s)(ho:s'.os=s.os)(u:Un (bF X.stack) ch H H' s.heap s'.heap)(hok:bU X.prog X.w H' s'.heap)(hg:AllBare s'.gens)(hch:∀b∈ch,(b∈X.ex∨X.s₀.heap.objs.size<=b)/\b≠X.env.locals/\(∀x c,X.env.cells.lookup x=some c->c≠b)/\∀p∈X.pn++af,p.1≠b):aE X af σ H' s':=by
 obtain⟨h',g',d',t',o'⟩:=s'
 have e:o'=s.os:=ho;subst e;exact I.call (g':=g') (t':=t') (d':=d') u hok hg hch
end
noncomputable abbrev XK:=ao->Option ar->Hp->Prop
noncomputable abbrev St:=List (Option V)
noncomputable abbrev VK:=V->Hp->Prop
noncomputable abbrev TE:=St->Hp->VK->Prop
noncomputable abbrev TT:=St->Hp->(Bool->Hp->Prop)->Prop
noncomputable abbrev TA:=St->Hp->(List V->Hp->Prop)->Prop
structure cN where
 nx:St->Hp->Prop
 rt:VK
 bk:St->Hp->Prop:=λ_ _=>False
 ct:St->Hp->Prop:=λ_ _=>False
noncomputable abbrev TS:=cN->St->Hp->Prop
noncomputable def EP (X:Cx)(af:List (ar×Obj))(σ:St)(Q:VK)(u:ao)(s':aq):Prop:=∃v H',aE X af σ H' s'/\b7 v u/\Q v H'
noncomputable def TP (X:Cx)(af:List (ar×Obj))(σ:St)(Q:Bool->Hp->Prop)(b:Bool)(s':aq):Prop:=∃H',aE X af σ H' s'/\Q b H'
noncomputable def AP (X:Cx)(af:List (ar×Obj))(σ:St)(Q:List V->Hp->Prop)(us:List ao)(s':aq):Prop:=∃vs H',aE X af σ H' s'/\aY vs us/\Q vs H'
noncomputable def SP (X:Cx)(af:List (ar×Obj))(D:cN)(f:Flow)(s':aq):Prop:=
 match f with
 |.next=>∃σ' H',aE X af σ' H' s'/\D.nx σ' H'
 |.brk=>∃σ' H',aE X af σ' H' s'/\D.bk σ' H'
 |.cont=>∃σ' H',aE X af σ' H' s'/\D.ct σ' H'
 |.ret u=>∃v σ' H',aE X af σ' H' s'/\b7 v u/\D.rt v H'
noncomputable def PE (X:Cx)(e:Expr)(t:TE):Prop:=
 ∀(af:List (ar×Obj)) (s:aq) (σ:St) (H:Hp) (Q:VK),aE X af σ H s->t σ H Q->wpAny (model X.prog X.w) X.A (eval e X.env) (EP X af σ Q) X.xe s
noncomputable def PT (X:Cx)(e:Expr)(t:TT):Prop:=
 ∀(af:List (ar×Obj)) (s:aq) (σ:St) (H:Hp) (Q:Bool->Hp->Prop),aE X af σ H s->t σ H Q->wpAny (model X.prog X.w) X.A (isTrue e X.env (eval e X.env)) (TP X af σ Q) X.xe s
noncomputable def PW (X:Cx)(e:Expr)(t:TT):Prop:=
 ∀(whole:Sem ao) (af:List (ar×Obj)) (s:aq) (σ:St) (H:Hp) (Q:Bool->Hp->Prop),aE X af σ H s->t σ H Q->wpAny (model X.prog X.w) X.A (isTrue e X.env whole) (TP X af σ Q) X.xe s
theorem PW.pt {X:Cx}{e:Expr}{t:TT}(h:PW X e t):PT X e t:=h _
noncomputable def PA (X:Cx)(es:List Expr)(t:TA):Prop:=
 ∀(pos:Pos) (af:List (ar×Obj)) (s:aq) (σ:St) (H:Hp) (Q:List V->Hp->Prop),aE X af σ H s->t σ H Q->wpAny (model X.prog X.w) X.A (spliced (backTo pos (starEach es X.env))) (AP X af σ Q) X.xe s
noncomputable def PS (X:Cx)(st:Stmt)(t:TS):Prop:=
 ∀(af:List (ar×Obj)) (s:aq) (σ:St) (H:Hp) (D:cN),aE X af σ H s->t D σ H->wpAny (model X.prog X.w) X.A (exec st X.env) (SP X af D) X.xe s
noncomputable def dM (X:Cx)(st:List Stmt)(t:TS):Prop:=
 ∀(af:List (ar×Obj)) (s:aq) (σ:St) (H:Hp) (D:cN),aE X af σ H s->t D σ H->wpAny (model X.prog X.w) X.A (execs st X.env) (SP X af D) X.xe s
theorem aT {α:Type}{t:Sem α}{Q Q':α->aq->Prop}{M:Model}{A:aw}{E:ao->aq->Prop}{s:aq}(h:wpAny M A t Q E s)(hQ:∀a s,Q a s->Q' a s):wpAny M A t Q' E s:=bk2 h hQ λ_ _ x=>x
section
variable {X:Cx}
theorem bin {a b:Expr}{ta tb:TE}(ha:PE X a ta)(hb:PE X b tb){af:List (ar×Obj)}{s:aq}{σ:St}{H:Hp}{R:V->V->Hp->Prop}(I:aE X af σ H s)(h:ta σ H λx H1=>tb σ H1 λy H2=>R x y H2){α:Type}{Q:α->aq->Prop}{f:ao->ao->Sem α}(hf:∀v u s2 x y H2,aE X af σ H2 s2->b7 x v->b7 y u->R x y H2->wpAny (model X.prog X.w) X.A (f v u) Q X.xe s2) :
  wpAny (model X.prog X.w) X.A (eval a X.env) (λv s₁=>wpAny (model X.prog X.w) X.A (eval b X.env) (λu s₂=>wpAny (model X.prog X.w) X.A (f v u) Q X.xe s₂) X.xe s₁) X.xe s:=by
 refine aT (ha af s σ H _ I h) λv s1 ⟨x,H1,I1,r1,q1⟩=>?_
 refine aT (hb af s1 σ H1 _ I1 q1) λu s2 ⟨y,H2,I2,r2,q2⟩=>?_
 exact hf v u s2 x y H2 I2 r1 r2 q2
noncomputable def hJ (i:Nat):TE:=λσ H Q=>∃v,σ[i]? = some (some v)/\Q v H
noncomputable def tC (v:V):TE:=λ_ H Q=>Q v H
theorem iH {i:Nat}{x:Str}{pos:Pos}(hN:X.N[i]? = some x)(hv:gA X.env.scope x)(hd:(x==("__debug__":Str))=false:=by decide)(hcd:(x==("__classdict__":Str))=false:=by decide):PE X (.Name x pos) (hJ i):=by
 intro af s σ H Q I h
 obtain⟨v,e,h⟩:=h
 obtain⟨m,hn,hl⟩:=I.loc
 obtain⟨u,r,l⟩:=hl i x v hN e hv
 have fin:EP X af σ Q u s:=⟨v,H,I,r,h⟩;rcases l with⟨hk,hm⟩|⟨hk,c,hc,hcell⟩
 ·exact wpAny_Name (wpAny_loadName_local I.ok.kind hk hn hm fin) hd
 ·rcases hk with hk|hk
  ·exact wpAny_Name (wpAny_loadName_cell I.ok.kind hk hc hcell fin) hd
  ·exact wpAny_Name (wpAny_loadName_free I.ok.kind hk hc hcell fin hcd) hd
theorem mM {i j pos}:PE X (.Constant (.int i) j pos) (tC (.int i)):=λ_ _ _ H _ I h=>wpAny_Constant_int ⟨.int i,H,I.tok _,⟨_,rfl⟩,h⟩
theorem wY {b j pos}:PE X (.Constant (.bool b) j pos) (tC (.bl b)):=λ_ _ _ H _ I h=>Constant_bool ⟨.bl b,H,I,rfl,h⟩
theorem ab3 {j pos}:PE X (.Constant .none j pos) (tC .non):=λ_ _ _ H _ I h=>Constant_none ⟨.non,H,I,rfl,h⟩
theorem ab4 {x j pos}:PE X (.Constant (.str x) j pos) (tC (.str x)):=λ_ _ _ H _ I h=>Calls.Constant_str ⟨.str x,H,I.tok _,⟨_,rfl⟩,h⟩
noncomputable def Gl (X:Cx)(x:Str):Prop:=X.env.kindOf x=some .globalImplicit
theorem mO {E:ao->aq->Prop}{af:List (ar×Obj)}{s:aq}{σ:St}{H:Hp}{x:Str}{u:ao}{pos:Pos}{Q:ao->aq->Prop}(I:aE X af σ H s)(hg:Gl X x)(hm:X.mg x=some u)(h:Q u s)(hd:(x==("__debug__":Str))=false:=by decide):wpAny (model X.prog X.w) X.A (eval (.Name x pos) X.env) Q E s:=
 Calls.Name_function_global I.ok.kind hg (Calls.loadGlobal_global (by rw[I.ok.glob];exact I.mod.glob.keeps I.bk) hm h) hd
theorem gO {E:ao->aq->Prop}{af:List (ar×Obj)}{s:aq}{σ:St}{H:Hp}{x:Str}{u:ao}{pos:Pos}{Q:ao->aq->Prop}(I:aE X af σ H s)(hg:Gl X x)(hm:X.mg x=none)(hv:bootBuiltins x=some u)(h:Q u s)(hn:x≠"__name__":=by decide)(hd:(x==("__debug__":Str))=false:=by decide):wpAny (model X.prog X.w) X.A (eval (.Name x pos) X.env) Q E s:=by
 obtain⟨mb,h1,h2⟩:=I.mod.blt
 exact Calls.Name_function_global I.ok.kind hg (Calls.loadGlobal_builtin (by rw[I.ok.glob];exact I.mod.glob.keeps I.bk) hm (by rw[I.ok.blt];exact h1.keeps I.bk) ((h2 x hn).trans hv) h) hd
theorem oH {x:Str}{v:V}{u:ao}{pos:Pos}(hg:Gl X x)(hm:X.mg x=some u)(r:b7 v u)(hd:(x==("__debug__":Str))=false:=by decide):PE X (.Name x pos) (tC v):=
 λ_ _ _ H _ I h=>mO I hg hm ⟨v,H,I,r,h⟩ hd
theorem ab5 {x:Str}{v:V}{u:ao}{pos:Pos}(hg:Gl X x)(hm:X.mg x=none)(hv:bootBuiltins x=some u)(r:b7 v u)(hn:x≠"__name__":=by decide)(hd:(x==("__debug__":Str))=false:=by decide):PE X (.Name x pos) (tC v):=
 λ_ _ _ H _ I h=>gO I hg hm hv ⟨v,H,I,r,h⟩ hn hd
variable {a b:Expr}{ta tb:TE}{pos:Pos}
noncomputable def PC (X:Cx)(op:CmpOp)(a b:Expr)(t:TE):Prop:=
 ∀(af:List (ar×Obj)) (s:aq) (σ:St) (H:Hp) (Q:VK),aE X af σ H s->t σ H Q->
  wpAny (model X.prog X.w) X.A (eval a X.env) (λv s₁=>wpAny (model X.prog X.w) X.A (eval b X.env) (λu s₂=>wpAny (model X.prog X.w) X.A (compareOp op v u) (EP X af σ Q) X.xe s₂) X.xe s₁) X.xe s
noncomputable def tB (t:TE):TT:=λσ H Q=>t σ H λx H1=>∃c,x = .bl c/\Q c H1
theorem ab6 {op:CmpOp}{t:TE}(h:PC X op a b t)(h1:behindInMarks op b=false:=by first|exact nobehind _ (by decide) (by decide)|rfl):PE X (.Compare a [op] [b] pos) t:=λaf s σ H Q I hw=>wpAny_Compare1 (h af s σ H Q I hw) h1
theorem wZ {op:CmpOp}{t:TE}(h:PC X op a b t)(h1:behindInMarks op b=false:=by first|exact nobehind _ (by decide) (by decide)|rfl):PT X (.Compare a [op] [b] pos) (tB t):=by
 intro af s σ H Q I hw;refine wpAny_isTrue_Compare1 (aT (h af s σ H _ I hw) λv s1 h1=>aT h1 λu s2 h2=>aT h2 λc s3 ⟨x,H1,I1,r1,q1⟩=>?_) h1
 obtain⟨d,rfl,q⟩:=q1
 cases r1;exact br9 ⟨H1,I1,q⟩
theorem ab7 {e:Expr}{t:TE}(h:PE X e t)(he:∀whole,isTrue e X.env whole=(do let v <- whole;standAt e.pos;holding [v] (truthy v)):=by intro _;rfl):PT X e (tB t):=by
 intro af s σ H Q I hw;refine isTrue_plain (aT (h af s σ H _ I hw) λv s1 ⟨x,H1,I1,r1,q1⟩=>?_) (he _)
 obtain⟨d,rfl,q⟩:=q1
 cases r1;exact br9 ⟨H1,I1,q⟩
variable {tA tB':TT}{dA:List Expr}
noncomputable def x0 (t u:TT):TT:=λσ H Q=>t σ H λc H1=>if c=true then u σ H1 Q else Q false H1
noncomputable def x5 (t u:TT):TT:=λσ H Q=>t σ H λc H1=>if c=true then Q true H1 else u σ H1 Q
noncomputable def x6 (t:TT):TT:=λσ H Q=>t σ H λc H1=>Q (!c) H1
theorem ab8 (ha:PT X a tA):PW X (.BoolOp .And [a] pos) tA:=by
 intro wh af s σ H Q I h;refine isTrue_and (aT (ha af s σ H Q I h) λc s1 e=>?_);cases c with
 |true=>exact isTrue_and_nil e
 |false=>exact e
theorem ab9 (ha:PT X a tA):PW X (.BoolOp .Or [a] pos) tA:=by
 intro wh af s σ H Q I h;refine isTrue_or (aT (ha af s σ H Q I h) λc s1 e=>?_);cases c with
 |false=>exact isTrue_or_nil e
 |true=>exact e
theorem ac0 (ha:PT X a tA)(hb:PW X (.BoolOp .And (b::dA) pos) tB'):PW X (.BoolOp .And (a::b::dA) pos) (x0 tA tB'):=by
 intro wh af s σ H Q I h;refine isTrue_and (aT (ha af s σ H _ I h) λc s1 ⟨H1,I1,q1⟩=>?_);cases c with
 |true=>exact hb wh af s1 σ H1 Q I1 q1
 |false=>exact⟨H1,I1,q1⟩
theorem ac1 (ha:PT X a tA)(hb:PW X (.BoolOp .Or (b::dA) pos) tB'):PW X (.BoolOp .Or (a::b::dA) pos) (x5 tA tB'):=by
 intro wh af s σ H Q I h;refine isTrue_or (aT (ha af s σ H _ I h) λc s1 ⟨H1,I1,q1⟩=>?_);cases c with
 |true=>exact⟨H1,I1,q1⟩
 |false=>exact hb wh af s1 σ H1 Q I1 q1
theorem ac2 (ha:PT X a tA):PT X (.UnaryOp .Not a pos) (x6 tA):=by
 intro af s σ H Q I h;exact isTrue_not (ha af s σ H (λc H1=>Q (!c) H1) I h)
noncomputable def x8 (ta tb:TE):TE:=λσ H Q=>ta σ H λx H1=>∃c,x = .bl c/\if c=true then tb σ H1 Q else Q (.bl false) H1
theorem ac3 {op}{t:TE}(h:PE X a t):PE X (.BoolOp op [a] pos) t:=λaf s σ H Q I hw=>BoolOp_one (h af s σ H Q I hw)
theorem ac4 (ha:PE X a ta)(hb:PE X (.BoolOp .And (b::dA) pos) tb):PE X (.BoolOp .And (a::b::dA) pos) (x8 ta tb):=by
 intro af s σ H Q I h;refine BoolOp_and (aT (ha af s σ H _ I h) λv s1 ⟨x,H1,I1,r1,q1⟩=>?_)
 obtain⟨c,rfl,q1⟩:=q1
 cases r1;refine br9 ?_;cases c with
 |true=>exact hb af s1 σ H1 Q I1 q1
 |false=>exact⟨.bl false,H1,I1,rfl,q1⟩
end
noncomputable def aV (K:ac)(H:Hp)(a:ar)(xs:List V):Prop:=
 Rd H a (.lst xs) ∨
  ∃(o:Obj) (its:Array ao) (n:Nat),K.lookup a=some o/\o.cls = .type "list"/\o.dict=none/\o.data = .seq its n/\its.size<=sizeLine/\aY xs its.toList
noncomputable def aW (K:ac)(H:Hp)(a:ar)(xs:List V):Prop:=
 Rd H a (.tup xs) ∨
  ∃(o:Obj) (its:Array ao) (n:Nat),K.lookup a=some o/\o.cls = .type "tuple"/\o.data = .seq its n/\its.size<=sizeLine/\aY xs its.toList
noncomputable def ac5:ao->Option V
 |.none=>some .non
 |.bool b=>some (.bl b)
 |.int i _=>some (.int i)
 |.str x _=>some (.str x)
 |.bytes b _=>some (.byt b)
 |.float b _=>some (.flt b)
 |.ref a=>some (.ref a)
 |.type n=>some (.ty n)
 |_=>none
theorem b7.abs {x:V}{u:ao}(r:b7 x u):ac5 u=some x:=by
 cases x with
 |non=>cases r;rfl
 |bl _=>cases r;rfl
 |int _=>obtain⟨t,rfl⟩:=r;rfl
 |str _=>obtain⟨t,rfl⟩:=r;rfl
 |byt _=>obtain⟨t,rfl⟩:=r;rfl
 |flt _=>obtain⟨t,rfl⟩:=r;rfl
 |ref _=>cases r;rfl
 |ty _=>cases r;rfl
theorem b7.inj {x y:V}{u:ao}(r:b7 x u)(q:b7 y u):x=y:=bh9 (r.abs.symm.trans q.abs)
theorem aY.inj:∀{xs ys:List V}{us:List ao},aY xs us->aY ys us->xs=ys
 |_,_,_,.nil,.nil=>rfl
 |_,_,_,.cons r t,.cons r' t'=>by rw[r.inj r',aY.inj t t']
section
variable {X:Cx}{af:List (ar×Obj)}{σ:St}{H:Hp}{s:aq}{a:ar}{xs ys:List V}
theorem aV.of {K:ac}(h:H a=some (.lst xs)):aV K H a xs:=.inl (.inl h)
theorem aW.of {K:ac}(h:H a=some (.tup xs)):aW K H a xs:=.inl (.inl h)
theorem aE.list (I:aE X af σ H s)(h:aV X.K H a xs):∃its:List ao,aY xs its/\PlainL s.heap a its.toArray/\xs.length<=sizeLine:=by
 rcases h with h|⟨o,its,n,hk,hc,hd,hs,hz,r⟩
 ·obtain⟨z,its,n,r,e⟩:=h.ok I.hok
  exact⟨its,r,⟨_,n,e,rfl,rfl,rfl⟩,z⟩
 ·refine⟨its.toList,r,⟨o,n,I.kIn a o hk,hc,hd,by simpa using hs⟩,?_⟩
  have e:=r.length;simp only[bk9]at e;omega
theorem aE.tuple (I:aE X af σ H s)(h:aW X.K H a xs):∃its:List ao,aY xs its/\IsTup s.heap a its.toArray/\xs.length<=sizeLine:=by
 rcases h with h|⟨o,its,n,hk,hc,hs,hz,r⟩
 ·obtain⟨z,its,r,p,_⟩:=h.ok I.hok
  exact⟨its,r,p,z⟩
 ·refine⟨its.toList,r,⟨o,I.kIn a o hk,hc,n,by simpa using hs⟩,?_⟩
  have e:=r.length;simp only[bk9]at e;omega
theorem aE.list_inj (I:aE X af σ H s)(h:aV X.K H a xs)(h':aV X.K H a ys):xs=ys:=by
 obtain⟨its,r,⟨o,n,e,_,_,d⟩,_⟩:=I.list h
 obtain⟨its',r',⟨o',n',e',_,_,d'⟩,_⟩:=I.list h'
 rw[e]at e';cases e';rw[d]at d';injection d' with d1 _
 have:its=its':=by simpa using congrArg Array.toList d1
 subst this;exact r.inj r'
theorem aE.tuple_inj (I:aE X af σ H s)(h:aW X.K H a xs)(h':aW X.K H a ys):xs=ys:=by
 obtain⟨its,r,⟨o,e,_,n,d⟩,_⟩:=I.tuple h
 obtain⟨its',r',⟨o',e',_,n',d'⟩,_⟩:=I.tuple h'
 rw[e]at e';cases e';rw[d]at d';injection d' with d1 _
 have:its=its':=by simpa using congrArg Array.toList d1
 subst this;exact r.inj r'
end
noncomputable abbrev Cx.wish (X:Cx)(E:ao->aq->Prop):Cx:={ X with xe:=E }
noncomputable abbrev Cx.nox (X:Cx):Cx:=X.wish λ_ _=>False
theorem Cx.Ok.wish {X:Cx}(ok:X.Ok)(E:ao->aq->Prop):(X.wish E).Ok:=
 ⟨ok.mod,ok.kind,ok.glob,ok.blt,ok.above,ok.inj,ok.has,ok.cab,ok.hd,ok.frames,ok.stk,ok.exf,ok.bs,ok.bsz,ok.noex,ok.exfs,ok.funs,ok.frf⟩
theorem Cx.Ok.unwish {X:Cx}{E:ao->aq->Prop}(ok:(X.wish E).Ok):X.Ok:=
 ⟨ok.mod,ok.kind,ok.glob,ok.blt,ok.above,ok.inj,ok.has,ok.cab,ok.hd,ok.frames,ok.stk,ok.exf,ok.bs,ok.bsz,ok.noex,ok.exfs,ok.funs,ok.frf⟩
section
variable {X:Cx}{af:List (ar×Obj)}{σ:St}{H:Hp}{s:aq}{E:ao→aq→Prop}
theorem aE.wish (I:aE X af σ H s)(E:ao->aq->Prop):aE (X.wish E) af σ H s:=⟨I.ok.wish E,I.os,I.bare,I.base,I.loc,I.cell,I.free,I.freeC,I.pin,I.hok,I.len⟩
theorem aE.unwish (I:aE (X.wish E) af σ H s):aE X af σ H s:=⟨I.ok.unwish,I.os,I.bare,I.base,I.loc,I.cell,I.free,I.freeC,I.pin,I.hok,I.len⟩
theorem SP.unwish {D:cN}{f:Flow}{s':aq}(h:SP (X.wish E) af D f s'):SP X af D f s':=by
 cases f with
 |next=>obtain⟨σ',H',I,q⟩:=h;exact⟨σ',H',I.unwish,q⟩
 |brk=>obtain⟨σ',H',I,q⟩:=h;exact⟨σ',H',I.unwish,q⟩
 |cont=>obtain⟨σ',H',I,q⟩:=h;exact⟨σ',H',I.unwish,q⟩
 |ret u=>obtain⟨v,σ',H',I,r,q⟩:=h;exact⟨v,σ',H',I.unwish,r,q⟩
theorem dM.nox {st:List Stmt}{t:TS}(h:dM X.nox st t):dM X st t:=λaf s σ H D I hw=>
 bk2 (h af s σ H D (I.wish _) hw) (λ_ _ q=>q.unwish) λ_ _ z=>False.elim z
end
section
variable {X:Cx}{st:Stmt}{dA:List Stmt}{t u:TS}{e:Expr}{te:TE}{pos:Pos}
noncomputable def x9:TS:=λD σ H=>D.nx σ H
noncomputable def xA (t u:TS):TS:=λD σ H=>t { D with nx:=u D } σ H
theorem ac6:dM X [] x9:=λ_ _ σ H _ I h=>bu2 ⟨σ,H,I,h⟩
theorem oI (h1:PS X st t)(h2:dM X dA u):dM X (st::dA) (xA t u):=by
 intro af s σ H D I h;refine wpAny_execs_cons (aT (h1 af s σ H { D with nx:=u D } I h) λf s1 q=>?_);cases f with
 |next=>
  obtain⟨σ',H',I',q⟩:=q
  exact h2 af s1 σ' H' D I' q
 |ret v=>exact q
 |brk=>exact q
 |cont=>exact q
theorem mP (h1:PS X st t):dM X [st] t:=by
 intro af s σ H D I h;refine wpAny_execs_cons (aT (h1 af s σ H D I h) λf s1 q=>?_);cases f with
 |next=>exact bu2 q
 |ret v=>exact q
 |brk=>exact q
 |cont=>exact q
theorem aE.quiet {af:List (ar×Obj)}{σ:St}{H:Hp}{s:aq}(I:aE X af σ H s):interactive X.env=false:=by simp[interactive,I.ok.kind]
noncomputable def mQ (te:TE):TS:=λD σ H=>te σ H λ_ H1=>D.nx σ H1
theorem lA (he:PE X e te)(hs:swapsWith e none pos.line X.env=pure false:=by rfl):PS X (.Expr e pos) (mQ te):=by
 intro af s σ H D I h;exact wpAny_Expr_any (aT (he af s σ H _ I h) λv s1 ⟨x,H1,I1,r1,q1⟩=>⟨σ,H1,I1,q1⟩) I.quiet hs
noncomputable def rS (te:TE):TS:=λD σ H=>te σ H D.rt
theorem mR (he:PE X e te):PS X (.Return (some e) pos) (rS te):=by
 intro af s σ H D I h;exact wpAny_Return_some (aT (he af s σ H _ I h) λv s1 ⟨x,H1,I1,r1,q1⟩=>⟨x,σ,H1,I1,r1,q1⟩)
noncomputable def xB (c:TT)(t u:TS):TS:=λD σ H=>c σ H λb H1=>if b=true then t D σ H1 else u D σ H1
theorem ac7 {c:Expr}{a b:List Stmt}{tc:TT}(hc:PT X c tc)(ha:dM X a t)(hb:dM X b u):PS X (.If c a b pos) (xB tc t u):=by
 intro af s σ H D I h;refine wpAny_If (aT (hc af s σ H _ I h) λd s1 ⟨H1,I1,q1⟩=>?_);cases d with
 |true=>exact ha af s1 σ H1 D I1 q1
 |false=>exact hb af s1 σ H1 D I1 q1
noncomputable def ac8:TS:=λ_ _ _=>False
theorem ac9:PS X st ac8:=λ_ _ _ _ _ _ h=>h.elim
end
noncomputable abbrev TG:=V->St->Hp->(St->Hp->Prop)->Prop
noncomputable abbrev jT:=List V->St->Hp->(St->Hp->Prop)->Prop
noncomputable def PG (X:Cx)(target:Expr)(t:TG):Prop:=
 ∀(af:List (ar×Obj)) (s:aq) (σ:St) (H:Hp) (v:V) (u:ao) (Q:St->Hp->Prop),aE X af σ H s->b7 v u->t v σ H Q->
  wpAny (model X.prog X.w) X.A (assign target X.env u) (λ_ s'=>∃σ' H',aE X af σ' H' s'/\Q σ' H') X.xe s
noncomputable def oJ (X:Cx)(ts:List Expr)(t:jT):Prop:=
 ∀(af:List (ar×Obj)) (s:aq) (σ:St) (H:Hp) (vs:List V) (us:List ao) (Q:St->Hp->Prop),aE X af σ H s->aY vs us->t vs σ H Q->
  wpAny (model X.prog X.w) X.A (assignInOrder ((assignEach ts X.env).map (·.2)) us) (λ_ s'=>∃σ' H',aE X af σ' H' s'/\Q σ' H') X.xe s
section
variable {X:Cx}{pos:Pos}
noncomputable def cO (i:Nat):TG:=λv σ H Q=>Q (σ.set i (some v)) H
theorem eU {i:Nat}{x:Str}(hN:X.N.Nodup)(hi:X.N[i]? = some x)(hx:hG X.env.scope x)(hf:X.fn x=true∨X.env.scope.names.lookup x=some .local:=by first|exact .inl rfl|exact .inr rfl|assumption):PG X (.Name x pos) (cO i):=by
 intro af s σ H v u Q I r h;exact wpAny_assign_Name (rR I hN hi hx r (λs' I'=>⟨_,H,I',h⟩) hf)
noncomputable def lB:jT:=λvs σ H Q=>vs = []/\Q σ H
noncomputable def gP (t:TG)(u:jT):jT:=λvs σ H Q=>∃v r,vs=v::r/\t v σ H λσ' H'=>u r σ' H' Q
theorem mS:oJ X [] lB:=by
 intro af s σ H vs us Q I r h
 obtain⟨e,h⟩:=h
 subst e;cases r;exact assignInOrder_nil ⟨σ,H,I,h⟩
theorem hU {e:Expr}{es:List Expr}{t:TG}{u:jT}(h1:PG X e t)(h2:oJ X es u)(hs:(assignEach (e::es) X.env).map (·.2)=assign e X.env::(assignEach es X.env).map (·.2):=by rfl):oJ X (e::es) (gP t u):=by
 intro af s σ H vs us Q I r h
 obtain⟨v,vr,e1,h⟩:=h
 subst e1;cases r with
 |cons r rr=>
  rw[hs];refine assignInOrder_cons (aT (h1 af s σ H _ _ _ I r h) λ_ s1 ⟨σ1,H1,I1,q1⟩=>?_);exact h2 af s1 σ1 H1 _ _ Q I1 rr q1
noncomputable def lC (K:ac)(n:Nat)(t:jT):TG:=λv σ H Q=>∃a xs,v = .ref a/\aW K H a xs/\xs.length=n/\t xs σ H Q
theorem mT {es:List Expr}{k:Nat}{t:jT}{n:Nat}(hc:X.calm=true)(h:oJ X es t)(hn:(assignEach es X.env).length=n:=by rfl)(hst:(assignEach es X.env).findIdx? (·.1)=none:=by rfl):PG X (.Tuple es k pos) (lC X.K n t):=by
 intro af s σ H v u Q I r hw
 obtain⟨a,xs,e1,hq,hl,hw⟩:=hw
 subst e1;cases r
 obtain⟨its,rv,ht,hz⟩:=I.tuple hq
 refine assign_Tuple_tuple (I.ok.hd hc) ht (by simp[hn,<- hl,rv.length]) hst λh' hx=>?_
 have I1:aE X af σ H { s with heap:=h' }:=I.kept (t':=s.toks) λb o e=>hx b o (bh6 (bf4 e)) e
 exact h af _ σ H xs _ Q I1 (by simpa using rv) hw
noncomputable def jU (te:TE)(g:TG):TS:=λD σ H=>te σ H λx H1=>g x σ H1 D.nx
theorem rT {i:Nat}{x:Str}{e:Expr}{te:TE}{pos':Pos}(hN:X.N.Nodup)(hi:X.N[i]? = some x)(hx:hG X.env.scope x)(he:PE X e te)(hs:swapsWith e (some (.Name x pos')) pos.line X.env=pure false:=by rfl)(hf:X.fn x=true∨X.env.scope.names.lookup x=some .local:=by first|exact .inl rfl|exact .inr rfl|assumption) :
  PS X (.Assign [.Name x pos'] e pos) (jU te (cO i)):=by
 intro af s σ H D I h;refine wpAny_Assign_Name (aT (he af s σ H _ I h) λv s1 ⟨y,H1,I1,r1,q1⟩=>?_) hs;exact rR I1 hN hi hx r1 (λs2 I2=>⟨_,H1,I2,q1⟩) hf
end
section
variable {X:Cx}{pos:Pos}
noncomputable def xC (c:TT)(tb:TS):TS:=λD σ H=>∃W:Nat->St->Hp->Prop,(∃m,W m σ H)/\∀m σ H,W m σ H->
 c σ H λb H1=>if b=true then ∃N:St->Hp->Prop,(∀σ' H',N σ' H'->∃m',m'<m/\W m' σ' H')/\tb { D with nx:=N,ct:=N,bk:=D.nx } σ H1 else D.nx σ H1
theorem ad0 {c:Expr}{body:List Stmt}{tc:TT}{tb:TS}(hp:PassesOwn (model X.prog X.w) X.A X.env X.xe)(hc:PT X c tc)(hb:dM X body tb):PS X (.While c body [] pos) (xC tc tb):=by
 intro af s σ H D I h
 obtain⟨W,⟨m0,w0⟩,turn⟩:=h
 refine wpAny_While (codeAny_whileLoop (λn s'=>∃σ' H',aE X af σ' H' s'/\W n σ' H') ?_ m0 ⟨σ,H,I,w0⟩);rintro n s1 ⟨σ1,H1,I1,w1⟩;refine bu3 hp (aT (hc af s1 σ1 H1 _ I1 (turn n σ1 H1 w1)) λb s2 ⟨H2,I2,q2⟩=>?_);cases b with
 |true=>
  obtain⟨N,hN,q2⟩:=q2
  rw[if_pos rfl];refine bu3 hp (aT (hb af s2 σ1 H2 _ I2 q2) λf s3 q3=>?_);cases f with
  |next=>
   obtain⟨σ3,H3,I3,n3⟩:=q3
   obtain⟨m',hm,w3⟩:=hN σ3 H3 n3
   exact⟨m',hm,σ3,H3,I3,w3⟩
  |cont=>
   obtain⟨σ3,H3,I3,n3⟩:=q3
   obtain⟨m',hm,w3⟩:=hN σ3 H3 n3
   exact⟨m',hm,σ3,H3,I3,w3⟩
  |brk=>exact q3
  |ret v=>exact q3
 |false=>
  rw[if_neg bh4];exact bu2 ⟨σ1,H2,I2,q2⟩
end
structure It where
 go:Nat->Hp->Prop
 yld:Nat->Hp->V->Hp->Prop
 stop:Nat->Hp->Prop
noncomputable def eM (X:Cx)(af:List (ar×Obj))(H:Hp)(b:ar):Prop:=
 H b=none/\b≠X.env.locals/\b∉X.fs/\(b∈X.ex∨X.s₀.heap.objs.size<=b)/\(∀x c,X.env.cells.lookup x=some c->c≠b)/\∀p∈X.pn++af,p.1≠b
theorem aE.fpOk {X:Cx}{af:List (ar×Obj)}{σ:St}{H H':Hp}{s:aq}{b:ar}(I:aE X af σ H s)(hb:s.heap.objs.size<=b)(hn:H' b=none):eM X af H' b:=by
 refine⟨hn,bl4 (bf2 I.lt hb),I.nofs hb,.inr (bj5 I.sz hb),λx c e z=>?_,λp hp z=>?_⟩
 ·obtain⟨v,q⟩:=I.cell x c e
  exact absurd (bf2 q.lt (by rw[z];exact hb)) (bj9 _)
 ·exact absurd (bf2 (bf4 (I.pin p hp).1) (by rw[z];exact hb)) (bj9 _)
structure fN (P:av)(w:ax)(K:ac)(tg:Expr)(J:It)(fp:List ar)(it:ar)(tn:Nat->Heap->Prop):Prop where
 mem:it∈fp
 obj:∀i h,tn i h->∀b∈fp,∃o,h.get? b=some o/\∀v,o.data≠.cell v
 keep:∀i h h',tn i h->(∀b∈fp,∀o,h.get? b=some o->h'.get? b=some o)->tn i h'
 item:∀(X:Cx),X.prog=P->X.w=w->X.K=K->X.calm=true->∀(i:Nat) (af:List (ar×Obj)) (s:aq) (σ:St) (H:Hp) (E:ao->aq->Prop),aE X af σ H s->(∀b∈fp,eM X af H b)->tn i s.heap->J.go i H->
  wpAny (model P w) X.A (pyNext (.ref it)) (λr s1=>∃u,r=some u/\
   wpAny (model P w) X.A (letOwnedTupleGo tg (.ref it) u) (λ_ s2=>∃x H',aE X af σ H' s2/\b7 x u/\J.yld i H x H'/\tn (i+1) s2.heap/\∀b∈fp,H' b=none) E s1) E s
 done:∀(X:Cx),X.prog=P->X.w=w->X.K=K->X.calm=true->∀(i:Nat) (af:List (ar×Obj)) (s:aq) (σ:St) (H:Hp) (E:ao->aq->Prop),aE X af σ H s->(∀b∈fp,eM X af H b)->tn i s.heap->J.stop i H->
  wpAny (model P w) X.A (pyNext (.ref it)) (λr s1=>r=none/\aE X af σ H s1) E s
 self:∀(A:aw) (i:Nat) (s:aq) (Q:ao->aq->Prop) (E:ao->aq->Prop),tn i s.heap->Q (.ref it) s->wpAny (model P w) A (pyIter (.ref it)) Q E s
noncomputable abbrev TI:=St->Hp->(It->Hp->Prop)->Prop
noncomputable def xD (X:Cx)(af:List (ar×Obj))(σ:St)(tg:Expr)(R:It->Hp->Prop)(itv:ao)(s2:aq):Prop:=
 ∃(it:ar) (fp:List ar) (tn:Nat->Heap->Prop) (J:It) (H':Hp),itv = .ref it/\aE X af σ H' s2/\fN X.prog X.w X.K tg J fp it tn/\tn 0 s2.heap/\(∀b∈fp,eM X af H' b)/\R J H'
noncomputable def PI (X:Cx)(tg iter:Expr)(wi:TI):Prop:=
 ∀(af:List (ar×Obj)) (s:aq) (σ:St) (H:Hp) (R:It->Hp->Prop),aE X af σ H s->wi σ H R->
  wpAny (model X.prog X.w) X.A (eval iter X.env) (λv s1=>wpAny (model X.prog X.w) X.A (pyIter v) (xD X af σ tg R) X.xe s1) X.xe s
theorem mU {M:Model}{A:aw}{E:ao->aq->Prop}{s:aq}{tg:Expr}{it:ar}{u:ao}{o:Obj}{n:String}{vs:Array ao}{Q:Unit->aq->Prop}(ho:s.heap.get? it=some o)(hc:o.cls = .type n)(hd:o.data = .fields vs)(hn:["enumerate","zip","dict_itemiterator","dict_reverseitemiterator","odict_iterator","itertools.zip_longest","itertools.pairwise"].contains n=false)(hQ:Q () s):wpAny M A (letOwnedTupleGo tg (.ref it) u) Q E s:=by
  unfold letOwnedTupleGo;cases tg<;>first
    |exact be6 hQ
    |(cases u<;>first
        |exact be6 hQ
        | (refine be2 (wpAny_load ho ?_)
           rw[hc,hd];show wpAny M A (if (["enumerate","zip","dict_itemiterator","dict_reverseitemiterator","odict_iterator","itertools.zip_longest","itertools.pairwise"].contains n&&vs[0]?==some (rawInt _))=true then _ else _) Q E s;rw[if_neg (by intro h;rw[hn,Bool.false_and]at h;cases h)]
           exact be6 hQ))
noncomputable def lD (K:ac)(a:ar):It:=
 ⟨λi H=>∃xs x,aV K H a xs/\xs[i]? = some x,λi H x H'=>H'=H/\∀xs,aV K H a xs->xs[i]? = some x,λi H=>∃xs,aV K H a xs/\xs.length<=i⟩
noncomputable def jC (K:ac)(a:ar):It:=
 ⟨λi H=>∃xs x,aW K H a xs/\xs[i]? = some x,λi H x H'=>H'=H/\∀xs,aW K H a xs->xs[i]? = some x,λi H=>∃xs,aW K H a xs/\xs.length<=i⟩
noncomputable def oK (lo:Int)(n:Nat):It:=⟨λi _=>i<n,λi H x H'=>H'=H/\x = .int (lo+i),λi _=>n<=i⟩
theorem ad1 {P:av}{w:ax}{K:ac}{tg:Expr}(a it:ar):fN P w K tg (lD K a) [it] it (λi h=>h.IsListIter it a i) where
 mem:=by simp
 obj:=λi h st b hb=>by
  have e:b=it:=by simpa using hb
  subst e
  obtain⟨o,e,c,d⟩:=st
  exact⟨o,e,λv z=>by rw[d]at z;cases z⟩
 keep:=λi h h' st k=>st.at λo e=>k it (by simp) o e
 item:=by
  intro X hP hw hK hc i af s σ H E I hf st hg;subst hP hw hK
  obtain⟨xs,x,hq,hx⟩:=hg
  obtain⟨its,rv,p,hz⟩:=I.list hq
  obtain⟨u,hu,ru⟩:=rv.get hx
  obtain⟨f0,f1,f2,f3,f4,f5⟩:=hf it (by simp)
  refine wpAny_pyNext_list_item st p.isList (x:=u) (by simpa using hu) λh' st' sb=>?_
  have I1:aE X af σ H { s with heap:=h' }:=I.turned (t':=s.toks) (λb o hb e=>(sb.2 b hb).trans e) f0 f1 f3 f4 f5
  obtain⟨o,e,c,d⟩:=id st'
  exact⟨u,rfl,mU (s:={ s with heap:=h' }) e c d (by decide) ⟨x,H,I1,ru,⟨rfl,λys hy=>by rw[I.list_inj hy hq];exact hx⟩,st',λb hb=>(hf b hb).1⟩⟩
 done:=by
  intro X hP hw hK hc i af s σ H E I hf st hg;subst hP hw hK
  obtain⟨xs,hq,hx⟩:=hg
  obtain⟨its,rv,p,hz⟩:=I.list hq
  obtain⟨f0,f1,f2,f3,f4,f5⟩:=hf it (by simp)
  have hl:=rv.length;exact wpAny_pyNext_list_end (I.ok.hd hc) st p.isList (by simp;omega) λh' eb=>⟨rfl,I.turned (t':=s.toks) (λb o hb e=>eb b o hb e) f0 f1 f3 f4 f5⟩
 self:=λ_ _ _ _ _ st h=>wpAny_pyIter_listiter st h
theorem xE {P:av}{w:ax}{K:ac}{tg:Expr}(a it:ar):fN P w K tg (jC K a) [it] it (λi h=>h.IsTupleIter it a i) where
 mem:=by simp
 obj:=λi h st b hb=>by
  have e:b=it:=by simpa using hb
  subst e
  obtain⟨o,e,c,d⟩:=st
  exact⟨o,e,λv z=>by rw[d]at z;cases z⟩
 keep:=λi h h' st k=>st.at λo e=>k it (by simp) o e
 item:=by
  intro X hP hw hK hc i af s σ H E I hf st hg;subst hP hw hK
  obtain⟨xs,x,hq,hx⟩:=hg
  obtain⟨its,rv,p,hz⟩:=I.tuple hq
  obtain⟨u,hu,ru⟩:=rv.get hx
  obtain⟨f0,f1,f2,f3,f4,f5⟩:=hf it (by simp)
  refine wpAny_pyNext_tuple_item st (show s.heap.IsTuple a its.toArray from p) (x:=u) (by simpa using hu) λh' st' sb=>?_
  have I1:aE X af σ H { s with heap:=h' }:=I.turned (t':=s.toks) (λb o hb e=>(sb.2 b hb).trans e) f0 f1 f3 f4 f5
  obtain⟨o,e,c,d⟩:=id st'
  exact⟨u,rfl,mU (s:={ s with heap:=h' }) e c d (by decide) ⟨x,H,I1,ru,⟨rfl,λys hy=>by rw[I.tuple_inj hy hq];exact hx⟩,st',λb hb=>(hf b hb).1⟩⟩
 done:=by
  intro X hP hw hK hc i af s σ H E I hf st hg;subst hP hw hK
  obtain⟨xs,hq,hx⟩:=hg
  obtain⟨its,rv,p,hz⟩:=I.tuple hq
  obtain⟨f0,f1,f2,f3,f4,f5⟩:=hf it (by simp)
  have hl:=rv.length;exact wpAny_pyNext_tuple_end (I.ok.hd hc) st (show s.heap.IsTuple a its.toArray from p) (by simp;omega) λh' eb=>⟨rfl,I.turned (t':=s.toks) (λb o hb e=>eb b o hb e) f0 f1 f3 f4 f5⟩
 self:=λ_ _ _ _ _ st h=>wpAny_pyIter_tupleiter st h
theorem ad2 {P:av}{w:ax}{K:ac}{tg:Expr}(it:ar)(lo:Int)(n:Nat):fN P w K tg (oK lo n) [it] it (λi h=>IsRangeIter h it (lo+(i:Nat)*1) ((n:Int)-(i:Nat)) 1) where
 mem:=by simp
 obj:=λi h st b hb=>by
  have e:b=it:=by simpa using hb
  subst e
  exact⟨_,st,λv z=>by
   have z':Data.fields _=Data.cell v:=z
   cases z'⟩
 keep:=λi h h' st k=>k it (by simp) _ st
 item:=by
  intro X hP hw hK hc i af s σ H E I hf st hg;subst hP hw hK
  obtain⟨f0,f1,f2,f3,f4,f5⟩:=hf it (by simp)
  have W:=Walks.range (prog:=X.prog) (w:=X.w) (I.ok.hd hc) it lo 1 n;refine W.item i s _ _ hg st λv h' tk hv st' kk=>?_
  obtain⟨t,rfl⟩:=hv
  have I1:aE X af σ H { s with heap:=h',toks:=tk }:=I.turned (λb o hb e=>kk b o (by simpa using hb) e) f0 f1 f3 f4 f5;refine⟨_,rfl,mU (s:={ s with heap:=h',toks:=tk }) (n:="range_iterator") st' rfl rfl (by decide) ⟨.int (lo+i),H,I1,⟨t,?_⟩,⟨rfl,rfl⟩,st',λb hb=>(hf b hb).1⟩⟩;rw[Int.mul_one]
 done:=by
  intro X hP hw hK hc i af s σ H E I hf st hg;subst hP hw hK
  obtain⟨f0,f1,f2,f3,f4,f5⟩:=hf it (by simp)
  exact wpAny_pyNext_range_end (I.ok.hd hc) st (by have:n<=i:=hg;omega) λh' eb=>⟨rfl,I.turned (t':=s.toks) (λb o hb e=>eb b o hb e) f0 f1 f3 f4 f5⟩
 self:=λ_ _ _ _ _ st h=>wpAny_pyIter_rangeiter st h
section
variable {X:Cx}{tg:Expr}
noncomputable def ad3 (K:ac)(tl:TE):TI:=λσ H R=>tl σ H λx H1=>∃a,x = .ref a/\(∃xs,aW K H1 a xs)/\R (jC K a) H1
theorem xF {l:Expr}{tl:TE}(hl:PE X l tl):PI X tg l (ad3 X.K tl):=by
 intro af s σ H R I h;refine aT (hl af s σ H _ I h) λv s1 ⟨x,H1,I1,r1,q1⟩=>?_
 obtain⟨a,e,⟨xs,hq⟩,q⟩:=q1
 subst e;cases r1
 obtain⟨its,rv,p,hz⟩:=I1.tuple hq
 refine br1 (show s1.heap.IsTuple a its.toArray from p) ?_;refine⟨s1.heap.objs.size,[s1.heap.objs.size],_,_,H1,rfl,I1.kept (t':=s1.toks) λb o e=>be4 _ e,xE a _,⟨_,bf0 _ rfl,rfl,rfl⟩,λb hb=>?_,q⟩;have e:b=s1.heap.objs.size:=by simpa using hb
 subst e;exact I1.fpOk (be7 _) (I1.hok.fresh (be7 _))
theorem ad4 {af:List (ar×Obj)}{σ:St}{H:Hp}{s:aq}{R:It->Hp->Prop}{E:ao->aq->Prop}{lo hi:Int}{t u v:Tok}{tk:Nat}(I:aE X af σ H s)(h1:-(2^62)<=lo)(h2:lo<2^62)(h3:-(2^62)<=hi)(h4:hi<2^62)(q:R (oK lo (hi-lo).toNat) H):wpAny (model X.prog X.w) X.A (pyIter (.ref s.heap.objs.size)) (xD X af σ tg R) E { s with heap:=s.heap.push { cls:=.type "range",data:=.fields #[.int lo t,.int hi u,.int 1 v] },toks:=tk }:=by
 refine wpAny_pyIter_range (IsRange.new ..) (small_one h1 h2 h3 h4) ?_;have I1:aE X af σ H { s with heap:=s.heap.push { cls:=.type "range",data:=.fields #[.int lo t,.int hi u,.int 1 v] },toks:=tk }:=I.kept λb o e=>be4 _ e
 refine⟨(s.heap.push { cls:=.type "range",data:=.fields #[.int lo t,.int hi u,.int 1 v] }).objs.size,[(s.heap.push { cls:=.type "range",data:=.fields #[.int lo t,.int hi u,.int 1 v] }).objs.size],_,_,H,rfl,
  I1.kept (t':=tk) λb o e=>be4 _ e,ad2 _ lo (hi-lo).toNat,?_,λb hb=>?_,q⟩
 ·have e1:lo+((0:Nat):Int)*1=lo:=by simp
  have e2:(((hi-lo).toNat:Nat):Int)-((0:Nat):Int)=Builtin.Range.rangeSize lo hi 1:=by rw[rangeSize_one];split<;>omega
  show IsRangeIter _ _ (lo+((0:Nat):Int)*1) ((((hi-lo).toNat:Nat):Int)-((0:Nat):Int)) 1;rw[e1,e2];exact bf0 _ rfl
 ·have e:b=(s.heap.push { cls:=.type "range",data:=.fields #[.int lo t,.int hi u,.int 1 v] }).objs.size:=by simpa using hb
  subst e;exact I1.fpOk (be7 _) (I1.hok.fresh (be7 _))
noncomputable def xG (ta:TA):TI:=λσ H R=>ta σ H λvs H1=>∃j:Int,vs = [.int j]/\-(2^62)<=j/\j<2^62/\R (oK 0 j.toNat) H1
theorem ad5 {a:Expr}{ta:TA}{p pos:Pos}(hg:Gl X "range")(hm:X.mg "range" = none)(ha:PA X [a] ta)(hs:starEach [a] X.env = [(false,eval a X.env)]:=by rfl):PI X tg (.Call (.Name "range" p) [a] [] pos) (xG ta):=by
 intro af s σ H R I h;refine Call_ (gO I hg hm boot_range (bj6 (aT (ha pos af s σ H _ I h) λus s1 ⟨vs,H1,I1,r1,q1⟩=>?_) hs rfl))
 obtain⟨j,e,q1,q2,q⟩:=q1
 subst e;cases r1 with
 |cons r rr=>
  cases rr
  obtain⟨t,rfl⟩:=r
  exact call_range_1 (ad4 I1 (by omega) (by omega) q1 q2 (by simpa using q))
noncomputable def xH (wi:TI)(g:TG)(tb:TS):TS:=λD σ H=>wi σ H λJ H1=>∃W:Nat->Nat->St->Hp->Prop,(∃m,W 0 m σ H1)/\∀i m σ H,W i m σ H->
 (J.stop i H/\D.nx σ H)∨(J.go i H/\∃N:St->Hp->Prop,(∀σ' H',N σ' H'->∃m',m'<m/\W (i+1) m' σ' H')/\∀x H',J.yld i H x H'->g x σ H' λσ2 H2=>tb { D with nx:=N,ct:=N,bk:=D.nx } σ2 H2)
noncomputable def lE (fp:List ar)(h:Heap):List (ar×Obj):=fp.filterMap λb=>(h.get? b).map λo=>(b,o)
theorem lF {fp:List ar}{h:Heap}{b:ar}{o:Obj}(hb:b∈fp)(e:h.get? b=some o):(b,o)∈lE fp h:=List.mem_filterMap.mpr ⟨b,hb,by rw[e];rfl⟩
theorem ad6 {fp:List ar}{h:Heap}{p:ar×Obj}(hp:p∈lE fp h):p.1∈fp/\h.get? p.1=some p.2:=by
 obtain⟨b,hb,e⟩:=List.mem_filterMap.mp hp
 cases q:h.get? b with
 |none=>rw[q]at e;cases e
 |some o=>
  rw[q]at e;have e':(b,o)=p:=bh9 e;subst e'
  exact⟨hb,q⟩
theorem aE.pinned {af:List (ar×Obj)}{σ:St}{H:Hp}{s:aq}{fp:List ar}(I:aE X af σ H s)(hf:∀b∈fp,eM X af H b)(ho:∀b∈fp,∃o,s.heap.get? b=some o/\∀v,o.data≠.cell v):aE X (af++lE fp s.heap) σ H s:=
 I.pins_of λp hp=>(bs3.mp hp).elim (λz=>I.pin p (bi5 _ z)) λz=>by
  obtain⟨hb,e⟩:=ad6 z
  obtain⟨f0,f1,f2,_⟩:=hf p.1 hb
  obtain⟨o,e',d⟩:=ho p.1 hb
  rw[e]at e';cases e'
  exact⟨e,f0,f1,f2,d⟩
theorem aE.unpinned {af pl:List (ar×Obj)}{σ:St}{H:Hp}{s:aq}(I:aE X (af++pl) σ H s):aE X af σ H s:=I.pins_of λp hp=>I.pin p (bi5 _ (List.mem_append_left _ hp))
theorem xI {iter:Expr}{body:List Stmt}{wi:TI}{g:TG}{tb:TS}{pos:Pos}(hp:PassesOwn (model X.prog X.w) X.A X.env X.xe)(hc:X.calm=true)(hi:PI X tg iter wi)(hg:PG X tg g)(hb:dM X body tb)(hs:∀x,foldedSetIterable iter X.env x=pure x:=by intro _;rfl):PS X (.For tg iter body [] pos) (xH wi g tb):=by
 intro af s σ H D I h;refine wpAny_For (aT (hi af s σ H _ I h) λv s1 h1=>aT h1 λitv s2 h2=>?_) hs
 obtain⟨it,fp,tn,J,H2,e,I2,T,st2,f2,W,⟨m0,w0⟩,turn⟩:=h2
 subst e;have stat:∀{H':Hp},(∀b∈fp,H' b=none)->∀b∈fp,eM X af H' b:=λhn b hb=>⟨hn b hb,(f2 b hb).2⟩
 refine codeAny_forLoop_any (λn s'=>∃i σ' H',aE X af σ' H' s'/\tn i s'.heap/\(∀b∈fp,H' b=none)/\W i n σ' H') ?_ m0 ⟨0,σ,H2,I2,st2,λb hb=>(f2 b hb).1,w0⟩;rintro n s3 ⟨i,σ3,H3,I3,st3,fr3,w3⟩;rcases turn i n σ3 H3 w3 with⟨stop,qn⟩|⟨go,N,hN,step⟩
 ·refine bu3 hp (aT (T.done X rfl rfl rfl hc i af s3 σ3 H3 X.xe I3 (stat fr3) st3 stop) λr s4 ⟨hr,I4⟩=>?_)
  subst hr;exact bu2 ⟨σ3,H3,I4,qn⟩
 ·refine bu3 hp (aT (T.item X rfl rfl rfl hc i af s3 σ3 H3 X.xe I3 (stat fr3) st3 go) λr s4 ⟨u,hr,h4⟩=>?_)
  subst hr;refine bu3 hp (aT h4 λ_ s5 ⟨x,H5,I5,r5,y5,st5,fr5⟩=>?_);have I5':=I5.pinned (stat fr5) (T.obj _ _ st5);refine bu3 hp (aT (hg _ s5 σ3 H5 x u _ I5' r5 (step x H5 y5)) λ_ s6 ⟨σ6,H6,I6,q6⟩=>?_);refine bu3 hp (aT (hb _ s6 σ6 H6 _ I6 q6) λf s7 q7=>?_);have again:∀{σ7:St}{H7:Hp},aE X (af++lE fp s5.heap) σ7 H7 s7->N σ7 H7->∃m,m<n/\∃i σ' H',aE X af σ' H' s7/\tn i s7.heap/\(∀b∈fp,H' b=none)/\W i m σ' H':=λ{σ7 H7} I7 n7=>by
   obtain⟨m',hm,w7⟩:=hN σ7 H7 n7
   refine⟨m',hm,i+1,σ7,H7,I7.unpinned,T.keep _ _ _ st5 λb hb o e=>(I7.pin (b,o) (bi5 _ (bi5 _ (lF hb e)))).1,λb hb=>?_,w7⟩
   obtain⟨o,e,d⟩:=T.obj _ _ st5 b hb
   exact (I7.pin (b,o) (bi5 _ (bi5 _ (lF hb e)))).2.1
  cases f with
  |next=>obtain⟨σ7,H7,I7,n7⟩:=q7;exact again I7 n7
  |cont=>obtain⟨σ7,H7,I7,n7⟩:=q7;exact again I7 n7
  |brk=>obtain⟨σ7,H7,I7,q7⟩:=q7;exact⟨σ7,H7,I7.unpinned,q7⟩
  |ret v=>obtain⟨x7,σ7,H7,I7,r7,q7⟩:=q7;exact⟨x7,σ7,H7,I7.unpinned,r7,q7⟩
end
theorem bd3 {K:ac}{a:ar}{xs:List V}{g:TG}{tb:TS}{D:cN}{σ:St}{H:Hp}(Pv:Nat->St->Hp->Prop)(h0:Pv 0 σ H)(hl:∀i σ H,i<=xs.length->Pv i σ H->aV K H a xs)(hs:∀i x σ H,xs[i]? = some x->Pv i σ H->g x σ H λσ2 H2=>tb { D with nx:=Pv (i+1),ct:=Pv (i+1),bk:=D.nx } σ2 H2)(hd:∀σ H,Pv xs.length σ H->D.nx σ H) :
  ∃W:Nat->Nat->St->Hp->Prop,(∃m,W 0 m σ H)/\∀i m σ H,W i m σ H->
   ((lD K a).stop i H/\D.nx σ H)∨((lD K a).go i H/\∃N:St->Hp->Prop,(∀σ' H',N σ' H'->∃m',m'<m/\W (i+1) m' σ' H')/\∀x H',(lD K a).yld i H x H'->g x σ H' λσ2 H2=>tb { D with nx:=N,ct:=N,bk:=D.nx } σ2 H2):=by
 refine⟨λi m σ H=>m=xs.length-i/\i<=xs.length/\Pv i σ H,⟨xs.length,by simp,bo1 _,h0⟩,?_⟩;rintro i m σ H ⟨rfl,hi,p⟩;have q:=hl i σ H hi p;by_cases hlt:i<xs.length
 ·refine .inr ⟨⟨xs,xs[i],q,by simp[hlt]⟩,Pv (i+1),λσ' H' p'=>⟨xs.length-(i+1),by omega,rfl,hlt,p'⟩,λx H' y=>?_⟩
  obtain⟨e,y⟩:=y
  subst e;exact hs i x σ _ (y xs q) p
 ·have e:i=xs.length:=by omega
  subst e;exact .inl ⟨⟨xs,q,be7 _⟩,hd σ H p⟩
theorem ad7 {K:ac}{a:ar}{xs:List V}{g:TG}{tb:TS}{D:cN}{σ:St}{H:Hp}(Pv:Nat->St->Hp->Prop)(h0:Pv 0 σ H)(hl:∀i σ H,i<=xs.length->Pv i σ H->aW K H a xs)(hs:∀i x σ H,xs[i]? = some x->Pv i σ H->g x σ H λσ2 H2=>tb { D with nx:=Pv (i+1),ct:=Pv (i+1),bk:=D.nx } σ2 H2)(hd:∀σ H,Pv xs.length σ H->D.nx σ H) :
  ∃W:Nat->Nat->St->Hp->Prop,(∃m,W 0 m σ H)/\∀i m σ H,W i m σ H->
   ((jC K a).stop i H/\D.nx σ H)∨((jC K a).go i H/\∃N:St->Hp->Prop,(∀σ' H',N σ' H'->∃m',m'<m/\W (i+1) m' σ' H')/\∀x H',(jC K a).yld i H x H'->g x σ H' λσ2 H2=>tb { D with nx:=N,ct:=N,bk:=D.nx } σ2 H2):=by
 refine⟨λi m σ H=>m=xs.length-i/\i<=xs.length/\Pv i σ H,⟨xs.length,by simp,bo1 _,h0⟩,?_⟩;rintro i m σ H ⟨rfl,hi,p⟩;have q:=hl i σ H hi p;by_cases hlt:i<xs.length
 ·refine .inr ⟨⟨xs,xs[i],q,by simp[hlt]⟩,Pv (i+1),λσ' H' p'=>⟨xs.length-(i+1),by omega,rfl,hlt,p'⟩,λx H' y=>?_⟩
  obtain⟨e,y⟩:=y
  subst e;exact hs i x σ _ (y xs q) p
 ·have e:i=xs.length:=by omega
  subst e;exact .inl ⟨⟨xs,q,be7 _⟩,hd σ H p⟩
noncomputable abbrev R2:=V->V->Hp->VK->Prop
noncomputable def cC (X:Cx)(f:ao->ao->Sem ao)(r:R2):Prop:=
 ∀(af:List (ar×Obj)) (s:aq) (σ:St) (H:Hp) (x y:V) (v u:ao) (Q:VK),aE X af σ H s->b7 x v->b7 y u->r x y H Q->
  wpAny (model X.prog X.w) X.A (f v u) (EP X af σ Q) X.xe s
noncomputable def rV (X:Cx)(f:ao->Sem ao)(r:V->Hp->VK->Prop):Prop:=
 ∀(af:List (ar×Obj)) (s:aq) (σ:St) (H:Hp) (x:V) (v:ao) (Q:VK),aE X af σ H s->b7 x v->r x H Q->
  wpAny (model X.prog X.w) X.A (f v) (EP X af σ Q) X.xe s
noncomputable def cV (X:Cx)(f:ao)(r:List V->Hp->VK->Prop):Prop:=
 ∀(af:List (ar×Obj)) (s:aq) (σ:St) (H:Hp) (xs:List V) (us:List ao) (Q:VK),aE X af σ H s->aY xs us->r xs H Q->
  wpAny (model X.prog X.w) X.A (call f us) (EP X af σ Q) X.xe s
noncomputable def ad8 (X:Cx)(r:V->Hp->(Bool->Hp->Prop)->Prop):Prop:=
 ∀(af:List (ar×Obj)) (s:aq) (σ:St) (H:Hp) (x:V) (v:ao) (Q:Bool->Hp->Prop),aE X af σ H s->b7 x v->r x H Q->
  wpAny (model X.prog X.w) X.A (truthy v) (TP X af σ Q) X.xe s
noncomputable def mV (r:R2)(ta tb:TE):TE:=λσ H Q=>ta σ H λx H1=>tb σ H1 λy H2=>r x y H2 Q
noncomputable def tUn (r:V->Hp->VK->Prop)(ta:TE):TE:=λσ H Q=>ta σ H λx H1=>r x H1 Q
noncomputable def rI (C:Int->Int->Prop)(g:Int->Int->V):R2:=λx y H Q=>∃i j,x = .int i/\y = .int j/\C i j/\Q (g i j) H
noncomputable def iI (g:Int->Int->V):R2:=λx y H Q=>∃i j,x = .int i/\y = .int j/\Q (g i j) H
noncomputable def rU (g:Int->V):V->Hp->VK->Prop:=λx H Q=>∃i,x = .int i/\Q (g i) H
section
variable {X:Cx}{a b c:Expr}{ta tb tc:TE}{pos:Pos}
theorem rW (ha:PE X a ta)(hb:PE X b tb){af:List (ar×Obj)}{s:aq}{σ:St}{H:Hp}{R:V->V->Hp->Prop}(I:aE X af σ H s)(h:ta σ H λx H1=>tb σ H1 λy H2=>R x y H2){Q:ao->aq->Prop}{f:ao->ao->Sem ao}(hf:∀v u s2 x y H2,aE X af σ H2 s2->b7 x v->b7 y u->R x y H2->wpAny (model X.prog X.w) X.A (f v u) Q X.xe s2) :
  wpAny (model X.prog X.w) X.A (eval a X.env) (λv s₁=>wpAny (model X.prog X.w) X.A (eval b X.env) (λu s₂=>wpAny (model X.prog X.w) X.A (f v u) Q X.xe s₂) X.xe s₁) X.xe s:=by
 refine aT (ha af s σ H _ I h) λv s1 ⟨x,H1,I1,r1,q1⟩=>?_
 refine aT (hb af s1 σ H1 _ I1 q1) λu s2 ⟨y,H2,I2,r2,q2⟩=>?_
 exact hf v u s2 x y H2 I2 r1 r2 q2
theorem ad9 {op:Operator}{r:R2}(ho:cC X (binaryOp op) r)(ha:PE X a ta)(hb:PE X b tb):PE X (.BinOp a op b pos) (mV r ta tb):=by
 intro af s σ H Q I h;exact wpAny_BinOp (rW ha hb I h λv u s2 x y H2 I2 rx ry q=>ho af s2 σ H2 x y v u Q I2 rx ry q)
theorem ae0 {op:UnaryOp}{r:V->Hp->VK->Prop}(ho:rV X (unaryOp op) r)(ha:PE X a ta):PE X (.UnaryOp op a pos) (tUn r ta):=by
 intro af s σ H Q I h;exact UnaryOp_ (aT (ha af s σ H _ I h) λv s1 ⟨x,H1,I1,r1,q1⟩=>ho af s1 σ H1 x v Q I1 r1 q1)
theorem rX {f:ao->ao->Sem ao}{C:Int->Int->Prop}{g:Int->Int->Int}(rule:∀(i j:Int) (t u:Tok) (s:aq) (Q:ao->aq->Prop) (E:ao->aq->Prop),C i j->Q (.int (g i j) s.toks) { s with toks:=s.toks+1 }->wpAny (model X.prog X.w) X.A (f (.int i t) (.int j u)) Q E s) :
  cC X f (rI C λi j=>.int (g i j)):=by
 intro af s σ H x y v u Q I rx ry h
 obtain⟨i,j,rfl,rfl,hc,q⟩:=h
 obtain⟨t,rfl⟩:=rx
 obtain⟨t',rfl⟩:=ry
 exact rule i j t t' s _ _ hc ⟨.int (g i j),H,I.tok _,⟨_,rfl⟩,q⟩
theorem xJ {f:ao->ao->Sem ao}{g:Int->Int->Int}(rule:∀(i j:Int) (t u:Tok) (s:aq) (Q:ao->aq->Prop) (E:ao->aq->Prop),Q (.int (g i j) s.toks) { s with toks:=s.toks+1 }->wpAny (model X.prog X.w) X.A (f (.int i t) (.int j u)) Q E s) :
  cC X f (iI λi j=>.int (g i j)):=by
 intro af s σ H x y v u Q I rx ry h
 obtain⟨i,j,rfl,rfl,q⟩:=h
 obtain⟨t,rfl⟩:=rx
 obtain⟨t',rfl⟩:=ry
 exact rule i j t t' s _ _ ⟨.int (g i j),H,I.tok _,⟨_,rfl⟩,q⟩
theorem rY {f:ao->ao->Sem ao}{g:Int->Int->Bool}(rule:∀(i j:Int) (t u:Tok) (s:aq) (Q:ao->aq->Prop) (E:ao->aq->Prop),Q (.bool (g i j)) s->wpAny (model X.prog X.w) X.A (f (.int i t) (.int j u)) Q E s) :
  cC X f (iI λi j=>.bl (g i j)):=by
 intro af s σ H x y v u Q I rx ry h
 obtain⟨i,j,rfl,rfl,q⟩:=h
 obtain⟨t,rfl⟩:=rx
 obtain⟨t',rfl⟩:=ry
 exact rule i j t t' s _ _ ⟨.bl (g i j),H,I,rfl,q⟩
noncomputable def rZ (i j:Int):Prop:=0<j/\j<1073741824
noncomputable def sA (i j:Int):Prop:=0<=j/\j<=1000000/\i.natAbs<2^64
theorem ae1:cC X (binaryOp .Add) (iI λi j=>.int (i+j)):=xJ λ_ _ _ _ _ _ _ q=>add_int q
theorem ae2:cC X (binaryOp .Sub) (iI λi j=>.int (i-j)):=xJ λ_ _ _ _ _ _ _ q=>sub_int q
theorem ae3:cC X (binaryOp .FloorDiv) (rI rZ λi j=>.int (i/j)):=rX λi j _ _ _ _ _ hc q=>by
 have h1:(0:Int)<j:=hc.1;have h2:j<1073741824:=hc.2;exact floordiv_int (by omega) (by rw[Int.fdiv_eq_ediv_of_nonneg i (by omega)];exact q) (.inl (PyProof.noPylong_small (by omega)))
theorem ae4:cC X (binaryOp .Mod) (rI (λ_ j=>0<j) λi j=>.int (i%j)):=rX λi j _ _ _ _ _ hc q=>by
 have h1:(0:Int)<j:=hc;exact mod_int' (by omega) (by rw[Int.fmod_eq_emod_of_nonneg i (by omega)];exact q)
theorem ae5:cC X (binaryOp .Pow) (rI sA λi j=>.int (i^j.toNat)):=rX λ_ _ _ _ _ _ _ hc q=>pow_int_small hc.1 hc.2.1 hc.2.2 q
theorem unI {f:ao->Sem ao}{g:Int->Int}(rule:∀(i:Int) (t:Tok) (s:aq) (Q:ao->aq->Prop) (E:ao->aq->Prop),Q (.int (g i) s.toks) { s with toks:=s.toks+1 }->wpAny (model X.prog X.w) X.A (f (.int i t)) Q E s) :
  rV X f (rU λi=>.int (g i)):=by
 intro af s σ H x v Q I rx h
 obtain⟨i,rfl,q⟩:=h
 obtain⟨t,rfl⟩:=rx
 exact rule i t s _ _ ⟨.int (g i),H,I.tok _,⟨_,rfl⟩,q⟩
theorem ae6:rV X (unaryOp .USub) (rU λi=>.int (-i)):=unI λ_ _ _ _ _ q=>neg_int q
end
noncomputable def xK:V->V->Bool
 |.non,.non=>true|.non,.int _=>true|.int _,.non=>true|.non,.bl _=>true|.bl _,.non=>true|.non,.str _=>true|.str _,.non=>true
 |.int _,.int _=>true|.bl _,.bl _=>true|.str _,.str _=>true|.byt _,.byt _=>true
 |.int _,.str _=>true|.str _,.int _=>true|.bl _,.str _=>true|.str _,.bl _=>true
 |_,_=>false
noncomputable def sB:R2:=λx y H Q=>xK x y=true/\Q (.bl (decide (x=y))) H
noncomputable def sC:R2:=λx y H Q=>xK x y=true/\Q (.bl (!decide (x=y))) H
theorem xL {i j:Int}:decide (V.int i=V.int j)=(i==j):=by
 rw[bp5];simp
theorem xM {i j:Bool}:decide (V.bl i=V.bl j)=(i==j):=by
 rw[bp5];simp
theorem xN {i j:Str}:decide (V.str i=V.str j)=(i==j):=by
 rw[bp5];simp
theorem xO {i j:Array UInt8}:decide (V.byt i=V.byt j)=(i.toList==j.toList):=by
 rw[bp5];cases i;cases j;simp
section
variable {X:Cx}{a b c:Expr}{ta tb tc:TE}{pos:Pos}
theorem c7 {af:List (ar×Obj)}{σ:St}{H:Hp}{s:aq}{Q:VK}{k k':Bool}(I:aE X af σ H s)(q:Q (.bl k) H)(e:k=k'):EP X af σ Q (.bool k') s:=by
 subst e
 exact⟨.bl k,H,I,rfl,q⟩
theorem sD:cC X (compareOp .Eq) sB:=by
 intro af s σ H x y v u Q I rx ry h
 obtain⟨hs,q⟩:=h
 cases x with
 |non=>
  cases rx;cases y with
  |non=>cases ry;exact PySem.EqNone.eq_none_none (c7 I q (by simp))
  |bl j=>cases ry;exact PySem.EqNone.eq_none_bool (c7 I q (by simp))
  |int j=>obtain⟨t',rfl⟩:=ry;exact PySem.EqNone.eq_none_int (c7 I q (by simp))
  |str j=>obtain⟨t',rfl⟩:=ry;exact PySem.EqNone.eq_none_str (c7 I q (by simp))
  |_=>exact absurd (show false=true from hs) bh4
 |bl i=>
  cases rx;cases y with
  |non=>cases ry;exact PySem.EqNone.eq_bool_none (c7 I q (by simp))
  |bl j=>cases ry;exact eq_bool (c7 I q xM)
  |str j=>obtain⟨t',rfl⟩:=ry;exact PySem.EqMixed.eq_bool_str (c7 I q (by simp))
  |_=>exact absurd (show false=true from hs) bh4
 |int i=>
  obtain⟨t,rfl⟩:=rx
  cases y with
  |non=>cases ry;exact PySem.EqNone.eq_int_none (c7 I q (by simp))
  |int j=>obtain⟨t',rfl⟩:=ry;exact eq_int (c7 I q xL)
  |str j=>obtain⟨t',rfl⟩:=ry;exact PySem.EqMixed.eq_int_str (c7 I q (by simp))
  |_=>exact absurd (show false=true from hs) bh4
 |str i=>
  obtain⟨t,rfl⟩:=rx
  cases y with
  |non=>cases ry;exact PySem.EqNone.eq_str_none (c7 I q (by simp))
  |bl j=>cases ry;exact PySem.EqMixed.eq_str_bool (c7 I q (by simp))
  |int j=>obtain⟨t',rfl⟩:=ry;exact PySem.EqMixed.eq_str_int (c7 I q (by simp))
  |str j=>obtain⟨t',rfl⟩:=ry;exact eq_str (c7 I q xN)
  |_=>exact absurd (show false=true from hs) bh4
 |byt i=>
  obtain⟨t,rfl⟩:=rx
  cases y with
  |byt j=>obtain⟨t',rfl⟩:=ry;exact PySem.W.eq_bytes (c7 I q xO)
  |_=>exact absurd (show false=true from hs) bh4
 |_=>cases y<;>exact absurd (show false=true from hs) bh4
theorem xP:cC X (compareOp .NotEq) sC:=by
 intro af s σ H x y v u Q I rx ry h
 obtain⟨hs,q⟩:=h
 cases x with
 |non=>
  cases rx;cases y with
  |non=>cases ry;exact PySem.EqNone.ne_none_none (c7 I q (by simp))
  |bl j=>cases ry;exact PySem.EqNone.ne_none_bool (c7 I q (by simp))
  |int j=>obtain⟨t',rfl⟩:=ry;exact PySem.EqNone.ne_none_int (c7 I q (by simp))
  |str j=>obtain⟨t',rfl⟩:=ry;exact PySem.EqNone.ne_none_str (c7 I q (by simp))
  |_=>exact absurd (show false=true from hs) bh4
 |bl i=>
  cases rx;cases y with
  |non=>cases ry;exact PySem.EqNone.ne_bool_none (c7 I q (by simp))
  |bl j=>cases ry;exact ne_bool (c7 I q (congrArg not xM))
  |str j=>obtain⟨t',rfl⟩:=ry;exact PySem.EqMixed.ne_bool_str (c7 I q (by simp))
  |_=>exact absurd (show false=true from hs) bh4
 |int i=>
  obtain⟨t,rfl⟩:=rx
  cases y with
  |non=>cases ry;exact PySem.EqNone.ne_int_none (c7 I q (by simp))
  |int j=>obtain⟨t',rfl⟩:=ry;exact ne_int (c7 I q (congrArg not xL))
  |str j=>obtain⟨t',rfl⟩:=ry;exact PySem.EqMixed.ne_int_str (c7 I q (by simp))
  |_=>exact absurd (show false=true from hs) bh4
 |str i=>
  obtain⟨t,rfl⟩:=rx
  cases y with
  |non=>cases ry;exact PySem.EqNone.ne_str_none (c7 I q (by simp))
  |bl j=>cases ry;exact PySem.EqMixed.ne_str_bool (c7 I q (by simp))
  |int j=>obtain⟨t',rfl⟩:=ry;exact PySem.EqMixed.ne_str_int (c7 I q (by simp))
  |str j=>obtain⟨t',rfl⟩:=ry;exact ne_str (c7 I q (congrArg not xN))
  |_=>exact absurd (show false=true from hs) bh4
 |byt i=>
  obtain⟨t,rfl⟩:=rx
  cases y with
  |byt j=>obtain⟨t',rfl⟩:=ry;exact PySem.W.ne_bytes (c7 I q (congrArg not xO))
  |_=>exact absurd (show false=true from hs) bh4
 |_=>cases y<;>exact absurd (show false=true from hs) bh4
theorem oM:cC X (compareOp .Lt) (iI λi j=>.bl (decide (i<j))):=rY λ_ _ _ _ _ _ _ q=>lt_int q
theorem ae7:cC X (compareOp .Gt) (iI λi j=>.bl (decide (j<i))):=rY λ_ _ _ _ _ _ _ q=>gt_int q
theorem xQ:cC X (compareOp .GtE) (iI λi j=>.bl (decide (j<=i))):=rY λ_ _ _ _ _ _ _ q=>ge_int q
theorem ae8:cC X (compareOp .In) (λx y H Q=>∃i j,x = .str i/\y = .str j/\Q (.bl (!(Builtin.Str.occurrences j i 0 j.length 1).isEmpty)) H):=by
 intro af s σ H x y v u Q I rx ry h
 obtain⟨i,j,rfl,rfl,q⟩:=h
 obtain⟨t,rfl⟩:=rx
 obtain⟨t',rfl⟩:=ry
 exact in_str (c7 I q rfl)
theorem ae9:cC X (compareOp .IsNot) (λx y H Q=>y = .non/\Q (.bl (!decide (x = .non))) H):=by
 intro af s σ H x y v u Q I rx ry h
 obtain⟨rfl,q⟩:=h
 cases ry;refine isnot_none_gen (c7 I q ?_);cases x<;>first
  |(cases rx;rfl)
  |(obtain⟨t,rfl⟩:=rx;rfl)
theorem eV (b:Expr){op:CmpOp}(h:op≠.In:=by decide)(h2:op≠.NotIn:=by decide):behindInMarks op b=false:=by
 have e1:(op==CmpOp.In)=false:=by cases op<;>first|rfl|exact absurd rfl h
 have e2:(op==CmpOp.NotIn)=false:=by cases op<;>first|rfl|exact absurd rfl h2
 cases b<;>simp[behindInMarks,e1,e2]
theorem sE {op:CmpOp}{r:R2}(ho:cC X (compareOp op) r)(ha:PE X a ta)(hb:PE X b tb)(hm:behindInMarks op b=false):PE X (.Compare a [op] [b] pos) (mV r ta tb):=by
 intro af s σ H Q I h;exact wpAny_Compare1 (rW ha hb I h λv u s2 x y H2 I2 rx ry q=>ho af s2 σ H2 x y v u Q I2 rx ry q) hm
noncomputable def af0 (t:TE):TT:=λσ H Q=>t σ H λx H'=>∃k,x = .bl k/\Q k H'
theorem af1 {op:CmpOp}{r:R2}(ho:cC X (compareOp op) r)(ha:PE X a ta)(hb:PE X b tb)(hm:behindInMarks op b=false):PT X (.Compare a [op] [b] pos) (af0 (mV r ta tb)):=by
 intro af s σ H Q I h
 refine wpAny_isTrue_Compare1 (aT (ha af s σ H _ I h) λv s1 ⟨x,H1,I1,r1,q1⟩=>aT (hb af s1 σ H1 _ I1 q1) λu s2 ⟨y,H2,I2,r2,q2⟩=>
  aT (ho af s2 σ H2 x y v u _ I2 r1 r2 q2) λc s3 ⟨z,H3,I3,r3,k,e,q3⟩=>?_) hm
 subst e;cases r3;exact br9 ⟨H3,I3,q3⟩
noncomputable def sF (K:ac)(x:V)(H:Hp)(k:Bool):Prop:=
 match x with
 |.non=>k=false
 |.bl b=>k=b
 |.int i=>k=(i != 0)
 |.str y=>y.length<=sizeLine/\k=((y.length:Int) != 0)
 |.byt y=>y.size<=sizeLine/\k=((y.size:Int) != 0)
 |.ref p=>(∃xs,aV K H p xs/\k = !xs.isEmpty)∨(∃xs,aW K H p xs/\k = !xs.isEmpty)∨∃kvs,H p=some (.dK kvs)/\k = !kvs.isEmpty
 |_=>False
theorem af2 {κ:Type}{kvs:List (κ×V)}{vs:List (κ×ao)}(r:KV kvs vs):(!vs.isEmpty) = !kvs.isEmpty:=by
 cases r<;>rfl
theorem xR {xs:List V}{its:List ao}(r:aY xs its):(!its.toArray.isEmpty) = !xs.isEmpty:=by
 cases r<;>simp
theorem lG:(sizeLine:Nat)<2^63:=by rw[bt1];decide
theorem af3:ad8 X (λx H Q=>∃k,sF X.K x H k/\Q k H):=by
 intro af s σ H x v Q I rx h
 obtain⟨k,e,q⟩:=h
 have hl:=lG;have hs:sizeLine=16777216:=bt1;cases x with
 |non=>
  cases rx;have e':k=false:=e;subst e';exact truthy_none ⟨H,I,q⟩
 |bl b=>
  cases rx;have e':k=b:=e;subst e';exact br9 ⟨H,I,q⟩
 |int i=>
  obtain⟨t,rfl⟩:=rx
  have e':k=(i != 0):=e;subst e';exact PySem.P.truthy_int ⟨H,I,q⟩
 |str y=>
  obtain⟨t,rfl⟩:=rx
  obtain⟨hy,e'⟩:y.length<=sizeLine/\k=((y.length:Int) != 0):=e
  subst e';exact PySem.P.truthy_str (by omega) ⟨H,I.tok _,q⟩
 |byt y=>
  obtain⟨t,rfl⟩:=rx
  obtain⟨hy,e'⟩:y.size<=sizeLine/\k=((y.size:Int) != 0):=e
  subst e';exact PySem.W.truthy_bytes (by omega) ⟨H,I.tok _,q⟩
 |ref p=>
  cases rx;have e':(∃xs,aV X.K H p xs/\k = !xs.isEmpty)∨(∃xs,aW X.K H p xs/\k = !xs.isEmpty)∨∃kvs,H p=some (.dK kvs)/\k = !kvs.isEmpty:=e
  rcases e' with⟨xs,hx,e'⟩|⟨xs,hx,e'⟩|⟨kvs,hx,e'⟩
  ·subst e'
   obtain⟨its,r,pl,hz⟩:=I.list hx
   have ai:=r.length;exact wpAny_truthy_list pl.isList (by simp only[be5];omega) ⟨H,I.tok _,by rw[xR r];exact q⟩
  ·subst e'
   obtain⟨its,r,pl,hz⟩:=I.tuple hx
   have ai:=r.length;exact truthy_tuple pl (by simp only[be5];omega) ⟨H,I.tok _,by rw[xR r];exact q⟩
  ·subst e'
   obtain⟨hz,hS,vs,r,m⟩:kvs.length<=sizeLine/\(p==sysModules)=false/\∃vs,KV kvs vs/\s.heap.DictOf (cT X.prog X.w) p vs:=I.hok p _ hx
   have ai:kvs.length=vs.length:=Paired.length r;exact wpAny_truthy_dict hS m (by omega) ⟨H,I.tok _,by rw[af2 r];exact q⟩
 |_=>exact (show False from e).elim
theorem af4 (ha:PE X a ta)(he:∀whole,isTrue a X.env whole=(do let v <- whole;standAt a.pos;holding [v] (truthy v))) :
  PT X a (λσ H Q=>ta σ H λx H'=>∃k,sF X.K x H' k/\Q k H'):=by
 intro af s σ H Q I h;exact isTrue_plain (aT (ha af s σ H _ I h) λv s1 ⟨x,H1,I1,r1,q1⟩=>af3 af s1 σ H1 x v Q I1 r1 q1) (he _)
theorem eW {x:V}{us:List ao}(r:aY [x] us):∃u,us = [u]/\b7 x u:=by
 cases r with
 |cons r1 r2=>cases r2;exact⟨_,rfl,r1⟩
theorem sG {x y:V}{us:List ao}(r:aY [x,y] us):∃u w',us = [u,w']/\b7 x u/\b7 y w':=by
 cases r with
 |cons r1 r2=>
  cases r2 with
  |cons r3 r4=>cases r4;exact⟨_,_,rfl,r1,r3⟩
theorem af5 (hc:X.calm=true):cV X (.builtin "max") (λxs H Q=>∃i j,xs = [.int i,.int j]/\Q (.int (if j>i then j else i)) H):=by
 intro af s σ H xs us Q I r h
 obtain⟨i,j,rfl,q⟩:=h
 obtain⟨u,w',rfl,⟨t,rfl⟩,⟨t',rfl⟩⟩:=sG r
 refine max_two_ints (I.ok.hd hc) λh' tk k=>⟨_,H,I.kept k,?_,q⟩
 by_cases hj:j>i
 ·rw[if_pos hj,if_pos hj];exact⟨_,rfl⟩
 ·rw[if_neg hj,if_neg hj];exact⟨_,rfl⟩
theorem af6 (hc:X.calm=true):cV X (.builtin "min") (λxs H Q=>∃i j,xs = [.int i,.int j]/\Q (.int (if j<i then j else i)) H):=by
 intro af s σ H xs us Q I r h
 obtain⟨i,j,rfl,q⟩:=h
 obtain⟨u,w',rfl,⟨t,rfl⟩,⟨t',rfl⟩⟩:=sG r
 refine min_two_ints (I.ok.hd hc) λh' tk k=>⟨_,H,I.kept k,?_,q⟩
 by_cases hj:j<i
 ·rw[if_pos hj,if_pos hj];exact⟨_,rfl⟩
 ·rw[if_neg hj,if_neg hj];exact⟨_,rfl⟩
end
theorem g9.some_of {v:V}{o:Option ao}(r:g9 (some v) o):∃u,o=some u/\b7 v u:=by
 cases o with
 |none=>exact (show False from r).elim
 |some u=>exact⟨u,rfl,r⟩
structure c8 (k:Nat)(A:aw):Prop where
 hd:A.handled=none
 dp:A.depth+3*k+5<recursionLimit
 un:A.units+16*k+200<cLine
theorem c8.mono {j k:Nat}{A:aw}(r:c8 k A)(h:j<=k):c8 j A:=⟨r.hd,by have:=r.dp;omega,by have:=r.un;omega⟩
theorem c8.deeper {k:Nat}{A:aw}(r:c8 (k+1) A)(env:Env):c8 k (A.deeper env):=
 ⟨r.hd,by have:=r.dp;show A.depth+1+3*k+5<_;omega,by have:=r.un;show A.units+3+16*k+200<_;omega⟩
theorem c8.depth {k:Nat}{A:aw}(r:c8 k A):A.depth<recursionLimit:=by have:=r.dp;omega
theorem c8.units {k:Nat}{A:aw}(r:c8 k A):A.units+64<cLine:=by have:=r.un;omega
noncomputable def jV:TA:=λ_ H Q=>Q [] H
noncomputable def jW (ta:TE)(tr:TA):TA:=λσ H Q=>ta σ H λx H1=>tr σ H1 λxs H2=>Q (x::xs) H2
section
variable {X:Cx}{e:Expr}{es:List Expr}{te:TE}{t:TA}{pos:Pos}
theorem eN:PA X [] jV:=λ_ _ _ _ H Q I h=>Calls.spliced_nil ⟨[],H,I,.nil,h⟩
theorem dS (ha:PE X e te)(hr:PA X es t)(hs:starEach (e::es) X.env=(false,eval e X.env)::starEach es X.env:=by rfl):PA X (e::es) (jW te t):=by
 intro pos af s σ H Q I h;rw[hs];show wpAny _ _ (spliced ((false,eval e X.env)::backTo pos (starEach es X.env))) _ _ s;refine Calls.spliced_cons (aT (ha af s σ H _ I h) λu s1 ⟨x,H1,I1,r1,q1⟩=>?_);exact aT (hr pos af s1 σ H1 _ I1 q1) λus s2 ⟨xs,H2,I2,r2,q2⟩=>⟨x::xs,H2,I2,.cons r1 r2,q2⟩
noncomputable def xS (t:TA):TE:=λσ H Q=>t σ H λxs H1=>xs.length<=sizeLine/\∀p,H1 p=none->Q (.ref p) (upd H1 p (.tup xs))
noncomputable def xT (t:TA):TE:=λσ H Q=>t σ H λxs H1=>xs.length<=sizeLine/\∀p,H1 p=none->Q (.ref p) (upd H1 p (.lst xs))
theorem af7 {x1}(h:PA X es t):PE X (.Tuple es x1 pos) (xS t):=by
 intro af s σ H Q I hq;refine wpAny_Tuple_spliced (aT (h pos af s σ H _ I hq) λus s1 ⟨xs,H1,I1,r,z,q⟩=>⟨by rw[<- r.length];exact z,?_⟩);have hf:H1 s1.heap.objs.size=none:=I1.hok.fresh (be7 _);refine⟨.ref s1.heap.objs.size,upd H1 s1.heap.objs.size (.tup xs),I1.laid (t':=s1.toks) (λb u e=>be4 _ e) (be7 _) ?_,rfl,q _ hf⟩
 exact⟨z,us,r,⟨_,bf0 _ rfl,rfl,_,rfl⟩,fM.new _ _ rfl⟩
theorem xU (h:PA X es t):PE X (.List es pos) (xT t):=by
 intro af s σ H Q I hq;refine wpAny_List_spliced (aT (h pos af s σ H _ I hq) λus s1 ⟨xs,H1,I1,r,z,q⟩=>⟨by rw[<- r.length];exact z,?_⟩);have hf:H1 s1.heap.objs.size=none:=I1.hok.fresh (be7 _);refine⟨.ref s1.heap.objs.size,upd H1 s1.heap.objs.size (.lst xs),I1.laid (t':=s1.toks) (λb u e=>be4 _ e) (be7 _) ?_,rfl,q _ hf⟩
 exact⟨z,us,0,r,bf0 _ rfl⟩
end
noncomputable abbrev Sp:=List V->Hp->VK->XK->Prop
noncomputable abbrev gB:=List Env->Hp->aq->XK->ao->aq->Prop
structure oN (P:av)(w:ax)(K:ac)(mg:Str->Option ao)(base:Heap)(A:aw)(outer:List Env)(s:aq)(H:Hp):Prop where
 frames:A.frames=some outer
 mod:Mod K mg base
 bs:∀b o,base.get? b=some o->s.heap.get? b=some o/\H b=none
 bsz:base.objs.size<=s.heap.objs.size
 funs:s.heap.FunFrames base outer
 frf:∀b∈bF outer,H b=none
 hok:bU P w H s.heap
 bare:AllBare s.gens
noncomputable def CE (outer:List Env)(P:av)(w:ax)(H:Hp)(s:aq)(Q:VK)(u:ao)(s':aq):Prop:=
 ∃v H',s'.os=s.os/\AllBare s'.gens/\Un (bF outer) [] H H' s.heap s'.heap/\bU P w H' s'.heap/\b7 v u/\Q v H'
noncomputable def CR (CX:gB)(outer:List Env)(P:av)(w:ax)(H:Hp)(s:aq)(Q:VK)(E:XK)(r:Result)(s':aq):Prop:=
 match r with
 |.ok (.ret u)=>CE outer P w H s Q u s'
 |.ok _=>False
 |.error e=>CX outer H s E e s'
structure cX (P:av)(w:ax)(K:ac)(mg:Str->Option ao)(base:Heap)(CX:gB)(k:Nat)(f:ar)(fd:FuncData)(ps:List Str)(sp:Sp):Prop where
 len:∀vs H Q E,sp vs H Q E->vs.length=ps.length
 run:∀(A:aw) (outer:List Env) (s:aq) (H:Hp) (args:Args) (us:List ao) (vs:List V) (Q:VK) (E:XK),c8 k A->oN P w K mg base A outer s H->BindsTo s fd args (ps.zip us)->aY vs us->sp vs H Q E->
  codeAny (model P w) A (.call (.ref f) args) (CR CX outer P w H s Q E) s
theorem cX.imp {P:av}{w:ax}{K:ac}{mg:Str->Option ao}{base:Heap}{CX:gB}{k:Nat}{f:ar}{fd:FuncData}{ps:List Str}{sp sp':Sp}(F:cX P w K mg base CX k f fd ps sp)(h:∀vs H Q E,sp' vs H Q E->sp vs H Q E):cX P w K mg base CX k f fd ps sp':=
 ⟨λvs H Q E q=>F.len vs H Q E (h _ _ _ _ q),λA outer s H args us vs Q E hr he hb hv hs=>F.run A outer s H args us vs Q E hr he hb hv (h _ _ _ _ hs)⟩
section
variable {X:Cx}{af:List (ar×Obj)}{σ:St}{H:Hp}{s s':aq}
theorem aE.env0 (I:aE X af σ H s):oN X.prog X.w X.K X.mg X.base X.A X.stack s H:=
 ⟨I.ok.frames,I.ok.mod,I.bs,bj5 I.ok.bsz I.sz,I.stack,I.stkFree,I.hok,I.bare⟩
theorem aE.after {Q:VK}{u:ao}(I:aE X af σ H s)(h:CE X.stack X.prog X.w H s Q u s'):EP X af σ Q u s':=by
 obtain⟨v,H',os,bare,un,hok,r,q⟩:=h
 obtain⟨hh,g,d,t,os'⟩:=s'
 obtain rfl:os'=s.os:=os
 exact⟨v,H',I.call (h':=hh) (g':=g) (d':=d) (t':=t) (ch:=[]) un hok bare (λb z=>absurd z (by simp)),r,q⟩
end
noncomputable def sH (sp:Sp)(dvs:List V)(E:XK)(t:TA):TE:=λσ H Q=>t σ H λvs H1=>sp (vs++dvs) H1 Q E
noncomputable def hV (K:ac)(fd:FuncData)(ps:List Str)(ds:List ao):Prop:=
 ∀(s:aq) (us:List ao),K.In s.heap->(us++ds).length=ps.length->BindsTo s fd ⟨us,[]⟩ (ps.zip (us++ds))
theorem hV.all {K:ac}{fd:FuncData}{ps:List Str}(h:∀us:List ao,us.length=ps.length->bindArgs fd ⟨us,[]⟩=pure (ps.zip us)):hV K fd ps []:=λs us _ hl=>by
 rw[bm9]at hl ⊢;exact .of_eq (h us hl)
noncomputable def jX (CX:gB)(X:Cx)(E:XK):Prop:=∀(af:List (ar×Obj)) (σ:St) (H:Hp) (s:aq) (e:ao) (s':aq),aE X af σ H s->CX X.stack H s E e s'->X.xe e s'
section
variable {X:Cx}{CX:gB}{k:Nat}{f C:ar}{fd:FuncData}{ps:List Str}{sp:Sp}{dvs:List V}{ds:List ao}{E:XK}{x m:Str}{p pos ag:Pos}{e o:Expr}{es:List Expr}{ta:TE}{t:TA}
theorem af8 {af:List (ar×Obj)}{σ:St}{H:Hp}{s:aq}{Q:VK}{us:List ao}{vs:List V}(F:cX X.prog X.w X.K X.mg X.base CX k f fd ps sp)(hr:c8 k X.A)(hb:hV X.K fd ps ds)(hd:aY dvs ds)(hx:jX CX X E)(I:aE X af σ H s)(r:aY vs us)(h:sp (vs++dvs) H Q E):wpAny (model X.prog X.w) X.A (call (.ref f) us) (EP X af σ Q) X.xe s:=by
 have r2:aY (vs++dvs) (us++ds):=r.append hd;have hl:(us++ds).length=ps.length:=by rw[<- r2.length];exact F.len _ _ _ _ h
 refine wpAny_call (codeAny_mono (F.run X.A X.stack s H ⟨us,[]⟩ (us++ds) (vs++dvs) Q E hr I.env0 (hb s us I.kIn hl) r2 h) λr s' hq=>?_);cases r with
 |error e=>exact hx af σ H s e s' I hq
 |ok fl=>
  cases fl with
  |ret u=>exact I.after hq
  |next=>exact False.elim hq
  |brk=>exact False.elim hq
  |cont=>exact False.elim hq
theorem oO (F:cX X.prog X.w X.K X.mg X.base CX k f fd ps sp)(hr:c8 k X.A)(hg:Gl X x)(hm:X.mg x=some (.ref f))(hk:PySem.W.keepIn X.K (.ref f)=true)(hb:hV X.K fd ps ds)(hd:aY dvs ds)(hx:jX CX X E)(ha:PA X (e::es) t)(hdb:(x==("__debug__":Str))=false:=by decide)(he:starEach (e::es) X.env=(false,eval e X.env)::starEach es X.env:=by rfl)(hpl:(backTo pos (starEach es X.env)).any (·.1)=false:=by rfl) :
  PE X (.Call (.Name x p) (e::es) [] pos) (sH sp dvs E t):=by
 intro af s σ H Q I h;refine bt5 (mO I hg hm ?_ hdb);refine PySem.W.callWith_K (h₀:=X.base) I.ok.mod.kin hk (aT (ha pos af s σ H _ I h) λus s1 ⟨vs,H1,I1,r,q⟩=>⟨I1.kIn,?_⟩) he hpl;exact af8 F hr hb hd hx I1 r q
end
noncomputable def PK (X:Cx)(kws:List Keyword)(t:TA):Prop:=
 ∀(pos:Pos) (af:List (ar×Obj)) (s:aq) (σ:St) (H:Hp) (Q:List V->Hp->Prop),aE X af σ H s->t σ H Q->wpAny (model X.prog X.w) X.A (evalAll ((backToKw pos (keywordEach kws X.env)).map (·.2))) (AP X af σ Q) X.xe s
structure FnScope (N P:List Str)(sc:Scope):Prop where
 kind:sc.kind = .function
 co:sc.isCoroutine=false
 gen:sc.isGenerator=false
 nd:N.Nodup
 pre:N.take P.length=P
 par:∀x∈P,sc.names.lookup x=some .local∨sc.names.lookup x=some .cell
 nofree:∀y∈sc.names,y.2≠.free
theorem xV {kindOf:Str->Option NameKind}{x:Str}:∀{binds:List (Str×ao)}{m:Str->Option ao},(∀v,(x,v)∉binds)->bindL kindOf binds m x=m x
 |[],_,_=>rfl
 |(n,v)::r,m,h=>by
  unfold bindL;rw[xV λw hw=>h w (bj3 _ hw)];split
  ·have:x≠n:=by rintro rfl;exact h v bj0
   simp[this]
  ·rfl
theorem xW {kindOf:Str->Option NameKind}{x:Str}:∀{binds:List (Str×ao)}{m:Str->Option ao},(∀v,(x,v)∉binds)->bindC kindOf binds m x=m x
 |[],_,_=>rfl
 |(n,v)::r,m,h=>by
  unfold bindC;rw[xW λw hw=>h w (bj3 _ hw)];split
  ·rfl
  ·have:x≠n:=by rintro rfl;exact h v bj0
   simp[this]
theorem xX {kindOf:Str->Option NameKind}{x:Str}{v:ao}:∀{P:List Str}{vs:List ao}{i:Nat}{m:Str->Option ao},P.Nodup->P[i]? = some x->vs[i]? = some v->kindOf x=some .local->
  bindL kindOf (P.zip vs) m x=some v
 |[],_,_,_,_,h,_,_=>by simp at h
 |_::_,[],_,_,_,_,h,_=>by simp at h
 |p::P,w::vs,0,m,nd,h1,h2,hk=>by
  simp at h1 h2;subst h1;subst h2;show bindL kindOf ((p,w)::P.zip vs) m p=_;unfold bindL;rw[xV λv hv=>(List.nodup_cons.mp nd).1 (List.of_mem_zip hv).1,if_pos hk];simp
 |p::P,w::vs,i+1,m,nd,h1,h2,hk=>by
  show bindL kindOf ((p,w)::P.zip vs) m x=_;unfold bindL;exact xX (i:=i) (List.nodup_cons.mp nd).2 (by simpa using h1) (by simpa using h2) hk
theorem xY {kindOf:Str->Option NameKind}{x:Str}{v:ao}:∀{P:List Str}{vs:List ao}{i:Nat}{m:Str->Option ao},P.Nodup->P[i]? = some x->vs[i]? = some v->kindOf x≠some .local->
  bindC kindOf (P.zip vs) m x=some v
 |[],_,_,_,_,h,_,_=>by simp at h
 |_::_,[],_,_,_,_,h,_=>by simp at h
 |p::P,w::vs,0,m,nd,h1,h2,hk=>by
  simp at h1 h2;subst h1;subst h2;show bindC kindOf ((p,w)::P.zip vs) m p=_;unfold bindC;rw[xW λv hv=>(List.nodup_cons.mp nd).1 (List.of_mem_zip hv).1,if_neg hk];simp
 |p::P,w::vs,i+1,m,nd,h1,h2,hk=>by
  show bindC kindOf ((p,w)::P.zip vs) m x=_;unfold bindC;exact xY (i:=i) (List.nodup_cons.mp nd).2 (by simpa using h1) (by simpa using h2) hk
noncomputable def gC (N:List Str)(vs:List V):St:=vs.map some++List.replicate (N.length-vs.length) none
noncomputable def cL (CX:gB)(P:av)(w:ax)(K:ac)(mg:Str->Option ao)(base:Heap)(N:List Str)(qual:Str)(scope:Scope)(f:ar)(cd:ao)(A:aw)(outer:List Env)(s:aq)(H:Hp)(E:XK):Cx where
 prog:=P
 w:=w
 K:=K
 mg:=mg
 base:=base
 A:=A.deeper (envOfC qual scope s.heap.objs.size f cd)
 N:=N
 s₀:=s
 H₀:=H
 env:=envOfC qual scope s.heap.objs.size f cd
 outer:=outer
 stack:=envOfC qual scope s.heap.objs.size f cd::outer
 ex:=[]
 calm:=true
 fn:=λ_=>true
 pn:=[]
 xe:=λe s'=>wpAny (model P w) (A.deeper (envOfC qual scope s.heap.objs.size f cd)) (leaving (envOfC qual scope s.heap.objs.size f cd) e) (λ_ s''=>CX outer H s E e s'') (λe' s''=>CX outer H s E e' s'') s'
theorem xZ {sc:Scope}{n:Nat}{x:Str}(h:sc.names.lookup x=some .cell):∃c,(cellsFrom n sc.names []).lookup x=some c:=by
 have q:=PySem.W.cellsFrom_some sc.names n [] (.inl h);exact Option.isSome_iff_exists.mp q
theorem af9 {CX:gB}{P:av}{w:ax}{K:ac}{mg:Str->Option ao}{base:Heap}{N ps:List Str}{qual:Str}{scope:Scope}{f:ar}{cd:ao}{A:aw}{outer:List Env}{s s1:aq}{H:Hp}{E:XK}{us:List ao}{vs:List V}(S:FnScope N ps scope)(hd:A.handled=none)(e0:oN P w K mg base A outer s H)(hl:vs.length=ps.length)(r:aY vs us)(x:InCallC s s.heap.objs.size (bindL (envOfC qual scope s.heap.objs.size f cd).kindOf (ps.zip us) λ_=>none) (cellsFrom (s.heap.objs.size+1) scope.names []) (bindC (envOfC qual scope s.heap.objs.size f cd).kindOf (ps.zip us) λ_=>none) s1) :
  aE (cL CX P w K mg base N qual scope f cd A outer s H E) [] (gC N vs) H s1:=by
 have hpl:ps.length<=N.length:=by have:=congrArg List.length S.pre;rw[bp9]at this;omega
 obtain⟨h1,tk,rfl,hk⟩:=x.done
 have noA:∀b:ar,b∉(cL CX P w K mg base N qual scope f cd A outer s H E).ex:=λb z=>absurd (show b∈([]:List ar) from z) (by simp)
 refine⟨⟨e0.mod,S.kind,rfl,rfl,be7 _,λy z c h1 h2=>?_,λy hy=>?_,λy c _ h=>?_,λ_=>hd,Around.frames_deeper e0.frames,.inr ⟨rfl,rfl⟩,λb z=>absurd z (noA b),e0.bs,e0.bsz,λb _ _=>noA b,λb z=>absurd z (noA b),e0.funs,e0.frf⟩,
  rfl,e0.bare,Un.kept hk,⟨_,x.toInCall.ns,λi y v h1 h2 h3=>?_⟩,λy c h=>⟨_,x.cell y c h⟩,e0.hok.fresh (be7 _),λy c h=>?_,λp hp=>absurd (show p∈([]:List (ar×Obj)) from hp) (by simp),e0.hok.kept hk,?_⟩
 ·exact name_of_addr x.apart (bk3 h1) (bk3 h2)
 ·have hy:scope.names.lookup y=some .cell∨scope.names.lookup y=some .free:=hy
  rcases hy with hy|hy
  ·exact xZ hy
  ·exact absurd rfl (S.nofree _ (bk3 hy))
 ·exact bm6 (x.above y c (bk3 h))
 ·have hi:i<vs.length:=by
   unfold gC at h2;by_cases hi:i<vs.length
   ·exact hi
   ·rw[List.getElem?_append_right (by simpa using hi)]at h2
    rw[List.getElem?_replicate]at h2;split at h2<;>cases h2
  have ha:vs[i]? = some v:=by
   unfold gC at h2;rw[List.getElem?_append_left (by simpa using hi),bg9]at h2;cases e:vs[i]? with
   |none=>rw[e]at h2;cases h2
   |some a=>rw[e]at h2;cases h2;rfl
  obtain⟨u,hu,rv⟩:=r.get ha
  have hp:ps[i]? = some y:=by
   rw[<- S.pre,List.getElem?_take_of_lt (by omega)];exact h1
  have ndP:ps.Nodup:=by rw[<- S.pre];exact S.nd.sublist (List.take_sublist _ _)
  refine⟨u,rv,?_⟩;rcases S.par y (bo2 hp) with k|k
  ·exact .inl ⟨k,xX ndP hp hu k⟩
  ·obtain⟨c,e⟩:=xZ (n:=s.heap.objs.size+1) k
   refine .inr ⟨.inl k,c,e,?_⟩;have q:=x.cell y c e;rw[xY ndP hp hu (by show scope.names.lookup y≠_;rw[k];decide)]at q;exact q
 ·exact e0.hok.fresh (bm6 (x.above y c (bk3 h)))
 ·unfold gC
  show _=N.length;rw[bg8,be9,List.length_replicate];omega
theorem y4 {CX:gB}{P:av}{w:ax}{K:ac}{mg:Str->Option ao}{base:Heap}{k:Nat}{f:ar}{name qual:Str}{params:Arguments}{body:List Stmt}{scope:Scope}{dV kV doc pm cdv ct oc:ao}{an od:Option ar}{osl:Array (Option ao)}{N ps:List Str}{sp:Sp}(lk:K.lookup f=some ⟨oc,od,.func (PySem.W.fnOf name qual params body scope dV kV doc pm an cdv ct),osl⟩)(hcd:PySem.W.codeIn K cdv qual=true)(S:FnScope N ps scope)(len:∀vs H Q E,sp vs H Q E->vs.length=ps.length)(hbody:∀(A:aw) (outer:List Env) (s:aq) (H:Hp) (vs:List V) (Q:VK) (E:XK),c8 k (A.deeper (envOfC qual scope s.heap.objs.size f cdv))->sp vs H Q E->
   ∃t,dM (cL CX P w K mg base N qual scope f cdv A outer s H E) body t/\t { nx:=λ_ H'=>Q .non H',rt:=Q } (gC N vs) H) :
  cX P w K mg base CX (k+1) f (PySem.W.fnOf name qual params body scope dV kV doc pm an cdv ct) ps sp:=by
 refine⟨len,λA outer s H args us vs Q E hr e0 hb r hsp=>?_⟩;have hl:=len _ _ _ _ hsp;have KX:K.In s.heap:=e0.mod.kin.keeps λb o e=>(e0.bs b o e).1
 have lim:s.heap.NoLimit:=e0.mod.nolimit.keeps λb o e=>(e0.bs b o e).1
 have hkind:∀y∈ps.zip us,scope.names.lookup y.1=some .local∨(scope.names.lookup y.1=some .cell/\((cellsFrom (s.heap.objs.size+1) scope.names []).lookup y.1).isSome=true):=λ⟨n,v⟩ hy=>by
  rcases S.par n (List.of_mem_zip hy).1 with q|q
  ·exact .inl q
  ·exact .inr ⟨q,PySem.W.cellsFrom_some _ _ _ (.inl q)⟩
 refine codeAny_call_function hr.depth (KX _ _ lk) rfl S.co S.gen rfl (PySem.W.codeRec_of KX hcd) (hb _ _ _ _ ?_);refine wpAny_newFunctionEnv_cells S.kind hkind λenv he s1 x=>?_
 subst he;refine⟨lim.keeps x.toInCall.keep,codeAny_func ?_⟩
 obtain⟨t,ht,hq⟩:=hbody A outer s H vs Q E (hr.deeper _) hsp
 have I:aE (cL CX P w K mg base N qual scope f cdv A outer s H E) [] (gC N vs) H s1:=af9 S hr.hd e0 hl r x;refine bk2 (ht [] s1 (gC N vs) H _ I hq) (λfl s' hs=>?_) λe s' hs=>hs
 have fin:∀{σ':St}{H':Hp}{v:V}{u:ao},aE (cL CX P w K mg base N qual scope f cdv A outer s H E) [] σ' H' s'->b7 v u->Q v H'->CE outer P w H s Q u s':=
  λ{σ' H' v u} J rv q=>⟨v,H',J.os,J.bare,J.base,J.hok,rv,q⟩
 cases fl with
 |ret u=>
  obtain⟨v,σ',H',J,rv,q⟩:=hs
  exact fin J rv q
 |next=>
  obtain⟨σ',H',J,q⟩:=hs
  exact fin (v:=V.non) (u:=Value.none) J rfl q
 |brk=>
  obtain⟨_,_,_,q⟩:=hs
  exact False.elim q
 |cont=>
  obtain⟨_,_,_,q⟩:=hs
  exact False.elim q
section
variable {X:Cx}{x:Str}{p pos:Pos}{e:Expr}{es:List Expr}{t:TA}{id T:String}{r:List V→Hp→VK→Prop}
noncomputable def sI (r:List V->Hp->VK->Prop)(t:TA):TE:=λσ H Q=>t σ H λvs H1=>r vs H1 Q
theorem oP (hc:cV X (.builtin id) r)(hg:Gl X x)(hm:X.mg x=none)(hv:bootBuiltins x=some (.builtin id))(ha:PA X (e::es) t)(hn:x≠"__name__":=by decide)(hdb:(x==("__debug__":Str))=false:=by decide)(he:starEach (e::es) X.env=(false,eval e X.env)::starEach es X.env:=by rfl)(hpl:(backTo pos (starEach es X.env)).any (·.1)=false:=by rfl):PE X (.Call (.Name x p) (e::es) [] pos) (sI r t):=by
 intro af s σ H Q I h;refine bt5 (gO I hg hm hv ?_ hn hdb);exact PyProof.Rows.callWith_builtin1 (aT (ha pos af s σ H _ I h) λus s1 ⟨vs,H1,I1,r1,q1⟩=>hc af s1 σ H1 vs us Q I1 r1 q1) he hpl
theorem y8 (hc:cV X (.type T) r)(hg:Gl X x)(hm:X.mg x=none)(hv:bootBuiltins x=some (.type T))(ha:PA X (e::es) t)(hn:x≠"__name__":=by decide)(hdb:(x==("__debug__":Str))=false:=by decide)(he:starEach (e::es) X.env=(false,eval e X.env)::starEach es X.env:=by rfl)(hpl:(backTo pos (starEach es X.env)).any (·.1)=false:=by rfl):PE X (.Call (.Name x p) (e::es) [] pos) (sI r t):=by
 intro af s σ H Q I h;refine bt5 (gO I hg hm hv ?_ hn hdb);exact bj6 (aT (ha pos af s σ H _ I h) λus s1 ⟨vs,H1,I1,r1,q1⟩=>hc af s1 σ H1 vs us Q I1 r1 q1) he hpl
end
end L2
namespace HT
open PySem PyProof.Rows
section
variable {prog:av}{w:ax}{A:aw}{E:ao→aq→Prop}{s:aq}
theorem ag0 {t b:ar}{vs ws:List ao}{Q:ao->aq->Prop}(ht:IsTup s.heap t vs.toArray)(hb:IsTup s.heap b ws.toArray)(hv:vs≠[])(h1:ws = []->Q (.ref t) s)(h2:ws≠[]->Q (.ref s.heap.objs.size) { s with heap:=s.heap.push { cls:=.type "tuple",data:=.seq (vs++ws).toArray } })(hsz:vs.length+ws.length<=sizeLine):wpAny (model prog w) A (binaryOp .Add (.ref t) (.ref b)) Q E s:=by
 obtain⟨⟨cls,dd,data,sl⟩,ho,hc,n,hd⟩:=id ht
 obtain⟨⟨cls2,dd2,data2,sl2⟩,ho2,hc2,n2,hd2⟩:=id hb
 simp only at hc hd hc2 hd2;subst hc hd hc2 hd2;have e:vs.toArray++ws.toArray=(vs++ws).toArray:=by simp
 by_cases hw:ws = []
 ·exact concat_meets ⟨_,ho,rfl⟩ ⟨_,ho2,rfl⟩ noFill_tuple_add seq_tuple_add PySem.F.slot_tuple_add PySem.F.entry_tuple_add (PySem.F.args_tuple_add_2 _ _)
   (tuple_addW1 t b vs.toArray ws.toArray n n2 dd dd2 sl sl2 (by simpa using hv) (by simp[hw])) ⟨ho,ho2,h1 hw⟩
 ·refine concat_meets ⟨_,ho,rfl⟩ ⟨_,ho2,rfl⟩ noFill_tuple_add seq_tuple_add PySem.F.slot_tuple_add PySem.F.entry_tuple_add (PySem.F.args_tuple_add_2 _ _)
   (tuple_addW2 t b vs.toArray ws.toArray n n2 dd dd2 sl sl2 (by simpa using hv) (by simpa using hw) (by rw[be5,be5];exact hsz)) ⟨ho,ho2,?_⟩
  rw[e];exact h2 hw
noncomputable def b8 (n d:Nat):Option Int->Nat
 |none=>d
 |some v=>if v<0 then (v+(n:Int)).toNat else min v.toNat n
theorem ag1 (n d k:Nat):b8 n d (some (k:Int))=min k n:=by
 show (if (k:Int)<0 then ((k:Int)+(n:Int)).toNat else min (k:Int).toNat n)=min k n;rw[if_neg (by omega),Int.toNat_natCast]
theorem ag2 (n d:Nat)(hd:d<=n)(o:Option Int):b8 n d o<=n:=by
 cases o with
 |none=>exact hd
 |some v=>
  show (if v<0 then (v+(n:Int)).toNat else min v.toNat n)<=n;by_cases hv:v<0
  ·rw[if_pos hv];omega
  ·rw[if_neg hv];exact Nat.min_le_right _ _
theorem y9 (v:Int)(n d:Nat):(if v<0 then max (v+(n:Int)) 0 else min v (n:Int))=((b8 n d (some v):Nat):Int):=by
 show (if v<0 then max (v+(n:Int)) 0 else min v (n:Int))=(((if v<0 then (v+(n:Int)).toNat else min v.toNat n):Nat):Int);by_cases hv:v<0
 ·simp only[if_pos hv];omega
 ·simp only[if_neg hv];omega
theorem ag3 (lo hi:Option Int)(n:Nat):Builtin.Slice.sliceAdjust lo hi 1 (n:Int)=(((b8 n 0 lo:Nat):Int),((b8 n n hi:Nat):Int)):=by
 have h1:¬((1:Int)<0):=by omega
 unfold Builtin.Slice.sliceAdjust;simp only[h1,bq0];refine Prod.ext ?_ ?_
 ·cases lo with
  |none=>rfl
  |some v=>exact y9 v n 0
 ·cases hi with
  |none=>rfl
  |some v=>exact y9 v n n
theorem ag4 (i j:Nat):Builtin.Slice.slicePlaces (i:Int) (j:Int) 1=j-i:=by
 unfold Builtin.Slice.slicePlaces;have h1:(1:Int)>0:=by omega
 simp only[h1,if_true,Int.ediv_one];split<;>omega
theorem yA {v:ao}{o:Option Int}{Q:Option Int->aq->Prop}(p:IsPart v o)(h:Q o s):wpAny (model prog w) A (Builtin.Slice.slicePartIndex v) Q E s:=by
 cases p with
 |none=>exact slicePart_none h
 |int i t=>exact slicePart_int h
theorem yB {sl:ar}{vl vu:ao}{lo hi:Option Int}{n:Nat}{Q:Int×Int×Nat->aq->Prop}(hs:s.heap.IsSliceOf sl vl vu .none)(pl:IsPart vl lo)(pu:IsPart vu hi)(h:Q (((b8 n 0 lo:Nat):Int),1,b8 n n hi-b8 n 0 lo) s):wpAny (model prog w) A (Builtin.Slice.sliceApplied (.ref sl) (pure (n:Int))) Q E s:=by
 obtain⟨os,hos,hcs,hds⟩:=id hs
 unfold Builtin.Slice.sliceApplied Builtin.Slice.sliceFields;refine be2 (be2 (bi1 hos hds (x:=vl) rfl (be2 (bi1 hos hds (x:=vu) rfl (be2 (bi1 hos hds (x:=.none) rfl (be6 ?_)))))));refine be2 (slicePart_none ?_);show wpAny _ _ (if ((1:Int)==0)=true then _ else _) _ _ s;rw[if_neg (by decide)];refine be2 (yA pl (be2 (yA pu (be2 (be6 ?_)))));show wpAny _ _ (match Builtin.Slice.sliceAdjust lo hi 1 (n:Int) with|(lo,hi)=>pure (lo,(1:Int),Builtin.Slice.slicePlaces lo hi 1)) _ _ s;rw[ag3 lo hi n];show wpAny _ _ (pure (((b8 n 0 lo:Nat):Int),(1:Int),Builtin.Slice.slicePlaces ((b8 n 0 lo:Nat):Int) ((b8 n n hi:Nat):Int) 1)) _ _ s;rw[ag4];exact be6 h
theorem ag5 (xs:Array ao)(i k:Nat):((List.range k).filterMap λ(m:Nat)=>xs[((i:Int)+(m:Int)*1).toNat]?).toArray=((xs.toList.drop i).take k).toArray:=by
 have e:(λ(m:Nat)=>xs[((i:Int)+(m:Int)*1).toNat]?)=λm=>xs[i+m]?:=by
  funext m
  have:((i:Int)+(m:Int)*1).toNat=i+m:=by omega
  rw[this]
 rw[e]
 have:=pick_run xs i k
 rw[List.filterMap_map]at this;have e2:((λx=>xs[x]?) ∘ λx=>i+x)=λm=>xs[i+m]?:=rfl
 rw[e2]at this;rw[this]
theorem ag6 {t sl:ar}{items:Array ao}{vl vu:ao}{lo hi:Option Int}{Q:ao->aq->Prop}(ht:IsTup s.heap t items)(hs:s.heap.IsSliceOf sl vl vu .none)(pl:IsPart vl lo)(pu:IsPart vu hi)(hw:¬(b8 items.size 0 lo=0/\b8 items.size items.size hi=items.size))(h:Q (.ref s.heap.objs.size) { s with heap:=s.heap.push { cls:=.type "tuple",data:=.seq ((items.toList.drop (b8 items.size 0 lo)).take (b8 items.size items.size hi-b8 items.size 0 lo)).toArray } })(hsz:items.size<=sizeLine):wpAny (model prog w) A (getItem (.ref t) (.ref sl)) Q E s:=by
 have htake:sizeOk (.seq ((items.toList.drop (b8 items.size 0 lo)).take (b8 items.size items.size hi-b8 items.size 0 lo)).toArray):=by
  show ((items.toList.drop (b8 items.size 0 lo)).take (b8 items.size items.size hi-b8 items.size 0 lo)).toArray.size<=sizeLine;rw[be5,bp9,List.length_drop,bk9];omega
 have hj:b8 items.size items.size hi<=items.size:=ag2 _ _ (be7 _) hi
 obtain⟨os,hos,hcs,hds⟩:=id hs
 have hTs:s.TypeIs (.ref sl) "slice":=⟨os,hos,hcs⟩;unfold getItem
 try with_reducible refine bv6 ?_
 first|refine be2 (be6 ?_)|skip
 refine be2 (wpAny_sequenceKey ht.typeIs (by decide) ?_)
 refine be2 (bj4 (name:=Str.ofString "__getitem__") ht.typeIs bq9
  (bj8 bq9 ht.typeIs entry_tuple_getitem ?_ (args_tuple_getitem _ _)))
 show wpAny _ _ (Builtin.Tuple.tupleItemsOf (.ref t) >>= _) _ _ s;refine be2 (tupleItemsOf_ ht ?_);refine be2 (wpAny_typeOf hTs ?_);rw[if_pos (by decide)];refine be2 (yB hs pl pu ?_);have hno:¬((((b8 items.size 0 lo:Nat):Int)==0&&(1:Int)==1&&(b8 items.size items.size hi-b8 items.size 0 lo)==items.size)=true):=by
  intro q;rw[bm2,bm2]at q;have q1:((b8 items.size 0 lo:Nat):Int)=0:=eq_of_beq q.1.1;have q2:b8 items.size items.size hi-b8 items.size 0 lo=items.size:=eq_of_beq q.2;exact hw ⟨by omega,by omega⟩
 show wpAny _ _ (if (((b8 items.size 0 lo:Nat):Int)==0&&(1:Int)==1&&(b8 items.size items.size hi-b8 items.size 0 lo)==items.size)=true then _ else _) _ _ s;rw[if_neg hno,ag5]
 first
  |exact be2 (m:=Builtin.Tuple.tupleExact _) (bi8 (be6 ⟨_,rfl,be6 h⟩) htake)
  |exact be2 (m:=Builtin.Tuple.tupleExact _) (bi8 (be2 (be6 (be6 ⟨_,rfl,be6 h⟩))) htake)
  |exact be2 (be2 (m:=Builtin.Tuple.tupleExact _) (bi8 (be6 (be6 ⟨_,rfl,be6 h⟩)) htake))
  |exact be2 (be2 (m:=Builtin.Tuple.tupleExact _) (bi8 (be6 ⟨_,rfl,be6 h⟩) htake))
end
end HT
namespace L2
open PySem PySem.Spec PyProof.Rows
noncomputable abbrev TO:=St->Hp->(Option Int->Hp->Prop)->Prop
noncomputable def PO (X:Cx)(e:Option Expr)(t:TO):Prop:=
 ∀(af:List (ar×Obj)) (s:aq) (σ:St) (H:Hp) (Q:Option Int->Hp->Prop),aE X af σ H s->t σ H Q->
  wpAny (model X.prog X.w) X.A (evalPart e X.env) (λu s'=>∃o H',aE X af σ H' s'/\IsPart u o/\Q o H') X.xe s
noncomputable def ag7:TO:=λ_ H Q=>Q none H
noncomputable def ag8 (t:TE):TO:=λσ H Q=>t σ H λx H1=>∃i,x = .int i/\Q (some i) H1
theorem oQ {ns:ae}:∀{us:List ao},aY (ns.map V.int) us->IntsAre us ns:=by
 induction ns with
 |nil=>intro us r;rw[List.map_nil]at r;cases r;exact .nil
 |cons n ns ih=>
  intro us r;rw[bn5]at r;cases r with
  |cons r1 r2=>
   obtain⟨t,e⟩:=r1
   subst e;exact .cons n t (ih r2)
section
variable {X:Cx}{e:Expr}{te:TE}{lo hi:Option Expr}{tl th:TO}{pos p2:Pos}
theorem sJ:PO X none ag7:=by
 intro af s σ H Q I h;rw[evalPart_none];exact be6 ⟨none,H,I,.none,h⟩
theorem sK (h:PE X e te):PO X (some e) (ag8 te):=by
 intro af s σ H Q I hw;rw[evalPart_some];refine aT (h af s σ H _ I hw) λu s1 ⟨x,H1,I1,r1,q1⟩=>?_
 obtain⟨i,rfl,q⟩:=q1
 obtain⟨t,rfl⟩:=r1
 exact⟨some i,H1,I1,.int i t,q⟩
noncomputable def jD (X:Cx)(r:V->Option Int->Option Int->Hp->VK->Prop):Prop:=
 ∀(af:List (ar×Obj)) (s:aq) (σ:St) (H:Hp) (x:V) (v vl vu:ao) (lo hi:Option Int) (sl:ar) (Q:VK),aE X af σ H s->b7 x v->s.heap.IsSliceOf sl vl vu .none->IsPart vl lo->IsPart vu hi->r x lo hi H Q->
  ∃T id,typeLookup (.type T) "__getitem__" = pure (some (.builtin id))/\s.TypeIs v T/\wpAny (model X.prog X.w) X.A (getItem v (.ref sl)) (EP X af σ Q) X.xe s
theorem jD.or {r r':V->Option Int->Option Int->Hp->VK->Prop}(h:jD X r)(h':jD X r'):jD X (λx lo hi H Q=>r x lo hi H Q∨r' x lo hi H Q):=by
 intro af s σ H x v vl vu lo hi sl Q I rx hs pl pu q;rcases q with q|q
 ·exact h af s σ H x v vl vu lo hi sl Q I rx hs pl pu q
 ·exact h' af s σ H x v vl vu lo hi sl Q I rx hs pl pu q
noncomputable def tSl (r:V->Option Int->Option Int->Hp->VK->Prop)(te:TE)(tl th:TO):TE:=λσ H Q=>te σ H λx H1=>tl σ H1 λl H2=>th σ H2 λu H3=>r x l u H3 Q
theorem sM {r:V->Option Int->Option Int->Hp->VK->Prop}(hr:jD X r)(he:PE X e te)(hl:PO X lo tl)(hu:PO X hi th):PE X (.Subscript e (.Slice lo hi none p2) pos) (tSl r te tl th):=by
 intro af s σ H Q I h;refine Subscript_ (aT (he af s σ H _ I h) λv s1 ⟨x,H1,I1,r1,q1⟩=>?_);refine wpAny_Slice (aT (hl af s1 σ H1 _ I1 q1) λvl s2 ⟨l,H2,I2,pl,q2⟩=>aT (hu af s2 σ H2 _ I2 q2) λvu s3 ⟨u,H3,I3,pu,q3⟩=>?_);rw[evalPart_none];refine be6 ?_;have I4:aE X af σ H3 { s3 with heap:=s3.heap.push { cls:=.type "slice",data:=.fields #[vl,vu,.none] } }:=I3.kept (t':=s3.toks) λb ob q=>be4 _ q
 obtain⟨T,id,hT,ht,hg⟩:=hr af { s3 with heap:=s3.heap.push { cls:=.type "slice",data:=.fields #[vl,vu,.none] } } σ H3 x v vl vu l u s3.heap.objs.size Q I4 r1 (Heap.IsSliceOf.new ..) pl pu q3
 show wpAny (model X.prog X.w) X.A (subscriptTail e (.Slice lo hi none p2) v (.ref s3.heap.objs.size)) (EP X af σ Q) X.xe { s3 with heap:=s3.heap.push { cls:=.type "slice",data:=.fields #[vl,vu,.none] } };exact tail_any (ops:=[.ref s3.heap.objs.size,v]) ht hT hg (by with_unfolding_all rfl)
noncomputable def eD (xs:List V)(lo hi:Option Int):List V:=(xs.drop (HT.b8 xs.length 0 lo)).take (HT.b8 xs.length xs.length hi-HT.b8 xs.length 0 lo)
theorem yC (xs:List V)(lo hi:Option Int):(eD xs lo hi).length<=xs.length:=by
 unfold eD;rw[bp9,List.length_drop];omega
noncomputable def ag9 (K:ac):V->Option Int->Option Int->Hp->VK->Prop:=λx lo hi H Q=>∃a xs,x = .ref a/\aW K H a xs/\
 ¬(HT.b8 xs.length 0 lo=0/\HT.b8 xs.length xs.length hi=xs.length)/\∀p,H p=none->Q (.ref p) (upd H p (.tup (eD xs lo hi)))
theorem ah0:jD X (ag9 X.K):=by
 intro af s σ H x v vl vu lo hi sl Q I rx hs pl pu h
 obtain⟨a,xs,rfl,hx,hw,q⟩:=h
 cases rx
 obtain⟨its,r,ht,hz⟩:=I.tuple hx
 have ai:its.toArray.size=xs.length:=by rw[be5];exact r.length.symm
 refine⟨"tuple",_,PyProof.Rows.slot_tuple_getitem.lookup,ht.typeIs,?_⟩;refine HT.ag6 ht hs pl pu (by rw[ai];exact hw) ?_ (by rw[ai];exact hz);rw[ai];refine⟨.ref s.heap.objs.size,_,I.laid (t':=s.toks) (o:=.tup (eD xs lo hi)) (λb ob q=>be4 _ q) (be7 _) ?_,rfl,q _ (I.hok.fresh (be7 _))⟩
 exact⟨bj5 (yC xs lo hi) hz,_,(r.drop (HT.b8 xs.length 0 lo)).take (HT.b8 xs.length xs.length hi-HT.b8 xs.length 0 lo),IsTup.new _ _,fM.new _ _ rfl⟩
noncomputable def ah1 (K:ac):R2:=λx y H Q=>∃a b xs ys,x = .ref a/\y = .ref b/\aW K H a xs/\aW K H b ys/\xs≠[]/\xs.length+ys.length<=sizeLine/\
 (ys = []->Q (.ref a) H)/\(ys≠[]->∀p,H p=none->Q (.ref p) (upd H p (.tup (xs++ys))))
theorem aY.nil_iff {xs:List V}{us:List ao}(r:aY xs us):us = []↔xs = []:=by
 cases r with
 |nil=>simp
 |cons _ _=>simp
theorem ah2:cC X (binaryOp .Add) (ah1 X.K):=by
 intro af s σ H x y v u Q I rx ry h
 obtain⟨a,b,xs,ys,rfl,rfl,ha,hb,hx,hz,q1,q2⟩:=h
 cases rx;cases ry
 obtain⟨its,r1,p1,_⟩:=I.tuple ha
 obtain⟨al,r2,p2,_⟩:=I.tuple hb
 refine HT.ag0 p1 p2 (λz=>hx (r1.nil_iff.mp z)) (λz=>⟨.ref a,H,I,rfl,q1 (r2.nil_iff.mp z)⟩) (λz=>?_) (by rw[<- r1.length,<- r2.length];exact hz);refine⟨.ref s.heap.objs.size,_,I.laid (t':=s.toks) (o:=.tup (xs++ys)) (λb ob q=>be4 _ q) (be7 _) ?_,rfl,q2 (λw=>z (r2.nil_iff.mpr w)) _ (I.hok.fresh (be7 _))⟩
 exact⟨by rw[bg8];exact hz,_,r1.append r2,IsTup.new _ _,fM.new _ _ rfl⟩
end
noncomputable def jY (n:Nat)(i:Int):Option Nat:=if 0<=i then (if i<n then some i.toNat else none) else if -(n:Int)<=i then some (i+n).toNat else none
noncomputable def atI {α:Type}(xs:List α)(i:Int):Option α:=(jY xs.length i).bind λj=>xs[j]?
theorem ah3 {n:Nat}{i:Int}{j:Nat}(h:jY n i=some j):seqIndex? i n=some j/\j<n/\-(n:Int)<=i/\i<n:=by
 unfold jY at h;by_cases h0:0<=i
 ·rw[if_pos h0]at h
  by_cases h1:i<n
  ·rw[if_pos h1]at h
   have e:i.toNat=j:=bh9 h
   exact⟨by rw[seqIndex_of h0 h1,e],by omega,by omega,h1⟩
  ·rw[if_neg h1]at h;cases h
 ·rw[if_neg h0]at h
  by_cases h1:-(n:Int)<=i
  ·rw[if_pos h1]at h
   have e:(i+n).toNat=j:=bh9 h
   exact⟨by rw[seqIndex_neg (by omega) h1,e],by omega,h1,by omega⟩
  ·rw[if_neg h1]at h;cases h
theorem sN {α:Type}{xs:List α}{i:Int}{v:α}(h:atI xs i=some v):∃j,seqIndex? i xs.length=some j/\xs[j]? = some v/\j<xs.length/\-(xs.length:Int)<=i/\i<xs.length:=by
 unfold atI at h;cases e:jY xs.length i with
 |none=>rw[e]at h;cases h
 |some j=>
  rw[e]at h
  obtain⟨h1,h2,h3,h4⟩:=ah3 e
  exact⟨j,h1,h,h2,h3,h4⟩
theorem ah4 {α:Type}{xs:List α}{j:Nat}{v:α}(h:xs[j]? = some v):atI xs (j:Int)=some v:=by
 have hj:j<xs.length:=(bf7.mp h).1;have e:jY xs.length (j:Int)=some j:=by
  unfold jY;rw[if_pos (by omega),if_pos (by omega)];simp
 unfold atI;rw[e];exact h
noncomputable def sO (b:Expr):Prop:=∀o i,subscripted b false o i=operate [o,i] (getItem o i)
noncomputable def iJ (X:Cx)(r:R2):Prop:=
 ∀(value slice:Expr) (af:List (ar×Obj)) (s:aq) (σ:St) (H:Hp) (x y:V) (v u:ao) (Q:VK),aE X af σ H s->b7 x v->b7 y u->r x y H Q->
  subscripted slice false v u=operate [v,u] (getItem v u)->wpAny (model X.prog X.w) X.A (subscriptTail value slice v u) (EP X af σ Q) X.xe s
noncomputable def sP (X:Cx)(id:String)(r:V->List V->Hp->VK->Prop):Prop:=
 ∀(af:List (ar×Obj)) (s:aq) (σ:St) (H:Hp) (x:V) (xs:List V) (v:ao) (us:List ao) (Q:VK),aE X af σ H s->b7 x v->aY xs us->r x xs H Q->
  wpAny (model X.prog X.w) X.A (call (.builtin id) (v::us)) (EP X af σ Q) X.xe s
section
variable {X:Cx}{a b:Expr}{ta tb:TE}{pos:Pos}
theorem iJ.or {r r':R2}(h:iJ X r)(h':iJ X r'):iJ X (λx y H Q=>r x y H Q∨r' x y H Q):=by
 intro value slice af s σ H x y v u Q I rx ry q hs;rcases q with q|q
 ·exact h value slice af s σ H x y v u Q I rx ry q hs
 ·exact h' value slice af s σ H x y v u Q I rx ry q hs
theorem lH {r:R2}(hr:iJ X r)(ha:PE X a ta)(hb:PE X b tb)(hs:sO b):PE X (.Subscript a b pos) (mV r ta tb):=by
 intro af s σ H Q I h;exact Subscript_ (rW ha hb I h λv u s2 x y H2 I2 rx ry q=>hr a b af s2 σ H2 x y v u Q I2 rx ry q (hs _ _))
noncomputable def yD (K:ac):R2:=λx y H Q=>∃p xs i v,x = .ref p/\y = .int i/\aV K H p xs/\atI xs i=some v/\Q v H
noncomputable def yE (K:ac):R2:=λx y H Q=>∃p xs i v,x = .ref p/\y = .int i/\aW K H p xs/\atI xs i=some v/\Q v H
noncomputable def sQ:R2:=λx y H Q=>∃z i c,x = .str z/\y = .int i/\z.length<=sizeLine/\atI z.cps.toList i=some c/\Q (.str ⟨#[c]⟩) H
theorem sR:iJ X (yD X.K):=by
 intro value slice af s σ H x y v u Q I rx ry h hs
 obtain⟨p,xs,i,z,rfl,rfl,hq,he,q⟩:=h
 cases rx
 obtain⟨t,rfl⟩:=ry
 obtain⟨its,r,pl,hz⟩:=I.list hq
 obtain⟨j,h1,h2,h3,h4,h5⟩:=sN he
 obtain⟨w,ew,rw'⟩:=r.get h2
 have hl:=r.length;have hn:=lG;have fin:EP X af σ Q w s:=⟨z,H,I,rw',q⟩;by_cases h0:0<=i
 ·have hj:i.toNat=j:=by
   rw[seqIndex_of h0 h5]at h1;exact bh9 h1
  exact item_listR pl.isList h0 (by omega) (by rw[hj];simpa using ew) fin hs
 ·have hj:(i+(its.toArray.size:Int)).toNat=j:=by
   rw[seqIndex_neg (by omega) h4]at h1;rw[be5,<- hl];exact bh9 h1
  exact subscriptTail_builtinR (x:=w) pl.isList.typeIs slot_list_getitem.lookup
   (wpAny_getItem_list_neg (Q:=λr s'=>r=w/\EP X af σ Q r s') pl.isList (by omega) (by rw[be5]<;>omega) (by omega) (by rw[hj];simpa using ew) ⟨rfl,fin⟩) hs
theorem sS:iJ X (yE X.K):=by
 intro value slice af s σ H x y v u Q I rx ry h hs
 obtain⟨p,xs,i,z,rfl,rfl,hq,he,q⟩:=h
 cases rx
 obtain⟨t,rfl⟩:=ry
 obtain⟨its,r,pl,hz⟩:=I.tuple hq
 obtain⟨j,h1,h2,h3,h4,h5⟩:=sN he
 obtain⟨w,ew,rw'⟩:=r.get h2
 have hl:=r.length;have hn:=lG;have fin:EP X af σ Q w s:=⟨z,H,I,rw',q⟩;exact subscriptTail_builtinR (x:=w) pl.typeIs slot_tuple_getitem.lookup
  (getItem_tuple (j:=j) (Q:=λr s'=>r=w/\EP X af σ Q r s') pl (by omega) (by omega) (by rw[be5,<- hl];exact h1) (by simpa using ew) ⟨rfl,fin⟩) hs
theorem yF:iJ X sQ:=by
 intro value slice af s σ H x y v u Q I rx ry h hs
 obtain⟨z,i,c,rfl,rfl,hz,he,q⟩:=h
 obtain⟨t,rfl⟩:=rx
 obtain⟨t',rfl⟩:=ry
 obtain⟨j,h1,h2,h3,h4,h5⟩:=sN he
 have hl:z.cps.toList.length=z.length:=by simp[Str.length]
 rw[hl]at h1 h4 h5;have hn:=lG
 exact tail_any (typeIs_str s z t) slot_str_getitem.lookup (getItem_str (c:=c) (by
  have e1:decide (i < -(2^63:Int))=false:=bg1 (by omega);have e2:decide (i >= 2^63)=false:=bg1 (by omega)
  rw[e1,e2,Bool.or_false]) (by rw[h1];simpa using h2) ⟨.str ⟨#[c]⟩,H,I.tok _,⟨_,rfl⟩,q⟩) hs
noncomputable def yG (K:ac):R2:=λx y H Q=>yD K x y H Q∨yE K x y H Q∨sQ x y H Q
theorem ah5:iJ X (yG X.K):=sR.or (sS.or yF)
theorem ah6 (lo hi:Option Int)(n:Nat):(sliceBounds lo hi none n).1=((HT.b8 n 0 lo:Nat):Int)/\(sliceBounds lo hi none n).2.1=((HT.b8 n n hi:Nat):Int)/\(sliceBounds lo hi none n).2.2=1:=by
 refine⟨?_,?_,rfl⟩
 ·cases lo with
  |none=>simp[sliceBounds,HT.b8]
  |some i=>
   simp only[sliceBounds,HT.b8,Option.getD_none,show (1:Int)>0 by decide,if_true];by_cases h:i<0
   ·simp only[h,if_true]<;>omega
   ·simp only[h,bq0]<;>omega
 ·cases hi with
  |none=>simp[sliceBounds,HT.b8]
  |some i=>
   simp only[sliceBounds,HT.b8,Option.getD_none,show (1:Int)>0 by decide,if_true];by_cases h:i<0
   ·simp only[h,if_true]<;>omega
   ·simp only[h,bq0]<;>omega
theorem ah7 (its:List ao)(lo hi:Option Int):slicePick its.toArray lo hi none=((its.drop (HT.b8 its.length 0 lo)).take (HT.b8 its.length its.length hi-HT.b8 its.length 0 lo)).toArray:=by
 obtain⟨h1,h2,h3⟩:=ah6 lo hi its.toArray.size
 unfold slicePick;rw[h1,h2,h3];simp only[sliceRange_one,pick_run,be5]<;>rfl
noncomputable def ah8 (K:ac):V->Option Int->Option Int->Hp->VK->Prop:=λx lo hi H Q=>∃a xs,x = .ref a/\aV K H a xs/\∀p,H p=none->Q (.ref p) (upd H p (.lst (eD xs lo hi)))
theorem yH:jD X (ah8 X.K):=by
 intro af s σ H x v vl vu lo hi sl Q I rx hs pl pu h
 obtain⟨a,xs,rfl,hx,q⟩:=h
 cases rx
 obtain⟨its,r,ht,hz⟩:=I.list hx
 have ai:=r.length;refine⟨"list",_,slot_list_getitem.lookup,ht.isList.typeIs,?_⟩;refine wpAny_getItem_list_slice ht.isList hs pl pu .none (by simp) ?_ (by rw[be5]<;>omega);rw[ah7,<- ai];refine⟨.ref s.heap.objs.size,_,I.laid (t':=s.toks) (o:=.lst (eD xs lo hi)) (λb ob q=>be4 _ q) (be7 _) ?_,rfl,q _ (I.hok.fresh (be7 _))⟩
 exact⟨bj5 (yC xs lo hi) hz,_,0,(r.drop (HT.b8 xs.length 0 lo)).take (HT.b8 xs.length xs.length hi-HT.b8 xs.length 0 lo),bf0 _ rfl⟩
theorem ah9:cV X (.builtin "len") (λxs H Q=>∃p ys,xs = [.ref p]/\(aV X.K H p ys∨aW X.K H p ys)/\Q (.int ys.length) H):=by
 intro af s σ H xs us Q I r h
 obtain⟨p,ys,rfl,hq,q⟩:=h
 obtain⟨u,rfl,rx⟩:=eW r
 cases rx;have hn:=lG;rcases hq with hq|hq
 ·obtain⟨its,r',pl,hz⟩:=I.list hq
  have ai:=r'.length;exact Calls.call_len_list pl.isList (by simp only[be5]<;>omega) ⟨.int ys.length,H,I.tok _,⟨s.toks+1,by rw[be5,ai]⟩,q⟩
 ·obtain⟨its,r',pl,hz⟩:=I.tuple hq
  have ai:=r'.length;exact len_tuple pl (by simp only[be5]<;>omega) ⟨.int ys.length,H,I.tok _,⟨s.toks+1,by rw[be5,ai]⟩,q⟩
theorem ai0:cV X (.builtin "len") (λxs H Q=>∃z,xs = [.str z]/\z.length<=sizeLine/\Q (.int z.length) H):=by
 intro af s σ H xs us Q I r h
 obtain⟨z,rfl,hz,q⟩:=h
 obtain⟨u,rfl,t,rfl⟩:=eW r
 have hn:=lG;exact len_str (by omega) ⟨.int z.length,H,I.tok _,⟨_,rfl⟩,q⟩
theorem cV.or {f:ao}{r r':List V->Hp->VK->Prop}(h:cV X f r)(h':cV X f r'):cV X f (λxs H Q=>r xs H Q∨r' xs H Q):=by
 intro af s σ H xs us Q I rs q;rcases q with q|q
 ·exact h af s σ H xs us Q I rs q
 ·exact h' af s σ H xs us Q I rs q
theorem ai1:cV X (.type "tuple") (λxs H Q=>∃p ys,xs = [.ref p]/\((aV X.K H p ys/\∀l,H l=none->Q (.ref l) (upd H l (.tup ys)))∨(aW X.K H p ys/\Q (.ref p) H))):=by
 intro af s σ H xs us Q I r h
 obtain⟨p,ys,rfl,h⟩:=h
 obtain⟨u,rfl,rx⟩:=eW r
 cases rx;rcases h with⟨hq,q⟩|⟨hq,q⟩
 ·obtain⟨its,r',pl,hz⟩:=I.list hq
  have ai:=r'.length;refine call_tuple_list pl.isList (λh' kp=>?_) (by simp only[be5]<;>omega);have I1:aE X af σ H { s with heap:=h' }:=I.kept (t':=s.toks) kp;have I2:aE X af σ (upd H h'.objs.size (.tup ys)) { s with heap:=h'.push { cls:=.type "tuple",data:=.seq its.toArray } }:=
   I1.laid (t':=s.toks) (λb o e=>be4 _ e) (be7 _) (show cI X.prog X.w _ _ _ (.tup ys) from ⟨hz,its,r',IsTup.new _ _,fM.new _ _ rfl⟩)
  exact⟨.ref h'.objs.size,_,I2,rfl,q _ (I1.hok.fresh (be7 _))⟩
 ·obtain⟨its,r',pl,hz⟩:=I.tuple hq
  exact call_tuple_same pl ⟨.ref p,H,I,rfl,q⟩
noncomputable def gD (K:ac)(T:String)(x:V)(H:Hp):Prop:=match x with
 |.str _=>T="str"
 |.int _=>T="int"
 |.ref p=>(T="list"/\∃xs,aV K H p xs)∨(T="tuple"/\∃o,K.lookup p=some o/\o.cls = .type "tuple"/\o.dict=none) ∨
   (T="dict"/\((∃kvs,H p=some (.dK kvs))∨∃kvs,H p=some (.dT kvs)))∨(T="set"/\∃S n,H p=some (.set S n))
 |_=>False
theorem yI {af:List (ar×Obj)}{σ:St}{H:Hp}{s:aq}{T:String}{x:V}{v:ao}(I:aE X af σ H s)(r:b7 x v)(ty:gD X.K T x H) :
  s.TypeIs v T/\∀a,v = .ref a->∃ob,s.heap.get? a=some ob/\ob.dict=none:=by
 cases x with
 |str z=>
  obtain⟨t,rfl⟩:=r
  cases (show T="str" from ty)
  exact⟨typeIs_str s z t,λ_ e=>nomatch e⟩
 |int i=>
  obtain⟨t,rfl⟩:=r
  cases (show T="int" from ty)
  exact⟨typeIs_int s i t,λ_ e=>nomatch e⟩
 |ref p=>
  cases r;rcases ty with⟨rfl,xs,hq⟩|⟨rfl,o,hk,hc,hd⟩|⟨rfl,hk⟩|⟨rfl,S,n,hk⟩
  ·obtain⟨its,_,pl,_⟩:=I.list hq
   refine⟨pl.isList.typeIs,λa e=>?_⟩;cases e
   obtain⟨o,n,e,c,hd,_⟩:=pl
   exact⟨o,e,hd⟩
  ·refine⟨⟨o,I.kIn p o hk,hc⟩,λa e=>?_⟩
   cases e
   exact⟨o,I.kIn _ o hk,hd⟩
  ·have z:∃o,s.heap.get? p=some o/\o.ExactDict:=by
    rcases hk with⟨kvs,hk⟩|⟨kvs,hk⟩
    ·obtain⟨_,_,_,_,o,_,_,e,ex,_⟩:=I.hok p _ hk
     exact⟨o,e,ex⟩
    ·obtain⟨_,_,_,_,o,_,_,e,ex,_⟩:=I.hok p _ hk
     exact⟨o,e,ex⟩
   obtain⟨o,e,ex⟩:=z
   refine⟨⟨o,e,ex.1⟩,λa e2=>?_⟩;cases e2
   exact⟨o,e,ex.2.1⟩
  ·obtain⟨o,_,_,_,e,ex,_⟩:=I.hok p _ hk
   refine⟨⟨o,e,ex.1⟩,λa e2=>?_⟩;cases e2
   exact⟨o,e,ex.2.1⟩
 |_=>exact False.elim ty
noncomputable def yJ (K:ac)(T:String)(r:V->List V->Hp->VK->Prop)(to:TE):TE:=λσ H Q=>to σ H λx H1=>gD K T x H1/\r x [] H1 Q
noncomputable def sT (K:ac)(T:String)(r:V->List V->Hp->VK->Prop)(to:TE)(t:TA):TE:=λσ H Q=>to σ H λx H1=>gD K T x H1/\t σ H1 λxs H2=>r x xs H2 Q
variable {o e:Expr}{es:List Expr}{to:TE}{t:TA}{name:Str}{ag ah:Pos}{T id:String}{r:V→List V→Hp→VK→Prop}
theorem ai2 (pa:PlainAttrs T)(slot:Slot T name id)(hty:typeOf (.builtin id)=pure (.type "method_descriptor"))(hm:sP X id r)(ho:PE X o to)(hbase:attributeBase o name X.env (eval o X.env)=eval o X.env:=by rfl)(hline:(ag.endLine==ah.line)=true:=by rfl):PE X (.Call (.Attribute o name ag) [] [] ah) (yJ X.K T r to):=by
 intro af s σ H Q I h;refine wpAny_Call_method0_late hbase hline (aT (ho af s σ H _ I h) λv s1 ⟨x,H1,I1,r1,ty,q1⟩=>?_)
 obtain⟨h1,h2⟩:=yI I1 r1 ty
 exact⟨T,id,pa,slot,hty,h1,h2,Calls.callWith_builtin rfl (PySem.evalArgs_none (hm af s1 σ H1 x [] v [] Q I1 r1 .nil q1))⟩
theorem mW (pa:PlainAttrs T)(slot:Slot T name id)(hty:typeOf (.builtin id)=pure (.type "method_descriptor"))(hm:sP X id r)(ho:PE X o to)(ha:PA X (e::es) t)(hbase:attributeBase o name X.env (eval o X.env)=eval o X.env:=by rfl)(hfew:((backTo ah (starEach (e::es) X.env)).all (λx=>!x.1)&&(backToKw ah (keywordEach [] X.env)).all (λx=>x.1.isSome)
  &&decide ((e::es).length+([]:List Keyword).length+(if ([]:List Keyword).isEmpty then 0 else 1)<30))=true:=by rfl)(hline:(ag.endLine==ah.line)=true:=by rfl)(hs:starEach (e::es) X.env=(false,eval e X.env)::starEach es X.env:=by rfl)(am:(backTo ah (starEach es X.env)).any (·.1)=false:=by rfl) :
  PE X (.Call (.Attribute o name ag) (e::es) [] ah) (sT X.K T r to t):=by
 intro af s σ H Q I h;refine wpAny_Call_method_late hbase hfew hline rfl (aT (ho af s σ H _ I h) λv s1 ⟨x,H1,I1,r1,ty,q1⟩=>?_)
 obtain⟨h1,h2⟩:=yI I1 r1 ty
 refine⟨T,id,pa,slot,hty,h1,h2,?_⟩;have hA:=ha ah af s1 σ H1 _ I1 q1;rw[hs]at hA ⊢;refine Calls.callWith_builtin (by show (false||(backTo ah (starEach es X.env)).any (·.1))=false;rw[am]<;>rfl) (Calls.evalArgs_plain ?_);exact aT hA λus s2 ⟨vs,H2,I2,r2,q2⟩=>hm af s2 σ H2 x vs v us Q I2 r1 r2 q2
end
noncomputable def mX (X:Cx)(id:String)(r:V->List V->Hp->VK->Prop):Prop:=
 ∀(af:List (ar×Obj)) (s:aq) (σ:St) (H:Hp) (x:V) (xs:List V) (v:ao) (us:List ao) (Q:VK),aE X af σ H s->b7 x v->aY xs us->r x xs H Q->
  wpAny (model X.prog X.w) X.A (call (.builtin id) (v::us)) (EP X af σ Q) X.xe s
theorem aY.one {x:V}{us:List ao}(h:aY [x] us):∃u,us = [u]/\b7 x u:=by
 cases h with
 |cons r t=>
  cases t
  exact⟨_,rfl,r⟩
theorem aY.zero:∀{us:List ao},aY [] us->us = []
 |_,.nil=>rfl
theorem aY.dropLast {xs:List V}{us:List ao}(h:aY xs us):aY xs.dropLast us.dropLast:=by
 induction h with
 |nil=>exact .nil
 |cons r t ih=>
  cases t with
  |nil=>exact .nil
  |cons q t'=>exact .cons r ih
theorem aY.reverse {xs:List V}{us:List ao}(h:aY xs us):aY xs.reverse us.reverse:=by
 induction h with
 |nil=>exact .nil
 |cons r t ih=>rw[List.reverse_cons,List.reverse_cons];exact aY.append ih (.cons r .nil)
theorem aY.rep {xs:List V}{us:List ao}(h:aY xs us):∀k:Nat,aY (List.replicate k xs).flatten (List.replicate k us).flatten
 |0=>.nil
 |k+1=>by
  rw[bl0,bl0,bn7,bn7];exact aY.append h (aY.rep h k)
theorem ai3 {α:Type}(l:List α):l.eraseIdx (l.length-1)=l.dropLast:=by
 induction l with
 |nil=>rfl
 |cons a r ih=>
  cases r with
  |nil=>rfl
  |cons b r=>
   have e:(a::b::r).length-1=((b::r).length-1)+1:=by
    have h1:(a::b::r).length=r.length+2:=rfl;have h2:(b::r).length=r.length+1:=rfl;omega
   rw[e,List.eraseIdx_cons_succ,ih]
   all_goals rfl
theorem sU (its:List ao):∀(k:Nat) (acc:List ao),
  List.foldl (λx1 x2=>x1++x2) acc.toArray (List.replicate k its.toArray)=(acc++(List.replicate k its).flatten).toArray
 |0,acc=>by simp
 |k+1,acc=>by
  have e:acc.toArray++its.toArray=(acc++its).toArray:=by simp
  have e2:(acc++its)++(List.replicate k its).flatten=acc++(List.replicate (k+1) its).flatten:=by
   rw[bl0,bn7,List.append_assoc]
  rw[<- e2,<- sU its k (acc++its),<- e,bl0,List.foldl_cons]
section
variable {X:Cx}{af:List (ar×Obj)}{σ:St}{H:Hp}{s:aq}{l b:ar}{xs ys zs:List V}
theorem aE.lset {its its':List ao}{n:Nat}{f:Array ao->Array ao}{t':Nat}(I:aE X af σ H s)(hH:H l=some (.lst xs))(e:s.heap.get? l=some { cls:=.type "list",data:=.seq its.toArray n })(hf:f its.toArray=its'.toArray)(hv:aY ys its')(hz:ys.length<=sizeLine) :
  aE X af σ (upd H l (.lst ys)) { s with heap:=s.heap.update l (Obj.mapSeq f),toks:=t' }:=by
 have q:=PySem.IsL.update e f;rw[hf]at q;refine I.write (x:=l) (e:=l) (by rw[hH];exact trivial) (.inl rfl) (λb' u hb hu=>(bo7 s.heap (Obj.mapSeq f) (Ne.symm hb)).trans hu) ⟨_,q⟩ ?_
 exact⟨hz,its',_,hv,q⟩
theorem aE.lnew {its:List ao}{t':Nat}(I:aE X af σ H s)(hv:aY ys its)(hz:ys.length<=sizeLine) :
  aE X af σ (upd H s.heap.objs.size (.lst ys)) { s with heap:=s.heap.push { cls:=.type "list",data:=.seq its.toArray },toks:=t' }:=
 I.laid (λ_ _ q=>be4 _ q) (be7 _) ⟨hz,its,0,hv,bf0 _ rfl⟩
theorem aE.fresh (I:aE X af σ H s):H s.heap.objs.size=none:=I.hok.fresh (be7 _)
theorem aE.lstM (I:aE X af σ H s)(hH:H l=some (.lst xs)):xs.length<=sizeLine/\∃(its:List ao) (n:Nat),aY xs its/\xs.length=its.length/\s.heap.get? l=some { cls:=.type "list",data:=.seq its.toArray n }:=by
 obtain⟨z,its,n,r,e⟩:=I.hok l _ hH
 exact⟨z,its,n,r,r.length,e⟩
theorem sV {n:Nat}(h:n<=sizeLine):Builtin.List.listTooLong n=false:=by
 unfold Builtin.List.listTooLong;exact bg1 (by omega)
end
section
variable {X:Cx}
noncomputable def yK:V->List V->Hp->VK->Prop:=λx vs H Q=>∃l xs y,x = .ref l/\vs = [y]/\H l=some (.lst xs)/\xs.length<sizeLine/\Q .non (upd H l (.lst (xs++[y])))
theorem mY:mX X "list.append" yK:=by
 intro af s σ H x vs v us Q I rx rv h
 obtain⟨l,xs,y,rfl,rfl,hH,hz,q⟩:=h
 cases rx
 obtain⟨u,rfl,ru⟩:=rv.one
 obtain⟨z,its,n,r,hl,e⟩:=I.lstM hH
 refine bq3 F.slot_list_append ⟨_,e,rfl⟩ F.entry_list_append (F.args_list_append_2 _ _) (PySem.list_append l its.toArray n u (by rw[be5];omega)) ⟨e,?_⟩;refine⟨.non,_,I.lset (its':=its++[u]) hH e (by simp) (r.append (.cons ru .nil)) ?_,rfl,q⟩;rw[bg8,bp0];omega
noncomputable def yL:V->List V->Hp->VK->Prop:=λx vs H Q=>∃l b xs zs,x = .ref l/\vs = [.ref b]/\H l=some (.lst xs)/\H b=some (.lst zs)/\xs.length+zs.length<=sizeLine/\Q .non (upd H l (.lst (xs++zs)))
theorem ai4:mX X "list.extend" yL:=by
 intro af s σ H x vs v us Q I rx rv h
 obtain⟨l,b,xs,zs,rfl,rfl,hH,hB,hz,q⟩:=h
 cases rx
 obtain⟨u,rfl,ru⟩:=rv.one
 cases ru
 obtain⟨z,its,n,r,hl,e⟩:=I.lstM hH
 obtain⟨z2,al,n2,r2,hl2,e2⟩:=I.lstM hB
 have hsz:its.toArray.size+al.toArray.size<=sizeLine:=by rw[be5,be5];omega
 have hlong:¬(!its.toArray.isEmpty&&Builtin.List.listTooLong (its.toArray.size+al.toArray.size))=true:=by
  rw[sV hsz,bw0];exact bh4
 refine bq3 F.slot_list_extend ⟨_,e,rfl⟩ F.entry_list_extend (F.args_list_extend_2 _ _)
  (AutoSeq1.list_extend_list_list_0 l its.toArray n b al.toArray n2 hlong (by rw[be5];omega) (by omega)) ⟨e,e2,?_⟩
 refine⟨.non,_,I.lset (its':=its++al) hH e (by simp) (r.append r2) ?_,rfl,q⟩;rw[bg8];omega
noncomputable def yM:V->List V->Hp->VK->Prop:=λx vs H Q=>∃l xs y,x = .ref l/\vs = []/\H l=some (.lst xs)/\xs[xs.length-1]? = some y/\Q y (upd H l (.lst xs.dropLast))
theorem ai5:mX X "list.pop" yM:=by
 intro af s σ H x vs v us Q I rx rv h
 obtain⟨l,xs,y,rfl,rfl,hH,hy,q⟩:=h
 cases rx;have hus:=rv.zero;subst hus
 obtain⟨z,its,n,r,hl,e⟩:=I.lstM hH
 obtain⟨u,hu,ru⟩:=r.get hy
 have hy':its.toArray[its.toArray.size-1]? = some u:=by
  show its.toArray[its.length-1]? = some u;rw[<- bu0,<- hl];exact hu
 refine bq3 F.slot_list_pop ⟨_,e,rfl⟩ F.entry_list_pop (F.args_list_pop_1 _) (MeetsSeq.list_pop_last l its.toArray n u hy' (by rw[be5];omega)) ⟨e,?_⟩;refine⟨y,_,I.lset (its':=its.dropLast) hH e ?_ r.dropLast ?_,ru,q⟩
 ·show its.toArray.eraseIdxIfInBounds (its.toArray.size-1)=its.dropLast.toArray
  rw[be5,List.eraseIdxIfInBounds_toArray,ai3]
 ·rw[List.length_dropLast]
  omega
noncomputable def yN:R2:=λx y H Q=>∃l b xs zs,x = .ref l/\y = .ref b/\H l=some (.lst xs)/\H b=some (.lst zs)/\xs.length+zs.length<=sizeLine/\∀p,H p=none->Q (.ref p) (upd H p (.lst (xs++zs)))
theorem ai6:cC X (binaryOp .Add) yN:=by
 intro af s σ H x y v u Q I rx ry h
 obtain⟨l,b,xs,zs,rfl,rfl,hH,hB,hz,q⟩:=h
 cases rx;cases ry
 obtain⟨z,its,n,r,hl,e⟩:=I.lstM hH
 obtain⟨z2,al,n2,r2,hl2,e2⟩:=I.lstM hB
 refine PySem.P.add_list e e2 ?_ (by rw[be5,be5];omega);have ea:its.toArray++al.toArray=(its++al).toArray:=by simp
 rw[ea]
 exact⟨.ref _,_,I.lnew (t':=s.toks) (r.append r2) (by rw[bg8];omega),rfl,q _ I.fresh⟩
noncomputable def yO:R2:=λx y H Q=>∃l k xs,x = .ref l/\y = .int k/\H l=some (.lst xs)/\-(2^63)<=k/\k<2^63/\xs.length*k.toNat<=sizeLine/\
 ∀p,H p=none->Q (.ref p) (upd H p (.lst (List.replicate k.toNat xs).flatten))
theorem yP {α:Type}(xs:List α)(k:Nat):(List.replicate k xs).flatten.length=k*xs.length:=by
 induction k with
 |zero=>simp
 |succ k ih=>rw[bl0,bn7,bg8,ih,Nat.succ_mul,Nat.add_comm]
theorem ai7:cC X (binaryOp .Mult) yO:=by
 intro af s σ H x y v u Q I rx ry h
 obtain⟨l,k,xs,rfl,rfl,hH,h1,h2,hz,q⟩:=h
 cases rx
 obtain⟨t,rfl⟩:=ry
 obtain⟨z,its,n,r,hl,e⟩:=I.lstM hH
 have ai:its.toArray.size*k.toNat<=sizeLine:=by rw[be5,<- hl];exact hz
 have hcap:¬its.toArray.size*k.toNat>(2^63-1)/8:=by
  have:(sizeLine:Nat)<=(2^63-1)/8:=by decide
  omega
 have hfit:¬(!Builtin.List.listFitsIndex k)=true:=by
  rw[fitsIndex_both h1 h2];exact bh4
 have hlong:¬Builtin.List.listTooLong (its.toArray.size*k.toNat)=true:=by
  rw[sV ai];exact bh4
 have hnew:List.foldl (λx1 x2=>x1++x2) #[] (List.replicate (if its.toArray.isEmpty=true then 0 else k.toNat) its.toArray)=(List.replicate k.toNat its).flatten.toArray:=by
  have f0:∀m:Nat,List.foldl (λx1 x2=>x1++x2) #[] (List.replicate m its.toArray)=(List.replicate m its).flatten.toArray:=λm=>by
   have:=sU its m []
   rw[List.nil_append]at this;exact this
  rw[f0];cases its with
  |nil=>simp
  |cons a r'=>rw[if_neg (by simp)]
 refine wpAny_binaryOp_repeat_ref (T:="list") (U:="int") (by decide) ⟨_,e,rfl⟩ (λs'=>typeIs_int s' k t) noFill_list_mul F.fills_int_mul bs4 repeat_list F.slot_int_index.lookup
  (bq3 bs4 (typeIs_int s k t) F.entry_int_rmul (F.args_int_rmul_2 _ _) (int___rmul___int_list k t l its.toArray n)
   ⟨e,rfl,⟨_,e,rfl⟩,bq3 F.slot_list_mul ⟨_,e,rfl⟩ F.entry_list_mul (F.args_list_mul_2 _ _) (AutoListH.list___mul___list_int_3 l its.toArray n k t hfit hcap hlong) ⟨e,?_⟩⟩)
 rw[hnew]
 exact⟨.ref _,_,I.lnew (t':=s.toks) (r.rep k.toNat) (by rw[yP,Nat.mul_comm];exact hz),rfl,q _ I.fresh⟩
end
section
variable {κ:Type}[DecidableEq κ]
noncomputable def dU (kvs:List (κ×V))(k:κ):Option V:=(kvs.find? λkv=>decide (kv.1=k)).map (·.2)
noncomputable def dN (kvs:List (κ×V))(k:κ)(v:V):List (κ×V):=
 if (kvs.any λkv=>decide (kv.1=k))=true then kvs.map (λkv=>if kv.1=k then (kv.1,v) else kv) else kvs++[(k,v)]
theorem sW {p:κ×V}{r:List (κ×V)}{k:κ}(e:p.1=k):dU (p::r) k=some p.2:=by simp[dU,bp7,e]
theorem sX {p:κ×V}{r:List (κ×V)}{k:κ}(e:¬p.1=k):dU (p::r) k=dU r k:=by simp[dU,bp7,e]
theorem yQ (k:κ):∀kvs:List (κ×V),(kvs.any λkv=>decide (kv.1=k))=(dU kvs k).isSome
 |[]=>rfl
 |p::r=>by
  rw[List.any_cons];by_cases e:p.1=k
  ·simp only[sW e,bj1 e,Bool.true_or,Option.isSome_some]
  ·rw[sX e,bg1 e,Bool.false_or];exact yQ k r
theorem sY (kvs:List (κ×V))(k:κ)(v:V):(dN kvs k v).length<=kvs.length+1:=by
 unfold dN;split
 ·rw[be9];omega
 ·rw[bg8,bm3,List.length_nil];omega
theorem g9.isSome_eq {o:Option V}{u:Option ao}(r:g9 o u):o.isSome=u.isSome:=by
 cases o with
 |none=>cases u with
  |none=>rfl
  |some _=>exact (show False from r).elim
 |some _=>cases u with
  |none=>exact (show False from r).elim
  |some _=>rfl
theorem g9.getD {o:Option V}{u:Option ao}{d:V}{d':ao}(r:g9 o u)(rd:b7 d d'):b7 (o.getD d) (u.getD d'):=by
 cases o with
 |none=>cases u with
  |none=>exact rd
  |some _=>exact (show False from r).elim
 |some _=>cases u with
  |none=>exact (show False from r).elim
  |some _=>exact r
theorem KV.val {kvs:List (κ×V)}{vs:List (κ×ao)}(r:KV kvs vs)(k:κ):g9 (dU kvs k) (valueAt vs k):=by
 unfold KV at r
 induction r with
 |nil=>exact True.intro
 |@cons p q ps qs h t ih=>
  obtain⟨h1,h2⟩:=h
  by_cases e:p.1=k
  ·have e':q.1=k:=h1.symm.trans e
   have b:valueAt (q::qs) k=some q.2:=by simp[valueAt,bp7,e']
   rw[sW e,b];exact h2
  ·have e':¬q.1=k:=λz=>e (h1.trans z)
   have b:valueAt (q::qs) k=valueAt qs k:=by simp[valueAt,bp7,e']
   rw[sX e,b];exact ih
theorem KV.any {kvs:List (κ×V)}{vs:List (κ×ao)}(r:KV kvs vs)(k:κ):(kvs.any λkv=>decide (kv.1=k))=vs.any λkv=>decide (kv.1=k):=by
 unfold KV at r
 induction r with
 |nil=>rfl
 |cons h t ih=>rw[List.any_cons,List.any_cons,ih,h.1]
theorem KV.repl {kvs:List (κ×V)}{vs:List (κ×ao)}(r:KV kvs vs)(k:κ){y:V}{u:ao}(ry:b7 y u) :
  KV (kvs.map λkv=>if kv.1=k then (kv.1,y) else kv) (vs.map λkv=>if kv.1=k then (kv.1,u) else kv):=by
 unfold KV at r ⊢
 induction r with
 |nil=>exact .nil
 |@cons p q ps qs h t ih=>
  rw[bn5,bn5];refine .cons ?_ ih
  obtain⟨h1,h2⟩:=h
  by_cases e:p.1=k
  ·rw[if_pos e,if_pos (h1.symm.trans e)];exact⟨h1,ry⟩
  ·rw[if_neg e,if_neg (λz=>e (h1.trans z))];exact⟨h1,h2⟩
theorem KV.put {kvs:List (κ×V)}{vs:List (κ×ao)}(r:KV kvs vs)(k:κ){y:V}{u:ao}(ry:b7 y u):KV (dN kvs k y) (stored vs k u):=by
 unfold dN stored;rw[r.any k];by_cases e:(vs.any λkv=>decide (kv.1=k))=true
 ·rw[if_pos e,if_pos e];exact r.repl k ry
 ·rw[if_neg e,if_neg e];exact Paired.snoc r ⟨rfl,ry⟩
theorem KV.length {kvs:List (κ×V)}{vs:List (κ×ao)}(r:KV kvs vs):kvs.length=vs.length:=Paired.length r
end
theorem jZ {P:av}{w:ax}{k:aH}{u:ao}(r:b7 (kV k) u):(cT P w).is k u=true:=by
 cases k with
 |inl i=>obtain⟨t,e⟩:=(show ∃t,u=Value.int i t from r);subst e;exact aa5 P w i t
 |inr x=>obtain⟨t,e⟩:=(show ∃t,u=Value.str x t from r);subst e;exact aa6 P w x t
theorem yR {P:av}{w:ax}:∀{ks:List aH}{us:List ao},aY (ks.map kV) us->ItemsAre (cT P w) ks us
 |[],_,r=>by rw[List.map_nil]at r;cases r;exact .nil
 |k::ks,_,r=>by
  rw[bn5]at r;cases r with
  |cons h t=>exact .cons (jZ h) (yR t)
noncomputable abbrev KT (H:Hp):List (List aH×V)->List (List aH×ar×ao)->Prop:=Paired λp q=>p.1=q.1/\H q.2.1=some (.tup (p.1.map kV))/\b7 p.2 q.2.2
theorem KT.val {H:Hp}{kvs:List (List aH×V)}{xs:List (List aH×ar×ao)}(r:KT H kvs xs)(k:List aH):g9 (dU kvs k) ((atKey xs k).map (·.2)):=by
 induction r with
 |nil=>exact True.intro
 |@cons p q ps qs h t ih=>
  obtain⟨h1,_,h2⟩:=h
  by_cases e:p.1=k
  ·have e':q.1=k:=h1.symm.trans e
   have b:atKey (q::qs) k=some q.2:=by simp[atKey,bp7,e']
   rw[sW e,b];exact h2
  ·have e':¬q.1=k:=λz=>e (h1.trans z)
   have b:atKey (q::qs) k=atKey qs k:=by simp[atKey,bp7,e']
   rw[sX e,b];exact ih
theorem KT.repl {H:Hp}{kvs:List (List aH×V)}{xs:List (List aH×ar×ao)}(r:KT H kvs xs)(k:List aH){y:V}{u:ao}(ry:b7 y u) :
  KT H (kvs.map λkv=>if kv.1=k then (kv.1,y) else kv) (xs.map (putAt k u)):=by
 induction r with
 |nil=>exact .nil
 |@cons p q ps qs h t ih=>
  rw[bn5,bn5];refine .cons ?_ ih
  obtain⟨h1,h2,h3⟩:=h
  unfold putAt;by_cases e:p.1=k
  ·rw[if_pos e,if_pos (h1.symm.trans e)];exact⟨h1,h2,ry⟩
  ·rw[if_neg e,if_neg (λz=>e (h1.trans z))];exact⟨h1,h2,h3⟩
theorem KT.put {H:Hp}{kvs:List (List aH×V)}{xs:List (List aH×ar×ao)}(r:KT H kvs xs)(k:List aH){b:ar}{y:V}{u:ao}(hb:H b=some (.tup (k.map kV)))(ry:b7 y u) :
  KT H (dN kvs k y) (storedH xs k b u):=by
 have e:(kvs.any λkv=>decide (kv.1=k))=(atKey xs k).isSome:=by
  rw[yQ,(r.val k).isSome_eq,Option.isSome_map]
 unfold dN storedH;rw[e];by_cases q:(atKey xs k).isSome=true
 ·rw[if_pos q,if_pos q];exact r.repl k ry
 ·rw[if_neg q,if_neg q];exact Paired.snoc r ⟨rfl,hb,ry⟩
theorem KT.keeps {H H':Hp}{kvs:List (List aH×V)}{xs:List (List aH×ar×ao)}(r:KT H kvs xs)(ht:∀b ys,H b=some (.tup ys)->H' b=some (.tup ys)):KT H' kvs xs:=
 Paired.mapP r λ_ _ z=>⟨z.1,ht _ _ z.2.1,z.2.2⟩
section
variable {P:av}{w:ax}{H:Hp}{h:Heap}{a:ar}
theorem yS {u:HO}(ok:bU P w H h)(e:Rd H a u):cI P w H h a u:=e.ok ok
theorem k6 {kvs:List (aH×V)}(ok:bU P w H h)(e:Rd H a (.dK kvs)):kvs.length<=sizeLine/\(a==sysModules)=false/\∃vs,KV kvs vs/\h.DictOf (cT P w) a vs:=
 show cI P w H h a (.dK kvs) from yS ok e
theorem oR {kvs:List (aH×V)}(ok:bU P w H h)(e:H a=some (.dK kvs)):kvs.length<=sizeLine/\(a==sysModules)=false/\∃vs,KV kvs vs/\h.DictOf (cT P w) a vs:=k6 ok (.inl e)
theorem mZ {ks:List aH}(ok:bU P w H h)(e:H a=some (.tup (ks.map kV))):(tupleKind (cT P w)).is h ks a:=by
 obtain⟨_,its,r,⟨o,h1,h2,n,h3⟩,_⟩:=(show cI P w H h a (.tup (ks.map kV)) from ok a _ e)
 exact⟨o,its.toArray,n,h1,h2,h3,by simpa using yR r⟩
theorem lI {kvs:List (List aH×V)}(ok:bU P w H h)(e:Rd H a (.dT kvs)):kvs.length<=sizeLine/\(a==sysModules)=false/\
  ∃xs,KT H kvs xs/\h.DictOfH (tupleKind (cT P w)) a xs:=by
 obtain⟨z,y,xs,r,o,es,ep,h1,h2,h3,h4,h5⟩:=(show cI P w H h a (.dT kvs) from yS ok e)
 refine⟨z,y,xs,r,o,es,ep,h1,h2,h3,h4,λx hx=>?_,h5⟩;have all:∀{l:List (List aH×V)}{m:List (List aH×ar×ao)},KT H l m->∀x∈m,(tupleKind (cT P w)).is h x.1 x.2.1:=by
  intro l m q
  induction q with
  |nil=>intro x hx;exact nomatch hx
  |@cons p q ps qs hq t ih=>
   intro x hx;rcases be8.mp hx with e|hx
   ·subst e
    exact mZ ok (by rw[<- hq.1];exact hq.2.1)
   ·exact ih x hx
 exact all r x hx
theorem ai8 {kvs:List (List aH×V)}(ok:bU P w H h)(e:H a=some (.dT kvs)):kvs.length<=sizeLine/\(a==sysModules)=false/\
  ∃xs,KT H kvs xs/\h.DictOfH (tupleKind (cT P w)) a xs:=lI ok (.inl e)
end
noncomputable def fD (H:Hp)(a:ar)(y:V)(r:Option V):Prop:=
 (∃kvs k,Rd H a (.dK kvs)/\y=kV k/\r=dU kvs k)∨∃kvs k b,Rd H a (.dT kvs)/\y = .ref b/\H b=some (.tup (k.map kV))/\r=dU kvs k
noncomputable def jE (H:Hp)(a:ar)(y v:V)(H':Hp):Prop:=
 (∃kvs k,H a=some (.dK kvs)/\y=kV k/\kvs.length<sizeLine/\H'=upd H a (.dK (dN kvs k v))) ∨
 ∃kvs k b,H a=some (.dT kvs)/\y = .ref b/\H b=some (.tup (k.map kV))/\kvs.length<sizeLine/\H'=upd H a (.dT (dN kvs k v))
theorem fD.k {H:Hp}{a:ar}{kvs:List (aH×V)}{k:aH}(e:H a=some (.dK kvs)):fD H a (kV k) (dU kvs k):=.inl ⟨kvs,k,.inl e,rfl,rfl⟩
theorem fD.t {H:Hp}{a b:ar}{kvs:List (List aH×V)}{k:List aH}(e:H a=some (.dT kvs))(eb:H b=some (.tup (k.map kV))):fD H a (.ref b) (dU kvs k):=.inr ⟨kvs,k,b,.inl e,rfl,eb,rfl⟩
theorem jE.k {H:Hp}{a:ar}{kvs:List (aH×V)}{k:aH}{v:V}(e:H a=some (.dK kvs))(hl:kvs.length<sizeLine):jE H a (kV k) v (upd H a (.dK (dN kvs k v))):=.inl ⟨kvs,k,e,rfl,hl,rfl⟩
theorem jE.t {H:Hp}{a b:ar}{kvs:List (List aH×V)}{k:List aH}{v:V}(e:H a=some (.dT kvs))(eb:H b=some (.tup (k.map kV)))(hl:kvs.length<sizeLine) :
  jE H a (.ref b) v (upd H a (.dT (dN kvs k v))):=.inr ⟨kvs,k,b,e,rfl,eb,hl,rfl⟩
section
variable {X:Cx}{af:List (ar×Obj)}{σ:St}{H:Hp}{s:aq}{a:ar}{y v:V}{u r:ao}{o:Option V}{A:aw}{E:ao→aq→Prop}
theorem aE.big (I:aE X af σ H s):sysModules<s.heap.objs.size:=by
 have h:mainGlobals<s.heap.objs.size:=(I.mod.glob.keeps I.bk).lt;exact Nat.lt_trans (by decide) h
theorem ai9 {Q:ao->aq->Prop}(hu:A.units+1<cLine)(I:aE X af σ H s)(g:fD H a y (some v))(ry:b7 y u)(h:∀w' s',aE X af σ H s'->b7 v w'->Q w' s') :
  wpAny (model X.prog X.w) A (getItem (.ref a) u) Q E s:=by
 rcases g with⟨kvs,k,e,ey,l⟩|⟨kvs,k,b,e,ey,eb,l⟩
 ·subst ey
  obtain⟨z,hd,vs,rel,dd⟩:=k6 I.hok e
  obtain⟨w',hw,rw'⟩:=g9.some_of (v:=v) (o:=valueAt vs k) (by rw[l];exact rel.val k)
  exact wpAny_getItem_of (jZ ry) dd.mapOf hw (h w' _ (I.tok _) rw')
 ·subst ey
  cases (show u=Value.ref b from ry)
  obtain⟨z,hd,xs,rel,dd⟩:=lI I.hok e
  obtain⟨w',hw,rw'⟩:=g9.some_of (v:=v) (o:=(atKey xs k).map (·.2)) (by rw[l];exact rel.val k)
  obtain⟨p,hp,hp2⟩:=Option.map_eq_some_iff.mp hw
  refine wpAny_getItem_heap (tupleKind_room_in1 hu) (mZ I.hok eb) dd hp ?_;rw[hp2];exact h w' _ (I.tok _) rw'
theorem aj0 {Q:ao->aq->Prop}(hu:A.units+1<cLine)(I:aE X af σ H s)(g:fD H a y o)(ry:b7 y u)(h:∀s',aE X af σ H s'->Q (.bool o.isSome) s') :
  wpAny (model X.prog X.w) A (compareOp .In u (.ref a)) Q E s:=by
 rcases g with⟨kvs,k,e,ey,l⟩|⟨kvs,k,b,e,ey,eb,l⟩
 ·subst ey
  obtain⟨z,hd,vs,rel,dd⟩:=k6 I.hok e
  refine wpAny_in_of (jZ ry) hd dd.mapOf ?_;rw[<- (rel.val k).isSome_eq,<- l];exact h _ (I.tok _)
 ·subst ey
  cases (show u=Value.ref b from ry)
  obtain⟨z,hd,xs,rel,dd⟩:=lI I.hok e
  refine wpAny_in_heap (tupleKind_room_in1 hu) (mZ I.hok eb) hd dd ?_;have q:=(rel.val k).isSome_eq;rw[Option.isSome_map]at q;rw[<- q,<- l];exact h _ (I.tok _)
theorem aj1 {Q:ao->aq->Prop}(hu:A.units+1<cLine)(I:aE X af σ H s)(g:fD H a y o)(ry:b7 y u)(h:∀s',aE X af σ H s'->Q (.bool (!o.isSome)) s') :
  wpAny (model X.prog X.w) A (compareOp .NotIn u (.ref a)) Q E s:=by
 rcases g with⟨kvs,k,e,ey,l⟩|⟨kvs,k,b,e,ey,eb,l⟩
 ·subst ey
  obtain⟨z,hd,vs,rel,dd⟩:=k6 I.hok e
  refine wpAny_notIn_of (jZ ry) hd dd.mapOf ?_;rw[<- (rel.val k).isSome_eq,<- l];exact h _ (I.tok _)
 ·subst ey
  cases (show u=Value.ref b from ry)
  obtain⟨z,hd,xs,rel,dd⟩:=lI I.hok e
  refine wpAny_notIn_heap (tupleKind_room_in1 hu) (mZ I.hok eb) hd dd ?_;have q:=(rel.val k).isSome_eq;rw[Option.isSome_map]at q;rw[<- q,<- l];exact h _ (I.tok _)
theorem oS {h':Heap}{t':Nat}{ob:HO}(I:aE X af σ H s)(mu:mL (H a))(hs:Heap.SameBut a s.heap h')(he:∃q,h'.get? a=some q)(new:cI X.prog X.w (upd H a ob) h' a ob) :
  aE X af σ (upd H a ob) { s with heap:=h',toks:=t' }:=
 I.write (x:=a) (e:=a) mu (.inl rfl) (λb q hb z=>(hs.2 b hb).trans z) he new
theorem sZ {P:av}{w:ax}{H':Hp}{h':Heap}{kvs:List (aH×V)}{vs:List (aH×ao)}(z:kvs.length<=sizeLine)(hd:(a==sysModules)=false)(rel:KV kvs vs)(dd:h'.DictOf (cT P w) a vs) :
  cI P w H' h' a (.dK kvs):=⟨z,hd,vs,rel,dd⟩
theorem aj2 {H':Hp}{Q:Unit->aq->Prop}(hu:A.units+1<cLine)(I:aE X af σ H s)(g:jE H a y v H')(ry:b7 y u)(rv:b7 v r)(h:∀s',aE X af σ H' s'->Q () s') :
  wpAny (model X.prog X.w) A (setItem (.ref a) u r) Q E s:=by
 rcases g with⟨kvs,k,e,ey,l,eH⟩|⟨kvs,k,b,e,ey,eb,l,eH⟩
 ·subst ey eH
  obtain⟨z,hd,vs,rel,dd⟩:=oR I.hok e
  have hz:vs.length<=sizeLine:=by rw[<- rel.length];exact z
  have hl:(dN kvs k v).length<=sizeLine:=by have:=sY kvs k v;omega
  refine wpAny_setItem_pairs (hsz:=hz) (jZ ry) dd λh' dd' hs=>h _ ?_
  have he:∃q,h'.get? a=some q:=let ⟨q,_,_,hq,_⟩:=dd';⟨q,hq⟩
  exact oS I (by rw[e];exact True.intro) hs he (sZ hl hd (rel.put k rv) dd')
 ·subst ey eH
  cases (show u=Value.ref b from ry)
  obtain⟨z,hd,xs,rel,dd⟩:=ai8 I.hok e
  have hz:xs.length<=sizeLine:=by rw[<- Paired.length rel];exact z
  have hl:(dN kvs k v).length<=sizeLine:=by have:=sY kvs k v;omega
  refine wpAny_setItem_heap (hsz:=hz) (tupleKind_room_in1 hu) (mZ I.hok eb) dd λh' dd' hs=>h _ ?_
  obtain⟨q,es,ep,hq,h2,h3,h4,_,h5⟩:=dd'
  refine oS I (by rw[e];exact True.intro) hs ⟨q,hq⟩ ⟨hl,hd,_,(rel.put k eb rv).keeps λc ys ec=>?_,q,es,ep,hq,h2,h3,h4,h5⟩;rw[b6 (aa7 ec e (λz=>nomatch z))];exact ec
end
section
variable {X:Cx}{af:List (ar×Obj)}{σ:St}{H:Hp}{s:aq}{a:ar}{kvs:List (aH×V)}{k:aH}{u:ao}{A:aw}{E:ao→aq→Prop}
theorem aj3 {Q:ao->aq->Prop}(I:aE X af σ H s)(e:Rd H a (.dK kvs))(h:∀t s',aE X af σ H s'->Q (.int kvs.length t) s'):wpAny (model X.prog X.w) A (call (.builtin "len") [.ref a]) Q E s:=by
 obtain⟨z,hd,vs,rel,dd⟩:=k6 I.hok e
 refine call_len_dict hd dd (by rw[<- rel.length];rw[bt1]at z;omega) ?_;rw[<- rel.length];exact h _ _ (I.tok _)
end
noncomputable def t5 (i:Expr):Prop:=∀ov iv,subscripted i false ov iv=operate [ov,iv] (getItem ov iv)
theorem aj4 {prog:av}{w:ax}{A:aw}{E:ao->aq->Prop}{s:aq}{env:Env}{value slice:Expr}{pos:Pos}{T id:String}{Q:ao->aq->Prop}(hl:typeLookup (.type T) "__getitem__" = pure (some (.builtin id)))(hs:t5 slice)(h:wpAny (model prog w) A (eval value env) (λo s₁=>wpAny (model prog w) A (eval slice env) (λi s₂=>s₂.TypeIs o T/\wpAny (model prog w) A (getItem o i) Q E s₂) E s₁) E s) :
  wpAny (model prog w) A (eval (.Subscript value slice pos) env) Q E s:=by
 refine Subscript_ (bk2 h (λo s₁ h₁=>bk2 h₁ (λi s₂ h₂=>?_) λ_ _ x=>x) λ_ _ x=>x)
 obtain⟨hT,h₂⟩:=h₂
 unfold subscriptTail;refine be2 ?_;rw[getitemInPython_of_ne hT.not_modules];refine be2 (wpAny_specialOf hT hl ?_);have fin:wpAny (model prog w) A (subscripted slice false o i) (λr s₃=>wpAny (model prog w) A (letTemporaryGo value o r >>= λ_=>pure r) Q E s₃) E s₂:=by
  rw[hs o i];exact wpAny_operating (bk2 h₂ (λr s₃ h₃=>be2 (wpAny_letTemporaryGo (be6 h₃))) λ_ _ x=>x)
 first
  |exact be6 (be2 fin)
  |exact be2 (be6 (be2 fin))
  |exact be2 fin
theorem aj5 {X:Cx}{af:List (ar×Obj)}{σ:St}{H:Hp}{s:aq}{a:ar}{y:V}{o:Option V}(I:aE X af σ H s)(g:fD H a y o):s.TypeIs (.ref a) "dict":=by
 rcases g with⟨kvs,k,e,_,_⟩|⟨kvs,k,b,e,_,_,_⟩
 ·obtain⟨_,_,vs,_,dd⟩:=k6 I.hok e
  exact dd.typeIs
 ·obtain⟨_,_,xs,_,dd⟩:=lI I.hok e
  exact dd.typeIs
noncomputable def yT (td ty:TE):TE:=λσ H Q=>td σ H λx H1=>ty σ H1 λy H2=>∃a v,x = .ref a/\fD H2 a y (some v)/\Q v H2
noncomputable def yU (ty td:TE):TE:=λσ H Q=>ty σ H λy H1=>td σ H1 λx H2=>∃a o,x = .ref a/\fD H2 a y o/\Q (.bl o.isSome) H2
noncomputable def yV (ty td:TE):TE:=λσ H Q=>ty σ H λy H1=>td σ H1 λx H2=>∃a o,x = .ref a/\fD H2 a y o/\Q (.bl (!o.isSome)) H2
noncomputable def t6 (td ty tv:TE):TS:=λD σ H=>tv σ H λv H1=>td σ H1 λx H2=>ty σ H2 λy H3=>∃a H4,x = .ref a/\jE H3 a y v H4/\D.nx σ H4
section
variable {X:Cx}{o i e value:Expr}{pos pos' tpos:Pos}{td ty tv:TE}
theorem aj6 (hu:X.A.units+1<cLine)(ho:PE X o td)(hi:PE X i ty)(hs:t5 i):PE X (.Subscript o i pos) (yT td ty):=by
 intro af s σ H Q I h;refine aj4 PySem.F.slot_dict_getitem.lookup hs (aT (ho af s σ H _ I h) λu s1 ⟨x,H1,I1,rx,q1⟩=>aT (hi af s1 σ H1 _ I1 q1) λiv s2 ⟨y,H2,I2,ry,a,v,ex,g,q2⟩=>?_);subst ex;obtain rfl:u=Value.ref a:=rx
 exact⟨aj5 I2 g,ai9 hu I2 g ry λw' s3 I3 rw'=>⟨v,H2,I3,rw',q2⟩⟩
theorem aj7 (hu:X.A.units+1<cLine)(hi:PE X i ty)(ho:PE X o td):PC X .In i o (yU ty td):=by
 intro af s σ H Q I h;refine aT (hi af s σ H _ I h) λiv s1 ⟨y,H1,I1,ry,q1⟩=>aT (ho af s1 σ H1 _ I1 q1) λu s2 ⟨x,H2,I2,rx,a,ov,ex,g,q2⟩=>?_
 subst ex;obtain rfl:u=Value.ref a:=rx;exact aj0 hu I2 g ry λs3 I3=>⟨.bl ov.isSome,H2,I3,rfl,q2⟩
theorem yW (hu:X.A.units+1<cLine)(hi:PE X i ty)(ho:PE X o td):PC X .NotIn i o (yV ty td):=by
 intro af s σ H Q I h;refine aT (hi af s σ H _ I h) λiv s1 ⟨y,H1,I1,ry,q1⟩=>aT (ho af s1 σ H1 _ I1 q1) λu s2 ⟨x,H2,I2,rx,a,ov,ex,g,q2⟩=>?_
 subst ex;obtain rfl:u=Value.ref a:=rx;exact aj1 hu I2 g ry λs3 I3=>⟨.bl (!ov.isSome),H2,I3,rfl,q2⟩
theorem yX (hu:X.A.units+1<cLine)(ho:PE X o td)(hi:PE X i ty)(hv:PE X value tv)(hs:swapsWith value (some (.Subscript o i pos')) pos.line X.env=pure false) :
  PS X (.Assign [.Subscript o i pos'] value pos) (t6 td ty tv):=by
 intro af s σ H D I h;refine wpAny_Assign_Subscript (aT (hv af s σ H _ I h) λr s1 ⟨v,H1,I1,rv,q1⟩=>aT (ho af s1 σ H1 _ I1 q1) λu s2 ⟨x,H2,I2,rx,q2⟩=>aT (hi af s2 σ H2 _ I2 q2) λiv s3 ⟨y,H3,I3,ry,a,H4,ex,g,q3⟩=>?_) hs;subst ex;obtain rfl:u=Value.ref a:=rx;exact aj2 hu I3 g ry rv λs4 I4=>⟨σ,H4,I4,q3⟩
end
theorem yY {P:av}{w:ax}{H:Hp}(h:Heap)(hb:sysModules<h.objs.size):cI P w H (h.push { cls:=.type "dict",data:=.dict #[] }) h.objs.size (.dK []):=
 ⟨bo1 _,bn6.mpr (Ne.symm (bh6 hb)),[],.nil,Heap.DictOf.new h⟩
theorem aj8 {P:av}{w:ax}{H:Hp}(h:Heap)(hb:sysModules<h.objs.size):cI P w H (h.push { cls:=.type "dict",data:=.dict #[] }) h.objs.size (.dT []):=
 ⟨bo1 _,bn6.mpr (Ne.symm (bh6 hb)),[],.nil,_,#[],0,bf0 _ rfl,⟨rfl,rfl,rfl⟩,rfl,rfl,List.nodup_nil⟩
noncomputable def yZ:TE:=λ_ H Q=>∀p,H p=none->Q (.ref p) (upd H p (.dK []))
noncomputable def z9:TE:=λ_ H Q=>∀p,H p=none->Q (.ref p) (upd H p (.dT []))
section
variable {X:Cx}{pos:Pos}
theorem aj9:PE X (.Dict [] [] pos) yZ:=λaf s σ H Q I h=>
 wpAny_Dict_empty ⟨.ref s.heap.objs.size,_,I.laid (a:=s.heap.objs.size) (o:=.dK []) (t':=s.toks) (λ_ _ q=>be4 _ q) (be7 _) (yY s.heap I.big),rfl,h _ (I.hok.fresh (be7 _))⟩
theorem ak0:PE X (.Dict [] [] pos) z9:=λaf s σ H Q I h=>
 wpAny_Dict_empty ⟨.ref s.heap.objs.size,_,I.laid (a:=s.heap.objs.size) (o:=.dT []) (t':=s.toks) (λ_ _ q=>be4 _ q) (be7 _) (aj8 s.heap I.big),rfl,h _ (I.hok.fresh (be7 _))⟩
end
noncomputable def t7:List (TE×TE)->St->Hp->(List (V×V)->Hp->Prop)->Prop
 |[],_,H,Q=>Q [] H
 |(tk,tv)::r,σ,H,Q=>tk σ H λx H1=>tv σ H1 λy H2=>t7 r σ H2 λps H3=>Q ((x,y)::ps) H3
noncomputable abbrev VV:List (V×V)->List (ao×ao)->Prop:=Paired λp q=>b7 p.1 q.1/\b7 p.2 q.2
noncomputable def oU (X:Cx)(pos:Pos)(keys:List (Option Expr))(values:List Expr)(trs:List (TE×TE)):Prop:=
 ∀(af:List (ar×Obj)) (s:aq) (σ:St) (H:Hp) (Q:List (V×V)->Hp->Prop),aE X af σ H s->t7 trs σ H Q->
  wpAny (model X.prog X.w) X.A (evalPairs (pairTrees keys values X.env pos)) (λvs s'=>∃ps H',aE X af σ H' s'/\VV ps vs/\Q ps H') X.xe s
theorem ak1 {X:Cx}{pos:Pos}:oU X pos [] [] []:=λaf s σ H Q I h=>pairTrees_nil_walk ⟨[],H,I,.nil,h⟩
theorem ak2 {X:Cx}{pos:Pos}{k v:Expr}{ks:List (Option Expr)}{vs:List Expr}{tk tv:TE}{trs:List (TE×TE)}(hk:PE X k tk)(hv:PE X v tv)(hr:oU X pos ks vs trs) :
  oU X pos (some k::ks) (v::vs) ((tk,tv)::trs):=λaf s σ H Q I h=>
 pairTrees_cons_walk (aT (hk af s σ H _ I h) λu s1 ⟨x,H1,I1,rx,q1⟩=>aT (hv af s1 σ H1 _ I1 q1) λw2 s2 ⟨y,H2,I2,ry,q2⟩=>
  aT (hr af s2 σ H2 _ I2 q2) λws s3 ⟨ps,H3,I3,rel,q3⟩=>⟨(x,y)::ps,H3,I3,.cons ⟨rx,ry⟩ rel,q3⟩)
noncomputable def hZ (kvs more:List (aH×V)):List (aH×V):=more.foldl (λacc kv=>dN acc kv.1 kv.2) kvs
theorem KV.merge:∀{more:List (aH×V)}{rs:List (aH×ao)}{kvs:List (aH×V)}{vs:List (aH×ao)},KV more rs->KV kvs vs->KV (hZ kvs more) (merged vs rs):=by
 intro more rs kvs vs r;unfold KV at r
 induction r generalizing kvs vs with
 |nil=>intro q;exact q
 |@cons p q ps qs h t ih=>
  intro r0;have e:KV (dN kvs p.1 p.2) (stored vs q.1 q.2):=by
   have:=r0.put p.1 h.2
   rw[<- h.1];exact this
  exact ih e
theorem t8:∀(more kvs:List (aH×V)),(hZ kvs more).length<=kvs.length+more.length
 |[],kvs=>by show kvs.length<=kvs.length+0;omega
 |p::r,kvs=>by
  have h1:=t8 r (dN kvs p.1 p.2);have h2:=sY kvs p.1 p.2;show (hZ (dN kvs p.1 p.2) r).length<=_;rw[bm3];omega
theorem zA {P:av}{w:ax}:∀{kvs:List (aH×V)}{ws:List (ao×ao)},VV (kvs.map λkv=>(kV kv.1,kv.2)) ws->∃rs,Carries (cT P w) ws rs/\KV kvs rs
 |[],_,r=>by rw[List.map_nil]at r;cases r;exact⟨[],True.intro,.nil⟩
 |p::kvs,_,r=>by
  rw[bn5]at r;cases r with
  |@cons a b as bs h t=>
   obtain⟨rs,c,q⟩:=zA (P:=P) (w:=w) t
   obtain⟨b1,b2⟩:=b
   exact⟨(p.1,b2)::rs,⟨jZ h.1,rfl,c⟩,.cons ⟨rfl,h.2⟩ q⟩
noncomputable def zB (trs:List (TE×TE)):TE:=λσ H Q=>∀p,H p=none->t7 trs σ (upd H p (.dK [])) λps H2=>H2 p=some (.dK [])/\∃kvs:List (aH×V),ps=kvs.map (λkv=>(kV kv.1,kv.2))/\kvs.length<=15/\Q (.ref p) (upd H2 p (.dK (hZ [] kvs)))
theorem ak3 {X:Cx}{pos:Pos}{keys:List (Option Expr)}{values:List Expr}{trs:List (TE×TE)}(h:oU X pos keys values trs)(hall:keys.all (·.isSome)=true)(hl:keys.length=values.length)(h0:keys≠[])(h15:keys.length<=15):PE X (.Dict keys values pos) (zB trs):=by
 intro af s σ H Q I q;have hn:=I.hok.fresh (be7 s.heap.objs.size);have I1:=I.laid (a:=s.heap.objs.size) (o:=.dK []) (h':=s.heap.push { cls:=.type "dict",data:=.dict #[] }) (t':=s.toks) (λ_ _ q=>be4 _ q) (be7 _) (yY s.heap I.big);refine wpAny_Dict_walk (knd:=cT X.prog X.w) hall hl h0 h15 (aT (h af _ σ _ _ I1 (q _ hn)) λws s2 ⟨ps,H2,I2,rel,e,kvs,ep,lk,q2⟩=>?_);subst ep
 obtain⟨rs,c,rk⟩:=zA (P:=X.prog) (w:=X.w) rel
 obtain⟨z,hd,vs0,r0,dd⟩:=oR I2.hok e
 cases r0;refine⟨rs,c,dd,λh' dd' hs=>⟨.ref s.heap.objs.size,_,?_,rfl,q2⟩⟩;have hz:(hZ [] kvs).length<=sizeLine:=by
  have h1:=t8 kvs [];rw[List.length_nil]at h1;rw[bt1];omega
 have he:∃q,h'.get? s.heap.objs.size=some q:=let ⟨q,_,_,hq,_⟩:=dd';⟨q,hq⟩
 exact oS I2 (by rw[e];exact True.intro) hs he (sZ hz hd (rk.merge .nil) dd')
structure M1 (X:Cx)(o:Expr)(m:Str)(ag:Pos)(e:Expr)(ah:Pos):Prop where
 base:attributeBase o m X.env (eval o X.env)=eval o X.env
 few:((backTo ah (starEach [e] X.env)).all (λx=>!x.1)&&(backToKw ah (keywordEach [] X.env)).all (λx=>x.1.isSome)
 &&decide (([e]:List Expr).length+([]:List Keyword).length+(if ([]:List Keyword).isEmpty then 0 else 1)<30))=true
 line:(ag.endLine==ah.line)=true
 trees:backTo ah (starEach [e] X.env) = [(false,eval e X.env)]
structure M2 (X:Cx)(o:Expr)(m:Str)(ag:Pos)(e f:Expr)(ah:Pos):Prop where
 base:attributeBase o m X.env (eval o X.env)=eval o X.env
 few:((backTo ah (starEach [e,f] X.env)).all (λx=>!x.1)&&(backToKw ah (keywordEach [] X.env)).all (λx=>x.1.isSome)
 &&decide (([e,f]:List Expr).length+([]:List Keyword).length+(if ([]:List Keyword).isEmpty then 0 else 1)<30))=true
 line:(ag.endLine==ah.line)=true
 trees:backTo ah (starEach [e,f] X.env) = [(false,eval e X.env),(false,eval f X.env)]
noncomputable def zC (H:Hp)(a:ar):Prop:=(∃kvs,Rd H a (.dK kvs))∨∃kvs,Rd H a (.dT kvs)
theorem ak4 {X:Cx}{af:List (ar×Obj)}{σ:St}{H:Hp}{s:aq}{a:ar}(I:aE X af σ H s)(d:zC H a) :
  s.TypeIs (.ref a) "dict"/\(∀b,Value.ref a = .ref b->∃ob,s.heap.get? b=some ob/\ob.dict=none)/\(a==sysModules)=false:=by
 rcases d with⟨kvs,e⟩|⟨kvs,e⟩
 ·obtain⟨_,hd,vs,_,dd⟩:=k6 I.hok e
  refine⟨dd.typeIs,λb q=>?_,hd⟩;cases q
  obtain⟨ob,_,_,h1,h2,_⟩:=dd
  exact⟨ob,h1,h2.2.1⟩
 ·obtain⟨_,hd,xs,_,dd⟩:=lI I.hok e
  refine⟨dd.typeIs,λb q=>?_,hd⟩;cases q
  obtain⟨ob,_,_,h1,h2,_⟩:=dd
  exact⟨ob,h1,h2.2.1⟩
end L2
namespace Att
open PySem PySem.W PySem.Calls PyProof.Rows
theorem ak5 {P:Params}{h:Heap}:∀(ns:ae) (vs:List ao),WellAll P h vs (ns.map WData.int)->IntsAre vs ns:=by
 intro ns
 induction ns with
 |nil=>
  intro vs w;rw[List.map_nil]at w;cases w;exact .nil
 |cons n ns ih=>
  intro vs w;rw[bn5]at w;cases w with
  |cons a b=>
   cases a;exact .cons _ _ (ih _ b)
theorem zD {l:OpenLaw}{n:Nat}(hn:l.most=some n){P:Params}{h:Heap}{args:List WData}{vals:List ao}(hpre:l.row.toRowW.claim.pre args=true)(hwl:WellAll P h vals args) :
  ∃a vs ns,vals = [Value.ref a]/\args = [WData.list (ns.map WData.int)]/\h.get? a=some { cls:=.type "list",data:=.seq vs.toArray }/\IntsAre vs ns/\ns.length<=n:=by
 have hsh:WShape.hasAll [] args [.list .int]=true:=(pre_splitW hpre).1;have hc:l.pre.holds [] { args:=args }=true:=(pre_splitW hpre).2
 obtain⟨d,r,rfl,h1,h2⟩:=hasAllW_cons hsh
 obtain rfl:=hasAllW_nil h2
 obtain⟨xs,rfl,h3⟩:=hasW_list h1
 obtain⟨ns,rfl⟩:=items_int h3
 have ai:ns.length<=n:=by
  unfold OpenLaw.pre at hc;have h4:(WTm.not (.lt (.lit (.int (n:Int))) (.len (.arg 0)))).holds [] { args:=[.list (ns.map .int)] }=true:=by
   have h4:=(holds_andW hc).1;rw[hn]at h4;exact h4
  have h5:=condW_of h4 (w_not (w_lt w_lit (w_len_list (w_arg rfl))));rw[be9]at h5;refine Nat.le_of_not_lt λq=>?_
  have q':(n:Int)<((ns.length:Nat):Int):=by omega
  first
   |(rw[bj1 q']at h5;exact absurd h5 (by decide))
   |(simp at h5;omega)
 cases hwl with
 |cons w1 w2=>
  cases w2;cases w1 with
  |list ho hall=>exact⟨_,_,ns,rfl,rfl,ho,ak5 ns _ hall,ai⟩
theorem zE (l:OpenLaw)(args:List WData):l.row.toRowW.claim.post args (.bool true) args=true:=
 postW_of (r:=l.row.toRowW) (X:=(true==true))
  (show WShape.has [] (.bool true) .bool=true by first|rfl|decide|simp[WShape.has,WShape.arms,WShape.armsAll])
  (show (WTm.eq .res (.lit (.bool true))).value [] { args:=args,res:=some (.bool true),after:=args }=some (.bool (true==true)) from w_eq_bool (w_res rfl) w_lit) rfl
theorem bd4 {l:OpenLaw}{n:Nat}{q:av}{loose:List Str}{XP:(Str->Option ao)->Heap->Prop}{YP:ax->Heap->Prop}{d:DefRec}{x:Str}(hn:l.most=some n)(hdf:d.params.defaults = [])(hbind:∀pm cd doc v:ao,bindArgs (docDef d.name d.params d.body d.scope pm cd doc) ⟨[v],[]⟩=pure [(x,v)])(hx:d.scope.names.lookup x=some .local∨d.scope.names.lookup x=some .cell)(hk:d.scope.kind = .function)(hco:d.scope.isCoroutine=false)(hgen:d.scope.isGenerator=false)(body:∀(w:ax) (s₀ s₁ s:aq) (mg mb:Str->Option ao) (fa:ar) (o:Obj) (pm cd doc:ao) (a:ar) (vs:List ao) (ns:ae),
   Ground q loose [] XP w s₀ mg mb s₁.heap->YP w s₁.heap->
   s₁.heap.get? fa=some o->o.data = .func (docDef d.name d.params d.body d.scope pm cd doc)->s₁.heap.CodeRec cd d.name->mg d.name=some (.ref fa)->
   s₁.heap.get? a=some { cls:=.type "list",data:=.seq vs.toArray }->IntsAre vs ns->ns.length<=n->
   s.gens = #[]->s.os=s₁.os->
   Fr s₁.heap s₁.heap.objs.size s.heap (bindL (envOfC d.name d.scope s₁.heap.objs.size fa cd).kindOf [(x,.ref a)] λ_=>none)->
   Cl s₁.heap.objs.size (cellsFrom (s₁.heap.objs.size+1) d.scope.names []) s.heap (bindC (envOfC d.name d.scope s₁.heap.objs.size fa cd).kindOf [(x,.ref a)] λ_=>none)->
   wpAny (model l.prog w) (callerA.deeper (envOfC d.name d.scope s₁.heap.objs.size fa cd)) (execs d.body (envOfC d.name d.scope s₁.heap.objs.size fa cd))
    (λf s'=>f = .ret (.bool true)/\OldK s₁.heap s'.heap/\s'.os=s₁.os/\AllBare s'.gens) (λ_ _=>False) s) :
  WalkO q loose XP YP l.row.toRowW d [] (λf vs=>PySem.call f vs):=by
 intro w s₀ s₁ mg mb G Y fa o pm cd doc dV kV ho hd hcd hD hmg hg args vals as hpre hlay hrd hwl hlo;obtain rfl:dV = .none:=Dflts.none hD hdf;obtain rfl:kV = .none:=Dflts.noKw hD
 obtain⟨a,vs,ns,rfl,rfl,hobj,hints,ai⟩:=zD hn hpre hwl
 refine enter_call ?_;refine call_cells_ret (o:=o) (by rw[depth_caller];decide) ho (fd_plain hd) G.T.nolimit hcd (hbind pm cd doc (.ref a)) (λy hy=>?_) (λh₁ tk F X=>?_) hco hgen hk
 ·obtain rfl:y=(x,Value.ref a):=bh5.mp hy
  rcases hx with e|e
  ·exact .inl e
  ·exact .inr ⟨e,cellsFrom_some _ _ _ (.inl e)⟩
 ·refine bk2 (body w s₀ s₁ { s₁ with heap:=h₁,toks:=tk } mg mb fa o pm cd doc a vs ns G Y ho (fd_plain hd) hcd hmg hobj hints ai hg rfl F X) (λf s' hq=>?_) (λ_ _ hq=>hq)
  obtain⟨rfl,h2,h3,h4⟩:=hq
  exact⟨.inl ⟨.bool true,.bool true,[],rfl,λ_=>rfl,.bool true,zE l _,λ_=>⟨List.Pairwise.nil,λ_ hm=>(nomatch hm)⟩⟩,h2,h3,h4⟩
theorem ak6 {l:OpenLaw}{n:Nat}{q:av}{loose:List Str}{XP:(Str->Option ao)->Heap->Prop}{YP:ax->Heap->Prop}{d:DefRec}(hn:l.most=some n)(hdf:d.params.defaults = [])(call:∀(w:ax) (s₀ s₁:aq) (mg mb:Str->Option ao) (fa:ar) (o:Obj) (pm cd doc:ao) (a:ar) (vs:List ao) (ns:ae),
   Ground q loose [] XP w s₀ mg mb s₁.heap->YP w s₁.heap->
   s₁.heap.get? fa=some o->o.data = .func (docDef d.name d.params d.body d.scope pm cd doc)->s₁.heap.CodeRec cd d.name->mg d.name=some (.ref fa)->
   s₁.heap.get? a=some { cls:=.type "list",data:=.seq vs.toArray }->IntsAre vs ns->ns.length<=n->s₁.gens = #[]->
   codeAny (model l.prog w) callerA (.call (.ref fa) ⟨[.ref a],[]⟩) (λr s'=>r = .ok (.ret (.bool true))/\OldK s₁.heap s'.heap/\s'.os=s₁.os/\AllBare s'.gens) s₁) :
  WalkO q loose XP YP l.row.toRowW d [] (λf vs=>PySem.call f vs):=by
 intro w s₀ s₁ mg mb G Y fa o pm cd doc dV kV ho hd hcd hD hmg hg args vals as hpre hlay hrd hwl hlo;obtain rfl:dV = .none:=Dflts.none hD hdf;obtain rfl:kV = .none:=Dflts.noKw hD
 obtain⟨a,vs,ns,rfl,rfl,hobj,hints,ai⟩:=zD hn hpre hwl
 refine enter_call (codeAny_mono (call w s₀ s₁ mg mb fa o pm cd doc a vs ns G Y ho (fd_plain hd) hcd hmg hobj hints ai hg) λr s' hq=>?_)
 obtain⟨rfl,h2,h3,h4⟩:=hq
 exact⟨.inl ⟨.bool true,.bool true,[],rfl,λ_=>rfl,.bool true,zE l _,λ_=>⟨List.Pairwise.nil,λ_ hm=>(nomatch hm)⟩⟩,h2,h3,h4⟩
end Att
namespace L2
open PySem PySem.Spec PyProof.Rows
theorem nA:∀{vs:List ao}{ns:ae},IntsAre vs ns->aY (ns.map V.int) vs
 |_,_,.nil=>.nil
 |_,_,.cons n t h=>.cons ⟨t,rfl⟩ (nA h)
noncomputable def oV (H:Hp):Prop:=∀b,H b=none∨∃o xs,H b=some (.frz o (.lst xs))
theorem ak7 {P:av}{w:ax}{K:ac}{mg mb:Str->Option ao}{CX:gB}{k:Nat}{fa a:ar}{fd:FuncData}{x:Str}{sp:Sp}{s₁:aq}{vs:List ao}{ns:ae}(KX:K.In s₁.heap)(hns:s₁.heap.Ns mainGlobals mg)(hb:s₁.heap.Ns builtinsNs mb)(hbb:∀x:Str,x≠"__name__"->mb x=bootBuiltins x)(hlim:s₁.heap.NoLimit)(hg:s₁.gens = #[])(ha:s₁.heap.get? a=some { cls:=.type "list",data:=.seq vs.toArray })(hi:IntsAre vs ns)(hl:ns.length<=sizeLine)(hr:c8 k callerA)(F:∀base:Heap,K.In base->base.Ns mainGlobals mg->cX P w K mg base CX k fa fd [x] sp)(hbind:∀(s:aq) (u:ao),BindsTo s fd ⟨[u],[]⟩ [(x,u)])(hsp:∀H:Hp,oV H->aV K H a (ns.map V.int)->sp [.ref a] H (λv _=>v = .bl true) λ_ _ _=>False)(hCX:∀H e s',CX [] H s₁ (λ_ _ _=>False) e s'->False) :
  codeAny (model P w) callerA (.call (.ref fa) ⟨[.ref a],[]⟩) (λr s'=>r = .ok (.ret (.bool true))/\OldK s₁.heap s'.heap/\s'.os=s₁.os/\AllBare s'.gens) s₁:=by
 have rv:=nA hi;have lenV:=hi.length;have core:∀H:Hp,oV H->aV K H a (ns.map V.int)->bU P w H s₁.heap->(∀b,H b≠none->b=a)->(H a≠none->K.lookup a=none)->
   codeAny (model P w) callerA (.call (.ref fa) ⟨[.ref a],[]⟩) (λr s'=>r = .ok (.ret (.bool true))/\OldK s₁.heap s'.heap/\s'.os=s₁.os/\AllBare s'.gens) s₁:=by
  intro H hO hS hok hA hK;have base_of:∀{b:ar}{o:Obj},s₁.heap.get? b=some o->H b=none->(iG s₁.heap H).get? b=some o:=λe n=>aa9 e n
  have noA:∀{b:ar}{o:Obj}{es:Array DictEntry}{ep:Nat},s₁.heap.get? b=some o->o.data = .dict es ep->H b=none:=λ{b o es ep} e d=>by
   cases q:H b with
   |none=>rfl
   |some u=>
    have e':b=a:=hA b (by rw[q];simp);subst e';rw[ha]at e;cases e;have d':Data.seq vs.toArray _=Data.dict es ep:=d;cases d'
  have nsK:∀{b:ar}{m:Str->Option ao},s₁.heap.Ns b m->(iG s₁.heap H).Ns b m:=λ{b m} ⟨o,es,ep,e,d,r⟩=>⟨o,es,ep,base_of e (noA e d),d,r⟩
  have hKb:K.In (iG s₁.heap H):=λb o e=>base_of (KX b o e) (by
   cases q:H b with
   |none=>rfl
   |some u=>
    have e':b=a:=hA b (by rw[q];simp);subst e'
    rw[hK (by rw[q];simp)]at e;cases e)
  have hM:Mod K mg (iG s₁.heap H):=⟨hKb,nsK hns,⟨mb,nsK hb,hbb⟩,let ⟨mc,h1,h2⟩:=hlim;⟨mc,nsK h1,h2⟩⟩;have e0:oN P w K mg (iG s₁.heap H) callerA [] s₁ H:=⟨rfl,hM,λb o e=>ab0 e,Nat.le_of_eq (aa8 _ _),trivial,λb hb=>absurd (show b∈([]:List ar) from hb) (by simp),hok,.of_eq hg⟩;refine codeAny_mono ((F _ hKb (nsK hns)).run callerA [] s₁ H ⟨[.ref a],[]⟩ [.ref a] [.ref a] _ _ hr e0 (hbind s₁ (.ref a)) (.cons rfl .nil) (hsp H hO hS)) λr s' h=>?_
  cases r with
  |error e=>exact (hCX H e s' h).elim
  |ok fl=>
   cases fl with
   |next=>exact False.elim h
   |brk=>exact False.elim h
   |cont=>exact False.elim h
   |ret u=>
    obtain⟨v,H',os,bare,un,hok',r',q⟩:=h
    have q':v = .bl true:=q;subst q';obtain rfl:u=Value.bool true:=r';refine⟨rfl,OldK.of_keep λb o e=>?_,os,bare⟩;cases q:H b with
    |none=>exact un.keep b o e q (by intro z;exact absurd (show b∈([]:List ar) from z) (by simp)) (by simp)
    |some u=>
     rcases hO b with z|⟨ob,xs,z⟩
     ·rw[q]at z;cases z
     ·have z2:=un.frzs b ob _ z
      obtain⟨e1,_⟩:=hok b _ z
      obtain⟨e2,_⟩:=hok' b _ z2
      rw[e]at e1;cases e1;exact e2
 cases hk:K.lookup a with
 |some o=>
  have e:=KX a o hk;rw[ha]at e;cases e;refine core (λ_=>none) (λ_=>.inl rfl) (.inr ⟨_,vs.toArray,_,hk,rfl,rfl,rfl,by rw[be5,lenV];exact hl,by simpa using rv⟩) (λb u z=>by have z':(none:Option HO)=some u:=z;cases z') (λb z=>absurd rfl z) λz=>absurd rfl z
 |none=>
  refine core (λb=>if b=a then some (.frz { cls:=.type "list",data:=.seq vs.toArray } (.lst (ns.map V.int))) else none) (λb=>?_) (.inl (.inr ⟨{ cls:=.type "list",data:=.seq vs.toArray },if_pos rfl⟩)) (λb u z=>?_) (λb z=>?_) λ_=>hk
  ·by_cases hb:b=a
   ·exact .inr ⟨_,_,if_pos hb⟩
   ·exact .inl (if_neg hb)
  ·by_cases hb:b=a
   ·have z':=(if_pos hb).symm.trans z
    cases z';subst hb
    exact⟨ha,by rw[be9];exact hl,vs,_,rv,ha⟩
   ·have z':=(if_neg hb).symm.trans z
    cases z'
  ·by_cases hb:b=a
   ·exact hb
   ·exact absurd (if_neg hb) z
theorem ak8 {l:PySem.W.OpenLaw}{n k:Nat}{q:av}{loose:List Str}{XP:(Str->Option ao)->Heap->Prop}{YP:ax->Heap->Prop}{d:DefRec}{K:Params->ac}{CX:ax->gB}{sp:ax->Sp}{x:Str}(hn:l.most=some n)(hn2:n<=sizeLine)(hdf:d.params.defaults = [])(hr:c8 k callerA)(hY:∀(w:ax) (h:Heap),YP w h->(K w.params).In h)(F:∀(w:ax) (mg:Str->Option ao) (fa:ar) (h:Heap),(K w.params).In h->h.Ns mainGlobals mg->mg d.name=some (.ref fa)->
   ∃fd:FuncData,(∀(s:aq) (u:ao),BindsTo s fd ⟨[u],[]⟩ [(x,u)])/\
    ∀base:Heap,(K w.params).In base->base.Ns mainGlobals mg->cX l.prog w (K w.params) mg base (CX w) k fa fd [x] (sp w))(hsp:∀(w:ax) (H:Hp) (a:ar) (ns:ae),ns.length<=n->oV H->aV (K w.params) H a (ns.map V.int)->sp w [.ref a] H (λv _=>v = .bl true) λ_ _ _=>False)(hCX:∀(w:ax) (H:Hp) (s:aq) (e:ao) (s':aq),CX w [] H s (λ_ _ _=>False) e s'->False) :
  PySem.W.WalkO q loose XP YP l.row.toRowW d [] (λf vs=>PySem.call f vs):=by
 refine Att.ak6 hn hdf λw s₀ s₁ mg mb fa o pm cd doc a vs ns G Y ho hd hcd hmg hobj hints ai hg=>?_
 have KX:=hY w _ Y
 obtain⟨fd,hb,hF⟩:=F w mg fa _ KX G.T.g hmg
 exact ak7 KX G.T.g G.T.b G.T.builtins G.T.nolimit hg hobj hints (bj5 ai hn2) hr hF hb (λH hO hS=>hsp w H a ns ai hO hS) λH e s'=>hCX w H s₁ e s'
noncomputable def i3 (s:Stmt):Arguments:=match s with
 |.FunctionDef _ a _ _ _ _ _ _ _ _=>a
 |_=>{ posonlyargs:=[],args:=[],vararg:=none,kwonlyargs:=[],kw_defaults:=[],kwarg:=none,defaults:=[] }
noncomputable def dW (s:Stmt):List Stmt:=match s with
 |.FunctionDef _ _ b _ _ _ _ _ _ _=>b
 |_=>[]
noncomputable def aU (s:Stmt):Scope:=match s with
 |.FunctionDef _ _ _ _ _ _ sc _ _ _=>sc
 |_=>{ kind:=.function,names:=[],isGenerator:=false,isCoroutine:=false }
noncomputable abbrev dX:gB:=λ_ _ _ _ _ _=>False
noncomputable abbrev E0:XK:=λ_ _ _=>False
theorem ak9 {X:Cx}:jX dX X E0:=λ_ _ _ _ _ _ _ h=>h.elim
structure eF (K:ac)(x qual:Str)(st:Stmt)(f:ar)(fd:FuncData):Prop where
 ex:∃(oc:ao) (od:Option ar) (kV doc pm:ao) (an:Option ar) (cdv ct:ao) (osl:Array (Option ao)),
  fd=PySem.W.fnOf x qual (i3 st) (dW st) (aU st) .none kV doc pm an cdv ct/\K.lookup f=some ⟨oc,od,.func fd,osl⟩/\PySem.W.codeIn K cdv qual=true
 kp:PySem.W.keepIn K (.ref f)=true
section
variable {P:av}{w:ax}{K:ac}{mg:Str→Option ao}{base:Heap}
theorem eF.ok {x qual:Str}{st:Stmt}{f:ar}{fd:FuncData}{N ps:List Str}{k:Nat}{sp:Sp}(F:eF K x qual st f fd)(S:FnScope N ps (aU st))(len:∀vs H Q E,sp vs H Q E->vs.length=ps.length)(hbody:∀(cdv:ao) (A:aw) (outer:List Env) (s:aq) (H:Hp) (vs:List V) (Q:VK) (E:XK),c8 k (A.deeper (envOfC qual (aU st) s.heap.objs.size f cdv))->sp vs H Q E->
   ∃t,dM (cL dX P w K mg base N qual (aU st) f cdv A outer s H E).nox (dW st) t/\t { nx:=λ_ H'=>Q .non H',rt:=Q } (gC N vs) H):cX P w K mg base dX (k+1) f fd ps sp:=by
 obtain⟨oc,od,kV,doc,pm,an,cdv,ct,osl,rfl,lk,hcd⟩:=F.ex
 refine y4 lk hcd S len λA outer s H vs Q E hr hsp=>?_
 obtain⟨t,h,q⟩:=hbody cdv A outer s H vs Q E hr hsp
 exact⟨t,h.nox,q⟩
theorem eF.binds {x qual:Str}{st:Stmt}{f:ar}{fd:FuncData}{ps:List Str}(F:eF K x qual st f fd)(h:∀(kV doc pm:ao) (an:Option ar) (cdv ct:ao) (us:List ao),us.length=ps.length->bindArgs (PySem.W.fnOf x qual (i3 st) (dW st) (aU st) .none kV doc pm an cdv ct) ⟨us,[]⟩=pure (ps.zip us)):hV K fd ps []:=by
 obtain⟨oc,od,kV,doc,pm,an,cdv,ct,osl,rfl,lk,hcd⟩:=F.ex
 exact .all (h kV doc pm an cdv ct)
theorem al0 {x qual:Str}{st:Stmt}{f:ar}{oc:ao}{od an:Option ar}{osl:Array (Option ao)}{kV doc pm cdv ct:ao}(l:K.lookup f=some ⟨oc,od,.func (PySem.W.fnOf x qual (i3 st) (dW st) (aU st) .none kV doc pm an cdv ct),osl⟩)(c:PySem.W.codeIn K cdv qual=true)(k:PySem.W.keepIn K (.ref f)=true):eF K x qual st f (PySem.W.fnOf x qual (i3 st) (dW st) (aU st) .none kV doc pm an cdv ct):=⟨⟨oc,od,kV,doc,pm,an,cdv,ct,osl,rfl,l,c⟩,k⟩
end
theorem gQ {A:aw}{k:Nat}(hr:c8 k A):A.units+1<cLine:=Nat.lt_of_le_of_lt (Nat.add_le_add_left (by decide:1<=64) _) hr.units
theorem nB {n:Nat}(h:n<=1000):n<sizeLine:=Nat.lt_of_le_of_lt h (by decide)
section
variable {X:Cx}
theorem pv (i:Nat){x:Str}{pos:Pos}(hN:X.N[i]? = some x:=by rfl)(hv:gA X.env.scope x:=by first|exact Or.inl rfl|exact Or.inr (Or.inl rfl)|exact Or.inr (Or.inr rfl))(hd:(x==("__debug__":Str))=false:=by decide)(hcd:(x==("__classdict__":Str))=false:=by decide):PE X (.Name x pos) (hJ i):=iH hN hv hd hcd
theorem al1:cV X (.builtin "len") (λxs H Q=>∃a kvs,xs = [V.ref a]/\H a=some (.dK kvs)/\Q (.int kvs.length) H):=by
 intro af s σ H xs us Q I r h
 obtain⟨a,kvs,rfl,ha,q⟩:=h
 obtain⟨u,rfl,ru⟩:=eW r
 cases ru;exact aj3 I (.inl ha) λt s' I'=>⟨.int kvs.length,H,I',⟨t,rfl⟩,q⟩
end
theorem aQ {A B:Prop}(h:B):if false=true then A else B:=by
 rw[if_neg bh4];exact h
theorem b4 {A B:Prop}(h:A):if true=true then A else B:=by
 rw[if_pos rfl];exact h
noncomputable def aI (H H':Hp):Prop:=∀b o,H b=some o->H' b=some o
theorem aI.refl (H:Hp):aI H H:=λ_ _ h=>h
theorem aI.trans {H H1 H2:Hp}(a:aI H H1)(b:aI H1 H2):aI H H2:=λc o h=>b c o (a c o h)
theorem aI.free {H H':Hp}(e:aI H H'){l:ar}(h:H' l=Option.none):H l=Option.none:=by
 cases q:H l with
 |none=>rfl
 |some o=>
  rw[e l o q]at h;cases h
theorem aI.seq {K:ac}{H H':Hp}{a:ar}{xs:List V}(e:aI H H')(h:aV K H a xs):aV K H' a xs:=by
 rcases h with (h|⟨o,h⟩)|h
 ·exact .inl (.inl (e _ _ h))
 ·exact .inl (.inr ⟨o,e _ _ h⟩)
 ·exact .inr h
noncomputable def dY (cells:List (Str×ar)):List (Str×NameKind)->List (Str×ar)->List (Str×ar)
 |[],cs=>cs
 |(n,k)::r,cs=>dY cells r (if k==.free then (n,(cells.lookup n).getD 0)::cs else cs)
theorem t9 {env:Env}:∀(ns:List (Str×NameKind)) (cs:List (Str×ar)),(∀x∈ns,x.2 = .free->∃c,env.cells.lookup x.1=some c)->
  (forIn ns cs (λ(x:Str×NameKind) r=>(match x with
   |(name,kind)=>if (kind==.free)=true then (do let y <- cellOf env name;pure (ForInStep.yield ((name,y)::r))) else pure (ForInStep.yield r)):_->_->Sem _))=(pure (dY env.cells ns cs):Sem (List (Str×ar)))
 |[],cs,_=>by rw[List.forIn_nil];rfl
 |(n,k)::r,cs,h=>by
  rw[List.forIn_cons];have hr:∀x∈r,x.2 = .free->∃c,env.cells.lookup x.1=some c:=λx hx=>h x (bj3 _ hx)
  cases hk:(k==NameKind.free) with
  |true=>
   have e:k = .free:=by simpa using hk
   obtain⟨c,hc⟩:=h (n,k) bj0 e
   simp only[hk,if_true];have e1:cellOf env n=pure c:=by unfold cellOf;rw[hc]
   rw[e1];show ((pure c >>= λy=>pure (ForInStep.yield ((n,y)::cs))) >>= _:Sem _)=_;rw[pure_bind,pure_bind]
   have:=t9 (env:=env) r ((n,c)::cs) hr
   refine this.trans ?_;unfold dY;simp only[hk,if_true,hc,Option.getD_some];cases r<;>rfl
  |false=>
   simp only[hk,bi7,bq0];rw[pure_bind]
   have:=t9 (env:=env) r cs hr
   refine this.trans ?_
   conv=>rhs;unfold dY
   simp only[hk,bi7,bq0]
theorem lJ {scope:Scope}{env:Env}(h:∀x∈scope.names,x.2 = .free->∃c,env.cells.lookup x.1=some c):closureFor scope env=pure (dY env.cells scope.names []):=by
 have e:=t9 (env:=env) scope.names [] h;unfold closureFor;rw[show (pure (dY env.cells scope.names []):Sem (List (Str×ar)))=(pure (dY env.cells scope.names []) >>= pure) by rw[pure_bind]];rw[<- e]
theorem nC {cells:List (Str×ar)}:∀(ns:List (Str×NameKind)) (cs:List (Str×ar)) {x:Str}{c:ar},(∀y∈ns,y.2 = .free->∃c,cells.lookup y.1=some c)->
  (∀x c,cs.lookup x=some c->cells.lookup x=some c)->(dY cells ns cs).lookup x=some c->cells.lookup x=some c
 |[],cs,x,c,_,hc,h=>hc x c h
 |(n,k)::r,cs,x,c,hn,hc,h=>by
  unfold dY at h;have hr:∀y∈r,y.2 = .free->∃c,cells.lookup y.1=some c:=λy hy=>hn y (bj3 _ hy)
  cases hk:(k==NameKind.free) with
  |false=>
   simp only[hk,bi7,bq0]at h;exact nC r cs hr hc h
  |true=>
   simp only[hk,if_true]at h;refine nC r _ hr (λy d e=>?_) h
   obtain⟨c0,h0⟩:=hn (n,k) bj0 (by simpa using hk)
   have h0:cells.lookup n=some c0:=h0;rw[h0]at e;rw[bk7]at e;by_cases hyn:y=n
   ·subst hyn
    simp only[bm4,Option.getD_some]at e;rw[h0];exact e
   ·have:(y==n)=false:=bn6.mpr hyn
    simp only[this]at e;exact hc y d e
theorem tD {cells:List (Str×ar)}:∀(ns:List (Str×NameKind)) (cs:List (Str×ar)) {x:Str},((x,NameKind.free)∈ns∨∃c,cs.lookup x=some c)->∃c,(dY cells ns cs).lookup x=some c
 |[],cs,x,h=>by
  rcases h with h|h
  ·simp at h
  ·exact h
 |(n,k)::r,cs,x,h=>by
  unfold dY;refine tD r _ ?_;rcases h with h|⟨c,h⟩
  ·rcases be8.mp h with e|e
   ·cases e
    exact .inr ⟨_,by simp[bk7];rfl⟩
   ·exact .inl e
  ·right
   cases hk:(k==NameKind.free) with
   |false=>exact⟨c,by simpa[hk] using h⟩
   |true=>
    simp only[if_true];rw[bk7];by_cases hxn:(x==n)=true
    ·simp only[hxn];exact⟨_,rfl⟩
    ·simp only[Bool.eq_false_iff.mpr hxn];exact⟨c,h⟩
theorem oW {env:Env}:∀{names:List (Str×NameKind)}{x:Str}{k:NameKind},(names.map λ(n,k)=>if (k==NameKind.free&&env.scope.kind==.function&&env.kindOf n==some .cell) then (n,NameKind.cell) else (n,k)).lookup x=some k->
  names.lookup x=some k∨(names.lookup x=some .free/\k = .cell)
 |[],_,_,h=>by simp at h
 |(n,q)::r,x,k,h=>by
  have ih:=@oW env r x k;rw[bn5]at h;by_cases hx:(x==n)=true
  ·have e:x=n:=by simpa using hx
   subst e;by_cases hc:(q==NameKind.free&&env.scope.kind==.function&&env.kindOf x==some .cell)=true
   ·simp only[hc,if_true,bk7,bm4]at h
    have hq:q = .free:=by simp at hc;exact hc.1.1
    exact .inr ⟨by simp[bk7,hq],(bh9 h).symm⟩
   ·simp only[hc,bi7,bq0,bk7,bm4]at h
    exact .inl (by simp[bk7];exact bh9 h)
  ·have hx':(x==n)=false:=Bool.eq_false_iff.mpr hx
   have h':(r.map λ(n,k)=>if (k==NameKind.free&&env.scope.kind==.function&&env.kindOf n==some .cell) then (n,NameKind.cell) else (n,k)).lookup x=some k:=by
    by_cases hc:(q==NameKind.free&&env.scope.kind==.function&&env.kindOf n==some .cell)=true
    ·simp only[hc,if_true,bk7,hx']at h;exact h
    ·simp only[hc,bi7,bq0,bk7,hx']at h;exact h
   simp only[bk7,hx'];exact ih h'
noncomputable def dO (fr:List (Option Nat))(σ:St):St:=fr.map λo=>o.bind λj=>(σ[j]?).join
noncomputable def Wk (σ₁ σ₂:St):Prop:=σ₁.length=σ₂.length/\∀(i:Nat) v,σ₁[i]? = some (some v)->σ₂[i]? = some (some v)
theorem Wk.refl (σ:St):Wk σ σ:=⟨rfl,λ_ _ h=>h⟩
theorem Wk.set {σ τ:St}{i:Nat}{v:V}(h:Wk σ τ)(hi:σ[i]? = some none):Wk σ (τ.set i (some v)):=by
 refine⟨by rw[bn0];exact h.1,λj w e=>?_⟩;by_cases hj:j=i
 ·subst hj;rw[hi]at e;cases e
 ·rw[bh8 (Ne.symm hj)];exact h.2 j w e
theorem iK:∀(ns:List (Str×NameKind)) (n:Nat) (cs:List (Str×ar)),cellsFrom n ns cs=cellsFrom n ns []++cs
 |[],_,_=>rfl
 |(x,k)::r,n,cs=>by
  unfold cellsFrom;split
  ·rw[iK r (n+1) ((x,n)::cs),iK r (n+1) [(x,n)]];simp
  ·exact iK r n cs
theorem tE:∀(ns:List (Str×NameKind)) (n:Nat) {x:Str}{c:ar},(x,c)∈cellsFrom n ns []->(x,NameKind.cell)∈ns
 |[],_,_,_,h=>by simp[cellsFrom]at h
 |(y,k)::r,n,x,c,h=>by
  unfold cellsFrom at h;split at h
  ·rename_i hk
   rw[iK]at h;rcases bs3.mp h with z|z
   ·exact bj3 _ (tE r _ z)
   ·rw[bh5]at z
    cases z
    have:k = .cell:=by simpa using hk
    rw[this];exact bj0
  ·exact bj3 _ (tE r _ h)
theorem oX:∀(ns:List (Str×NameKind)) (n:Nat) {x:Str},(x,NameKind.cell)∈ns->∃c,(x,c)∈cellsFrom n ns []
 |(y,k)::r,n,x,h=>by
  unfold cellsFrom;rcases be8.mp h with z|z
  ·cases z
   rw[if_pos (by rfl),iK]
   exact⟨n,bi5 _ (by simp)⟩
  ·split
   ·obtain⟨c,hc⟩:=oX r (n+1) z
    rw[iK]
    exact⟨c,List.mem_append_left _ hc⟩
   ·exact oX r n z
theorem tF {α:Type}:∀{l:List (Str×α)}{x:Str}{c:α},(x,c)∈l->∃d,l.lookup x=some d
 |(y,v)::r,x,c,h=>by
  rw[bk7];cases hb:x==y with
  |true=>exact⟨v,rfl⟩
  |false=>
   rcases be8.mp h with z|z
   ·cases z;simp at hb
   ·exact tF z
theorem oY {α:Type}{x:Str}:∀(l r:List (Str×α)),(l++r).lookup x=(match l.lookup x with|some v=>some v|none=>r.lookup x)
 |[],_=>rfl
 |(y,v)::l,r=>by
  rw[List.cons_append,bk7,bk7];cases hb:x==y with
  |true=>rfl
  |false=>exact oY l r
noncomputable def dZ (X:Cx)(scope:Scope)(C:ar):List (Str×ar):=cellsFrom (C+1) scope.names (dY X.env.cells scope.names [])
theorem jF {X:Cx}{scope:Scope}{C:ar}{x:Str}{c:ar}(h:(dZ X scope C).lookup x=some c) :
  (x,c)∈cellsFrom (C+1) scope.names []∨((∀d,(x,d)∉cellsFrom (C+1) scope.names [])/\(dY X.env.cells scope.names []).lookup x=some c):=by
 unfold dZ at h;rw[iK,oY]at h;cases e:(cellsFrom (C+1) scope.names []).lookup x with
 |some v=>rw[e]at h;cases h;exact .inl (bk3 e)
 |none=>
  rw[e]at h;refine .inr ⟨λd hd=>?_,h⟩
  obtain⟨d',z⟩:=tF hd
  rw[e]at z;cases z
theorem al2 {X:Cx}{scope:Scope}{C:ar}{x:Str}{c:ar}(hn:(x,NameKind.cell)∉scope.names)(h:(dY X.env.cells scope.names []).lookup x=some c):(dZ X scope C).lookup x=some c:=by
 unfold dZ;rw[iK,oY];cases e:(cellsFrom (C+1) scope.names []).lookup x with
 |some v=>exact absurd (tE _ _ (bk3 e)) hn
 |none=>exact h
theorem zF {X:Cx}{scope:Scope}{C:ar}{x:Str}(h:(x,NameKind.cell)∈scope.names∨∃c,(dY X.env.cells scope.names []).lookup x=some c):∃c,(dZ X scope C).lookup x=some c:=by
 unfold dZ;rw[iK,oY];cases e:(cellsFrom (C+1) scope.names []).lookup x with
 |some v=>exact⟨v,rfl⟩
 |none=>
  rcases h with h|h
  ·obtain⟨c,hc⟩:=oX scope.names (C+1) h
   obtain⟨d,hd⟩:=tF hc
   rw[e]at hd;cases hd
  ·exact h
noncomputable def bB (X:Cx)(scope:Scope)(N:List Str)(s:aq)(H:Hp)(C:ar)(fp:List ar)(E:ao->aq->Prop):Cx:=
 { X with N:=N,s₀:=s,H₀:=H,env:=compEnvC scope (dZ X scope C) C X.env,outer:=X.stack,ex:=fp,fn:=λx=>scope.names.lookup x==some .cell,pn:=[],xe:=E }
structure cE (X:Cx)(scope:Scope)(N:List Str)(fr:List (Option Nat)):Prop where
 kind:scope.kind = .function
 own:∀y∈scope.names,y.2 = .cell->scope.names.lookup y.1=some .cell
 names:∀y∈scope.names,y.2 = .local->scope.names.lookup y.1=some .local
 free:∀y∈scope.names,y.2 = .free->X.env.scope.names.lookup y.1=some .cell∨X.env.scope.names.lookup y.1=some .free
 len:fr.length=N.length
 from_:∀(i j:Nat),fr[i]? = some (some j)->∃x,N[i]? = some x/\X.N[j]? = some x/\scope.names.lookup x=some .free
section
variable {X:Cx}{af:List (ar×Obj)}{σ:St}{H:Hp}{s:aq}{scope:Scope}{N:List Str}{fr:List (Option Nat)}
theorem cE.cells (S:cE X scope N fr)(I:aE X af σ H s):∀y∈scope.names,y.2 = .free->∃c,X.env.cells.lookup y.1=some c:=λy hy hk=>I.ok.has y.1 (S.free y hy hk)
theorem zG {C D:ar}{fp:List ar}{E:ao->aq->Prop}{h1:Heap}{tk:Nat}{m:Str->Option ao}(S:cE X scope N fr)(I:aE X af σ H s)(hf:∀b∈fp,eM X af H b)(hfl:∀b∈fp,b<s.heap.objs.size)(hD:s.heap.objs.size<=D)(hC:s.heap.objs.size<=C)(hDC:D<C)(old:∀b o,s.heap.get? b=some o->h1.get? b=some o)(hns:h1.Ns C m)(hacc:h1.get? D=some { cls:=.type "list",data:=.seq #[] 0 })(hco:CellsOk h1 (C+1) (cellsFrom (C+1) scope.names [])) :
  aE (bB X scope N s H C fp E) [] (dO fr σ) (upd H D (.lst [])) { s with heap:=h1,toks:=tk }:=by
 have hHD:H D=none:=I.hok.fresh hD;have cl:=S.cells I;have cs:∀{x:Str}{c:ar},(dY X.env.cells scope.names []).lookup x=some c->X.env.cells.lookup x=some c:=λ{x c} h=>nC scope.names [] cl (λ_ _ z=>by simp at z) h
 have clt:∀{x:Str}{c:ar},X.env.cells.lookup x=some c->c<s.heap.objs.size:=λ{x c} h=>by obtain⟨v,z⟩:=I.cell x c h;exact z.lt
 have nge:∀{x:Str}{c:ar},(x,c)∈cellsFrom (C+1) scope.names []->C<c:=λ{x c} h=>(hco.empty x c h).2
 refine⟨⟨I.ok.mod,?_,I.ok.glob,I.ok.blt,hC,?_,?_,?_,I.ok.hd,I.ok.frames,.inl rfl,?_,I.bs,bj5 I.ok.bsz I.sz,?_,?_,I.stack,I.stkFree⟩,rfl,I.bare,Un.laid old hD hHD,⟨m,hns,?_⟩,?_,?_,?_,λp hp=>absurd (show p∈([]:List (ar×Obj)) from hp) (by simp),?_,?_⟩
 ·exact S.kind
 ·intro x y c h1 h2
  rcases jF h1 with a|⟨_,a⟩<;>rcases jF h2 with b|⟨_,b⟩
  ·exact name_of_addr hco.apart a b
  ·exact absurd (bf2 (Nat.lt_trans (nge a) (clt (cs b))) hC) (bj9 _)
  ·exact absurd (bf2 (Nat.lt_trans (nge b) (clt (cs a))) hC) (bj9 _)
  ·exact I.ok.inj x y c (cs a) (cs b)
 ·intro x hx
  have hx:(relabel scope X.env).names.lookup x=some .cell∨(relabel scope X.env).names.lookup x=some .free:=hx;have fin:(x,NameKind.free)∈scope.names->∃c,(dZ X scope C).lookup x=some c:=λz=>zF (.inr (tD scope.names [] (.inl z)))
  rcases hx with hx|hx
  ·rcases oW hx with z|z
   ·exact zF (.inl (bk3 z))
   ·exact fin (bk3 z.1)
  ·rcases oW hx with z|z
   ·exact fin (bk3 z)
   ·exact absurd z.2 (by decide)
 ·intro x c hx h
  have hx:(scope.names.lookup x==some NameKind.cell)=true:=hx;have hx:scope.names.lookup x=some .cell:=by simpa using hx
  rcases jF h with a|⟨a,_⟩
  ·exact bj5 hC (bm6 (nge a))
  ·obtain⟨d,hd⟩:=oX scope.names (C+1) (bk3 hx)
   exact absurd hd (a d)
 ·intro b hb
  refine⟨bh6 (bf2 (hfl b hb) hC),λx c e=>?_⟩;rcases jF e with a|⟨_,a⟩
  ·exact bl4 (Nat.lt_trans (bf2 (hfl b hb) hC) (nge a))
  ·exact (hf b hb).2.2.2.2.1 x c (cs a)
 ·intro b o e hb
  rcases (hf b hb).2.2.2.1 with z|z
  ·exact I.ok.noex b o e z
  ·exact absurd (bf2 (bf4 e) (bj5 I.ok.bsz z)) (bj9 _)
 ·intro b hb z
  rcases be8.mp (I.stkSub b z) with e|e
  ·exact (hf b hb).2.1 e
  ·exact (hf b hb).2.2.1 e
 ·intro i x v e1 e2 e3
  have e2:(fr.map λo=>o.bind λj=>(σ[j]?).join)[i]? = some (some v):=e2;rw[bg9]at e2;cases ef:fr[i]? with
  |none=>rw[ef]at e2;cases e2
  |some o=>
   rw[ef]at e2;cases o with
   |none=>cases e2
   |some j=>
    have e2:some ((σ[j]?).join)=some (some v):=e2;have ej:σ[j]? = some (some v):=by
     cases q:σ[j]? with
     |none=>rw[q]at e2;cases e2
     |some w=>rw[q]at e2;cases w with
      |none=>cases e2
      |some w=>cases e2;rfl
    obtain⟨y,a1,a2,a4⟩:=S.from_ i j ef
    have e1:N[i]? = some x:=e1;rw[e1]at a1;cases a1;have a3:(x,NameKind.free)∈scope.names:=bk3 a4;have vis:gA X.env.scope x:=(S.free _ a3 rfl).elim (λz=>.inr (.inl z)) λz=>.inr (.inr z)
    obtain⟨m0,hn0,hl0⟩:=I.loc
    obtain⟨u,r,l⟩:=hl0 j x v a2 ej vis
    refine⟨u,r,.inr ⟨?_,?_⟩⟩
    ·have e3:(relabel scope X.env).names.lookup x=some .local∨(relabel scope X.env).names.lookup x=some .cell∨(relabel scope X.env).names.lookup x=some .free:=e3
     rcases e3 with z|z|z
     ·rcases oW z with y|y
      ·rw[a4]at y;cases y
      ·exact absurd y.2 (by decide)
     ·exact .inl z
     ·exact .inr z
    ·obtain⟨c,hc⟩:=tD (cells:=X.env.cells) scope.names [] (x:=x) (.inl a3)
     refine⟨c,al2 (λz=>by have:=S.own _ z rfl;rw[a4]at this;cases this) hc,?_⟩;have hc':=cs hc;have S1:=S.free (x,.free) a3 rfl;rcases l with⟨k,_⟩|⟨_,c2,hc2,z⟩
     ·have k:X.env.scope.names.lookup x=some .local:=k
      rcases S1 with q|q<;>(have q:X.env.scope.names.lookup x=_:=q;rw[k]at q;cases q)
     ·rw[hc']at hc2;cases hc2
      obtain⟨oc,ho,hd⟩:=z
      exact⟨oc,old c oc ho,hd⟩
 ·intro x c e
  rcases jF e with a|⟨_,a⟩
  ·exact⟨_,(hco.empty x c a).1⟩
  ·obtain⟨v,oc,ho,hd⟩:=I.cell x c (cs a)
   exact⟨v,oc,old c oc ho,hd⟩
 ·show upd H D (.lst []) C=none
  rw[b6 (bl4 hDC)];exact I.hok.fresh hC
 ·intro x c e
  show upd H D (.lst []) c=none;rcases jF e with a|⟨_,a⟩
  ·rw[b6 (bl4 (Nat.lt_trans hDC (nge a)))];exact I.hok.fresh (bj5 hC (bm6 (nge a)))
  ·have q:=cs a
   rw[b6 (bh6 (bf2 (clt q) hD))];exact I.freeC x c q
 ·exact I.hok.laid old hD ⟨bo1 _,[],0,.nil,hacc⟩
 ·show (dO fr σ).length=N.length
  unfold dO;rw[be9];exact S.len
end
noncomputable def i4 (X:Cx)(ifs:List Expr)(t:TT):Prop:=
 ∀(af:List (ar×Obj)) (s:aq) (σ:St) (H:Hp) (Q:Bool->Hp->Prop),aE X af σ H s->t σ H Q->
  wpAny (model X.prog X.w) X.A (forIn ifs true λc r=>if r=true then do let ok <- isTrue c X.env (eval c X.env);pure (ForInStep.yield ok) else pure (ForInStep.yield r)) (TP X af σ Q) X.xe s
noncomputable def tG:TT:=λ_ H Q=>Q true H
theorem oZ {X:Cx}:i4 X [] tG:=λ_ _ _ H _ I h=>wpAny_tests_nil ⟨H,I,h⟩
theorem zH {X:Cx}{c:Expr}{t:TT}(h:PT X c t):i4 X [c] t:=λaf s σ H Q I hq=>wpAny_tests_one (h af s σ H Q I hq)
section
variable {prog:av}{w:ax}{A:aw}
noncomputable def p4 (prog:av)(w:ax)(A:aw)(elt tg:Expr)(ifs:List Expr)(it acc:ao)(env:Env)(lost:ao->aq->Prop)(stop next:aq->Prop)(s:aq):Prop:=
 let M:=model prog w
 let tests:Sem Bool:=forIn ifs true λc r=>if r=true then do let ok <- isTrue c env (eval c env);pure (ForInStep.yield ok) else pure (ForInStep.yield r)
 let put:aq->Prop:=wpAny M A (eval elt env) (λx=>wpAny M A (call (.builtin "list.append") [acc,x]) (λ_=>next) lost) lost
 let taken:ao->aq->Prop:=λv=>wpAny M A (letOwnedTupleGo tg it v) (λ_=>wpAny M A (assign tg env v) (λ_=>wpAny M A tests (λok s'=>if ok=true then put s' else next s') lost) lost) lost
 wpAny M A (pyNext it) (λr s'=>match r with
  |none=>stop s'
  |some v=>taken v s') lost s
theorem zI {R:Result->aq->Prop}{s:aq}{elt tg iter:Expr}{ifs:List Expr}{scope:Scope}{pos:Pos}{it acc:ao}{env:Env}(I:Nat->aq->Prop)(turn:∀n s,I n s->p4 prog w A elt tg ifs it acc env (notedBy (model prog w) A env λe=>R (.error e)) (R (.ok .next)) (λs'=>∃m,m<n/\I m s') s)(n:Nat)(h:I n s) :
  codeAny (model prog w) A (.compLoop (.ListComp elt [⟨tg,iter,ifs,0⟩] scope pos) 0 it acc env) R s:=by
 apply codeAny_loop rfl I _ n h;intro k s1 h1
 change wpAny _ A ((compTurn _ 0 it acc env).onRaise (λx=>do noteFrame x env;theTreesLotGoes x)) _ _ s1
 apply wpAny_noted;rw[compTurn_list];have t:=turn k s1 h1;unfold p4 at t;apply be2;apply wpAny_standAt;apply be2;refine bk2 t (λr s2 h2=>?_) λ_ _ z=>z
 cases r with
 |none=>exact be6 h2
 |some v=>
  apply be2;refine bk2 h2 (λ_ s3 h3=>?_) λ_ _ z=>z
  apply be2;refine bk2 h3 (λ_ s4 h4=>?_) λ_ _ z=>z
  apply be2;refine bk2 h4 (λok s5 h5=>?_) λ_ _ z=>z
  cases ok with
  |false=>exact be6 ⟨rfl,h5⟩
  |true=>
   apply be2;apply be2;refine bk2 h5 (λx s6 h6=>?_) λ_ _ z=>z
   apply be2;exact bk2 h6 (λ_ s7 h7=>be6 (be6 ⟨rfl,h7⟩)) λ_ _ z=>z
end
noncomputable def k7 (g:TG)(tc:TT)(te:TE)(σ0:St)(J:It)(D:ar)(Q:VK)(W:Nat->Nat->List V->Hp->Prop):Prop:=
 ∀i m acc H',W i m acc H'->H' D=some (.lst acc)/\((J.stop i H'/\Q (.ref D) H')∨(J.go i H'/\∀x H2,J.yld i H' x H2->g x σ0 H2 λσ2 H3=>Wk σ0 σ2/\tc σ2 H3 λb H4=>
  if b=true then te σ2 H4 λv H5=>H5 D=some (.lst acc)/\acc.length<sizeLine/\∃m',m'<m/\W (i+1) m' (acc++[v]) (upd H5 D (.lst (acc++[v]))) else ∃m',m'<m/\W (i+1) m' acc H4))
noncomputable def zJ (wi:TI)(fr:List (Option Nat))(g:TG)(tc:TT)(te:TE):TE:=λσ H Q=>wi σ H λJ H1=>∀D,H1 D=none->
 ∃W:Nat->Nat->List V->Hp->Prop,(∃m,W 0 m [] (upd H1 D (.lst [])))/\k7 g tc te (dO fr σ) J D Q W
section
variable {M:Model}{A:aw}{E:ao→aq→Prop}{s:aq}
theorem zK {scope:Scope}{globals:ar}{cl:List (Str×ar)}{qual:Str}{func:Option ar}{code:ao}{builtins:ar}{outer:Env}{Q:Env->aq->Prop}(hQ:∀h',h'.Ns s.heap.objs.size (λ_=>none)->(∀b o,s.heap.get? b=some o->h'.get? b=some o)->CellsOk h' (s.heap.objs.size+1) (cellsFrom (s.heap.objs.size+1) scope.names [])->
   Q (newEnv scope s.heap.objs.size globals (cellsFrom (s.heap.objs.size+1) scope.names cl) qual func code (some outer) builtins) { s with heap:=h' }) :
  wpAny M A (newFunctionEnv scope globals cl [] qual func code (some outer) builtins) Q E s:=by
 simp only[newFunctionEnv,Option.isSome_some,if_true];refine be2 (wpAny_alloc ?_);refine be2 (wpAny_layCells _ (λname kind cells=>by cases hkc:kind==NameKind.cell<;>simp[hkc]) _ _ _ _ ?_);have ok:=cellsFrom_ok scope.names (s.heap.push { cls:=.type "dict",data:=.dict #[] }) (s.heap.objs.size+1) [] ⟨λ_ _ hm=>(nomatch hm),List.Pairwise.nil⟩ (by rw[bp3];exact be7 _);rw[bp3]at ok;rw[show ({ s with heap:=s.heap.push { cls:=.type "dict",data:=.dict #[] } }:aq).heap.objs.size=s.heap.objs.size+1 from bp3 ..];rw[List.forIn_nil];refine be2 (be6 (be6 (hQ _ ((Heap.Ns.new s.heap (.type "dict")).keeps (pushCells_keeps _ _)) (λb o e=>pushCells_keeps _ _ b o (be4 _ e)) ok)))
end
section
variable {X:Cx}{af:List (ar×Obj)}{σ:St}{H:Hp}{s:aq}{scope:Scope}{N:List Str}{fr:List (Option Nat)}{tg iter elt:Expr}{ifs:List Expr}{pos:Pos}{wi:TI}{g:TG}{tc:TT}{te:TE}
structure lK (X:Cx)(scope:Scope)(N:List Str)(tg:Expr)(ifs:List Expr)(elt:Expr)(s:aq)(H:Hp)(g:TG)(tc:TT)(te:TE):Prop where
 tg:∀(C:ar) (fp:List ar),PG (bB X scope N s H C fp λ_ _=>False) tg g
 ifs:∀(C:ar) (fp:List ar),i4 (bB X scope N s H C fp λ_ _=>False) ifs tc
 elt:∀(C:ar) (fp:List ar),PE (bB X scope N s H C fp λ_ _=>False) elt te
structure nD (X:Cx)(scope:Scope)(N:List Str)(tg:Expr)(ifs:List Expr)(elt:Expr)(g:TG)(tc:TT)(te:TE):Prop where
 tg:∀(s:aq) (H:Hp) (C:ar) (fp:List ar),PG (bB X scope N s H C fp λ_ _=>False) tg g
 ifs:∀(s:aq) (H:Hp) (C:ar) (fp:List ar),i4 (bB X scope N s H C fp λ_ _=>False) ifs tc
 elt:∀(s:aq) (H:Hp) (C:ar) (fp:List ar),PE (bB X scope N s H C fp λ_ _=>False) elt te
theorem nD.at (B:nD X scope N tg ifs elt g tc te)(s:aq)(H:Hp):lK X scope N tg ifs elt s H g tc te:=⟨B.tg s H,B.ifs s H,B.elt s H⟩
theorem tH {C:ar}{fp:List ar}{E:ao->aq->Prop}{pins':List (ar×Obj)}{σ':St}{H':Hp}{s':aq}(I:aE X af σ H s)(hf:∀b∈fp,eM X af H b)(I':aE (bB X scope N s H C fp E) pins' σ' H' s'):aE X af σ H' s':=
 I.call' (ch:=fp) I'.os I'.base I'.hok I'.bare λb hb=>⟨(hf b hb).2.2.2.1,(hf b hb).2.1,(hf b hb).2.2.2.2.1,(hf b hb).2.2.2.2.2⟩
theorem p5 {Rr:ao->ar->Result->aq->Prop}{J:It}{fp:List ar}{it:ar}{tn:Nat->Heap->Prop}{Q:VK}(hc:X.calm=true)(S:cE X scope N fr)(B:lK X scope N tg ifs elt s H g tc te)(I:aE X af σ H s)(T:fN X.prog X.w X.K tg J fp it tn)(hst:tn 0 s.heap)(hf:∀b∈fp,eM X af H b)(h:∀D,H D=none->∃W:Nat->Nat->List V->Hp->Prop,(∃m,W 0 m [] (upd H D (.lst [])))/\k7 g tc te (dO fr σ) J D Q W)(hend:∀(D C:ar) (s':aq) (H':Hp) (m:Str->Option ao),s.heap.objs.size<=C->s.heap.objs.size<=D->aE X af σ H' s'->s'.heap.Ns C m->H' C=none->Q (.ref D) H'->Rr (.ref D) C (.ok .next) s') :
  wpAny (model X.prog X.w) X.A (newList []) (λacc s₃=>wpAny (model X.prog X.w) X.A (newFunctionEnv scope X.env.globals (dY X.env.cells scope.names []) [] X.env.qual none .none (some X.env)) (λcenv s₄=>
   codeAny (model X.prog X.w) X.A (.compStart (.ListComp elt [⟨tg,iter,ifs,0⟩] scope pos) 0 (.ref it) acc { cenv with scope:=relabel scope X.env }) (Rr acc cenv.locals) s₄) X.xe s₃) X.xe s:=by
 refine bi8 (zK (λh₁ hns₁ keep₁ hco₁=>?_));dsimp only at hns₁ keep₁ hco₁ ⊢;generalize hH2:s.heap.push { cls:=.type "list",dict:=none,data:=.seq ([]:List ao).toArray }=H2 at hns₁ keep₁ hco₁ ⊢;have hC:H2.objs.size=s.heap.objs.size+1:=by rw[<- hH2,bp3]
 have hDC:s.heap.objs.size<H2.objs.size:=by rw[hC];exact Nat.lt_succ_self _
 have hCle:s.heap.objs.size<=H2.objs.size:=by rw[hC];exact Nat.le_succ _
 have old:∀b o,s.heap.get? b=some o->h₁.get? b=some o:=λb o e=>keep₁ b o (hH2▸be4 _ e)
 have hacc:h₁.get? s.heap.objs.size=some { cls:=.type "list",data:=.seq #[] 0 }:=keep₁ _ _ (hH2▸bf0 _ rfl);have hfl:∀b∈fp,b<s.heap.objs.size:=λb hb=>by obtain⟨o,e,_⟩:=T.obj _ _ hst b hb;exact bf4 e
 obtain⟨W,⟨m0,w0⟩,turn⟩:=h s.heap.objs.size (I.hok.fresh (be7 _))
 have st1:tn 0 h₁:=T.keep _ _ _ hst λb _ o e=>old b o e
 have fr0:∀b∈fp,upd H s.heap.objs.size (.lst []) b=none:=λb hb=>by rw[b6 (bh6 (hfl b hb))];exact (hf b hb).1
 have stat:∀{H':Hp},(∀b∈fp,H' b=none)->∀b∈fp,eM (bB X scope N s H H2.objs.size fp λ_ _=>False) [] H' b:=λ{H'} hn b hb=>by
  have f:=hf b hb;refine⟨hn b hb,bh6 (bf2 (hfl b hb) hCle),λz=>?_,.inl hb,λx c e=>(jF e).elim (λz=>bl4 (Nat.lt_trans (bf2 (hfl b hb) hCle) (hco₁.empty x c z).2)) λz=>f.2.2.2.2.1 x c (nC scope.names [] (S.cells I) (λ_ _ z=>by simp at z) z.2),λp hp=>absurd (show p∈([]:List (ar×Obj)) from hp) (by simp)⟩;rcases be8.mp (I.stkSub b z) with e|e
  ·exact f.2.1 e
  ·exact f.2.2.1 e
 generalize hX:bB X scope N s H H2.objs.size fp (λ_ _=>False)=Y at stat;have I0:aE Y [] (dO fr σ) (upd H s.heap.objs.size (.lst [])) { s with heap:=h₁ }:=hX▸zG S I hf hfl (be7 _) hCle hDC old hns₁ hacc hco₁;have bt:PG Y tg g:=hX▸B.tg H2.objs.size fp;have bi:i4 Y ifs tc:=hX▸B.ifs H2.objs.size fp;have be:PE Y elt te:=hX▸B.elt H2.objs.size fp;have eP:Y.prog=X.prog:=by rw[<- hX];rfl
 have ew:Y.w=X.w:=by rw[<- hX];rfl
 have eK:Y.K=X.K:=by rw[<- hX];rfl
 have eA:Y.A=X.A:=by rw[<- hX];rfl
 have eE:Y.env=compEnvC scope (dZ X scope H2.objs.size) H2.objs.size X.env:=by rw[<- hX];rfl
 have eX:Y.xe=λ_ _=>False:=by rw[<- hX];rfl
 have ec:Y.calm=true:=by rw[<- hX];exact hc
 have never:∀{E:ao->aq->Prop} (e:ao) (s':aq),Y.xe e s'->E e s':=λ{E} e s' z=>by rw[eX]at z;exact z.elim
 have out:∀{pins' σ' H' s'},aE Y pins' σ' H' s'->aE X af σ H' s':=λ{_ _ _ _} I'=>tH (C:=H2.objs.size) (E:=λ_ _=>False) (scope:=scope) (N:=N) I hf (hX▸I')
 have loop:codeAny (model X.prog X.w) X.A (.compLoop (.ListComp elt [⟨tg,iter,ifs,0⟩] scope pos) 0 (.ref it) (.ref s.heap.objs.size) (compEnvC scope (dZ X scope H2.objs.size) H2.objs.size X.env))
   (Rr (.ref s.heap.objs.size) H2.objs.size) { s with heap:=h₁ }:=by
  refine zI (λn s'=>∃i acc H',aE Y [] (dO fr σ) H' s'/\tn i s'.heap/\(∀b∈fp,H' b=none)/\W i n acc H') ?_ m0 ⟨0,[],_,I0,st1,fr0,w0⟩;rintro n s3 ⟨i,acc,H3,I3,st3,fr3,w3⟩;unfold p4;dsimp only
  obtain⟨hD3,step⟩:=turn i n acc H3 w3
  rcases step with⟨stop,qn⟩|⟨go,step⟩
  ·have z:=T.done Y eP ew eK ec i [] s3 _ H3 (notedBy (model X.prog X.w) X.A (compEnvC scope (dZ X scope H2.objs.size) H2.objs.size X.env) λe s'=>Rr (.ref s.heap.objs.size) H2.objs.size (.error e) s') I3 (stat fr3) st3 stop
   rw[eA]at z;refine aT z λr s4 ⟨hr,I4⟩=>?_
   subst hr
   obtain⟨m4,hn4,_⟩:=I4.loc
   rw[eE]at hn4;have f4:=I4.free;rw[eE]at f4;exact hend _ _ s4 H3 m4 hCle (be7 _) (out I4) hn4 f4 qn
  ·have z:=T.item Y eP ew eK ec i [] s3 _ H3 (notedBy (model X.prog X.w) X.A (compEnvC scope (dZ X scope H2.objs.size) H2.objs.size X.env) λe s'=>Rr (.ref s.heap.objs.size) H2.objs.size (.error e) s') I3 (stat fr3) st3 go
   rw[eA]at z;refine aT z λr s4 ⟨u,hr,h4⟩=>?_
   subst hr;refine aT h4 λ_ s5 ⟨x,H5,I5,r5,y5,st5,fr5⟩=>?_
   have I5':=I5.pinned (stat fr5) (T.obj _ _ st5);have q1:=bt _ s5 _ H5 x u _ I5' r5 (step x H5 y5);rw[eP,ew,eA,eE]at q1;refine bk2 q1 (λ_ s6 ⟨σ6,H6,I6,wk,q6⟩=>?_) never;have q2:=bi _ s6 σ6 H6 _ I6 q6;rw[eP,ew,eA,eE]at q2;refine bk2 q2 (λb s7 ⟨H7,I7,q7⟩=>?_) never;have again:∀{H8:Hp}{s8:aq}{acc':List V},aE Y ([]++lE fp s5.heap) σ6 H8 s8->(∃m',m'<n/\W (i+1) m' acc' H8)->∃m,m<n/\∃i acc H',aE Y [] (dO fr σ) H' s8/\tn i s8.heap/\(∀b∈fp,H' b=none)/\W i m acc H':=λ{H8 s8 acc'} I8 n8=>by
    obtain⟨m',hm,w8⟩:=n8
    refine⟨m',hm,i+1,acc',H8,(I8.unpinned).weak wk.1 wk.2,T.keep _ _ _ st5 λb hb o e=>(I8.pin (b,o) (bi5 _ (bi5 _ (lF hb e)))).1,λb hb=>?_,w8⟩
    obtain⟨o,e,d⟩:=T.obj _ _ st5 b hb
    exact (I8.pin (b,o) (bi5 _ (bi5 _ (lF hb e)))).2.1
   cases b with
   |false=>
    rw[if_neg bh4]at q7 ⊢;exact again I7 q7
   |true=>
    rw[if_pos rfl]at q7 ⊢;have q3:=be _ s7 σ6 H7 _ I7 q7;rw[eP,ew,eA,eE]at q3;refine bk2 q3 (λv s8 ⟨y,H8,I8,r8,hD8,hz8,q8⟩=>?_) never;have q4:=mY _ s8 σ6 H8 (.ref s.heap.objs.size) [y] (.ref s.heap.objs.size) [v] (λ_ H9=>∃m',m'<n/\W (i+1) m' (acc++[y]) H9) I8 rfl (.cons r8 .nil) ⟨_,_,_,rfl,rfl,hD8,hz8,q8⟩;rw[eP,ew,eA]at q4;exact bk2 q4 (λ_ s9 ⟨_,H9,I9,_,q9⟩=>again I9 q9) never
 exact codeAny_compStart_list loop (T.self _ 0 _ _ _ st1 loop)
end
section
variable {X:Cx}{scope:Scope}{N:List Str}{fr:List (Option Nat)}{tg iter elt:Expr}{ifs:List Expr}{pos:Pos}{wi:TI}{g:TG}{tc:TT}{te:TE}
theorem aE.drop {af:List (ar×Obj)}{σ:St}{H H':Hp}{s s':aq}{C:ar}{h':Heap}(I0:aE X af σ H s)(hC:s.heap.objs.size<=C){σ':St}(I:aE X af σ' H' s')(hn:H' C=none)(sb:Heap.SameBut C s'.heap h'):aE X af σ' H' { s' with heap:=h' }:=by
 refine I.turned (t':=s'.toks) (it:=C) (λb o hb e=>(sb.2 b hb).trans e) hn (bl4 (bf2 I0.lt hC)) (.inr (bj5 I0.sz hC)) (λx c e z=>?_) λp hp z=>?_
 ·obtain⟨v,q⟩:=I0.cell x c e
  exact absurd (bf2 q.lt (by rw[z];exact hC)) (bj9 _)
 ·exact absurd (bf2 (bf4 (I0.pin p hp).1) (by rw[z];exact hC)) (bj9 _)
theorem zL (hc:X.calm=true)(S:cE X scope N fr)(hi:PI X tg iter wi)(B:nD X scope N tg ifs elt g tc te)(hs:∀x,foldedSetIterable iter X.env x=pure x:=by intro _;rfl):PE X (.ListComp elt [⟨tg,iter,ifs,0⟩] scope pos) (zJ wi fr g tc te):=by
 intro af s σ H Q I h;rw[eval_ListComp];refine bp4 (use:=none) rfl hs (lJ (S.cells I)) S.kind S.names (aT (hi af s σ H _ I h) λv s1 h1=>aT h1 λitv s2 h2=>?_)
 obtain⟨it,fp,tn,J,H2,e,I2,T,st2,f2,hW⟩:=h2
 subst e;refine p5 (Rr:=λacc C=>compPost (model X.prog X.w) X.A X.xe none (EP X af σ Q) acc C) hc S (B.at _ _) I2 T st2 f2 hW ?_;intro D C s' H' m hC hD I' hns hHC q
 exact⟨m,hns,λh' sb=>⟨.ref D,H',I2.drop hC I' hHC sb,rfl,q⟩⟩
theorem al3 {i:Nat}{x:Str}{px spos:Pos}(hc:X.calm=true)(S:cE X scope N fr)(hi:PI X tg iter wi)(B:nD X scope N tg ifs elt g tc te)(hN:X.N.Nodup)(hix:X.N[i]? = some x)(hx:X.env.scope.names.lookup x=some .local)(hsw:swapsWith (.ListComp elt [⟨tg,iter,ifs,0⟩] scope pos) (some (.Name x px)) spos.line X.env=pure true)(hs:∀x,foldedSetIterable iter X.env x=pure x:=by intro _;rfl) :
  PS X (.Assign [.Name x px] (.ListComp elt [⟨tg,iter,ifs,0⟩] scope pos) spos) (jU (zJ wi fr g tc te) (cO i)):=by
 intro af s σ H D I h;rw[exec_Assign_Name_used _ _ _ _ hsw];refine be2 (wpAny_standAt (be2 ?_));show wpAny _ _ (do let _ <- comprehension (.ListComp elt [⟨tg,iter,ifs,0⟩] scope pos) scope X.env _ (newList []) false (eval iter X.env) (some (assign (.Name x px) X.env))) _ _ s
 refine be2 (bk2 (bp4 (Q:=λ_ s'=>SP X af D .next s') (use:=some (assign (.Name x px) X.env)) rfl hs (lJ (S.cells I)) S.kind S.names (aT (hi af s σ H _ I h) λv s1 h1=>aT h1 λitv s2 h2=>?_))
  (λ_ s' hq=>be6 (be6 hq)) λ_ _ e=>e)
 obtain⟨it,fp,tn,J,H2,e,I2,T,st2,f2,hW⟩:=h2
 subst e;refine p5 (Rr:=λacc C=>compPost (model X.prog X.w) X.A X.xe (some (assign (.Name x px) X.env)) (λ_ s'=>SP X af D .next s') acc C) hc S (B.at _ _) I2 T st2 f2 hW ?_;intro D' C s' H' m hC hD I' hns hHC q;refine wpAny_assign_Name (oG I' hN hix (.inl hx) (v:=.ref D') rfl (λs'' I'' sb=>?_) (.inr hx))
 obtain⟨a,sb,ha⟩:=sb
 have hCa:C≠a:=by
  rcases ha with z|z
  ·rw[z];exact bl4 (bf2 I2.lt hC)
  ·intro e;subst e
   obtain⟨v,q⟩:=I2.cell x _ z
   exact absurd (bf2 q.lt hC) (bj9 _)
 exact⟨m,hns.sameBut sb hCa,λh' sb'=>⟨_,H',I2.drop hC I'' hHC sb',q⟩⟩
variable {gh:Hp→TG}{tch:Hp→TT}{teh:Hp→TE}
noncomputable def tI (wi:TI)(fr:List (Option Nat))(gh:Hp->TG)(tch:Hp->TT)(teh:Hp->TE):TE:=λσ H Q=>wi σ H λJ H1=>∀D,H1 D=none->
 ∃W:Nat->Nat->List V->Hp->Prop,(∃m,W 0 m [] (upd H1 D (.lst [])))/\k7 (gh H1) (tch H1) (teh H1) (dO fr σ) J D Q W
theorem tJ (hc:X.calm=true)(S:cE X scope N fr)(hi:PI X tg iter wi)(B:∀(s:aq) (H:Hp),lK X scope N tg ifs elt s H (gh H) (tch H) (teh H))(hs:∀x,foldedSetIterable iter X.env x=pure x:=by intro _;rfl):PE X (.ListComp elt [⟨tg,iter,ifs,0⟩] scope pos) (tI wi fr gh tch teh):=by
 intro af s σ H Q I h;rw[eval_ListComp];refine bp4 (use:=none) rfl hs (lJ (S.cells I)) S.kind S.names (aT (hi af s σ H _ I h) λv s1 h1=>aT h1 λitv s2 h2=>?_)
 obtain⟨it,fp,tn,J,H2,e,I2,T,st2,f2,hW⟩:=h2
 subst e;refine p5 (Rr:=λacc C=>compPost (model X.prog X.w) X.A X.xe none (EP X af σ Q) acc C) hc S (B _ _) I2 T st2 f2 hW ?_;intro D C s' H' m hC hD I' hns hHC q
 exact⟨m,hns,λh' sb=>⟨.ref D,H',I2.drop hC I' hHC sb,rfl,q⟩⟩
theorem al4 {i:Nat}{x:Str}{px spos:Pos}(hc:X.calm=true)(S:cE X scope N fr)(hi:PI X tg iter wi)(B:∀(s:aq) (H:Hp),lK X scope N tg ifs elt s H (gh H) (tch H) (teh H))(hN:X.N.Nodup)(hix:X.N[i]? = some x)(hx:X.env.scope.names.lookup x=some .local)(hsw:swapsWith (.ListComp elt [⟨tg,iter,ifs,0⟩] scope pos) (some (.Name x px)) spos.line X.env=pure true)(hs:∀x,foldedSetIterable iter X.env x=pure x:=by intro _;rfl) :
  PS X (.Assign [.Name x px] (.ListComp elt [⟨tg,iter,ifs,0⟩] scope pos) spos) (jU (tI wi fr gh tch teh) (cO i)):=by
 intro af s σ H D I h;rw[exec_Assign_Name_used _ _ _ _ hsw];refine be2 (wpAny_standAt (be2 ?_));show wpAny _ _ (do let _ <- comprehension (.ListComp elt [⟨tg,iter,ifs,0⟩] scope pos) scope X.env _ (newList []) false (eval iter X.env) (some (assign (.Name x px) X.env))) _ _ s
 refine be2 (bk2 (bp4 (Q:=λ_ s'=>SP X af D .next s') (use:=some (assign (.Name x px) X.env)) rfl hs (lJ (S.cells I)) S.kind S.names (aT (hi af s σ H _ I h) λv s1 h1=>aT h1 λitv s2 h2=>?_))
  (λ_ s' hq=>be6 (be6 hq)) λ_ _ e=>e)
 obtain⟨it,fp,tn,J,H2,e,I2,T,st2,f2,hW⟩:=h2
 subst e;refine p5 (Rr:=λacc C=>compPost (model X.prog X.w) X.A X.xe (some (assign (.Name x px) X.env)) (λ_ s'=>SP X af D .next s') acc C) hc S (B _ _) I2 T st2 f2 hW ?_;intro D' C s' H' m hC hD I' hns hHC q;refine wpAny_assign_Name (oG I' hN hix (.inl hx) (v:=.ref D') rfl (λs'' I'' sb=>?_) (.inr hx))
 obtain⟨a,sb,ha⟩:=sb
 have hCa:C≠a:=by
  rcases ha with z|z
  ·rw[z];exact bl4 (bf2 I2.lt hC)
  ·intro e;subst e
   obtain⟨v,q⟩:=I2.cell x _ z
   exact absurd (bf2 q.lt hC) (bj9 _)
 exact⟨m,hns.sameBut sb hCa,λh' sb'=>⟨_,H',I2.drop hC I'' hHC sb',q⟩⟩
end
theorem bC {H:Hp}{p:ar}(h:H p=none)(o:HO):aI H (upd H p o):=λb u q=>by rw[b6 (cU q h)];exact q
theorem aI.tup {K:ac}{H H':Hp}{a:ar}{xs:List V}(e:aI H H')(h:aW K H a xs):aW K H' a xs:=by
 rcases h with (h|⟨o,h⟩)|h
 ·exact .inl (.inl (e _ _ h))
 ·exact .inl (.inr ⟨o,e _ _ h⟩)
 ·exact .inr h
structure zM (H:Hp)(J:It)(xs:List V):Prop where
 go:∀i H',aI H H'->i<xs.length->J.go i H'
 yld:∀i H' x H2,aI H H'->J.yld i H' x H2->i<xs.length->xs[i]? = some x/\H2=H'
 stop:∀H',aI H H'->J.stop xs.length H'
theorem al5 {K:ac}{H:Hp}{a:ar}{xs:List V}(h:aW K H a xs):zM H (jC K a) xs:=
 ⟨λi H' e hi=>⟨xs,xs[i],e.tup h,by simp[hi]⟩,λi H' x H2 e y hi=>⟨y.2 xs (e.tup h),y.1⟩,λH' e=>⟨xs,e.tup h,be7 _⟩⟩
noncomputable def iL (lo:Int)(n:Nat):List V:=(List.range n).map λ(i:Nat)=>V.int (lo+(i:Int))
theorem tK (lo:Int)(n:Nat):(iL lo n).length=n:=by unfold iL;rw[be9,bs0]
noncomputable def CW (H1:Hp)(D:ar)(n:Nat)(Pv:Nat->List V->Hp->Prop):Nat->Nat->List V->Hp->Prop:=λi m acc H'=>m=n-i/\i<=n/\acc.length<=i/\aI H1 H'/\H' D=some (.lst acc)/\Pv i acc H'
noncomputable def tL (H1:Hp)(D:ar)(n:Nat)(Pv:Nat->List V->Hp->Prop)(i:Nat)(acc:List V)(v:V)(H5:Hp):Prop:=H5 D=some (.lst acc)/\acc.length<sizeLine/\∃m',m'<n-i/\CW H1 D n Pv (i+1) m' (acc++[v]) (upd H5 D (.lst (acc++[v])))
noncomputable def zN (H1:Hp)(D:ar)(n:Nat)(Pv:Nat->List V->Hp->Prop)(i:Nat)(acc:List V)(H4:Hp):Prop:=∃m',m'<n-i/\CW H1 D n Pv (i+1) m' acc H4
structure p6 (H1:Hp)(D:ar)(n i:Nat)(acc:List V)(H':Hp):Prop where
 lt:i<n
 few:acc.length<=i
 sz:n<=sizeLine
 same:aI H1 H'
 new:H1 D=none
 acc:H' D=some (.lst acc)
theorem p6.yes {H1:Hp}{D:ar}{n i:Nat}{acc:List V}{H' H5:Hp}{Pv:Nat->List V->Hp->Prop}{v:V}(c:p6 H1 D n i acc H')(s:aI H' H5)(p:Pv (i+1) (acc++[v]) (upd H5 D (.lst (acc++[v])))):tL H1 D n Pv i acc v H5:=by
 refine⟨s _ _ c.acc,Nat.lt_of_le_of_lt c.few (bf2 c.lt c.sz),_,?_,rfl,c.lt,?_,λb o e=>?_,bD,p⟩
 ·have:=c.lt;omega
 ·rw[bg8,bp0];exact Nat.succ_le_succ c.few
 ·rw[b6 (cU e c.new)];exact s _ _ (c.same _ _ e)
theorem al6 {H1:Hp}{J:It}{xs:List V}{g:TG}{tc:TT}{te:TE}{σ0:St}{Q:VK}(O:zM H1 J xs)(Pv:Nat->List V->Hp->Prop)(hn:xs.length<=sizeLine)(h0:∀D,H1 D=none->Pv 0 [] (upd H1 D (.lst [])))(hs:∀i x acc D H',xs[i]? = some x->p6 H1 D xs.length i acc H'->Pv i acc H'->g x σ0 H' λσ2 H3=>Wk σ0 σ2/\tc σ2 H3 λb H4=>
   if b=true then te σ2 H4 λv H5=>tL H1 D xs.length Pv i acc v H5 else zN H1 D xs.length Pv i acc H4)(hd:∀D acc H',H1 D=none->aI H1 H'->H' D=some (.lst acc)->acc.length<=xs.length->Pv xs.length acc H'->Q (.ref D) H') :
  ∀D,H1 D=none->∃W:Nat->Nat->List V->Hp->Prop,(∃m,W 0 m [] (upd H1 D (.lst [])))/\k7 g tc te σ0 J D Q W:=by
 intro D hD;refine⟨CW H1 D xs.length Pv,⟨xs.length,rfl,bo1 _,be7 _,bC hD _,bD,h0 D hD⟩,?_⟩;rintro i m acc H' ⟨rfl,hi,ha,sm,hDa,p⟩;refine⟨hDa,?_⟩;by_cases hlt:i<xs.length
 ·refine .inr ⟨O.go i H' sm hlt,λx H2 y=>?_⟩
  obtain⟨hx,e⟩:=O.yld i H' x H2 sm y hlt
  subst e;exact hs i x acc D H2 hx ⟨hlt,ha,hn,sm,hD,hDa⟩ p
 ·have e:i=xs.length:=by omega
  subst e;exact .inl ⟨O.stop H' sm,hd D acc H' hD sm hDa ha p⟩
end L2
namespace Srt
open PySem PySem.W PyProof.Rows
noncomputable abbrev G (p:Array Nat)(i:Nat):Nat:=p.getD i 0
noncomputable def PP (n:Nat)(p:Array Nat):Prop:=p.toList.Perm (List.range n)
structure Ord (c:Nat->Nat->Bool):Prop where
 asym:∀{i j},c i j=true->c j i=false
 ntr:∀{i j k},c i j=false->c j k=false->c i k=false
end Srt
namespace L2
open PySem PySem.Spec PyProof.Rows
noncomputable def al7 (K:ac):List V->Hp->VK->Prop:=λxs H Q=>∃a ns,xs = [.ref a]/\aV K H a (ns.map V.int)/\ns.length<64/\∀l (ms:ae),H l=none->ms.Perm ns->ms.Pairwise (· <= ·)->Q (.ref l) (upd H l (.lst (ms.map V.int)))
theorem al8 {X:Cx}:cV X (.builtin "sorted") (al7 X.K):=by
 intro af s σ H xs us Q I r h
 obtain⟨a,ns,rfl,hs,h64,q⟩:=h
 obtain⟨u,rfl,ru⟩:=eW r
 cases ru
 obtain⟨its,rv,p,hz⟩:=I.list hs
 have hl:=rv.length;rw[be9]at hl;refine sorted_ints p.isList (oQ rv) (by omega) λout ns' a1 a2 a3=>?_
 obtain⟨e,he⟩:=sortedAll_at s.heap its out
 have hn:s.heap.objs.size<=s.heap.objs.size+1:=Nat.le_succ _;have ai:ns'.length=ns.length:=a2.length_eq;refine⟨.ref (s.heap.objs.size+1),upd H (s.heap.objs.size+1) (.lst (ns'.map V.int)),I.laid (t':=s.toks) (λ_ _=>sortedAll_old) hn ⟨?_,out.toList,e,nA a1,by simpa using he⟩,rfl,q _ ns' (I.hok.fresh hn) a2 a3⟩;rw[be9,ai];exact bm6 (nB (by omega))
end L2
namespace Raw
open PySem PySem.W PySem.Calls PyProof.Rows
noncomputable def gE (h:Heap)(d:ar)(es:Array DictEntry)(ep:Nat):Prop:=∃o,h.get? d=some o/\o.ExactDict/\o.data = .dict es ep
theorem gE.ty {s:aq}{d:ar}{es:Array DictEntry}{ep:Nat}(x:gE s.heap d es ep):s.TypeIs (.ref d) "dict":=x.elim λo y=>⟨o,y.1,y.2.1.1⟩
theorem gE.lt {h:Heap}{d:ar}{es:Array DictEntry}{ep:Nat}(x:gE h d es ep):d<h.objs.size:=x.elim λ_ y=>bf4 y.1
theorem gE.keep {h h':Heap}{d:ar}{es:Array DictEntry}{ep:Nat}(x:gE h d es ep)(k:∀o,h.get? d=some o->h'.get? d=some o):gE h' d es ep:=x.elim λo y=>⟨o,k o y.1,y.2⟩
section
variable {prog:av}{w:ax}{A:aw}{E:ao→aq→Prop}{s:aq}{d it:ar}{es:Array DictEntry}{ep i:Nat}
theorem made (far:(d==sysModules)=false)(x:gE s.heap d es ep){Q:ao->aq->Prop}(q:Q (.ref s.heap.objs.size) { s with heap:=s.heap.push { cls:=.type "dict_keyiterator",data:=.fields #[.ref d,.int 0 0,.int es.size 0,.int ep 0] } }):wpAny (model prog w) A (pyIter (.ref d)) Q E s:=by
 have T:=x.ty
 obtain⟨o,e1,e2,e3⟩:=x
 apply wpAny_pyIter_slot T PySem.F.slot_dict_iter;apply bj8 PySem.F.slot_dict_iter T PySem.F.entry_dict_iter _ (PySem.F.args_dict_iter_1 _);simp only[Builtin.«dict.__iter__»,Builtin.Dict.dictSlotNone];apply be2;apply be2;apply wpAny_notOrdered_dict T;apply be6
 change wpAny _ _ (Builtin.Dict.showsAll d >>= _) _ _ s
 have far':Builtin.Dict.showsAll d=pure ():=by
  unfold Builtin.Dict.showsAll;simp only[far,bi7,bq0]
 rw[far',pure_bind];apply be2;apply wpAny_dictEntries e1 e3;apply be2;apply wpAny_dictEpoch e1 e3;apply be2;refine bi8 (be6 ?_);refine⟨.ref s.heap.objs.size,rfl,"dict_keyiterator",_,⟨_,bf0 _ rfl,rfl⟩,PySem.F.slot_dict_keyiterator_next.lookup,?_⟩;simpa only[rawInt] using q
theorem turn (hh:A.handled=none)(hi:s.heap.IsKeyIter it d i es.size ep)(x:gE s.heap d es ep){Q:Option ao->aq->Prop}(yes:∀(lt:i<es.size) h',h'.IsKeyIter it d (i+1) es.size ep->Heap.SameBut it s.heap h'->Q (some es[i].key) { s with heap:=h' })(no:es.size<=i->∀h',Heap.ExtBut it s.heap h'->Q none { s with heap:=h' }):wpAny (model prog w) A (pyNext (.ref it)) Q E s:=by
 have T:=hi.typeIs
 obtain⟨oi,f1,f2,f3⟩:=hi
 obtain⟨o,e1,e2,e3⟩:=x
 have slot:=PySem.F.slot_dict_keyiterator_next;have plain:Builtin.Dict_items.ownsTuple "dict_keyiterator" = false:=by decide
 have isref:(Value.ref d==Value.none)=false:=rfl;have nn:¬(i:Int)<0:=by omega
 unfold pyNext;apply be2;apply br4;apply bj4 (name:=Str.ofString "__next__") T slot;apply bj8 slot T PySem.F.entry_dict_keyiterator_next _ (PySem.F.args_dict_keyiterator_next_1 _);apply be2;apply be6;apply be2;apply be2;apply be2
 first
  |apply wpAny_typeNameOfWhole_keyiter T
  |apply wpAny_typeNameOf_keyiter T
 apply be6;apply be2;apply wpAny_fieldsOf f1 f3;simp only[plain,bi7,bq0]
 change wpAny _ _ (if (Value.ref d==Value.none)=true then _ else _) _ _ s
 have adr:Builtin.Dict_items.addrOf (Value.ref d)=pure d:=rfl;simp only[isref,bi7,bq0,adr,pure_bind];apply be2;apply wpAny_dictEntries e1 e3;simp only[bne_self_eq_false,bi7,bq0];apply be2;apply wpAny_dictEpoch e1 e3;simp only[bne_self_eq_false,bi7,bq0];apply be6;simp only[nn,bq0,Int.toNat_natCast];by_cases lt:i<es.size
 ·simp only[bo8 lt]
  apply be2;apply be2
  first
   |apply wpAny_typeNameOfWhole_keyiter T
   |apply wpAny_typeNameOf_keyiter T
  apply be6;apply be2;apply wpAny_isOneOf_keyiter T
  change wpAny _ _ (setField (.ref it) 1 (rawInt ((i:Int)+1)) >>= _) _ _ s
  apply be2;refine br8 f1 f3 (by simp) ?_;have again:(s.heap.update it (Obj.mapFields (·.setIfInBounds 1 (rawInt ((i:Int)+1))))).IsKeyIter it d (i+1) es.size ep:=by
   refine⟨_,bp1 _ f1 (bu1 (bm8 f3 _)),?_,?_⟩
   ·rw[Obj.cls_mapFields];exact f2
   ·rw[bm8 f3];simp[rawInt]
  apply be2;apply bv6;apply be2;refine wpAny_isOneOf_keyiter (s:={ s with heap:=s.heap.update it (Obj.mapFields (·.setIfInBounds 1 (rawInt ((i:Int)+1)))) }) again.typeIs ?_
  change wpAny _ _ (pure es[i].key) _ _ _
  apply be6;apply be6
  exact⟨es[i].key,rfl,be6 (yes lt _ again (Heap.SameBut.update ..))⟩
 ·have ge:es.size<=i:=Nat.le_of_not_lt lt
  simp only[bs9 ge];apply be2;apply be2
  first
   |apply wpAny_typeNameOfWhole_keyiter T
   |apply wpAny_typeNameOf_keyiter T
  apply be6
  change wpAny _ _ (setField (.ref it) 0 .none >>= _) _ _ s
  apply be2;refine br8 f1 f3 (by simp) ?_;apply be2;simp only[newExc,newTuple];apply be2;refine bi8 ?_ (by size_fits);apply be2;refine bt2 (a:=Value.none) (by first|rfl|(simp only[firstArgMember];rfl)) ?_;refine bi8 ?_ (by size_fits);unfold raiseNew;apply be2;apply wpAny_handled;have quiet:A.in1.handled=none:=hh;rw[quiet];refine wpAny_throw ?_;apply be2;refine wpAny_isInstance (T:="StopIteration") (b:=true) ⟨_,bf0 _ rfl,rfl⟩ isSubtype_stop ?_;exact be6 (no ge _ (((Heap.SameBut.update ..).extBut.push _).push _))
theorem al9 (hh:A.handled=none)(ne:d≠it):Walks prog w A it [it,d] [it] es.size (λi v=>∃lt:i<es.size,es[i].key=v) (λi h=>h.IsKeyIter it d i es.size ep/\gE h d es ep) where
 sub:=by intro b hb;rw[bh5.mp hb];exact bj0
 frame:=by
  intro i h h' st hk
  exact⟨st.1.at (hk it bj0),st.2.keep (hk d (bj3 _ bj0))⟩
 item:=by
  intro i s Q E lt st hQ;refine turn hh st.1 st.2 (λlt' h' again sb=>?_) λge=>absurd lt (Nat.not_lt.mpr ge)
  exact hQ _ h' s.toks ⟨lt',rfl⟩ ⟨again,st.2.keep λo e=>sb.extBut d o ne e⟩ λb o hb e=>sb.extBut b o (λz=>hb (bh5.mpr z)) e
 done:=by
  intro s Q E st hQ;refine turn hh st.1 st.2 (λlt=>absurd lt (bj9 _)) λ_ h' eb=>?_
  exact hQ h' s.toks λb o hb e=>eb b o (λz=>hb (bh5.mpr z)) e
 self:=by intro i s Q E st hQ;exact wpAny_pyIter_keyiter st.1 hQ
theorem am0 (far:(d==sysModules)=false):KdlSrc prog w "dict" d d es.size (λi v=>∃lt:i<es.size,es[i].key=v) (λh=>gE h d es ep) where
 type:=λ_ x=>x.ty
 there:=λ_ x=>⟨x.lt,x.lt⟩
 keep:=λ_ _ x k=>x.keep (k d (.inl rfl))
 notList:=by decide
 notTuple:=by decide
 hint:=λ_ _ _ _ x q=>kdl_hint_dict x.ty q
 iter:=λ_ _ hh x=>⟨_,_,λ_ _ q=>made far x q,al9 hh (bh6 x.lt),⟨_,bf0 _ rfl,rfl,rfl⟩,x.keep λo e=>be4 _ e⟩
end
end Raw
namespace L2
open PySem PySem.Spec PyProof.Rows
section
variable {X:Cx}{af:List (ar×Obj)}{σ:St}{H:Hp}{s:aq}{a:ar}
noncomputable def am1 (H:Hp)(y:V)(k:List aH):Prop:=∃q,y = .ref q/\H q=some (.tup (k.map kV))
theorem am2 {kvs:List (aH×V)}(I:aE X af σ H s)(h:H a=some (.dK kvs)):∃es ep,Raw.gE s.heap a es ep/\(a==sysModules)=false/\aY (kvs.map λp=>kV p.1) (es.toList.map (·.key))/\kvs.length<=sizeLine:=by
 obtain⟨z,far,vs,rel,o,es,ep,e1,e2,e3,kk,pr,nd⟩:=(show cI X.prog X.w H s.heap a (.dK kvs) from I.hok a _ h)
 refine⟨es,ep,⟨o,e1,e2,e3⟩,far,?_,z⟩;clear z far e1 e2 e3 kk nd h;generalize es.toList=l at pr
 induction pr generalizing kvs with
 |nil=>cases rel;exact .nil
 |@cons e k es' kvs' h1 h2 _ ih=>
  cases rel with
  |@cons p q ps qs r rs=>
   refine .cons ?_ (ih rs)
   obtain⟨r1,_⟩:=r
   show b7 (kV p.1) e.key;rw[r1];rcases gZ h1 with⟨n,t,e4,e5⟩|⟨x,t,e4,e5⟩
   ·rw[e4,e5];exact⟨t,rfl⟩
   ·rw[e4,e5];exact⟨t,rfl⟩
theorem am3 {es:Array DictEntry}{acc:Array ao}(h:ItemsOf (λi v=>∃lt:i<es.size,es[i].key=v) acc es.size):acc.toList=es.toList.map (·.key):=by
 apply List.ext_getElem?;intro j;have h1:=h.1;by_cases hj:j<es.size
 ·have hj':j<acc.size:=by rw[h1];exact hj
  obtain⟨_,e⟩:=h.2 j acc[j] (by simp[hj'])
  rw[bg9];simp[hj,hj',e]
 ·have hj':¬j<acc.size:=by rw[h1];exact hj
  rw[bg9];simp[Nat.le_of_not_lt hj,Nat.le_of_not_lt hj']
end
noncomputable def zO (outer:List (Str×NameKind))(XN:List Str)(names:List (Str×NameKind))(N:List Str)(fr:List (Option Nat)):Bool:=
 names.all (λy=>!(y.2==.cell)||names.lookup y.1==some .cell)&&names.all (λy=>!(y.2==.local)||names.lookup y.1==some .local) &&
 names.all (λy=>!(y.2==.free)||(outer.lookup y.1==some .cell||outer.lookup y.1==some .free))&&fr.length==N.length &&
 (fr.zip N).all (λp=>match p.1 with
  |none=>true
  |some j=>XN[j]?==some p.2&&names.lookup p.2==some .free)
theorem cE.of {X:Cx}{scope:Scope}{N:List Str}{fr:List (Option Nat)}(hk:scope.kind = .function)(h:zO X.env.scope.names X.N scope.names N fr=true):cE X scope N fr:=by
 unfold zO at h;simp only[bm2]at h
 obtain⟨⟨⟨⟨h1,h2⟩,h3⟩,h4⟩,h5⟩:=h
 refine⟨hk,λy hy e=>?_,λy hy e=>?_,λy hy e=>?_,by simpa using h4,λi j e=>?_⟩
 ·have:=bq1.mp h1 y hy
  rw[e]at this;simpa using this
 ·have:=bq1.mp h2 y hy
  rw[e]at this;simpa using this
 ·have:=bq1.mp h3 y hy
  rw[e]at this;simpa using this
 ·have hl:fr.length=N.length:=by simpa using h4
  have hi:i<fr.length:=(bf7.mp e).1;have m:(some j,N[i]'(by omega))∈fr.zip N:=by
   have:(fr.zip N)[i]? = some (some j,N[i]'(by omega)):=by
    rw[List.getElem?_zip_eq_some]
    exact⟨e,by simp⟩
   exact bo2 this
  have:=bq1.mp h5 _ m
  simp only[bm2,beq_iff_eq]at this
  exact⟨N[i]'(by omega),by simp,this.1,this.2⟩
theorem wk0 {n:Option V}{r:St}{v:V}:Wk (none::r) (some v::r):=(Wk.refl (none::r)).set (i:=0) rfl
noncomputable def nE (H:Hp)(ys:List V)(ls:aa):Prop:=Paired (λy l=>∃b,y = .ref b/\H b=some (.tup [.int l.1,.int l.2])) ys ls
structure zP (H:Hp)(v:V)(ws:ae)(ls:aa):Prop where
 at_:∃a p q ys,v = .ref a/\H a=some (.tup [.ref p,.ref q])/\H p=some (.tup (ws.map V.int))/\H q=some (.tup ys)/\nE H ys ls
theorem nE.get {H:Hp}:∀{ys:List V}{ls:aa}{i:Nat}{y:V},nE H ys ls->ys[i]? = some y->∃l b,ls[i]? = some l/\y = .ref b/\H b=some (.tup [.int l.1,.int l.2])
 |_,_,_,_,.nil,e=>by simp at e
 |_,_,0,_,.cons (b:=l) ⟨b,h1,h2⟩ _,e=>by simp at e;subst e;exact⟨l,b,rfl,h1,h2⟩
 |_,_,i+1,_,.cons _ t,e=>by
  obtain⟨l,b,h1,h2⟩:=nE.get (i:=i) t (by simpa using e)
  exact⟨l,b,by simpa using h1,h2⟩
noncomputable def dB (ls:aa)(k:Int):ae:=ls.flatMap λl=>(if l.1=k then [l.2] else [])++(if l.2=k then [l.1] else [])
theorem am4 (ls:aa)(l:Int×Int)(k:Int):dB (ls++[l]) k=dB ls k++((if l.1=k then [l.2] else [])++(if l.2=k then [l.1] else [])):=by
 unfold dB;rw[List.flatMap_append];simp
theorem am5 {ls:aa}{i:Nat}{l:Int×Int}(h:ls[i]? = some l)(k:Int):dB (ls.take (i+1)) k=dB (ls.take i) k++((if l.1=k then [l.2] else [])++(if l.2=k then [l.1] else [])):=by
 rw[bj7,h];exact am4 _ _ _
structure iM (H H':Hp)(r:ar)(bs:List ar)(f:Nat->ae):Prop where
 new:H r=none
 news:∀b∈bs,H b=none/\b≠r
 nd:bs.Nodup
 row:H' r=some (.lst (bs.map V.ref))
 rows:∀(k:Nat) (b:ar),bs[k]? = some b->H' b=some (.lst ((f k).map V.int))
 same:aI H H'
theorem iM.congr {H H':Hp}{r:ar}{bs:List ar}{f g:Nat->ae}(h:iM H H' r bs f)(e:∀k,k<bs.length->f k=g k):iM H H' r bs g:=
 ⟨h.new,h.news,h.nd,h.row,λk b hb=>by rw[<- e k (bf7.mp hb).1];exact h.rows k b hb,h.same⟩
theorem iM.app {H H':Hp}{r:ar}{bs:List ar}{f:Nat->ae}(h:iM H H' r bs f){k:Nat}{b:ar}(hb:bs[k]? = some b)(x:Int) :
  iM H (upd H' b (.lst ((f k).map V.int++[V.int x]))) r bs (λj=>if j=k then f j++[x] else f j):=by
 have hm:b∈bs:=bo2 hb;refine⟨h.new,h.news,h.nd,by rw[b6 (Ne.symm (h.news b hm).2)];exact h.row,λj c hc=>?_,λc o e=>by rw[b6 (cU e (h.news b hm).1)];exact h.same c o e⟩;by_cases hj:j=k
 ·subst hj
  rw[hb]at hc;cases hc;rw[bD,if_pos rfl];simp
 ·rw[if_neg hj]
  have ne:c≠b:=λz=>by
   subst z
   obtain⟨i1,e1⟩:=bf7.mp hb
   obtain⟨i2,e2⟩:=bf7.mp hc
   refine hj (Nat.le_antisymm (Nat.le_of_not_lt λz=>?_) (Nat.le_of_not_lt λz=>?_))
   ·exact List.pairwise_iff_getElem.mp h.nd _ _ i1 i2 z (e1.trans e2.symm)
   ·exact List.pairwise_iff_getElem.mp h.nd _ _ i2 i1 z (e2.trans e1.symm)
  rw[b6 ne];exact h.rows j c hc
theorem tM (ls:aa)(k:Int):(dB ls k).length<=2*ls.length:=by
 induction ls with
 |nil=>exact be7 _
 |cons l r ih=>
  have e:dB (l::r) k=((if l.1=k then [l.2] else [])++(if l.2=k then [l.1] else []))++dB r k:=rfl;rw[e,bg8,bg8,bm3];have h1:(if l.1=k then [l.2] else []).length<=1:=by split<;>simp
  have h2:(if l.2=k then [l.1] else []).length<=1:=by split<;>simp
  omega
theorem p9 {α:Type}{xs:List α}{i:Int}{v:α}(h0:0<=i)(h:xs[i.toNat]? = some v):atI xs i=some v:=by
 have:=ah4 h
 rwa [show ((i.toNat:Nat):Int)=i by omega]at this
theorem iN {n:Nat}(h:n<=16000000):n<sizeLine:=by rw[bt1];omega
theorem pA {σ:St}{H:Hp}{A B:Hp->Prop}(h:A H):tG σ H λb H4=>if b=true then A H4 else B H4:=by
 show if true=true then A H else B H
 rw[if_pos rfl];exact h
theorem nF {K:ac}{H:Hp}{p:ar}{xs:List V}(h:aV K H p xs):gD K "list" (.ref p) H:=.inl ⟨rfl,xs,h⟩
end L2
namespace Zp
open PySem PyProof.Rows
section
variable {prog:av}{w:ax}{A:aw}{E:ao→aq→Prop}{s:aq}
theorem zQ {it t:ar}{i:Nat}{items:Array ao}{x:ao}{Q:ao->aq->Prop}(hi:s.heap.IsTupleIter it t i)(ht:s.heap.IsTuple t items)(hx:items[i]? = some x)(q:∀h',h'.IsTupleIter it t (i+1)->Heap.SameBut it s.heap h'->Q x { s with heap:=h' }):wpAny (model prog w) A (Builtin.SmallTypes.nextOf (.ref it)) Q E s:=by
 have T:=hi.typeIs
 obtain⟨o,e1,e2,e3⟩:=hi
 obtain⟨u,f1,_,k,f3⟩:=ht
 have slot:=PySem.F.slot_tuple_iterator_next;have isref:(Value.ref t==Value.none)=false:=rfl;unfold Builtin.SmallTypes.nextOf;apply be2;apply bj4 (name:=Str.ofString "__next__") T slot;apply bj8 slot T PySem.F.entry_tuple_iterator_next _ (PySem.F.args_tuple_iterator_next_1 _)
 change wpAny _ _ (field (.ref it) 0 >>= _) _ _ s
 apply be2;refine bi1 e1 e3 (x:=.ref t) rfl ?_
 change wpAny _ _ (if (Value.ref t==Value.none)=true then _ else _) _ _ s
 simp only[isref,bi7,bq0]
 change wpAny _ _ (field (.ref it) 1 >>= _) _ _ s
 apply be2;refine bi1 e1 e3 (x:=.int i 0) rfl ?_
 change wpAny _ _ (seqItems? (.ref t) >>= _) _ _ s
 apply be2;apply bt7 f1 f3;simp only[Int.toNat_natCast,hx];apply be2;refine br8 e1 e3 (by simp) ?_;apply be6;refine⟨x,rfl,be6 (q _ ⟨_,bp1 _ e1 (bu1 (bm8 e3 _)),?_,?_⟩ (Heap.SameBut.update ..))⟩
 ·rw[Obj.cls_mapFields];exact e2
 ·rw[bm8 e3];simp[rawInt]
theorem zR {it t:ar}{i:Nat}{items:Array ao}{Q:ao->aq->Prop}(hh:A.handled=none)(hi:s.heap.IsTupleIter it t i)(ht:s.heap.IsTuple t items)(hx:items[i]? = none)(q:∀h' e,Heap.ExtBut it s.heap h'->(∃o,h'.get? e=some o/\o.cls = .type "StopIteration")->E (.ref e) { s with heap:=h' }):wpAny (model prog w) A (Builtin.SmallTypes.nextOf (.ref it)) Q E s:=by
 have T:=hi.typeIs
 obtain⟨o,e1,e2,e3⟩:=hi
 obtain⟨u,f1,_,k,f3⟩:=ht
 have slot:=PySem.F.slot_tuple_iterator_next;have isref:(Value.ref t==Value.none)=false:=rfl;unfold Builtin.SmallTypes.nextOf;apply be2;apply bj4 (name:=Str.ofString "__next__") T slot;apply bj8 slot T PySem.F.entry_tuple_iterator_next _ (PySem.F.args_tuple_iterator_next_1 _)
 change wpAny _ _ (field (.ref it) 0 >>= _) _ _ s
 apply be2;refine bi1 e1 e3 (x:=.ref t) rfl ?_
 change wpAny _ _ (if (Value.ref t==Value.none)=true then _ else _) _ _ s
 simp only[isref,bi7,bq0]
 change wpAny _ _ (field (.ref it) 1 >>= _) _ _ s
 apply be2;refine bi1 e1 e3 (x:=.int i 0) rfl ?_
 change wpAny _ _ (seqItems? (.ref t) >>= _) _ _ s
 apply be2;apply bt7 f1 f3;simp only[Int.toNat_natCast,hx];apply be2;apply wpAny_rule;apply be2;refine br8 e1 e3 (by simp) ?_;apply be2;simp only[newExc,newTuple];apply be2;refine bi8 ?_ (by size_fits);apply be2;refine bt2 (a:=Value.none) (by first|rfl|(simp only[firstArgMember];rfl)) ?_;refine bi8 ?_ (by size_fits);unfold raiseNew;apply be2;apply wpAny_handled;have quiet:A.in1.handled=none:=hh;rw[quiet];refine wpAny_throw ?_;exact q _ _ (((Heap.SameBut.update ..).extBut.push _).push _) ⟨_,bf0 _ rfl,rfl⟩
theorem am6 (hh:A.handled=none)(it t:ar)(ne:t≠it)(items:Array ao):Draws prog w A it [it,t] items.size (λi v=>items[i]? = some v) (λi h=>h.IsTupleIter it t i/\h.IsTuple t items) where
 live:=λ_ _ st=>st.1.elim λo y=>⟨o,y.1⟩
 frame:=λ_ _ _ st k=>⟨st.1.at λo e=>k it bj0 o e,st.2.elim λo y=>⟨o,k t (bj3 _ bj0) o y.1,y.2⟩⟩
 item:=λi s Q E lt st q=>zQ st.1 st.2 (bo8 lt) λh' again sb=>q _ h' s.toks (bo8 lt) ⟨again,st.2.elim λo y=>⟨o,sb.extBut t o ne y.1,y.2⟩⟩ sb
 done:=λs Q E st q=>zR hh st.1 st.2 (bs9 (be7 _)) q
end
structure Ap (z TI TO i1 i2:ar)(fp1 fp2:List ar):Prop where
 TIz:TI≠z
 TOz:TO≠z
 TITO:TI≠TO
 z1:z∉fp1
 z2:z∉fp2
 o1:TO∉fp1
 o2:TO∉fp2
 t1:TI∉fp1
 t2:TI∉fp2
 m1:i1∈fp1
 m2:i2∈fp2
 n1:i1∉fp2
 n2:i2∉fp1
structure tN (z TI TO i1 i2:ar)(St1 St2:Nat->Heap->Prop)(f0:ao)(i j:Nat)(h:Heap):Prop where
 zz:IsZip h z TI TO f0
 ti:IsPair h TI (.ref i1) (.ref i2)
 to_:∃a b,IsPair h TO a b
 s1:St1 i h
 s2:St2 j h
section
variable {prog:av}{w:ax}{A:aw}{E:ao→aq→Prop}{s:aq}{z TI TO i1 i2:ar}{fp1 fp2:List ar}{n1 n2:Nat}{P1 P2:Nat→ao→Prop}{St1 St2:Nat→Heap→Prop}
theorem iO (ap:Ap z TI TO i1 i2 fp1 fp2){b:ar}(h:b∉fp1):b≠i1:=λe=>h (e▸ap.m1)
theorem pB (ap:Ap z TI TO i1 i2 fp1 fp2){b:ar}(h:b∉fp2):b≠i2:=λe=>h (e▸ap.m2)
theorem item (D1:Draws prog w A.in1 i1 fp1 n1 P1 St1)(D2:Draws prog w A.in1 i2 fp2 n2 P2 St2)(ap:Ap z TI TO i1 i2 fp1 fp2){i:Nat}(l1:i<n1)(l2:i<n2)(st:tN z TI TO i1 i2 St1 St2 .none i i s.heap){Q:Option ao->aq->Prop}(q:∀x y h' tk,P1 i x->P2 i y->tN z TI TO i1 i2 St1 St2 (rawInt s.heap.objs.size) (i+1) (i+1) h'->IsPair h' s.heap.objs.size x y->(∀c o,c≠z->c≠TO->c≠i1->c≠i2->s.heap.get? c=some o->h'.get? c=some o)->
   h'.objs.size=s.heap.objs.size+1->Q (some (.ref s.heap.objs.size)) { s with heap:=h',toks:=tk }):wpAny (model prog w) A (pyNext (.ref z)) Q E s:=by
 obtain⟨hz,hti,⟨a,b,hto⟩,h1,h2⟩:=st
 have T:s.TypeIs (.ref z) "zip":=⟨_,hz,rfl⟩;have slot:=PySem.F.slot_zip_next;unfold pyNext;apply be2;apply br4;apply bj4 (name:=Str.ofString "__next__") T slot;apply bj8 slot T PySem.F.entry_zip_next _ (PySem.F.args_zip_next_1 _)
 change wpAny _ _ (field (.ref z) 2 >>= _) _ _ _
 apply be2;refine bi1 hz rfl (x:=.bool false) rfl ?_
 change wpAny _ _ (field (.ref z) 3 >>= _) _ _ _
 apply be2;refine bi1 hz rfl (x:=.ref TI) rfl ?_;apply be2;apply bt7 hti rfl
 change wpAny _ _ (Builtin.SmallTypes.ownedTupleIsFree (.ref z) >>= _) _ _ _
 apply be2;unfold Builtin.SmallTypes.ownedTupleIsFree;apply be2;refine bi1 hz rfl (x:=.none) rfl (be6 ?_);simp only[if_true];apply be2;apply wpAny_rule;apply be2;refine bi1 hz rfl (x:=.ref TO) rfl ?_;apply be2;refine bl6 hz (by simp) λg1 hz1 sb1=>?_
 have k1:∀c o,c≠z->s.heap.get? c=some o->g1.get? c=some o:=λc o c1 e=>sb1.extBut c o c1 e
 apply be2;simp only[List.zipIdx_cons,List.zipIdx_nil,List.forIn_cons,List.forIn_nil];apply be2;apply be2;apply wpAny_onRaise
 change wpAny _ _ (Builtin.SmallTypes.nextOf (.ref i1) >>= _) _ _ _
 apply be2;refine D1.item i { s with heap:=g1 } _ _ l1 (D1.frame _ _ _ h1 λc hc o e=>k1 c o (λy=>ap.z1 (y▸hc)) e) λx g2 tk2 px st1 sb2=>be6 ?_
 have k2:∀c o,c≠z->c≠i1->s.heap.get? c=some o->g2.get? c=some o:=λc o c1 c2 e=>sb2.extBut c o c2 (k1 c o c1 e)
 have to2:IsPair g2 TO a b:=k2 _ _ ap.TOz (iO ap ap.o1) hto;apply be2;apply bt7 to2 rfl;apply be2;refine wpAny_updateSeq_pair to2 λg3 to3 sb3=>?_
 have to3:IsPair g3 TO x b:=to3;apply be2;apply wpAny_letGo;apply be6;apply be2;apply be2;apply wpAny_onRaise
 change wpAny _ _ (Builtin.SmallTypes.nextOf (.ref i2) >>= _) _ _ _
 apply be2;have k3:∀c o,c≠z->c≠i1->c≠TO->s.heap.get? c=some o->g3.get? c=some o:=λc o c1 c2 c3 e=>sb3.extBut c o c3 (k2 c o c1 c2 e)
 refine D2.item i { s with heap:=g3,toks:=tk2 } _ _ l2 (D2.frame _ _ _ h2 λc hc o e=>k3 c o (λy=>ap.z2 (y▸hc)) (λy=>ap.n1 (y▸hc)) (λy=>ap.o2 (y▸hc)) e) λy g4 tk4 py st2 sb4=>be6 ?_
 have to4:IsPair g4 TO x b:=sb4.extBut _ _ (pB ap ap.o2) to3;apply be2;apply bt7 to4 rfl;apply be2;refine wpAny_updateSeq_pair to4 λg5 to5 sb5=>?_
 have to5:IsPair g5 TO x y:=to5;apply be2;apply wpAny_letGo;apply be6;apply be6;apply be2;apply bt7 to5 rfl;apply be2;refine wpAny_newTuple ?_ (by show 2<=sizeLine;decide);have size:g5.objs.size=s.heap.objs.size:=by rw[sb5.1,sb4.1,sb3.1,sb2.1,sb1.1]
 have k5:∀c o,c≠z->c≠TO->c≠i1->c≠i2->s.heap.get? c=some o->g5.get? c=some o:=λc o c1 c2 c3 c4 e=>sb5.extBut c o c2 (sb4.extBut c o c4 (k3 c o c1 c3 c2 e))
 have z5:IsZip g5 z TI TO .ellipsis:=sb5.extBut _ _ (Ne.symm ap.TOz) (sb4.extBut _ _ (pB ap ap.z2) (sb3.extBut _ _ (Ne.symm ap.TOz) (sb2.extBut _ _ (iO ap ap.z1) hz1)))
 change wpAny _ _ (Builtin.SmallTypes.ownedTupleHandOut (.ref z) (.ref g5.objs.size) >>= _) _ _ _
 apply be2;unfold Builtin.SmallTypes.ownedTupleHandOut;apply be2;have z6:IsZip (g5.push { cls:=.type "tuple",data:=.seq #[x,y] }) z TI TO .ellipsis:=be4 _ z5;refine bl6 z6 (by simp) λg7 z7 sb7=>?_
 have z7:IsZip g7 z TI TO (rawInt g5.objs.size):=z7;refine bl6 z7 (by simp) λg8 z8 sb8=>?_
 have z8:IsZip g8 z TI TO (rawInt g5.objs.size):=z8;have zlt:z<g5.objs.size:=bf4 z5;have up:∀c o,c≠z->g5.get? c=some o->g8.get? c=some o:=λc o c1 e=>sb8.extBut c o c1 (sb7.extBut c o c1 (be4 _ e))
 have p8:IsPair g8 g5.objs.size x y:=sb8.extBut _ _ (bl4 zlt) (sb7.extBut _ _ (bl4 zlt) (bf0 _ rfl));have s8:g8.objs.size=g5.objs.size+1:=by rw[sb8.1,sb7.1,bp3]
 have f1:St1 (i+1) g8:=D1.frame _ _ _ st1 λc hc o e=>up c o (λy=>ap.z1 (y▸hc)) (sb5.extBut c o (λy=>ap.o1 (y▸hc)) (sb4.extBut c o (λy=>ap.n2 (y▸hc)) (sb3.extBut c o (λy=>ap.o1 (y▸hc)) e)))
 have f2:St2 (i+1) g8:=D2.frame _ _ _ st2 λc hc o e=>up c o (λy=>ap.z2 (y▸hc)) (sb5.extBut c o (λy=>ap.o2 (y▸hc)) e)
 have ti8:IsPair g8 TI (.ref i1) (.ref i2):=up _ _ ap.TIz (k5 _ _ ap.TIz ap.TITO (iO ap ap.t1) (pB ap ap.t2) hti);rw[size]at z8 p8 s8;apply be6;refine⟨_,rfl,be6 ?_⟩
 change Q (some (.ref g5.objs.size)) _
 rw[size];exact q x y g8 tk4 px py ⟨z8,ti8,⟨x,y,up _ _ ap.TOz to5⟩,f1,f2⟩ p8 (λc o c1 c2 c3 c4 e=>up c o c1 (k5 c o c1 c2 c3 c4 e)) s8
theorem fin (D1:Draws prog w A.in1 i1 fp1 n1 P1 St1)(D2:Draws prog w A.in1 i2 fp2 n2 P2 St2)(ap:Ap z TI TO i1 i2 fp1 fp2){i:Nat}(le:i=n1∨(i<n1/\i=n2))(st:tN z TI TO i1 i2 St1 St2 .none i i s.heap){Q:Option ao->aq->Prop}(q:∀h' tk,(∀c o,c≠z->c≠TO->c≠i1->c≠i2->s.heap.get? c=some o->h'.get? c=some o)->Q none { s with heap:=h',toks:=tk }):wpAny (model prog w) A (pyNext (.ref z)) Q E s:=by
 obtain⟨hz,hti,⟨a,b,hto⟩,h1,h2⟩:=st
 have T:s.TypeIs (.ref z) "zip":=⟨_,hz,rfl⟩;have slot:=PySem.F.slot_zip_next;unfold pyNext;apply be2;apply br4;apply bj4 (name:=Str.ofString "__next__") T slot;apply bj8 slot T PySem.F.entry_zip_next _ (PySem.F.args_zip_next_1 _)
 change wpAny _ _ (field (.ref z) 2 >>= _) _ _ _
 apply be2;refine bi1 hz rfl (x:=.bool false) rfl ?_
 change wpAny _ _ (field (.ref z) 3 >>= _) _ _ _
 apply be2;refine bi1 hz rfl (x:=.ref TI) rfl ?_;apply be2;apply bt7 hti rfl
 change wpAny _ _ (Builtin.SmallTypes.ownedTupleIsFree (.ref z) >>= _) _ _ _
 apply be2;unfold Builtin.SmallTypes.ownedTupleIsFree;apply be2;refine bi1 hz rfl (x:=.none) rfl (be6 ?_);simp only[if_true];apply be2;apply wpAny_rule;apply be2;refine bi1 hz rfl (x:=.ref TO) rfl ?_;apply be2;refine bl6 hz (by simp) λg1 hz1 sb1=>?_
 have k1:∀c o,c≠z->s.heap.get? c=some o->g1.get? c=some o:=λc o c1 e=>sb1.extBut c o c1 e
 apply be2;simp only[List.zipIdx_cons,List.zipIdx_nil,List.forIn_cons,List.forIn_nil];apply be2;apply be2;apply wpAny_onRaise
 change wpAny _ _ (Builtin.SmallTypes.nextOf (.ref i1) >>= _) _ _ _
 apply be2;have z1:IsZip g1 z TI TO .ellipsis:=hz1;rcases le with rfl|⟨lt,rfl⟩
 ·refine D1.done { s with heap:=g1 } _ _ (D1.frame _ _ _ h1 λc hc o e=>k1 c o (λy=>ap.z1 (y▸hc)) e) λg2 e eb ex=>?_
  have z2:IsZip g2 z TI TO .ellipsis:=eb _ _ (iO ap ap.z1) z1;refine bl6 z2 (by simp) λg3 z3 sb3=>?_
  obtain⟨oe,eo,co⟩:=ex
  have ne:e≠z:=λy=>by
   rw[y,z2]at eo
   have:=bh9 eo
   rw[<- this]at co;exact absurd (show Value.type "zip" = Value.type "StopIteration" from co) (by decide)
  apply be2;refine wpAny_isInstance (T:="StopIteration") (b:=true) ⟨oe,sb3.extBut _ _ ne eo,co⟩ isSubtype_stop ?_;exact be6 (q g3 s.toks λc o c1 _ c3 _ e=>sb3.extBut c o c1 (eb c o c3 (k1 c o c1 e)))
 ·refine D1.item i { s with heap:=g1 } _ _ lt (D1.frame _ _ _ h1 λc hc o e=>k1 c o (λy=>ap.z1 (y▸hc)) e) λx g2 tk2 px st1 sb2=>be6 ?_
  have k2:∀c o,c≠z->c≠i1->s.heap.get? c=some o->g2.get? c=some o:=λc o c1 c2 e=>sb2.extBut c o c2 (k1 c o c1 e)
  have to2:IsPair g2 TO a b:=k2 _ _ ap.TOz (iO ap ap.o1) hto;apply be2;apply bt7 to2 rfl;apply be2;refine wpAny_updateSeq_pair to2 λg3 to3 sb3=>?_
  apply be2;apply wpAny_letGo;apply be6;apply be2;apply be2;apply wpAny_onRaise
  change wpAny _ _ (Builtin.SmallTypes.nextOf (.ref i2) >>= _) _ _ _
  apply be2;have k3:∀c o,c≠z->c≠i1->c≠TO->s.heap.get? c=some o->g3.get? c=some o:=λc o c1 c2 c3 e=>sb3.extBut c o c3 (k2 c o c1 c2 e)
  refine D2.done { s with heap:=g3,toks:=tk2 } _ _ (D2.frame _ _ _ h2 λc hc o e=>k3 c o (λy=>ap.z2 (y▸hc)) (λy=>ap.n1 (y▸hc)) (λy=>ap.o2 (y▸hc)) e) λg4 e eb ex=>?_
  have z4:IsZip g4 z TI TO .ellipsis:=eb _ _ (pB ap ap.z2) (sb3.extBut _ _ (Ne.symm ap.TOz) (sb2.extBut _ _ (iO ap ap.z1) z1));refine bl6 z4 (by simp) λg5 z5 sb5=>?_
  obtain⟨oe,eo,co⟩:=ex
  have ne:e≠z:=λy=>by
   rw[y,z4]at eo
   have:=bh9 eo
   rw[<- this]at co;exact absurd (show Value.type "zip" = Value.type "StopIteration" from co) (by decide)
  apply be2;refine wpAny_isInstance (T:="StopIteration") (b:=true) ⟨oe,sb5.extBut _ _ ne eo,co⟩ isSubtype_stop ?_;exact be6 (q g5 tk2 λc o c1 c2 c3 c4 e=>sb5.extBut c o c1 (eb c o c4 (k3 c o c1 c3 c2 e)))
end
noncomputable def fO (h:Heap)(t u:ar):Heap:=
 ((((h.push { cls:=.type "tuple_iterator",data:=.fields #[.ref t,.int 0 0] }).push { cls:=.type "tuple_iterator",data:=.fields #[.ref u,.int 0 0] }).push { cls:=.type "tuple",data:=.seq #[.ref h.objs.size,.ref (h.objs.size+1)] }).push
  { cls:=.type "tuple",data:=.seq #[.none,.none] }).push { cls:=.type "zip",data:=.fields #[.none,.bool false,.bool false,.ref (h.objs.size+2),.ref (h.objs.size+3)] }
theorem am7 (t u:ar)(xs ys:Array ao):Meets (Builtin.«zip.__new__» ⟨[.type "zip",.ref t,.ref u],[]⟩) (λ_ R s=>s.heap.IsTuple t xs/\s.heap.IsTuple u ys/\R (.ok (.ret (.ref (s.heap.objs.size+4)))) { s with heap:=fO s.heap t u }):=
 .of_wp λprog w A R s h=>by
  obtain⟨hp,g,d,tk,os⟩:=s
  obtain⟨ht,hu,h⟩:=h
  have sub:=sub_zip;have a1:Heap.IsTuple (Shared.heap ⟨hp,g,d,tk,os⟩) t xs:=ht;have a2:Heap.IsTuple (Shared.heap ⟨hp.push { cls:=.type "tuple_iterator",data:=.fields #[.ref t,.int 0 0] },g,d,tk,os⟩) u ys:=hu.elim λo y=>⟨o,be4 _ y.1,y.2⟩
  wp_walk using br1 a1,br1 a2
  have e:∀(o:Obj) (k:Heap),(k.push o).objs.size=k.objs.size+1:=λo k=>bp3 ..
  refine⟨_,rfl,?_⟩;simp only[fO,e]at h ⊢;exact h
section
variable {prog:av}{w:ax}{A:aw}{E:ao→aq→Prop}{s:aq}
theorem am8 {t u:ar}{xs ys:Array ao}{Q:ao->aq->Prop}(ht:s.heap.IsTuple t xs)(hu:s.heap.IsTuple u ys)(q:∀h',IsZip h' (s.heap.objs.size+4) (s.heap.objs.size+2) (s.heap.objs.size+3) .none->IsPair h' (s.heap.objs.size+2) (.ref s.heap.objs.size) (.ref (s.heap.objs.size+1))->
   IsPair h' (s.heap.objs.size+3) .none .none->h'.IsTupleIter s.heap.objs.size t 0->h'.IsTupleIter (s.heap.objs.size+1) u 0->(∀c o,s.heap.get? c=some o->h'.get? c=some o)->Q (.ref (s.heap.objs.size+4)) { s with heap:=h' }) :
  wpAny (model prog w) A (call (.type "zip") [.ref t,.ref u]) Q E s:=by
 refine callType_new PySem.F.called_zip (by decide) (PySem.F.typeCall_zip_2 _ _) (PySem.F.newCall_zip_2 _ _) (λobj=>PySem.F.args_object_init_3 obj _ _) PySem.F.entry_zip_new (am7 t u xs ys) ⟨ht,hu,?_⟩;have e:∀(o:Obj) (k:Heap),(k.push o).objs.size=k.objs.size+1:=λo k=>bp3 ..
 have p0:∀(k:Heap) (o:Obj) (m:Nat),o.isFreed=false->m=k.objs.size->(k.push o).get? m=some o:=λk o m f z=>by rw[z];exact bf0 _ f
 have g0:(fO s.heap t u).get? s.heap.objs.size=some { cls:=.type "tuple_iterator",data:=.fields #[.ref t,.int 0 0] }:=by
  unfold fO;exact be4 _ (be4 _ (be4 _ (be4 _ (p0 _ _ _ rfl rfl))))
 have g1:(fO s.heap t u).get? (s.heap.objs.size+1)=some { cls:=.type "tuple_iterator",data:=.fields #[.ref u,.int 0 0] }:=by
  unfold fO;exact be4 _ (be4 _ (be4 _ (p0 _ _ _ rfl (by simp only[e]))))
 have g2:(fO s.heap t u).get? (s.heap.objs.size+2)=some { cls:=.type "tuple",data:=.seq #[.ref s.heap.objs.size,.ref (s.heap.objs.size+1)] }:=by
  unfold fO;exact be4 _ (be4 _ (p0 _ _ _ rfl (by simp only[e])))
 have g3:(fO s.heap t u).get? (s.heap.objs.size+3)=some { cls:=.type "tuple",data:=.seq #[.none,.none] }:=by
  unfold fO;exact be4 _ (p0 _ _ _ rfl (by simp only[e]))
 have g4:(fO s.heap t u).get? (s.heap.objs.size+4)=some { cls:=.type "zip",data:=.fields #[.none,.bool false,.bool false,.ref (s.heap.objs.size+2),.ref (s.heap.objs.size+3)] }:=by
  unfold fO;exact p0 _ _ _ rfl (by simp only[e])
 refine⟨⟨_,g4,rfl⟩,q _ g4 g2 g3 ⟨_,g0,rfl,rfl⟩ ⟨_,g1,rfl,rfl⟩ λc o z=>?_⟩;unfold fO;exact be4 _ (be4 _ (be4 _ (be4 _ (be4 _ z))))
end
end Zp
namespace L2
open PySem PySem.Spec PyProof.Rows
noncomputable def tO (K:ac)(a b:ar):It:=
  ⟨λi H=>∃xs ys x y,aW K H a xs/\aW K H b ys/\xs[i]? = some x/\ys[i]? = some y,
   λi H v H'=>∃T x y,H T=none/\v = .ref T/\H'=upd H T (.tup [x,y])/\∀xs ys,aW K H a xs->aW K H b ys->xs[i]? = some x/\ys[i]? = some y,
   λi H=>∃xs ys,aW K H a xs/\aW K H b ys/\(i=xs.length∨(i<xs.length/\i=ys.length))⟩
noncomputable def Sq (t:Bool)(K:ac)(H:Hp)(a:ar)(xs:List V):Prop:=match t with
 |true=>aW K H a xs
 |false=>aV K H a xs
noncomputable def fP (t:Bool)(h:Heap)(i a:ar)(n:Nat):Prop:=match t with
 |true=>h.IsTupleIter i a n
 |false=>h.IsListIter i a n
noncomputable def zS (t:Bool)(h:Heap)(a:ar)(xs:Array ao):Prop:=match t with
 |true=>h.IsTuple a xs
 |false=>h.IsList a xs
theorem fP.at {h h':Heap}{i a:ar}{n:Nat}:∀{t:Bool},fP t h i a n->(∀o,h.get? i=some o->h'.get? i=some o)->fP t h' i a n
 |true,x,k=>Heap.IsTupleIter.at x k
 |false,x,k=>Heap.IsListIter.at x k
theorem fP.ob {h:Heap}{i a:ar}{n:Nat}:∀{t:Bool},fP t h i a n->∃o,h.get? i=some o/\∀v,o.data≠.cell v
 |true,⟨o,f,_,d⟩=>⟨o,f,λv q=>by rw[d]at q;cases q⟩
 |false,⟨o,f,_,d⟩=>⟨o,f,λv q=>by rw[d]at q;cases q⟩
theorem fP.draws {prog:av}{w:ax}{A:aw}:∀(t:Bool) (hh:A.handled=none) (it a:ar) (ne:a≠it) (items:Array ao),Draws prog w A it [it,a] items.size (λi v=>items[i]? = some v) (λi h=>fP t h it a i/\zS t h a items)
 |true,hh,it,a,ne,items=>Zp.am6 hh it a ne items
 |false,hh,it,a,ne,items=>Draws.list hh it a ne items
section
variable {X:Cx}{af:List (ar×Obj)}{σ:St}{H:Hp}{s:aq}{a:ar}{xs ys:List V}
theorem Sq.get (I:aE X af σ H s):∀{t:Bool},Sq t X.K H a xs->∃us,aY xs us/\zS t s.heap a us.toArray
 |true,h=>by obtain⟨us,r,p,_⟩:=I.tuple h;exact⟨us,r,p⟩
 |false,h=>by obtain⟨us,r,p,_⟩:=I.list h;exact⟨us,r,p.isList⟩
theorem Sq.inj (I:aE X af σ H s):∀{t:Bool},Sq t X.K H a xs->Sq t X.K H a ys->xs=ys
 |true,h,g=>I.tuple_inj h g
 |false,h,g=>I.list_inj h g
theorem Sq.off (I:aE X af σ H s)(he:H a=none)(hb:X.base.get? a=none):∀{t:Bool},Sq t X.K H a xs->False
 |true,h=>by
  rcases h with (h|⟨_,h⟩)|⟨o,_,_,h,_⟩
  ·rw[he]at h;cases h
  ·rw[he]at h;cases h
  ·have:=I.ok.mod.kin a o h
   rw[hb]at this;cases this
 |false,h=>by
  rcases h with (h|⟨_,h⟩)|⟨o,_,_,h,_⟩
  ·rw[he]at h;cases h
  ·rw[he]at h;cases h
  ·have:=I.ok.mod.kin a o h
   rw[hb]at this;cases this
end
noncomputable def am9 (t1 t2:Bool)(K:ac)(a b:ar):It:=
  ⟨λi H=>∃xs ys x y,Sq t1 K H a xs/\Sq t2 K H b ys/\xs[i]? = some x/\ys[i]? = some y,
   λi H v H'=>∃T x y,H T=none/\v = .ref T/\H'=upd H T (.tup [x,y])/\∀xs ys,Sq t1 K H a xs->Sq t2 K H b ys->xs[i]? = some x/\ys[i]? = some y,
   λi H=>∃xs ys,Sq t1 K H a xs/\Sq t2 K H b ys/\(i=xs.length∨(i<xs.length/\i=ys.length))⟩
structure tP (t1 t2:Bool)(z TI TO i1 i2 a b:ar)(i:Nat)(h:Heap):Prop where
 zz:IsZip h z TI TO .none
 ti:IsPair h TI (.ref i1) (.ref i2)
 to_:∃x y,IsPair h TO x y
 s1:fP t1 h i1 a i
 s2:fP t2 h i2 b i
theorem zT (t1 t2:Bool){P:av}{w:ax}{K:ac}{elts:List Expr}{k:Nat}{pos:Pos}(a b z TI TO i1 i2:ar)(d:[z,TI,TO,i1,i2].Nodup) :
  fN P w K (.Tuple elts k pos) (am9 t1 t2 K a b) [z,TI,TO,i1,i2] z (tP t1 t2 z TI TO i1 i2 a b):=by
 have nd:z≠TI/\z≠TO/\z≠i1/\z≠i2/\TI≠TO/\TI≠i1/\TI≠i2/\TO≠i1/\TO≠i2/\i1≠i2:=by
  simp only[List.nodup_cons,be8,bf1,bi2,not_or]at d
  obtain⟨⟨a1,a2,a3,a4⟩,⟨b1,b2,b3⟩,⟨c1,c2⟩,e1,_⟩:=d
  exact⟨a1,a2,a3,a4,b1,b2,b3,c1,c2,e1⟩
 obtain⟨n1,n2,n3,n4,n5,n6,n7,n8,n9,n10⟩:=nd
 have offBase:∀{X:Cx}{af:List (ar×Obj)}{σ:St}{H:Hp}{s:aq},aE X af σ H s->(∀c∈[z,TI,TO,i1,i2],eM X af H c)->∀c∈[z,TI,TO,i1,i2],X.base.get? c=none:=by
  intro X af σ H s I hf c hc;cases q:X.base.get? c with
  |none=>rfl
  |some o=>
   rcases (hf c hc).2.2.2.1 with h|h
   ·exact absurd h (I.ok.noex c o q)
   ·exact absurd (bf2 (bf4 q) (bj5 I.ok.bsz h)) (bj9 _)
 have off:∀{t:Bool}{X:Cx}{af:List (ar×Obj)}{σ:St}{H:Hp}{s:aq}{c:ar}{zs:List V},aE X af σ H s->(∀c∈[z,TI,TO,i1,i2],eM X af H c)->Sq t X.K H c zs->c∉[z,TI,TO,i1,i2]:=by
  intro t X af σ H s c zs I hf hc hm;exact Sq.off I (hf c hm).1 (offBase I hf c hm) hc
 have ap:∀{c e:ar},c∉[z,TI,TO,i1,i2]->e∉[z,TI,TO,i1,i2]->Zp.Ap z TI TO i1 i2 [i1,c] [i2,e]:=λ{c e} hc he=>by
  simp only[be8,bf1,bi2,not_or]at hc he
  obtain⟨c1,c2,c3,c4,c5⟩:=hc
  obtain⟨e1,e2,e3,e4,e5⟩:=he
  have two:∀{q u v:ar},q≠u->q≠v->q∉[u,v]:=λ{q u v} h1 h2 hm=>by
   simp only[be8,bf1,bi2]at hm;exact hm.elim h1 h2
  exact⟨n1.symm,n2.symm,n5,two n3 (Ne.symm c1),two n4 (Ne.symm e1),two n8 (Ne.symm c3),two n9 (Ne.symm e3),two n6 (Ne.symm c2),two n7 (Ne.symm e2),bj0,bj0,two n10 (Ne.symm e4),two n10.symm (Ne.symm c5)⟩
 refine⟨by simp,λi h st c hc=>?_,λi h h' st kp=>?_,?_,?_,λA i s Q E st q=>wpAny_pyIter_zip st.zz q⟩
 ·simp only[be8,bf1,bi2]at hc
  obtain⟨x,y,to⟩:=st.to_
  rcases hc with rfl|rfl|rfl|rfl|rfl
  ·exact⟨_,st.zz,λv q=>by cases q⟩
  ·exact⟨_,st.ti,λv q=>by cases q⟩
  ·exact⟨_,to,λv q=>by cases q⟩
  ·exact st.s1.ob
  ·exact st.s2.ob
 ·obtain⟨x,y,to⟩:=st.to_
  exact⟨kp z (by simp) _ st.zz,kp TI (by simp) _ st.ti,⟨x,y,kp TO (by simp) _ to⟩,st.s1.at λo e=>kp i1 (by simp) o e,st.s2.at λo e=>kp i2 (by simp) o e⟩
 ·
  intro X hP hw hK hc i af s σ H E I hf st hg;subst hP hw hK
  obtain⟨xs,ys,x,y,ha,hb,hx,hy⟩:=hg
  obtain⟨us,ru,pu⟩:=Sq.get I ha
  obtain⟨vs,rv,pv'⟩:=Sq.get I hb
  obtain⟨ux,eux,rux⟩:=ru.get hx
  obtain⟨vy,evy,rvy⟩:=rv.get hy
  have fa:=off I hf ha;have fb:=off I hf hb;have hh:X.A.in1.handled=none:=I.ok.hd hc;have l1:i<us.toArray.size:=by simpa using (bf7.mp eux).1
  have l2:i<vs.toArray.size:=by simpa using (bf7.mp evy).1
  have fa':a≠i1:=λq=>fa (by rw[q];simp)
  have fb':b≠i2:=λq=>fb (by rw[q];simp)
  have D1:=fP.draws t1 (prog:=X.prog) (w:=X.w) hh i1 a fa' us.toArray;have D2:=fP.draws t2 (prog:=X.prog) (w:=X.w) hh i2 b fb' vs.toArray;refine Zp.item D1 D2 (ap fa fb) l1 l2 ⟨st.zz,st.ti,st.to_,⟨st.s1,pu⟩,⟨st.s2,pv'⟩⟩ λp q h' tk hp hq st' pr kp sz=>⟨_,rfl,?_⟩
  obtain rfl:p=ux:=by
   have:us.toArray[i]? = some ux:=by simpa using eux
   rw[this]at hp;exact (bh9 hp).symm
  obtain rfl:q=vy:=by
   have:vs.toArray[i]? = some vy:=by simpa using evy
   rw[this]at hq;exact (bh9 hq).symm
  refine wpAny_letOwnedTupleGo_zip (s:={ s with heap:=h',toks:=tk }) st'.zz λg zz sb=>?_
  have hzl:z<s.heap.objs.size:=bf4 st.zz;have up:∀c o,c≠z->c≠TO->c≠i1->c≠i2->s.heap.get? c=some o->g.get? c=some o:=λc o c1 c2 c3 c4 e=>sb.extBut c o c1 (kp c o c1 c2 c3 c4 e)
  have hT:H s.heap.objs.size=none:=I.hok.fresh (be7 _);have prG:IsPair g s.heap.objs.size p q:=sb.extBut _ _ (bl4 hzl) pr;have fpn:∀c u,H c=some u->c∉[z,TI,TO,i1,i2]:=λc u e hm=>by rw[(hf c hm).1]at e;cases e
  have upH:∀c o u,H c=some u->s.heap.get? c=some o->g.get? c=some o:=λc o u e z=>by
   have:=fpn c u e
   simp only[be8,bf1,bi2,not_or]at this;exact up c o this.1 this.2.2.1 this.2.2.2.1 this.2.2.2.2 z
  have ns:∀m,s.heap.Ns X.env.locals m->g.Ns X.env.locals m:=λm hm=>by
   obtain⟨o,es,ep,e1,e2⟩:=hm
   exact⟨o,es,ep,up _ o (Ne.symm (hf z (by simp)).2.1) (Ne.symm (hf TO (by simp)).2.1) (Ne.symm (hf i1 (by simp)).2.1) (Ne.symm (hf i2 (by simp)).2.1) e1,e2⟩
  have I2:aE X af σ (upd H s.heap.objs.size (.tup [x,y])) { s with heap:=g,toks:=tk }:=by
   refine I.step (g':=s.gens) (d':=s.drawn) (ch:=[z,TO,i1,i2]) (λc hc'=>?_) (λc o _ _ hc' e _=>?_) (λc o _ _ hc' e _=>⟨o.slots,?_⟩) (λc o _ e n=>?_) (λc o hc' e=>⟨o,?_⟩)
    (λc zs e=>by rw[b6 (cU e hT)];exact e) (λc u zs e=>by rw[b6 (cU e hT)];exact e) (λc ps e=>⟨#[],by rw[b6 (cU e hT),e];simp⟩) ns (λc u e=>?_) I.bare
   ·have hm:c∈[z,TI,TO,i1,i2]:=by
     simp only[be8,bf1,bi2]at hc' ⊢;rcases hc' with h|h|h|h<;>simp[h]
    exact⟨(hf c hm).2.2.2.1,(hf c hm).2.1,(hf c hm).2.2.2.2.1,(hf c hm).2.2.2.2.2⟩
   ·simp only[be8,bf1,bi2,not_or]at hc'
    exact up c o hc'.1 hc'.2.1 hc'.2.2.1 hc'.2.2.2 e
   ·simp only[be8,bf1,bi2,not_or]at hc'
    exact up c o hc'.1 hc'.2.1 hc'.2.2.1 hc'.2.2.2 e
   ·rw[b6 (bh6 (bf4 e))];exact n
   ·simp only[be8,bf1,bi2,not_or]at hc'
    exact up c o hc'.1 hc'.2.1 hc'.2.2.1 hc'.2.2.2 e
   ·by_cases hcT:c=s.heap.objs.size
    ·subst hcT
     rw[bD]at e;cases e
     exact⟨by show 2<=sizeLine;decide,[p,q],.cons rux (.cons rvy .nil),⟨_,prG,rfl,_,rfl⟩,λu e=>by rw[prG]at e;cases e;rfl⟩
    ·rw[b6 hcT]at e
     refine (I.hok c u e).stay (λc' o' hc2 q'=>?_) (λc' q'=>by rw[b6 (cU q' hT)];exact q') λc' zs q'=>by rw[b6 (cU q' hT)];exact q'
     rcases hc2 with rfl|hc2
     ·exact upH _ _ _ e q'
     ·exact upH _ _ _ hc2 q'
  obtain⟨x',y',to'⟩:=st'.to_
  refine⟨.ref s.heap.objs.size,_,I2,rfl,⟨_,x,y,hT,rfl,rfl,λxs' ys' ha' hb'=>?_⟩,⟨zz,sb.extBut _ _ n1.symm st'.ti,⟨x',y',sb.extBut _ _ n2.symm to'⟩,st'.s1.1.at λo e=>sb.extBut _ o n3.symm e,st'.s2.1.at λo e=>sb.extBut _ o n4.symm e⟩,λc hc'=>?_⟩
  ·rw[Sq.inj I ha' ha,Sq.inj I hb' hb];exact⟨hx,hy⟩
  ·obtain⟨o,e,_⟩:∃o,s.heap.get? c=some o/\True:=by
    simp only[be8,bf1,bi2]at hc'
    obtain⟨x2,y2,to2⟩:=st.to_
    obtain⟨o1,f1,_⟩:=st.s1.ob
    obtain⟨o2,f2,_⟩:=st.s2.ob
    rcases hc' with rfl|rfl|rfl|rfl|rfl
    ·exact⟨_,st.zz,trivial⟩
    ·exact⟨_,st.ti,trivial⟩
    ·exact⟨_,to2,trivial⟩
    ·exact⟨_,f1,trivial⟩
    ·exact⟨_,f2,trivial⟩
   rw[b6 (bh6 (bf4 e))];exact (hf c hc').1
 ·
  intro X hP hw hK hc i af s σ H E I hf st hg;subst hP hw hK
  obtain⟨xs,ys,ha,hb,hi⟩:=hg
  obtain⟨us,ru,pu⟩:=Sq.get I ha
  obtain⟨vs,rv,pv'⟩:=Sq.get I hb
  have fa:=off I hf ha;have fb:=off I hf hb;have hh:X.A.in1.handled=none:=I.ok.hd hc;have fa':a≠i1:=λq=>fa (by rw[q];simp)
  have fb':b≠i2:=λq=>fb (by rw[q];simp)
  have D1:=fP.draws t1 (prog:=X.prog) (w:=X.w) hh i1 a fa' us.toArray;have D2:=fP.draws t2 (prog:=X.prog) (w:=X.w) hh i2 b fb' vs.toArray;have e1:=ru.length;have e2:=rv.length;refine Zp.fin D1 D2 (ap fa fb) (by simp only[be5];omega) ⟨st.zz,st.ti,st.to_,⟨st.s1,pu⟩,⟨st.s2,pv'⟩⟩ λg tk kp=>⟨rfl,?_⟩
  have fpn:∀c u,H c=some u->c∉[z,TI,TO,i1,i2]:=λc u e hm=>by rw[(hf c hm).1]at e;cases e
  have upH:∀c o u,H c=some u->s.heap.get? c=some o->g.get? c=some o:=λc o u e z=>by
   have:=fpn c u e
   simp only[be8,bf1,bi2,not_or]at this;exact kp c o this.1 this.2.2.1 this.2.2.2.1 this.2.2.2.2 z
  have ns:∀m,s.heap.Ns X.env.locals m->g.Ns X.env.locals m:=λm hm=>by
   obtain⟨o,es,ep,e1,e2⟩:=hm
   exact⟨o,es,ep,kp _ o (Ne.symm (hf z (by simp)).2.1) (Ne.symm (hf TO (by simp)).2.1) (Ne.symm (hf i1 (by simp)).2.1) (Ne.symm (hf i2 (by simp)).2.1) e1,e2⟩
  refine I.step (g':=s.gens) (d':=s.drawn) (ch:=[z,TO,i1,i2]) (λc hc'=>?_) (λc o _ _ hc' e _=>?_) (λc o _ _ hc' e _=>⟨o.slots,?_⟩) (λc o _ e n=>n) (λc o hc' e=>⟨o,?_⟩)
   (λc zs e=>e) (λc u zs e=>e) (λc ps e=>⟨#[],by rw[e];simp⟩) ns (λc u e=>?_) I.bare
  ·have hm:c∈[z,TI,TO,i1,i2]:=by
    simp only[be8,bf1,bi2]at hc' ⊢;rcases hc' with h|h|h|h<;>simp[h]
   exact⟨(hf c hm).2.2.2.1,(hf c hm).2.1,(hf c hm).2.2.2.2.1,(hf c hm).2.2.2.2.2⟩
  ·simp only[be8,bf1,bi2,not_or]at hc'
   exact kp c o hc'.1 hc'.2.1 hc'.2.2.1 hc'.2.2.2 e
  ·simp only[be8,bf1,bi2,not_or]at hc'
   exact kp c o hc'.1 hc'.2.1 hc'.2.2.1 hc'.2.2.2 e
  ·simp only[be8,bf1,bi2,not_or]at hc'
   exact kp c o hc'.1 hc'.2.1 hc'.2.2.1 hc'.2.2.2 e
  ·refine (I.hok c u e).stay (λc' o' hc2 q'=>?_) (λ_ q'=>q') λ_ _ q'=>q'
   rcases hc2 with rfl|hc2
   ·exact upH _ _ _ e q'
   ·exact upH _ _ _ hc2 q'
noncomputable abbrev an0:=tP true true
theorem an1 {P:av}{w:ax}{K:ac}{elts:List Expr}{k:Nat}{pos:Pos}(a b z TI TO i1 i2:ar)(d:[z,TI,TO,i1,i2].Nodup) :
  fN P w K (.Tuple elts k pos) (tO K a b) [z,TI,TO,i1,i2] z (an0 z TI TO i1 i2 a b):=zT true true a b z TI TO i1 i2 d
section
variable {X:Cx}
noncomputable def an2 (K:ac)(ta:TA):TI:=λσ H R=>ta σ H λvs H1=>∃a b xs ys,vs = [.ref a,.ref b]/\aW K H1 a xs/\aW K H1 b ys/\R (tO K a b) H1
theorem an3 {elts:List Expr}{kt:Nat}{pt:Pos}{a b:Expr}{ta:TA}{p pos:Pos}(hg:Gl X "zip")(hm:X.mg "zip" = none)(ha:PA X [a,b] ta)(hs:starEach [a,b] X.env = [(false,eval a X.env),(false,eval b X.env)]:=by rfl)(hs2:starEach [b] X.env = [(false,eval b X.env)]:=by rfl) :
  PI X (.Tuple elts kt pt) (.Call (.Name "zip" p) [a,b] [] pos) (an2 X.K ta):=by
 intro af s σ H R I h;refine Call_ (gO I hg hm PyProof.Rows.boot_zip (bj6 (aT (ha pos af s σ H _ I h) λus s1 ⟨vs,H1,I1,r1,q1⟩=>?_) (by rw[hs,hs2]) (by rw[hs2];rfl)))
 obtain⟨a',b',xs,ys,e,h1,h2,q⟩:=q1
 subst e;cases r1 with
 |cons r rr=>
  cases rr with
  |cons r' rr=>
   cases rr;cases r;cases r'
   obtain⟨us,_,p1,_⟩:=I1.tuple h1
   obtain⟨ws,_,p2,_⟩:=I1.tuple h2
   refine Zp.am8 p1 p2 λh' z ti to s1' s2' kp=>wpAny_pyIter_zip z ?_
   have fresh:∀k,H1 (s1.heap.objs.size+k)=none:=λk=>I1.hok.fresh (bl2 _ _)
   refine⟨s1.heap.objs.size+4,[s1.heap.objs.size+4,s1.heap.objs.size+2,s1.heap.objs.size+3,s1.heap.objs.size,s1.heap.objs.size+1],_,_,H1,rfl,I1.kept (t':=s1.toks) kp,
    an1 a' b' _ _ _ _ _ (by simp),⟨z,ti,⟨_,_,to⟩,s1',s2'⟩,λc hc=>?_,q⟩
   simp only[be8,bf1,bi2]at hc;rcases hc with rfl|rfl|rfl|rfl|rfl
   ·exact I1.fpOk (bl2 _ _) (fresh 4)
   ·exact I1.fpOk (bl2 _ _) (fresh 2)
   ·exact I1.fpOk (bl2 _ _) (fresh 3)
   ·exact I1.fpOk (be7 _) (fresh 0)
   ·exact I1.fpOk (bl2 _ _) (fresh 1)
theorem tQ (hc:X.calm=true):cV X (.builtin "all") (λxs H Q=>∃(a:ar) (bs:List Bool),xs = [.ref a]/\aV X.K H a (bs.map V.bl)/\Q (.bl (bs.all id)) H):=by
 intro af s σ H xs us Q I r h
 obtain⟨a,bs,rfl,hq,q⟩:=h
 obtain⟨u,rfl,ru⟩:=eW r
 cases ru
 obtain⟨its,rv,p,hz⟩:=I.list hq
 have hl:=rv.length;rw[be9]at hl;have hlt:a<s.heap.objs.size:=by obtain⟨o,e,_⟩:=p.isList;exact bf4 e
 refine call_all_walk (wpAny_pyIter_list p.isList ?_);have hh:X.A.in1.handled=none:=I.ok.hd hc;refine⟨s.heap.objs.size,_,_,_,_,_,λi=>bs.getD i false,rfl,Walks.list hh s.heap.objs.size a (bh6 hlt) its.toArray,⟨⟨_,bf0 _ rfl,rfl,rfl⟩,p.isList.push _⟩,?_,λh' tk kp=>?_⟩
 ·intro i v s' Q' E' hP hQ'
  have hi:its[i]? = some v:=by simpa using hP
  have hil:i<bs.length:=by rw[hl];exact (bf7.mp hi).1
  obtain⟨u,e1,e2⟩:=rv.get (i:=i) (x:=.bl bs[i]) (by simp[hil])
  rw[hi]at e1;cases e1;cases e2
  have:bs.getD i false=bs[i]:=by rw[bi3,bf3 hil];rfl
  have hQ2:Q' (bs.getD i false) s':=hQ';rw[this]at hQ2;exact br9 hQ2
 ·have all_eq:(List.range its.toArray.size).all (λi=>bs.getD i false)=bs.all id:=by
   rw[be5,<- hl];clear q rv hz hl hq hlt p hh kp
   induction bs with
   |nil=>rfl
   |cons b r ih=>
    rw[bm3,List.range_succ_eq_map,List.all_cons,List.all_map,List.all_cons,<- ih];rfl
  rw[all_eq];refine⟨.bl (bs.all id),H,I.kept (t':=tk) (h':=h') λb o e=>kp b o (λz=>?_) (be4 _ e),rfl,q⟩;rw[bh5.mp z]at e;exact absurd (bf4 e) (bj9 _)
end
structure tR (H:Hp)(J:It)(n:Nat)(R:Nat->V->Hp->Prop):Prop where
 go:∀i H',aI H H'->i<n->J.go i H'
 yld:∀i H' x H2,aI H H'->J.yld i H' x H2->i<n->aI H' H2/\R i x H2
 stop:∀H',aI H H'->J.stop n H'
theorem tS {H1:Hp}{J:It}{n:Nat}{R:Nat->V->Hp->Prop}{g:TG}{tc:TT}{te:TE}{σ0:St}{Q:VK}(O:tR H1 J n R)(Pv:Nat->List V->Hp->Prop)(hn:n<=sizeLine)(h0:∀D,H1 D=none->Pv 0 [] (upd H1 D (.lst [])))(mono:∀i acc H' H2,aI H' H2->Pv i acc H'->Pv i acc H2)(hs:∀i x acc D H',i<n->R i x H'->p6 H1 D n i acc H'->Pv i acc H'->g x σ0 H' λσ2 H3=>Wk σ0 σ2/\tc σ2 H3 λb H4=>
   if b=true then te σ2 H4 λv H5=>tL H1 D n Pv i acc v H5 else zN H1 D n Pv i acc H4)(hd:∀D acc H',H1 D=none->aI H1 H'->H' D=some (.lst acc)->acc.length<=n->Pv n acc H'->Q (.ref D) H') :
  ∀D,H1 D=none->∃W:Nat->Nat->List V->Hp->Prop,(∃m,W 0 m [] (upd H1 D (.lst [])))/\k7 g tc te σ0 J D Q W:=by
 intro D hD;refine⟨CW H1 D n Pv,⟨n,rfl,bo1 _,be7 _,bC hD _,bD,h0 D hD⟩,?_⟩;rintro i m acc H' ⟨rfl,hi,ha,sm,hDa,p⟩;refine⟨hDa,?_⟩;by_cases hlt:i<n
 ·refine .inr ⟨O.go i H' sm hlt,λx H2 y=>?_⟩
  obtain⟨s2,r2⟩:=O.yld i H' x H2 sm y hlt
  exact hs i x acc D H2 hlt r2 ⟨hlt,ha,hn,sm.trans s2,hD,s2 _ _ hDa⟩ (mono i acc H' H2 s2 p)
 ·have e:i=n:=by omega
  subst e;exact .inl ⟨O.stop H' sm,hd D acc H' hD sm hDa ha p⟩
theorem zU {K:ac}{H:Hp}{a b:ar}{xs ys:List V}(ha:aW K H a xs)(hb:aW K H b ys)(hl:ys.length<=xs.length) :
  tR H (tO K a b) ys.length (λi v H2=>∃T x y,v = .ref T/\H2 T=some (.tup [x,y])/\xs[i]? = some x/\ys[i]? = some y):=by
 refine⟨λi H' sm hi=>⟨xs,ys,xs[i]'(by omega),ys[i],sm.tup ha,sm.tup hb,by simp,by simp⟩,λi H' v H2 sm y hi=>?_,λH' sm=>⟨xs,ys,sm.tup ha,sm.tup hb,by omega⟩⟩
 obtain⟨T,x,y',hT,hv,e,hxy⟩:=y
 subst e
 obtain⟨h1,h2⟩:=hxy xs ys (sm.tup ha) (sm.tup hb)
 exact⟨bC hT _,T,x,y',hv,bD,h1,h2⟩
end L2
namespace HT
open PySem PyProof.Rows
section
variable {prog:av}{w:ax}{A:aw}{E:ao→aq→Prop}{s:aq}
theorem an4 {t sl:ar}{items:Array ao}{vl vu:ao}{lo hi:Option Int}{Q:ao->aq->Prop}(ht:IsTup s.heap t items)(hs:s.heap.IsSliceOf sl vl vu .none)(pl:IsPart vl lo)(pu:IsPart vu hi)(h1:b8 items.size 0 lo=0)(h2:b8 items.size items.size hi=items.size)(h:Q (.ref t) s):wpAny (model prog w) A (getItem (.ref t) (.ref sl)) Q E s:=by
 obtain⟨o,e1,e2,e3⟩:=id hs
 have T:s.TypeIs (.ref sl) "slice":=⟨o,e1,e2⟩;unfold getItem
 try with_reducible refine bv6 ?_
 first|refine be2 (be6 ?_)|skip
 apply be2;apply wpAny_sequenceKey ht.typeIs (by decide);apply be2;apply bj4 (name:=Str.ofString "__getitem__") ht.typeIs bq9;apply bj8 bq9 ht.typeIs entry_tuple_getitem _ (args_tuple_getitem _ _)
 change wpAny _ _ (Builtin.Tuple.tupleItemsOf (.ref t) >>= _) _ _ s
 apply be2;apply tupleItemsOf_ ht;apply be2;apply wpAny_typeOf T;rw[if_pos (by decide)];apply be2;apply yB hs pl pu;rw[h1,h2];have yes:((((0:Nat):Int)==0&&(1:Int)==1&&(items.size-0)==items.size)=true):=by simp
 change wpAny _ _ (if ((((0:Nat):Int)==0&&(1:Int)==1&&(items.size-0)==items.size)=true) then _ else _) _ _ s
 rw[if_pos yes];apply be2;unfold Builtin.Tuple.tupleIsExact;apply be2;apply wpAny_typeOf ht.typeIs;apply be6
 change wpAny _ _ (rule "tuple.getitem.whole" >>= λ_=>ret (Value.ref t)) _ _ s
 apply be2;apply wpAny_rule;exact be6 ⟨_,rfl,be6 h⟩
end
end HT
namespace L2
open PySem PySem.Spec PyProof.Rows
section
variable {X:Cx}
noncomputable def an5 (K:ac):V->Option Int->Option Int->Hp->VK->Prop:=λx lo hi H Q=>∃a xs,x = .ref a/\aW K H a xs/\(∀p,H p=none->Q (.ref p) (upd H p (.tup (eD xs lo hi))))/\(eD xs lo hi=xs->Q (.ref a) H)
theorem zV:jD X (an5 X.K):=by
 intro af s σ H x v vl vu lo hi sl Q I rx hs pl pu h
 obtain⟨a,xs,ex,hx,q1,q2⟩:=h
 by_cases hw:HT.b8 xs.length 0 lo=0/\HT.b8 xs.length xs.length hi=xs.length
 ·subst ex
  cases rx
  obtain⟨its,r,ht,hz⟩:=I.tuple hx
  have ai:its.toArray.size=xs.length:=by rw[be5];exact r.length.symm
  refine⟨"tuple",_,PyProof.Rows.slot_tuple_getitem.lookup,ht.typeIs,?_⟩;refine HT.an4 ht hs pl pu (by rw[ai];exact hw.1) (by rw[ai];exact hw.2) ⟨.ref a,H,I,rfl,q2 ?_⟩;unfold eD;rw[hw.1,hw.2];simp
 ·exact ah0 af s σ H x v vl vu lo hi sl Q I rx hs pl pu ⟨a,xs,ex,hx,hw,q1⟩
end
theorem tT (xs:List V):eD xs (some 1) none=xs.drop 1:=by
 unfold eD;have e1:HT.b8 xs.length 0 (some 1)=min 1 xs.length:=HT.ag1 xs.length 0 1;have e2:HT.b8 xs.length xs.length none=xs.length:=rfl;rw[e1,e2];cases xs with
 |nil=>rfl
 |cons x r=>
  have:min 1 (x::r).length=1:=by simp
  rw[this];simp
noncomputable def tU (K:ac)(a b:ar):It:=
  ⟨λi H=>∃xs ys x y,aV K H a xs/\aV K H b ys/\xs[i]? = some x/\ys[i]? = some y,
   λi H v H'=>∃T x y,H T=none/\v = .ref T/\H'=upd H T (.tup [x,y])/\∀xs ys,aV K H a xs->aV K H b ys->xs[i]? = some x/\ys[i]? = some y,
   λi H=>∃xs ys,aV K H a xs/\aV K H b ys/\(i=xs.length∨(i<xs.length/\i=ys.length))⟩
noncomputable abbrev an6:=tP false false
theorem an7 {P:av}{w:ax}{K:ac}{elts:List Expr}{k:Nat}{pos:Pos}(a b z TI TO i1 i2:ar)(d:[z,TI,TO,i1,i2].Nodup) :
  fN P w K (.Tuple elts k pos) (tU K a b) [z,TI,TO,i1,i2] z (an6 z TI TO i1 i2 a b):=zT false false a b z TI TO i1 i2 d
section
variable {X:Cx}
noncomputable def an8 (K:ac)(ta:TA):TI:=λσ H R=>ta σ H λvs H1=>∃a b xs ys,vs = [.ref a,.ref b]/\aV K H1 a xs/\aV K H1 b ys/\R (tU K a b) H1
theorem an9 {elts:List Expr}{kt:Nat}{pt:Pos}{a b:Expr}{ta:TA}{p pos:Pos}(hg:Gl X "zip")(hm:X.mg "zip" = none)(ha:PA X [a,b] ta)(hs:starEach [a,b] X.env = [(false,eval a X.env),(false,eval b X.env)]:=by rfl)(hs2:starEach [b] X.env = [(false,eval b X.env)]:=by rfl) :
  PI X (.Tuple elts kt pt) (.Call (.Name "zip" p) [a,b] [] pos) (an8 X.K ta):=by
 intro af s σ H R I h;refine Call_ (gO I hg hm PyProof.Rows.boot_zip (bj6 (aT (ha pos af s σ H _ I h) λus s1 ⟨vs,H1,I1,r1,q1⟩=>?_) (by rw[hs,hs2]) (by rw[hs2];rfl)))
 obtain⟨a',b',xs,ys,e,h1,h2,q⟩:=q1
 subst e;cases r1 with
 |cons r rr=>
  cases rr with
  |cons r' rr=>
   cases rr;cases r;cases r'
   obtain⟨us,_,p1,_⟩:=I1.list h1
   obtain⟨ws,_,p2,_⟩:=I1.list h2
   refine call_zip_2 p1.isList p2.isList λh' z ti to s1' s2' _ kp=>wpAny_pyIter_zip z ?_
   have fresh:∀k,H1 (s1.heap.objs.size+k)=none:=λk=>I1.hok.fresh (bl2 _ _)
   refine⟨s1.heap.objs.size+4,[s1.heap.objs.size+4,s1.heap.objs.size+2,s1.heap.objs.size+3,s1.heap.objs.size,s1.heap.objs.size+1],_,_,H1,rfl,I1.kept (t':=s1.toks) kp,
    an7 a' b' _ _ _ _ _ (by simp),⟨z,ti,⟨_,_,to⟩,s1',s2'⟩,λc hc=>?_,q⟩
   simp only[be8,bf1,bi2]at hc;rcases hc with rfl|rfl|rfl|rfl|rfl
   ·exact I1.fpOk (bl2 _ _) (fresh 4)
   ·exact I1.fpOk (bl2 _ _) (fresh 2)
   ·exact I1.fpOk (bl2 _ _) (fresh 3)
   ·exact I1.fpOk (be7 _) (fresh 0)
   ·exact I1.fpOk (bl2 _ _) (fresh 1)
end
theorem ao0 {K:ac}{H:Hp}{a b:ar}{xs ys:List V}(ha:aV K H a xs)(hb:aV K H b ys)(hl:ys.length<=xs.length) :
  tR H (tU K a b) ys.length (λi v H2=>∃T x y,v = .ref T/\H2 T=some (.tup [x,y])/\xs[i]? = some x/\ys[i]? = some y):=by
 refine⟨λi H' sm hi=>⟨xs,ys,xs[i]'(by omega),ys[i],sm.seq ha,sm.seq hb,by simp,by simp⟩,λi H' v H2 sm y hi=>?_,λH' sm=>⟨xs,ys,sm.seq ha,sm.seq hb,by omega⟩⟩
 obtain⟨T,x,y',hT,hv,e,hxy⟩:=y
 subst e
 obtain⟨h1,h2⟩:=hxy xs ys (sm.seq ha) (sm.seq hb)
 exact⟨bC hT _,T,x,y',hv,bD,h1,h2⟩
section
variable {X:Cx}{af:List (ar×Obj)}{σ:St}{H:Hp}{s:aq}{a b:ar}{A:aw}{E:ao→aq→Prop}
theorem ao1 {kvs more:List (aH×V)}{Q:ao->aq->Prop}(I:aE X af σ H s)(ea:H a=some (.dK kvs))(eb:H b=some (.dK more))(hne:a≠b)(hl:kvs.length+more.length<=sizeLine)(h:∀s',aE X af σ (upd H a (.dK (hZ kvs more))) s'->Q .none s'):wpAny (model X.prog X.w) A (call (.builtin "dict.update") [.ref a,.ref b]) Q E s:=by
 obtain⟨z,hd,vs,rel,dd⟩:=oR I.hok ea
 obtain⟨z2,hd2,rs,rel2,dd2⟩:=oR I.hok eb
 have l1:=rel.length;have l2:=rel2.length;refine call_meetsIn PySem.F.slot_dict_update dd.typeIs PySem.F.entry_dict_update (PySem.F.args_dict_update_2 _ _) (meets_dict_update (cT X.prog X.w) a b hne hd2) ⟨vs,rs,dd,dd2,by omega,λh' dd' _ hs=>h _ ?_⟩;have he:∃q,h'.get? a=some q:=let ⟨q,_,_,hq,_⟩:=dd';⟨q,hq⟩
 refine oS I (by rw[ea];exact True.intro) hs he (sZ ?_ hd (rel2.merge rel) dd')
 have:=t8 more kvs
 omega
end
noncomputable def zW (td ty:TE):TE:=λσ H Q=>td σ H λx H1=>∃a,x = .ref a/\zC H1 a/\ty σ H1 λy H2=>∃(b:ar) (kvs more:List (aH×V)),y = .ref b/\a≠b/\H2 a=some (.dK kvs)/\H2 b=some (.dK more)/\kvs.length+more.length<=sizeLine/\Q .non (upd H2 a (.dK (hZ kvs more)))
section
variable {X:Cx}{o e:Expr}{ag ah:Pos}{td ty:TE}
theorem ao2 (ho:PE X o td)(he:PE X e ty)(m:M1 X o "update" ag e ah):PE X (.Call (.Attribute o "update" ag) [e] [] ah) (zW td ty):=by
 intro af s σ H Q I h;refine wpAny_Call_method m.base m.few m.line PySem.F.plainAttrs_dict PySem.F.slot_dict_update PySem.F.type_dict_update (aT (ho af s σ H _ I h) λu s1 ⟨x,H1,I1,rx,a,ex,d,q1⟩=>?_);subst ex;obtain rfl:u=Value.ref a:=rx
 obtain⟨t1,t2,_⟩:=ak4 I1 d
 refine⟨t1,t2,?_⟩;rw[m.trees];refine Calls.callWith_builtin rfl (Calls.evalArgs_plain (Calls.spliced_cons (aT (he af s1 σ H1 _ I1 q1) λiv s2 ⟨y,H2,I2,ry,b,kvs,more,ey,ne,ea,eb,l,q2⟩=>Calls.spliced_nil ?_)));subst ey;obtain rfl:iv=Value.ref b:=ry;exact ao1 I2 ea eb ne l λs3 I3=>⟨.non,_,I3,rfl,q2⟩
end
theorem ao3 (l:ar)(items:Array ao)(n:Nat)(b:ar)(items2:Array ao)(n2:Nat)(dd:Option ar)(ss:Array (Option ao))(h0:¬(!items.isEmpty&&Builtin.List.listTooLong (items.size+items2.size))=true)(h1:items.size<=sizeLine)(h2:items.size+items2.size<=sizeLine+1) :
  Meets (Builtin.«list.extend» ⟨[.ref l,.ref b],[]⟩) (λ_ R s=>s.heap.get? l=some { cls:=.type "list",dict:=none,data:=.seq items n,slots:=#[] }/\s.heap.get? b=some { cls:=.type "tuple",dict:=dd,data:=.seq items2 n2,slots:=ss }/\R (.ok (.ret Value.none)) { s with heap:=s.heap.update l (Obj.mapSeq λx=>x++items2),toks:=s.toks }):=
 .of_wp λprog w A R s h=>by
  obtain⟨hp,g,d,tk,os⟩:=s;obtain⟨hl,hb,h⟩:=h;have f2:=AutoSeq1.sub_tuple_tuple;have f3:=AutoSeq1.sub_list_list;have f4:=AutoSeq1.sub_tuple_list;have f5:=AutoSeq1.sub_list_tuple
  have hz':(items++items2).size<=sizeLine+1:=by rw[Array.size_append];exact h2
  wp_walk using (wpAny_updateSeq hl rfl (hz:=h1) (_hz':=hz')),AutoSeq1.wpAny_loadPart' hl,AutoSeq1.wpAny_loadPart' hb
  exact⟨_,rfl,h⟩
noncomputable def zX (K:ac):V->List V->Hp->VK->Prop:=λx vs H Q=>∃(l b:ar) (xs zs:List V),x = .ref l/\vs = [.ref b]/\H l=some (.lst xs)/\aW K H b zs/\xs.length+zs.length<=sizeLine/\Q .non (upd H l (.lst (xs++zs)))
theorem ao4 {X:Cx}:mX X "list.extend" (zX X.K):=by
 intro af s σ H x vs v us Q I rx rv h
 obtain⟨l,b,xs,zs,rfl,rfl,hH,hB,hz,q⟩:=h
 cases rx
 obtain⟨u,rfl,ru⟩:=rv.one
 cases ru
 obtain⟨z,its,n,r,hl,e⟩:=I.lstM hH
 obtain⟨al,r2,⟨⟨cls,dd,data,ss⟩,e2,hc,n2,hd⟩,z2⟩:=I.tuple hB
 cases hc;cases hd;have hl2:=r2.length;have hsz:its.toArray.size+al.toArray.size<=sizeLine:=by rw[be5,be5];omega
 have hlong:¬(!its.toArray.isEmpty&&Builtin.List.listTooLong (its.toArray.size+al.toArray.size))=true:=by
  rw[sV hsz,bw0];exact bh4
 refine bq3 F.slot_list_extend ⟨_,e,rfl⟩ F.entry_list_extend (F.args_list_extend_2 _ _)
  (ao3 l its.toArray n b al.toArray n2 dd ss hlong (by rw[be5];omega) (by omega)) ⟨e,e2,?_⟩
 refine⟨.non,_,I.lset (its':=its++al) hH e (by simp) (r.append r2) ?_,rfl,q⟩;rw[bg8];omega
end L2
namespace PP
open PySem L2
inductive PV where
 |non|bl (b:Bool)|int (i:Int)|str (x:Str)|tup (xs:List PV)|lst (xs:List PV)
 |dK (kvs:List (aH×PV))|dT (kvs:List (List aH×PV))|scr (ns:ae)|kt (xs:List PV)|exc (c:Str)|fK (kvs:List (aH×PV))|fT (kvs:List (List aH×PV))|fL (xs:List PV)|fn (x:Str)|ob (a:ar)
mutual
noncomputable def flat:PV->Bool
 |.tup xs=>flats xs
 |.lst _=>false
 |.dK _=>false
 |.dT _=>false
 |.non=>true
 |.bl _=>true
 |.int _=>true
 |.str _=>true
 |.scr _=>true
 |.kt xs=>flats xs
 |.exc _=>true
 |.fK _=>false
 |.fT _=>false
 |.fL xs=>flats xs
 |.fn _=>true
 |.ob _=>true
noncomputable def flats:List PV->Bool
 |[]=>true
 |x::r=>flat x&&flats r
end
noncomputable def iP (K:ac)(H:Hp)(a:ar)(ns:ae):Prop:=(∃o,H a=some (.frz o (.lst (ns.map V.int)))) ∨
  ∃(o:Obj) (its:Array ao) (n:Nat),K.lookup a=some o/\o.cls = .type "list"/\o.dict=none/\o.data = .seq its n/\its.size<=sizeLine/\aY (ns.map V.int) its.toList
noncomputable def lM (K:ac)(a:ar)(us:List V):Prop:=∃(o:Obj) (its:Array ao) (n:Nat),K.lookup a=some o/\o.cls = .type "tuple"/\o.data = .seq its n/\its.size<=sizeLine/\aY us its.toList
mutual
inductive aR (K:ac)(M:ar->Prop)(H:Hp):V->PV->Prop
 |non:aR K M H .non .non
 |bl (b:Bool):aR K M H (.bl b) (.bl b)
 |int (i:Int):aR K M H (.int i) (.int i)
 |str (x:Str):aR K M H (.str x) (.str x)
 |tup {a:ar}{us:List V}{xs:List PV}:H a=some (.tup us)->Reps K M H us xs->aR K M H (.ref a) (.tup xs)
 |lst {a:ar}{us:List V}{xs:List PV}:M a->H a=some (.lst us)->Reps K M H us xs->aR K M H (.ref a) (.lst xs)
 |dK {a:ar}{kvs:List (aH×V)}{ps:List (aH×PV)}:M a->H a=some (.dK kvs)->kvs.map (·.1)=ps.map (·.1)->Reps K M H (kvs.map (·.2)) (ps.map (·.2))->aR K M H (.ref a) (.dK ps)
 |dT {a:ar}{kvs:List (List aH×V)}{ps:List (List aH×PV)}:M a->H a=some (.dT kvs)->kvs.map (·.1)=ps.map (·.1)->Reps K M H (kvs.map (·.2)) (ps.map (·.2))->aR K M H (.ref a) (.dT ps)
 |scr {a:ar}{ns:ae}:iP K H a ns->aR K M H (.ref a) (.scr ns)
 |kt {a:ar}{us:List V}{xs:List PV}:lM K a us->Reps K M H us xs->aR K M H (.ref a) (.kt xs)
 |exc {a C:ar}{o:Obj}{c:Str}:H a=some (.frz o (.own a))->PySem.W.nsIn K mainGlobals c=some (some (.ref C))->o.cls = .ref C->aR K M H (.ref a) (.exc c)
 |fK {a:ar}{o:Obj}{kvs:List (aH×V)}{ps:List (aH×PV)}:H a=some (.frz o (.dK kvs))->kvs.map (·.1)=ps.map (·.1)->Reps K M H (kvs.map (·.2)) (ps.map (·.2))->aR K M H (.ref a) (.fK ps)
 |fT {a:ar}{o:Obj}{kvs:List (List aH×V)}{ps:List (List aH×PV)}:H a=some (.frz o (.dT kvs))->kvs.map (·.1)=ps.map (·.1)->Reps K M H (kvs.map (·.2)) (ps.map (·.2))->aR K M H (.ref a) (.fT ps)
 |fL {a:ar}{o:Obj}{us:List V}{xs:List PV}:H a=some (.frz o (.lst us))->Reps K M H us xs->aR K M H (.ref a) (.fL xs)
 |fn {f:ar}{x:Str}:PySem.W.nsIn K mainGlobals x=some (some (.ref f))->aR K M H (.ref f) (.fn x)
 |ob {a:ar}:aR K M H (.ref a) (.ob a)
inductive Reps (K:ac)(M:ar->Prop)(H:Hp):List V->List PV->Prop
 |nil:Reps K M H [] []
 |cons {v:V}{x:PV}{vs:List V}{xs:List PV}:aR K M H v x->Reps K M H vs xs->Reps K M H (v::vs) (x::xs)
end
noncomputable def tV:HO->Bool
 |.frz _ _=>true
 |_=>false
noncomputable def zY:HO->Bool
 |.frz _ u=>tV u
 |.ins _ _ _=>true
 |.ext _=>true
 |_=>false
structure fE (M M':ar->Prop)(H H':Hp):Prop where
 lst:∀a us,M a->H a=some (.lst us)->M' a/\H' a=some (.lst us)
 dK:∀a kvs,M a->H a=some (.dK kvs)->M' a/\H' a=some (.dK kvs)
 dT:∀a kvs,M a->H a=some (.dT kvs)->M' a/\H' a=some (.dT kvs)
 tup:∀a us,H a=some (.tup us)->H' a=some (.tup us)
 frz:∀a o u,H a=some (.frz o u)->tV u=false->H' a=some (.frz o u)
theorem iP.keep {K:ac}{H H':Hp}{a:ar}{ns:ae}(k:∀a o u,H a=some (.frz o u)->tV u=false->H' a=some (.frz o u))(h:iP K H a ns):iP K H' a ns:=
 h.elim (λ⟨o,e⟩=>.inl ⟨o,k _ _ _ e rfl⟩) .inr
mutual
theorem aR.keep {K:ac}{M M':ar->Prop}{H H':Hp}(k:fE M M' H H'):∀{v:V}{x:PV},aR K M H v x->aR K M' H' v x
 |_,_,.non=>.non
 |_,_,.bl b=>.bl b
 |_,_,.int i=>.int i
 |_,_,.str x=>.str x
 |_,_,.tup h r=>.tup (k.tup _ _ h) (Reps.keep k r)
 |_,_,.lst m h r=>.lst (k.lst _ _ m h).1 (k.lst _ _ m h).2 (Reps.keep k r)
 |_,_,.dK m h e r=>.dK (k.dK _ _ m h).1 (k.dK _ _ m h).2 e (Reps.keep k r)
 |_,_,.dT m h e r=>.dT (k.dT _ _ m h).1 (k.dT _ _ m h).2 e (Reps.keep k r)
 |_,_,.scr h=>.scr (h.keep k.frz)
 |_,_,.kt h r=>.kt h (Reps.keep k r)
 |_,_,.exc h e c=>.exc (k.frz _ _ _ h rfl) e c
 |_,_,.fK h e r=>.fK (k.frz _ _ _ h rfl) e (Reps.keep k r)
 |_,_,.fT h e r=>.fT (k.frz _ _ _ h rfl) e (Reps.keep k r)
 |_,_,.fL h r=>.fL (k.frz _ _ _ h rfl) (Reps.keep k r)
 |_,_,.fn h=>.fn h
 |_,_,.ob=>.ob
theorem Reps.keep {K:ac}{M M':ar->Prop}{H H':Hp}(k:fE M M' H H'):∀{vs:List V}{xs:List PV},Reps K M H vs xs->Reps K M' H' vs xs
 |_,_,.nil=>.nil
 |_,_,.cons r t=>.cons (aR.keep k r) (Reps.keep k t)
end
mutual
theorem aR.flat {K:ac}{M M':ar->Prop}{H:Hp}{v:V}{x:PV}(f:flat x=true)(r:aR K M H v x):aR K M' H v x:=by
 cases r with
 |non=>exact .non
 |bl b=>exact .bl b
 |int i=>exact .int i
 |str x=>exact .str x
 |tup h r=>exact .tup h (Reps.flat (by unfold PP.flat at f;exact f) r)
 |lst m h r=>unfold PP.flat at f;cases f
 |dK m h e r=>unfold PP.flat at f;cases f
 |dT m h e r=>unfold PP.flat at f;cases f
 |scr h=>exact .scr h
 |kt h r=>exact .kt h (Reps.flat (by unfold PP.flat at f;exact f) r)
 |exc h e c=>exact .exc h e c
 |fK h e r=>unfold PP.flat at f;cases f
 |fT h e r=>unfold PP.flat at f;cases f
 |fL h r=>exact .fL h (Reps.flat (by unfold PP.flat at f;exact f) r)
 |fn h=>exact .fn h
 |ob=>exact .ob
theorem Reps.flat {K:ac}{M M':ar->Prop}{H:Hp}{vs:List V}{xs:List PV}(f:flats xs=true)(r:Reps K M H vs xs):Reps K M' H vs xs:=by
 cases r with
 |nil=>exact .nil
 |cons r t=>
  unfold PP.flats at f;rw[bm2]at f;exact .cons (aR.flat f.1 r) (Reps.flat f.2 t)
end
theorem fE.same {M M':ar->Prop}{H H':Hp}(s:aI H H')(m:∀a,M a->M' a):fE M M' H H':=
 ⟨λa _ h e=>⟨m a h,s _ _ e⟩,λa _ h e=>⟨m a h,s _ _ e⟩,λa _ h e=>⟨m a h,s _ _ e⟩,λ_ _ e=>s _ _ e,λ_ _ _ e _=>s _ _ e⟩
theorem aR.same {K:ac}{M M':ar->Prop}{H H':Hp}{v:V}{x:PV}(r:aR K M H v x)(s:aI H H')(m:∀a,M a->M' a):aR K M' H' v x:=r.keep (.same s m)
theorem Reps.same {K:ac}{M M':ar->Prop}{H H':Hp}{v:List V}{x:List PV}(r:Reps K M H v x)(s:aI H H')(m:∀a,M a->M' a):Reps K M' H' v x:=r.keep (.same s m)
noncomputable def eO:HO->Bool
 |.lst _=>true
 |.dK _=>true
 |.dT _=>true
 |_=>false
theorem fE.upd {M M':ar->Prop}{H:Hp}{a:ar}{o o':HO}(h:H a=some o')(mu:eO o'=true)(m:∀b,M b->b≠a/\M' b):fE M M' H (upd H a o):=
 ⟨λb _ hb e=>⟨(m b hb).2,by rw[b6 (m b hb).1];exact e⟩,λb _ hb e=>⟨(m b hb).2,by rw[b6 (m b hb).1];exact e⟩,λb _ hb e=>⟨(m b hb).2,by rw[b6 (m b hb).1];exact e⟩,
  λb _ e=>by rw[b6 (λz=>by rw[z,h]at e;cases e;cases mu)];exact e,
  λb _ _ e _=>by rw[b6 (λz=>by rw[z,h]at e;cases e;cases mu)];exact e⟩
theorem Reps.length {K:ac}{M:ar->Prop}{H:Hp}:∀{vs:List V}{xs:List PV},Reps K M H vs xs->vs.length=xs.length
 |_,_,.nil=>rfl
 |_,_,.cons _ t=>congrArg (·+1) t.length
theorem Reps.get {K:ac}{M:ar->Prop}{H:Hp}:∀{vs:List V}{xs:List PV}{i:Nat}{v:V},Reps K M H vs xs->vs[i]? = some v->∃x,xs[i]? = some x/\aR K M H v x
 |_,_,_,_,.nil,e=>by simp at e
 |_,_,0,_,.cons r _,e=>by simp at e;subst e;exact⟨_,rfl,r⟩
 |_,_,i+1,v,.cons _ t,e=>by
  rw[bn9]at e
  obtain⟨x,h1,h2⟩:=t.get e
  exact⟨x,by rw[bn9];exact h1,h2⟩
theorem Reps.at {K:ac}{M:ar->Prop}{H:Hp}:∀{vs:List V}{xs:List PV}{i:Nat}{x:PV},Reps K M H vs xs->xs[i]? = some x->∃v,vs[i]? = some v/\aR K M H v x
 |_,_,_,_,.nil,e=>by simp at e
 |_,_,0,_,.cons r _,e=>by simp at e;subst e;exact⟨_,rfl,r⟩
 |_,_,i+1,v,.cons _ t,e=>by
  rw[bn9]at e
  obtain⟨x,h1,h2⟩:=t.at e
  exact⟨x,by rw[bn9];exact h1,h2⟩
theorem Reps.append {K:ac}{M:ar->Prop}{H:Hp}:∀{vs:List V}{xs:List PV}{us:List V}{ys:List PV},Reps K M H vs xs->Reps K M H us ys->Reps K M H (vs++us) (xs++ys)
 |_,_,_,_,.nil,s=>s
 |_,_,_,_,.cons r t,s=>.cons r (t.append s)
theorem Reps.take {K:ac}{M:ar->Prop}{H:Hp}:∀(n:Nat) {vs:List V}{xs:List PV},Reps K M H vs xs->Reps K M H (vs.take n) (xs.take n)
 |0,_,_,_=>by simp;exact .nil
 |_+1,_,_,.nil=>.nil
 |n+1,_,_,.cons r t=>.cons r (Reps.take n t)
theorem Reps.drop {K:ac}{M:ar->Prop}{H:Hp}:∀(n:Nat) {vs:List V}{xs:List PV},Reps K M H vs xs->Reps K M H (vs.drop n) (xs.drop n)
 |0,_,_,r=>r
 |_+1,_,_,.nil=>.nil
 |n+1,_,_,.cons _ t=>Reps.drop n t
noncomputable abbrev intz (ns:ae):List PV:=ns.map PV.int
theorem Reps.intz {K:ac}{M:ar->Prop}{H:Hp}:∀(ns:ae),Reps K M H (ns.map V.int) (intz ns)
 |[]=>.nil
 |n::r=>.cons (.int n) (Reps.intz r)
theorem Reps.ofInts {K:ac}{M:ar->Prop}{H:Hp}:∀{ns:ae}{us:List V},Reps K M H us (PP.intz ns)->us=ns.map V.int
 |[],_,.nil=>rfl
 |n::r,_,.cons q t=>by
  cases q;rw[Reps.ofInts t];rfl
theorem i5:∀(ns:ae),flats (intz ns)=true
 |[]=>rfl
 |n::r=>by show (flat (.int n)&&flats (intz r))=true;rw[i5 r];rfl
inductive Tg|rd|sh|nw|fr
inductive Slot|sh (g:Bool) (x:PV)|own (x:PV)|kp (g:Bool) (x:PV) (ks:List (ar×List PV×List PV))
noncomputable def Slot.val:Slot->PV
 |.sh _ x=>x
 |.own x=>x
 |.kp _ x _=>x
noncomputable def Slot.tag:Slot->Tg
 |.sh true _=>.nw
 |.sh false _=>.sh
 |.own _=>.rd
 |.kp _ _ _=>.nw
noncomputable abbrev bK:=List (Option Slot)
noncomputable def Ms (H0:Hp)(W:ar->Prop):Bool->ar->Prop
 |false,a=>¬W a
 |true,a=>¬W a/\H0 a=none
noncomputable def Mg (H0:Hp)(W:ar->Prop)(Hs:Hp):Tg->ar->Prop
 |.rd,_=>True
 |.sh,a=>¬W a
 |.nw,a=>¬W a/\H0 a=none
 |.fr,a=>Hs a=none
noncomputable def gR (K:ac)(M:ar->Prop)(H:Hp)(a:ar):PV->Prop
 |.lst xs=>∃us,H a=some (.lst us)/\Reps K M H us xs
 |.dK ps=>∃kvs,H a=some (.dK kvs)/\kvs.map (·.1)=ps.map (·.1)/\Reps K M H (kvs.map (·.2)) (ps.map (·.2))
 |.dT ps=>∃kvs,H a=some (.dT kvs)/\kvs.map (·.1)=ps.map (·.1)/\Reps K M H (kvs.map (·.2)) (ps.map (·.2))
 |_=>False
noncomputable def kL (l:ar)(us:List V):HO:=.ext λh=>us.length<=sizeLine/\∃(its:List ao) (n:Nat),aY us its/\h.get? l=some { cls:=.type "list",data:=.seq its.toArray n }
noncomputable def k8 (K:ac)(H0 H:Hp)(a:ar)(st un:List PV):Prop:=∃(C dx l1 l2:ar) (us1 us2:List V),PySem.W.nsIn K mainGlobals "Keeper" = some (some (.ref C))/\(H0 a=none/\H0 dx=none/\H0 l1=none/\H0 l2=none)/\l1≠l2/\H dx=some (.own a)/\
 H a=some (.ins C dx [("standing",.ref l1),("undone",.ref l2)])/\H l1=some (kL l1 us1)/\H l2=some (kL l2 us2)/\Reps K (λ_=>False) H us1 st/\Reps K (λ_=>False) H us2 un
theorem k8.keep {K:ac}{H0 H H':Hp}{a:ar}{st un:List PV}(k:fE (λ_=>False) (λ_=>False) H H')(f:∀b o,H b=some o->eO o=false->H' b=some o)(h:k8 K H0 H a st un):k8 K H0 H' a st un:=by
 obtain⟨C,dx,l1,l2,us1,us2,h1,h2,h3,h4,h5,h6,h7,r1,r2⟩:=h
 exact⟨C,dx,l1,l2,us1,us2,h1,h2,h3,f _ _ h4 rfl,f _ _ h5 rfl,f _ _ h6 rfl,f _ _ h7 rfl,r1.keep k,r2.keep k⟩
noncomputable def Ap2 (H:Hp)(a b:ar):Prop:=a≠b/\∀C D dx dy l1 l2 m1 m2,H a=some (.ins C dx [("standing",.ref l1),("undone",.ref l2)])->H b=some (.ins D dy [("standing",.ref m1),("undone",.ref m2)])->l1≠m1/\l1≠m2/\l2≠m1/\l2≠m2
noncomputable def fQ (K:ac)(H0 H:Hp)(ks:List (ar×List PV×List PV)):Prop:=(∀k∈ks,k8 K H0 H k.1 k.2.1 k.2.2)/\ks.Pairwise λk m=>Ap2 H k.1 m.1
theorem fQ.keep {K:ac}{H0 H H':Hp}{ks:List (ar×List PV×List PV)}(k:fE (λ_=>False) (λ_=>False) H H')(f:∀b o,H b=some o->eO o=false->H' b=some o)(h:fQ K H0 H ks):fQ K H0 H' ks:=by
 refine⟨λx hx=>(h.1 x hx).keep k f,h.2.imp_of_mem λ{x y} hx hy r=>⟨r.1,λC D dx dy l1 l2 m1 m2 e1 e2=>?_⟩⟩
 obtain⟨C',dx',l1',l2',us1,us2,_,_,_,_,h5,_⟩:=h.1 x hx
 obtain⟨D',dy',m1',m2',ws1,ws2,_,_,_,_,g5,_⟩:=h.1 y hy
 have z1:=f _ _ h5 rfl;have z2:=f _ _ g5 rfl;rw[e1]at z1;rw[e2]at z2;cases z1;cases z2;exact r.2 _ _ _ _ _ _ _ _ h5 g5
theorem fQ.same {K:ac}{H0 H H':Hp}{ks:List (ar×List PV×List PV)}(s:aI H H')(h:fQ K H0 H ks):fQ K H0 H' ks:=h.keep (.same s λ_ z=>z) λ_ _ e _=>s _ _ e
theorem fQ.upd {K:ac}{H0 H:Hp}{c:ar}{o o':HO}{ks:List (ar×List PV×List PV)}(e:H c=some o')(mu:eO o'=true)(h:fQ K H0 H ks):fQ K H0 (upd H c o) ks:=
 h.keep (.upd e mu λ_ z=>z.elim) λb u e2 m2=>by rw[b6 (λz=>by rw[z,e]at e2;cases e2;rw[mu]at m2;cases m2)];exact e2
noncomputable def pC (K:ac)(H0:Hp)(W:ar->Prop)(H:Hp)(v:V):Slot->Prop
 |.sh g x=>aR K (Ms H0 W g) H v x
 |.own x=>∃a,v = .ref a/\W a/\gR K (Ms H0 W true) H a x
 |.kp g x ks=>(aR K (λ_=>False) H v x/\flat x=true)/\fQ K (cond g H0 λ_=>none) H ks
structure PX (K:ac)(H0:Hp)(W:ar->Prop)(σ:St)(ρ:bK)(H:Hp):Prop where
 len:ρ.length=σ.length
 same:aI H0 H
 wm:∀a,W a->H0 a=none/\∃o,H a=some o/\eO o=true
 sl:∀(i:Nat) (m:Slot),ρ[i]? = some (some m)->∃v,σ[i]? = some (some v)/\pC K H0 W H v m
 dis:∀(i j:Nat) (x y:PV) (a:ar),ρ[i]? = some (some (.own x))->ρ[j]? = some (some (.own y))->σ[i]? = some (some (.ref a))->σ[j]? = some (some (.ref a))->i=j
theorem gR.keep {K:ac}{M M':ar->Prop}{H H':Hp}{a:ar}(k:fE M M' H H')(ha:∀o,H a=some o->H' a=some o):∀{x:PV},gR K M H a x->gR K M' H' a x
 |.lst _,⟨us,e,r⟩=>⟨us,ha _ e,r.keep k⟩
 |.dK _,⟨us,e,q,r⟩=>⟨us,ha _ e,q,r.keep k⟩
 |.dT _,⟨us,e,q,r⟩=>⟨us,ha _ e,q,r.keep k⟩
theorem gR.at {K:ac}{M:ar->Prop}{H:Hp}{a:ar}:∀{x:PV},gR K M H a x->∃o,H a=some o/\eO o=true
 |.lst _,⟨us,e,r⟩=>⟨_,e,rfl⟩
 |.dK _,⟨us,e,q,r⟩=>⟨_,e,rfl⟩
 |.dT _,⟨us,e,q,r⟩=>⟨_,e,rfl⟩
theorem gR.rep {K:ac}{M M':ar->Prop}{H:Hp}{a:ar}(m:∀b,M b->M' b)(ha:M' a):∀{x:PV},gR K M H a x->aR K M' H (.ref a) x
 |.lst _,⟨us,e,r⟩=>.lst ha e (r.same (aI.refl _) m)
 |.dK _,⟨us,e,q,r⟩=>.dK ha e q (r.same (aI.refl _) m)
 |.dT _,⟨us,e,q,r⟩=>.dT ha e q (r.same (aI.refl _) m)
section
variable {K:ac}{H0:Hp}{W W':ar→Prop}{σ:St}{ρ:bK}{H H':Hp}
theorem PX.mono (p:PX K H0 W σ ρ H)(s:aI H H'):PX K H0 W σ ρ H':=by
 refine⟨p.len,p.same.trans s,λa h=>⟨(p.wm a h).1,let ⟨o,e,m⟩:=(p.wm a h).2;⟨o,s _ _ e,m⟩⟩,λi m h=>?_,p.dis⟩
 obtain⟨v,e,r⟩:=p.sl i m h
 refine⟨v,e,?_⟩;cases m with
 |sh g x=>exact aR.same r s λ_ z=>z
 |own x=>
  obtain⟨a,e1,e2,r⟩:=r
  exact⟨a,e1,e2,r.keep (.same s λ_ z=>z) λ_ z=>s _ _ z⟩
 |kp g x ks=>exact⟨⟨r.1.1.same s λ_ z=>z,r.1.2⟩,r.2.same s⟩
theorem PX.new (p:PX K H0 W σ ρ H){a:ar}(h:H a=none):¬W a/\H0 a=none:=
 ⟨λz=>(by obtain⟨_,o,e,_⟩:=p.wm a z;rw[h]at e;cases e),p.same.free h⟩
theorem Mg.back {g:Tg}{H1:Hp}(s:aI H H1){a:ar}(h:Mg H0 W H1 g a):Mg H0 W H g a:=by
 cases g with
 |fr=>exact s.free h
 |rd=>exact h
 |sh=>exact h
 |nw=>exact h
end
noncomputable abbrev PK:=PV->Tg->Prop
noncomputable abbrev aO:=bK->PK->Prop
noncomputable abbrev cD:=bK->(Bool->Prop)->Prop
noncomputable abbrev cA:=bK->(List (PV×Tg)->Prop)->Prop
inductive gS (K:ac)(H0:Hp)(W:ar->Prop)(Hs H:Hp):List V->List (PV×Tg)->Prop
 |nil:gS K H0 W Hs H [] []
 |cons {v:V}{x:PV}{g:Tg}{vs:List V}{xs:List (PV×Tg)}:aR K (Mg H0 W Hs g) H v x->gS K H0 W Hs H vs xs->gS K H0 W Hs H (v::vs) ((x,g)::xs)
noncomputable def pD (K:ac)(H0:Hp)(W:ar->Prop)(H:Hp)(Q:PK)(Q':VK):Prop:=∀v H' x g,aI H H'->aR K (Mg H0 W H g) H' v x->Q x g->Q' v H'
noncomputable def LE (X:Cx)(t:aO):TE:=λσ H Q'=>∃(W:ar->Prop) (ρ:bK) (Q:PK),PX X.K X.H₀ W σ ρ H/\t ρ Q/\pD X.K X.H₀ W H Q Q'
noncomputable def LT (X:Cx)(t:cD):TT:=λσ H Q'=>∃(W:ar->Prop) (ρ:bK) (Q:Bool->Prop),PX X.K X.H₀ W σ ρ H/\t ρ Q/\∀b H',aI H H'->Q b->Q' b H'
noncomputable def LA (X:Cx)(t:cA):TA:=λσ H Q'=>∃(W:ar->Prop) (ρ:bK) (Q:List (PV×Tg)->Prop),PX X.K X.H₀ W σ ρ H/\t ρ Q/\∀vs H' xs,aI H H'->gS X.K X.H₀ W H H' vs xs->Q xs->Q' vs H'
theorem gS.same {K:ac}{H0:Hp}{W:ar->Prop}{Hs Hs' H H':Hp}(s:aI H H')(b:aI Hs' Hs):∀{vs:List V}{xs:List (PV×Tg)},gS K H0 W Hs H vs xs->gS K H0 W Hs' H' vs xs
 |_,_,.nil=>.nil
 |_,_,.cons r t=>.cons (r.same s λ_ z=>Mg.back b z) (t.same s b)
theorem gS.any {K:ac}{H0:Hp}{W:ar->Prop}{Hs H:Hp}:∀{vs:List V}{xs:List (PV×Tg)},gS K H0 W Hs H vs xs->Reps K (λ_=>True) H vs (xs.map (·.1))
 |_,_,.nil=>.nil
 |_,_,.cons r t=>.cons (r.same (aI.refl _) λ_ _=>trivial) t.any
noncomputable def Nw:Tg->PV->Prop
 |.fr,_=>True
 |.nw,_=>True
 |_,x=>flat x=true
section
variable {K:ac}{H0 Hs H:Hp}{W:ar→Prop}{σ:St}{ρ:bK}
theorem Nw.rep {g:Tg}{x:PV}{v:V}(px:PX K H0 W σ ρ Hs)(n:Nw g x)(r:aR K (Mg H0 W Hs g) H v x):aR K (Ms H0 W true) H v x:=by
 cases g with
 |fr=>exact r.same (aI.refl _) λa z=>px.new z
 |nw=>exact r.same (aI.refl _) λa z=>z
 |sh=>exact r.flat n
 |rd=>exact r.flat n
theorem zZ {v:V}{m:Slot}(r:pC K H0 W H v m):aR K (Mg H0 W Hs m.tag) H v m.val:=by
 cases m with
 |sh g x=>
  cases g with
  |true=>exact aR.same r (aI.refl _) λ_ z=>z
  |false=>exact aR.same r (aI.refl _) λ_ z=>z
 |own x=>
  obtain⟨a,rfl,_,r⟩:=r
  exact r.rep (λ_ _=>trivial) trivial
 |kp g x ks=>exact r.1.1.flat r.1.2
end
section
variable {X:Cx}{σ:St}{H:Hp}{Q':VK}{ta tb:aO}
noncomputable def aA (i:Nat):aO:=λρ Q=>∃m,ρ[i]? = some (some m)/\Q m.val m.tag
noncomputable def qC (x:PV):aO:=λ_ Q=>Q x .fr
theorem ao5 {i:Nat}(h:LE X (aA i) σ H Q'):hJ i σ H Q':=by
 obtain⟨W,ρ,Q,px,⟨m,e,q⟩,k⟩:=h
 obtain⟨v,ev,r⟩:=px.sl i m e
 exact⟨v,ev,k v H _ _ (aI.refl _) (zZ r) q⟩
theorem lN {x:PV}{v:V}(hr:∀M,aR X.K M H v x)(h:LE X (qC x) σ H Q'):tC v σ H Q':=by
 obtain⟨W,ρ,Q,px,q,k⟩:=h
 exact k v H _ _ (aI.refl _) (hr _) q
noncomputable def dG (X:Cx)(R:PV->Tg->PV->Tg->PK->Prop)(r:R2):Prop:=∀(W:ar->Prop) (Hs H:Hp) (u v:V) (x y:PV) (g g':Tg) (Q:PK) (Q':VK),aI Hs H->
 (∀a,Hs a=none->¬W a/\X.H₀ a=none)->aR X.K (Mg X.H₀ W Hs g) H u x->aR X.K (Mg X.H₀ W Hs g') H v y->R x g y g' Q->(∀w H' z gz,aI H H'->aR X.K (Mg X.H₀ W Hs gz) H' w z->Q z gz->Q' w H')->r u v H Q'
noncomputable def q2 (R:PV->Tg->PV->Tg->PK->Prop)(ta tb:aO):aO:=λρ Q=>ta ρ λx g=>tb ρ λy g'=>R x g y g' Q
theorem nG {R:PV->Tg->PV->Tg->PK->Prop}{r:R2}(c:dG X R r)(h:LE X (q2 R ta tb) σ H Q'):mV r (LE X ta) (LE X tb) σ H Q':=by
 obtain⟨W,ρ,Q,px,q,k⟩:=h
 refine⟨W,ρ,_,px,q,λu H1 x g s1 r1 q1=>⟨W,ρ,_,px.mono s1,q1,λv H2 y g' s2 r2 q2=>?_⟩⟩;exact c W H H2 u v x y g g' Q Q' (s1.trans s2) (λa z=>px.new z) (r1.same s2 λ_ z=>z) (r2.same (aI.refl _) λ_ z=>Mg.back s1 z) q2 λw H' z gz s3 r3 q3=>k w H' z gz ((s1.trans s2).trans s3) r3 q3
noncomputable def RI (C:Int->Int->Prop)(f:Int->Int->PV):PV->Tg->PV->Tg->PK->Prop:=λx _ y _ Q=>∃i j,x = .int i/\y = .int j/\C i j/\Q (f i j) .fr
noncomputable def fF (f:Int->Int->PV):PV->Tg->PV->Tg->PK->Prop:=λx _ y _ Q=>∃i j,x = .int i/\y = .int j/\Q (f i j) .fr
theorem tW {C:Int->Int->Prop}{f:Int->Int->Int}:dG X (RI C λi j=>.int (f i j)) (rI C λi j=>.int (f i j)):=by
 rintro W Hs H u v x y g g' Q Q' s n r1 r2 ⟨i,j,rfl,rfl,c,q⟩ k;cases r1;cases r2
 exact⟨i,j,rfl,rfl,c,k _ _ _ _ (aI.refl _) (.int _) q⟩
theorem A0 {f:Int->Int->Int}:dG X (fF λi j=>.int (f i j)) (iI λi j=>.int (f i j)):=by
 rintro W Hs H u v x y g g' Q Q' s n r1 r2 ⟨i,j,rfl,rfl,q⟩ k;cases r1;cases r2
 exact⟨i,j,rfl,rfl,k _ _ _ _ (aI.refl _) (.int _) q⟩
theorem nH {f:Int->Int->Bool}:dG X (fF λi j=>.bl (f i j)) (iI λi j=>.bl (f i j)):=by
 rintro W Hs H u v x y g g' Q Q' s n r1 r2 ⟨i,j,rfl,rfl,q⟩ k;cases r1;cases r2
 exact⟨i,j,rfl,rfl,k _ _ _ _ (aI.refl _) (.bl _) q⟩
noncomputable def k9 (neg:Bool):PV->Tg->PV->Tg->PK->Prop:=λx _ y _ Q=>(∃i j,x = .int i/\y = .int j/\Q (.bl (if neg=true then !decide (i=j) else decide (i=j))) .fr)∨(∃i j,x = .bl i/\y = .bl j/\Q (.bl (if neg=true then !decide (i=j) else decide (i=j))) .fr)
theorem A1 (i j:Int):decide (V.int i=V.int j)=decide (i=j):=by
 rw[bp5,bs1,bs1];exact⟨λz=>V.int.inj z,λz=>congrArg V.int z⟩
theorem A2 (i j:Bool):decide (V.bl i=V.bl j)=decide (i=j):=by
 rw[bp5,bs1,bs1];exact⟨λz=>V.bl.inj z,λz=>congrArg V.bl z⟩
theorem A3:dG X (k9 false) sB:=by
 rintro W Hs H u v x y g g' Q Q' s n r1 r2 (⟨i,j,rfl,rfl,q⟩|⟨i,j,rfl,rfl,q⟩) k
 ·cases r1;cases r2
  exact⟨rfl,by rw[A1];exact k _ _ _ _ (aI.refl _) (.bl _) q⟩
 ·cases r1;cases r2
  exact⟨rfl,by rw[A2];exact k _ _ _ _ (aI.refl _) (.bl _) q⟩
theorem ao6:dG X (k9 true) sC:=by
 rintro W Hs H u v x y g g' Q Q' s n r1 r2 (⟨i,j,rfl,rfl,q⟩|⟨i,j,rfl,rfl,q⟩) k
 ·cases r1;cases r2
  exact⟨rfl,by rw[A1];exact k _ _ _ _ (aI.refl _) (.bl _) q⟩
 ·cases r1;cases r2
  exact⟨rfl,by rw[A2];exact k _ _ _ _ (aI.refl _) (.bl _) q⟩
noncomputable def b5 (t:aO):cD:=λρ Q=>t ρ λx _=>∃b,x = .bl b/\Q b
theorem pE {t:aO}{Q':Bool->Hp->Prop}(h:LT X (b5 t) σ H Q'):LE X t σ H λx H'=>∃k,x = .bl k/\Q' k H':=by
 obtain⟨W,ρ,Q,px,q,k⟩:=h
 refine⟨W,ρ,_,px,q,?_⟩;rintro v H1 x g s r ⟨b,rfl,q⟩;cases r
 exact⟨b,rfl,k _ _ s q⟩
noncomputable def lO (t u:cD):cD:=λρ Q=>t ρ λc=>if c=true then u ρ Q else Q false
noncomputable def iQ (t u:cD):cD:=λρ Q=>t ρ λc=>if c=true then Q true else u ρ Q
noncomputable def i6 (t:cD):cD:=λρ Q=>t ρ λc=>Q (!c)
variable {t u:cD}{Qb:Bool→Hp→Prop}
theorem ao7 (h:LT X (lO t u) σ H Qb):x0 (LT X t) (LT X u) σ H Qb:=by
 obtain⟨W,ρ,Q,px,q,k⟩:=h
 refine⟨W,ρ,_,px,q,λb H1 s1 q1=>?_⟩;cases b with
 |true=>exact b4 ⟨W,ρ,Q,px.mono s1,by simpa using q1,λb H2 s2 q2=>k _ _ (s1.trans s2) q2⟩
 |false=>exact aQ (k _ _ s1 (by simpa using q1))
theorem ao8 (h:LT X (iQ t u) σ H Qb):x5 (LT X t) (LT X u) σ H Qb:=by
 obtain⟨W,ρ,Q,px,q,k⟩:=h
 refine⟨W,ρ,_,px,q,λb H1 s1 q1=>?_⟩;cases b with
 |false=>exact aQ ⟨W,ρ,Q,px.mono s1,by simpa using q1,λb H2 s2 q2=>k _ _ (s1.trans s2) q2⟩
 |true=>exact b4 (k _ _ s1 (by simpa using q1))
theorem ao9 (h:LT X (i6 t) σ H Qb):x6 (LT X t) σ H Qb:=by
 obtain⟨W,ρ,Q,px,q,k⟩:=h
 exact⟨W,ρ,_,px,q,λb H1 s1 q1=>k _ _ s1 q1⟩
noncomputable def nI (ta tb:aO):aO:=λρ Q=>ta ρ λx _=>∃c,x = .bl c/\if c=true then tb ρ Q else Q (.bl false) .fr
theorem pD.back {K:ac}{H0:Hp}{W:ar->Prop}{H H1:Hp}{Q:PK}(k:pD K H0 W H Q Q')(s:aI H H1):pD K H0 W H1 Q Q':=λv H' x g s' r q=>k v H' x g (s.trans s') (r.same (aI.refl _) λ_ z=>Mg.back s z) q
theorem ap0 (h:LE X (nI ta tb) σ H Q'):x8 (LE X ta) (LE X tb) σ H Q':=by
 obtain⟨W,ρ,Q,px,q,k⟩:=h
 refine⟨W,ρ,_,px,q,?_⟩;rintro v H1 x g s1 r ⟨c,rfl,q⟩;cases r;refine⟨c,rfl,?_⟩;cases c with
 |true=>exact b4 ⟨W,ρ,Q,px.mono s1,by simpa using q,k.back s1⟩
 |false=>exact aQ (k _ _ _ _ s1 (.bl _) (by simpa using q))
noncomputable def aF:cA:=λ_ Q=>Q []
noncomputable def aB (te:aO)(tr:cA):cA:=λρ Q=>te ρ λx g=>tr ρ λxs=>Q ((x,g)::xs)
variable {Qa:List V→Hp→Prop}{tr:cA}
theorem ap1 (h:LA X aF σ H Qa):jV σ H Qa:=by
 obtain⟨W,ρ,Q,px,q,k⟩:=h
 exact k _ _ _ (aI.refl _) .nil q
theorem ap2 (h:LA X (aB ta tr) σ H Qa):jW (LE X ta) (LA X tr) σ H Qa:=by
 obtain⟨W,ρ,Q,px,q,k⟩:=h
 refine⟨W,ρ,_,px,q,λv H1 x g s1 r1 q1=>⟨W,ρ,_,px.mono s1,q1,λvs H2 xs s2 r2 q2=>?_⟩⟩;exact k _ _ _ (s1.trans s2) (.cons (r1.same s2 λ_ z=>z) (r2.same (aI.refl _) s1)) q2
noncomputable def bO (t:cA):aO:=λρ Q=>t ρ λxs=>xs.length<=1000/\flats (xs.map (·.1))=true/\Q (.tup (xs.map (·.1))) .fr
noncomputable def dH (t:cA):aO:=λρ Q=>t ρ λxs=>xs.length<=1000/\flats (xs.map (·.1))=true/\Q (.lst (xs.map (·.1))) .fr
theorem gS.length {K:ac}{H0:Hp}{W:ar->Prop}{Hs H:Hp}:∀{vs:List V}{xs:List (PV×Tg)},gS K H0 W Hs H vs xs->vs.length=xs.length
 |_,_,.nil=>rfl
 |_,_,.cons _ t=>congrArg (·+1) t.length
theorem tX {n:Nat}(h:n<=1000):n<=sizeLine:=bm6 (nB h)
theorem ap3 (h:LE X (bO tr) σ H Q'):xS (LA X tr) σ H Q':=by
 obtain⟨W,ρ,Q,px,q,k⟩:=h
 refine⟨W,ρ,_,px,q,?_⟩;rintro vs H1 xs s1 r ⟨hl,n,q⟩;refine⟨by rw[r.length];exact tX hl,λp hp=>k _ _ _ .fr (s1.trans (bC hp _)) (.tup bD ?_) q⟩;exact (r.any.flat n).same (bC hp _) λ_ z=>z
theorem ap4 (h:LE X (dH tr) σ H Q'):xT (LA X tr) σ H Q':=by
 obtain⟨W,ρ,Q,px,q,k⟩:=h
 refine⟨W,ρ,_,px,q,?_⟩;rintro vs H1 xs s1 r ⟨hl,n,q⟩;refine⟨by rw[r.length];exact tX hl,λp hp=>k _ _ _ .fr (s1.trans (bC hp _)) (.lst (s1.free hp) bD ?_) q⟩;exact (r.any.flat n).same (bC hp _) λ_ z=>z
noncomputable def eY (X:Cx)(R:List PV->(PV->Prop)->Prop)(r:List V->Hp->VK->Prop):Prop:=∀(H:Hp) (vs:List V) (xs:List PV) (Q:PV->Prop) (Q':VK),Reps X.K (λ_=>True) H vs xs->R xs Q->
 (∀w H' z,aI H H'->aR X.K (λa=>H a=none) H' w z->Q z->Q' w H')->r vs H Q'
noncomputable def aK (R:List PV->(PV->Prop)->Prop)(t:cA):aO:=λρ Q=>t ρ λxs=>R (xs.map (·.1)) λz=>Q z .fr
theorem A4 {R:List PV->(PV->Prop)->Prop}{r:List V->Hp->VK->Prop}(c:eY X R r)(h:LE X (aK R tr) σ H Q'):sI r (LA X tr) σ H Q':=by
 obtain⟨W,ρ,Q,px,q,k⟩:=h
 refine⟨W,ρ,_,px,q,λvs H1 xs s1 r1 q1=>c H1 vs _ _ Q' r1.any q1 λw H' z s2 r2 q2=>k w H' z .fr (s1.trans s2) (r2.same (aI.refl _) λ_ z=>s1.free z) q2⟩
end
structure gF where
 nx:bK->Prop
 rt:PV->Prop
 bk:bK->Prop:=λ_=>False
 ct:bK->Prop:=λ_=>False
noncomputable abbrev aP:=gF->bK->Prop
noncomputable def Ev (W:ar->Prop)(H:Hp)(W':ar->Prop)(H':Hp):Prop:=∀b o,H b=some o->¬W b->zY o=false->H' b=some o/\¬W' b
theorem Ev.trans {W W1 W2:ar->Prop}{H H1 H2:Hp}(a:Ev W H W1 H1)(b:Ev W1 H1 W2 H2):Ev W H W2 H2:=λc o h n z=>let ⟨h1,n1⟩:=a c o h n z;b c o h1 n1 z
theorem Ev.same {W:ar->Prop}{H H':Hp}(s:aI H H'):Ev W H W H':=λc o h n _=>⟨s _ _ h,n⟩
theorem Ev.refl (W:ar->Prop)(H:Hp):Ev W H W H:=Ev.same (aI.refl _)
structure nJ (X:Cx)(W:ar->Prop)(H:Hp)(D':gF)(D:cN):Prop where
 nx:∀W' σ' H' ρ',Ev W H W' H'->PX X.K X.H₀ W' σ' ρ' H'->D'.nx ρ'->D.nx σ' H'
 rt:∀v H' x,aI X.H₀ H'->aR X.K (λa=>X.H₀ a=none) H' v x->D'.rt x->D.rt v H'
 bk:∀W' σ' H' ρ',Ev W H W' H'->PX X.K X.H₀ W' σ' ρ' H'->D'.bk ρ'->D.bk σ' H'
 ct:∀W' σ' H' ρ',Ev W H W' H'->PX X.K X.H₀ W' σ' ρ' H'->D'.ct ρ'->D.ct σ' H'
theorem nJ.step {X:Cx}{W W1:ar->Prop}{H H1:Hp}{D':gF}{D:cN}(k:nJ X W H D' D)(e:Ev W H W1 H1):nJ X W1 H1 D' D:=
 ⟨λW' σ' H' ρ' e'=>k.nx W' σ' H' ρ' (e.trans e'),k.rt,λW' σ' H' ρ' e'=>k.bk W' σ' H' ρ' (e.trans e'),λW' σ' H' ρ' e'=>k.ct W' σ' H' ρ' (e.trans e')⟩
noncomputable def LS (X:Cx)(t:aP):TS:=λD σ H=>∃(W:ar->Prop) (ρ:bK) (D':gF),PX X.K X.H₀ W σ ρ H/\t D' ρ/\nJ X W H D' D
theorem fR {α:Type}{l:List α}{i j:Nat}{a b:α}(h:(l.set i a)[j]? = some b):(j=i/\i<l.length/\b=a)∨(j≠i/\l[j]? = some b):=by
 by_cases e:j=i
 ·subst e
  have hl:j<(l.set j a).length:=(bf7.mp h).1;rw[bn0]at hl;rw[bm7 hl]at h;exact .inl ⟨rfl,hl,(bh9 h).symm⟩
 ·rw[bh8 (Ne.symm e)]at h
  exact .inr ⟨e,h⟩
section
variable {K:ac}{H0:Hp}{W W':ar→Prop}{σ:St}{ρ:bK}{H H' Hs:Hp}
theorem PX.setSh {i:Nat}{v:V}{g:Bool}{x:PV}(p:PX K H0 W σ ρ H)(r:aR K (Ms H0 W g) H v x):PX K H0 W (σ.set i (some v)) (ρ.set i (some (.sh g x))) H:=by
 refine⟨by rw[bn0,bn0];exact p.len,p.same,p.wm,λj m h=>?_,λj k y z a h1 h2 h3 h4=>?_⟩
 ·rcases fR h with⟨rfl,hl,e⟩|⟨hne,h⟩
  ·cases e
   rw[p.len]at hl
   exact⟨v,bm7 hl,r⟩
  ·obtain⟨u,e,q⟩:=p.sl j m h
   exact⟨u,by rw[bh8 (Ne.symm hne)];exact e,q⟩
 ·rcases fR h1 with⟨_,_,e⟩|⟨n1,h1⟩
  ·cases e
  ·rcases fR h2 with⟨_,_,e⟩|⟨n2,h2⟩
   ·cases e
   ·rw[bh8 (Ne.symm n1)]at h3
    rw[bh8 (Ne.symm n2)]at h4;exact p.dis j k y z a h1 h2 h3 h4
theorem PX.setNone {i:Nat}{o:Option V}(p:PX K H0 W σ ρ H):PX K H0 W (σ.set i o) (ρ.set i none) H:=by
 refine⟨by rw[bn0,bn0];exact p.len,p.same,p.wm,λj m h=>?_,λj k y z a h1 h2 h3 h4=>?_⟩
 ·rcases fR h with⟨rfl,hl,e⟩|⟨hne,h⟩
  ·cases e
  ·obtain⟨u,e,q⟩:=p.sl j m h
   exact⟨u,by rw[bh8 (Ne.symm hne)];exact e,q⟩
 ·rcases fR h1 with⟨_,_,e⟩|⟨n1,h1⟩
  ·cases e
  ·rcases fR h2 with⟨_,_,e⟩|⟨n2,h2⟩
   ·cases e
   ·rw[bh8 (Ne.symm n1)]at h3
    rw[bh8 (Ne.symm n2)]at h4;exact p.dis j k y z a h1 h2 h3 h4
noncomputable def lP (W:ar->Prop)(a:ar):ar->Prop:=λb=>W b∨b=a
theorem tY {g:Bool}{a b:ar}(n:b≠a)(h:Ms H0 W g b):Ms H0 (lP W a) g b:=by
 cases g with
 |true=>exact⟨λz=>z.elim h.1 n,h.2⟩
 |false=>exact λz=>z.elim h n
theorem PX.setOwn {i:Nat}{a:ar}{x:PV}(p:PX K H0 W σ ρ Hs)(s:aI Hs H)(ha:Hs a=none)(r:gR K (Ms H0 (lP W a) true) H a x):PX K H0 (lP W a) (σ.set i (some (.ref a))) (ρ.set i (some (.own x))) H:=by
 have old:∀b o,Hs b=some o->b≠a:=λb o e z=>by rw[z,ha]at e;cases e
 have kp:∀g,fE (Ms H0 W g) (Ms H0 (lP W a) g) Hs H:=λg=>⟨λb _ m e=>⟨tY (old _ _ e) m,s _ _ e⟩,λb _ m e=>⟨tY (old _ _ e) m,s _ _ e⟩,λb _ m e=>⟨tY (old _ _ e) m,s _ _ e⟩,λ_ _ e=>s _ _ e,λ_ _ _ e _=>s _ _ e⟩
 have wa:¬W a:=(p.new ha).1;refine⟨by rw[bn0,bn0];exact p.len,p.same.trans s,λb z=>?_,λj m h=>?_,λj k y z b h1 h2 h3 h4=>?_⟩
 ·rcases z with z|rfl
  ·obtain⟨h1,o,h2,h3⟩:=p.wm b z
   exact⟨h1,o,s _ _ h2,h3⟩
  ·exact⟨(p.new ha).2,r.at⟩
 ·rcases fR h with⟨rfl,hl,e⟩|⟨hne,h⟩
  ·cases e
   rw[p.len]at hl
   exact⟨_,bm7 hl,a,rfl,.inr rfl,r⟩
  ·obtain⟨u,e,q⟩:=p.sl j m h
   refine⟨u,by rw[bh8 (Ne.symm hne)];exact e,?_⟩;cases m with
   |sh g y=>exact aR.keep (kp g) q
   |own y=>
    obtain⟨b,e1,e2,q⟩:=q
    exact⟨b,e1,.inl e2,q.keep (kp true) λo z=>s _ _ z⟩
   |kp g c ks=>exact⟨⟨q.1.1.same s λ_ z=>z,q.1.2⟩,q.2.same s⟩
 ·have ne:∀{j:Nat}{y:PV},ρ[j]? = some (some (.own y))->σ[j]?≠some (some (.ref a)):=λ{j y} h1 h2=>by
   obtain⟨u,e,c,e1,e2,_⟩:=p.sl j _ h1
   rw[h2]at e;cases e;cases e1;exact wa e2
  rcases fR h1 with⟨e1,l1,_⟩|⟨n1,h1⟩
  ·rcases fR h2 with⟨e2,_,_⟩|⟨n2,h2⟩
   ·rw[e1,e2]
   ·rw[e1,bm7 (by rw[<- p.len];exact l1)]at h3
    rw[bh8 (Ne.symm n2)]at h4;cases h3;exact absurd h4 (ne h2)
  ·rw[bh8 (Ne.symm n1)]at h3
   rcases fR h2 with⟨e2,l2,_⟩|⟨n2,h2⟩
   ·rw[e2,bm7 (by rw[<- p.len];exact l2)]at h4
    cases h4;exact absurd h3 (ne h1)
   ·rw[bh8 (Ne.symm n2)]at h4
    exact p.dis j k y z b h1 h2 h3 h4
theorem Ev.own {a:ar}(s:aI Hs H)(ha:Hs a=none):Ev W Hs (lP W a) H:=λb o e n _=>⟨s _ _ e,λz=>z.elim n λz=>by rw[z,ha]at e;cases e⟩
theorem kB {g:Bool}{a b:ar}(wa:W a)(h:Ms H0 W g b):b≠a:=by
 cases g with
 |true=>exact λz=>h.1 (by rw[z];exact wa)
 |false=>exact λz=>h (by rw[z];exact wa)
theorem PX.updOwn {i:Nat}{a:ar}{x y:PV}{o:HO}(p:PX K H0 W σ ρ H)(hi:ρ[i]? = some (some (.own x)))(ha:σ[i]? = some (some (.ref a)))(wa:W a)(mu:eO o=true)(r:gR K (Ms H0 W true) (upd H a o) a y) :
  PX K H0 W σ (ρ.set i (some (.own y))) (upd H a o):=by
 obtain⟨w0,o',e',mu'⟩:=p.wm a wa
 have kp:∀g,fE (Ms H0 W g) (Ms H0 W g) H (upd H a o):=λg=>.upd e' mu' λb m=>⟨kB wa m,m⟩
 refine⟨by rw[bn0];exact p.len,λb u e=>by rw[b6 (λz=>by rw[z,w0]at e;cases e)];exact p.same _ _ e,λb z=>?_,λj m h=>?_,λj k y' z b h1 h2 h3 h4=>?_⟩
 ·by_cases e:b=a
  ·subst e;exact⟨w0,o,bD,mu⟩
  ·obtain⟨h1,o2,h2,h3⟩:=p.wm b z
   exact⟨h1,o2,by rw[b6 e];exact h2,h3⟩
 ·rcases fR h with⟨rfl,hl,e⟩|⟨hne,h⟩
  ·cases e
   exact⟨_,ha,a,rfl,wa,r⟩
  ·obtain⟨u,e,q⟩:=p.sl j m h
   refine⟨u,e,?_⟩;cases m with
   |sh g y=>exact aR.keep (kp g) q
   |own y=>
    obtain⟨b,e1,e2,q⟩:=q
    have hb:b≠a:=λz=>by
     subst e1;rw[z]at e;exact hne (p.dis j i _ _ a h hi e ha)
    exact⟨b,e1,e2,q.keep (kp true) λo z=>by rw[b6 hb];exact z⟩
   |kp g c ks=>exact⟨⟨q.1.1.keep (.upd e' mu' λ_ z=>z.elim),q.1.2⟩,q.2.upd e' mu'⟩
 ·have g1:∃y,ρ[j]? = some (some (.own y)):=by
   rcases fR h1 with⟨e,_,_⟩|⟨_,h⟩
   ·exact⟨x,by rw[e];exact hi⟩
   ·exact⟨_,h⟩
  have g2:∃y,ρ[k]? = some (some (.own y)):=by
   rcases fR h2 with⟨e,_,_⟩|⟨_,h⟩
   ·exact⟨x,by rw[e];exact hi⟩
   ·exact⟨_,h⟩
  obtain⟨y1,g1⟩:=g1
  obtain⟨y2,g2⟩:=g2
  exact p.dis j k y1 y2 b g1 g2 h3 h4
theorem Ev.upd {a:ar}{o:HO}(wa:W a):Ev W H W (upd H a o):=λb u e n _=>⟨by rw[b6 (λz=>n (by rw[z];exact wa))];exact e,n⟩
end
section
variable {X:Cx}{σ:St}{H:Hp}{D:cN}{te:aO}{t u:aP}
noncomputable def bQ:aP:=λD ρ=>D.nx ρ
noncomputable def aM (t u:aP):aP:=λD ρ=>t { D with nx:=u D } ρ
theorem ap5 (h:LS X bQ D σ H):x9 D σ H:=by
 obtain⟨W,ρ,D',px,q,k⟩:=h
 exact k.nx W σ H ρ (Ev.refl _ _) px q
theorem ap6 (h:LS X (aM t u) D σ H):xA (LS X t) (LS X u) D σ H:=by
 obtain⟨W,ρ,D',px,q,k⟩:=h
 exact⟨W,ρ,_,px,q,λW' σ' H' ρ' e px' q'=>⟨W',ρ',D',px',q',k.step e⟩,k.rt,k.bk,k.ct⟩
noncomputable def A5:Tg->PV->Bool
 |.fr,_=>true
 |.nw,_=>true
 |_,x=>flat x
noncomputable def tZ:Tg->PV->Prop
 |.rd,x=>flat x=true
 |_,_=>True
theorem ap7 {K:ac}{H0 Hs H:Hp}{W:ar->Prop}{σ:St}{ρ:bK}{g:Tg}{x:PV}{v:V}(px:PX K H0 W σ ρ Hs)(n:tZ g x)(r:aR K (Mg H0 W Hs g) H v x):aR K (Ms H0 W (A5 g x)) H v x:=by
 cases g with
 |fr=>exact Nw.rep (g:=.fr) px trivial r
 |nw=>exact Nw.rep (g:=.nw) px trivial r
 |sh=>
  show aR K (Ms H0 W (flat x)) H v x;cases e:flat x with
  |true=>exact r.flat e
  |false=>exact r.same (aI.refl _) λ_ z=>z
 |rd=>exact r.flat n
noncomputable def bE (i:Nat)(te:aO):aP:=λD ρ=>te ρ λx g=>tZ g x/\D.nx (ρ.set i (some (.sh (A5 g x) x)))
theorem u5 {i:Nat}(h:LS X (bE i te) D σ H):jU (LE X te) (cO i) D σ H:=by
 obtain⟨W,ρ,D',px,q,k⟩:=h
 refine⟨W,ρ,_,px,q,?_⟩;rintro v H1 x g s r ⟨n,q⟩;exact k.nx W _ H1 _ (Ev.same s) ((px.mono s).setSh (ap7 px n r)) q
noncomputable def A6:PV->Bool
 |.lst xs=>flats xs
 |.dK ps=>flats (ps.map (·.2))
 |.dT ps=>flats (ps.map (·.2))
 |_=>false
theorem ap8 {K:ac}{M:ar->Prop}{H:Hp}{v:V}{x:PV}(r:aR K M H v x)(o:A6 x=true):∃a,v = .ref a/\M a/\∀M',gR K M' H a x:=by
 cases r with
 |lst m e r=>exact⟨_,rfl,m,λ_=>⟨_,e,r.flat o⟩⟩
 |dK m e q r=>exact⟨_,rfl,m,λ_=>⟨_,e,q,r.flat o⟩⟩
 |dT m e q r=>exact⟨_,rfl,m,λ_=>⟨_,e,q,r.flat o⟩⟩
 |_=>cases o
noncomputable def eG (i:Nat)(te:aO):aP:=λD ρ=>te ρ λx g=>g = .fr/\A6 x=true/\D.nx (ρ.set i (some (.own x)))
theorem ap9 {i:Nat}(h:LS X (eG i te) D σ H):jU (LE X te) (cO i) D σ H:=by
 obtain⟨W,ρ,D',px,q,k⟩:=h
 refine⟨W,ρ,_,px,q,?_⟩;rintro v H1 x g s r ⟨rfl,o,q⟩
 obtain⟨a,rfl,m,w⟩:=ap8 r o
 exact k.nx _ _ H1 _ (Ev.own s m) (px.setOwn s m (w _)) q
noncomputable def eZ (te:aO):aP:=λD ρ=>te ρ λ_ _=>D.nx ρ
theorem aq0 (h:LS X (eZ te) D σ H):mQ (LE X te) D σ H:=by
 obtain⟨W,ρ,D',px,q,k⟩:=h
 exact⟨W,ρ,_,px,q,λv H1 x g s r q=>k.nx W σ H1 ρ (Ev.same s) (px.mono s) q⟩
noncomputable def bG (te:aO):aP:=λD ρ=>te ρ λx g=>Nw g x/\D.rt x
theorem aq1 (h:LS X (bG te) D σ H):rS (LE X te) D σ H:=by
 obtain⟨W,ρ,D',px,q,k⟩:=h
 refine⟨W,ρ,_,px,q,?_⟩;rintro v H1 x g s r ⟨n,q⟩;exact k.rt v H1 x (px.same.trans s) ((Nw.rep px n r).same (aI.refl _) λ_ z=>z.2) q
noncomputable def Slot.nw:Slot->Prop
 |.own _=>True
 |.kp _ _ _=>True
 |.sh true _=>True
 |.sh false x=>flat x=true
noncomputable def fS (i:Nat):aP:=λD ρ=>∃m,ρ[i]? = some (some m)/\m.nw/\D.rt m.val
theorem aq2 {i:Nat}(h:LS X (fS i) D σ H):rS (hJ i) D σ H:=by
 obtain⟨W,ρ,D',px,⟨m,hi,n,q⟩,k⟩:=h
 obtain⟨v,ev,r⟩:=px.sl i _ hi
 refine⟨v,ev,k.rt v H _ px.same ?_ q⟩;cases m with
 |own x=>
  obtain⟨a,rfl,wa,r⟩:=r
  exact r.rep (λ_ z=>z.2) (px.wm a wa).1
 |sh g x=>
  cases g with
  |true=>exact aR.same r (aI.refl _) λ_ z=>z.2
  |false=>exact aR.flat n r
 |kp g x ks=>exact r.1.1.flat r.1.2
noncomputable def bA (c:cD)(t u:aP):aP:=λD ρ=>c ρ λb=>if b=true then t D ρ else u D ρ
theorem aq3 {c:cD}(h:LS X (bA c t u) D σ H):xB (LT X c) (LS X t) (LS X u) D σ H:=by
 obtain⟨W,ρ,D',px,q,k⟩:=h
 refine⟨W,ρ,_,px,q,λb H1 s q1=>?_⟩;cases b with
 |true=>exact b4 ⟨W,ρ,D',px.mono s,by simpa using q1,k.step (Ev.same s)⟩
 |false=>exact aQ ⟨W,ρ,D',px.mono s,by simpa using q1,k.step (Ev.same s)⟩
noncomputable def jG (c:cD)(tb:aP):aP:=λD ρ=>∃I:Nat->bK->Prop,(∃m,I m ρ)/\∀m ρ',I m ρ'->c ρ' λb=>if b=true then tb { D with nx:=λρ2=>∃m',m'<m/\I m' ρ2,ct:=λρ2=>∃m',m'<m/\I m' ρ2,bk:=D.nx } ρ' else D.nx ρ'
theorem aq4 {c:cD}{tb:aP}(h:LS X (jG c tb) D σ H):xC (LT X c) (LS X tb) D σ H:=by
 obtain⟨W,ρ,D',px,⟨I,⟨m0,i0⟩,turn⟩,k⟩:=h
 refine⟨λm σ2 H2=>∃W2 ρ2,PX X.K X.H₀ W2 σ2 ρ2 H2/\Ev W H W2 H2/\I m ρ2,⟨m0,W,ρ,px,Ev.refl _ _,i0⟩,?_⟩;rintro m σ2 H2 ⟨W2,ρ2,px2,e2,i2⟩;refine⟨W2,ρ2,_,px2,turn m ρ2 i2,λb H3 s3 q3=>?_⟩;cases b with
 |true=>
  refine b4 ⟨λσ4 H4=>∃W4 ρ4,PX X.K X.H₀ W4 σ4 ρ4 H4/\Ev W H W4 H4/\∃m',m'<m/\I m' ρ4,λσ4 H4 ⟨W4,ρ4,a,b,m',c,d⟩=>⟨m',c,W4,ρ4,a,b,d⟩,W2,ρ2,_,px2.mono s3,by simpa using q3,?_⟩;have e3:Ev W H W2 H3:=e2.trans (Ev.same s3)
  exact⟨λW' σ' H' ρ' e p q=>⟨W',ρ',p,e3.trans e,q⟩,k.rt,λW' σ' H' ρ' e p q=>k.nx W' σ' H' ρ' (e3.trans e) p q,λW' σ' H' ρ' e p q=>⟨W',ρ',p,e3.trans e,q⟩⟩
 |false=>exact aQ (k.nx W2 σ2 H3 ρ2 (e2.trans (Ev.same s3)) (px2.mono s3) (by simpa using q3))
end
theorem lim {n:Nat}(h:n<=16000000):n<=sizeLine:=bm6 (iN h)
theorem aR.sqT {K:ac}{M:ar->Prop}{H:Hp}{v:V}{xs:List PV}(r:aR K M H v (.tup xs)):∃a us,v = .ref a/\H a=some (.tup us)/\Reps K M H us xs:=by
 cases r with
 |tup e r=>exact⟨_,_,rfl,e,r⟩
theorem aR.sqL {K:ac}{M:ar->Prop}{H:Hp}{v:V}{xs:List PV}(r:aR K M H v (.lst xs)):∃a us,v = .ref a/\M a/\H a=some (.lst us)/\Reps K M H us xs:=by
 cases r with
 |lst m e r=>exact⟨_,_,rfl,m,e,r⟩
theorem iP.sqL {K:ac}{H:Hp}{a:ar}{ns:ae}(h:iP K H a ns):aV K H a (ns.map V.int):=h.elim (λz=>.inl (.inr z)) .inr
noncomputable def jH:PV->Option (List PV)
 |.tup xs=>some xs
 |.lst xs=>some xs
 |.scr ns=>some (intz ns)
 |.kt xs=>some xs
 |.fL xs=>some xs
 |_=>none
theorem aR.seq {K:ac}{M:ar->Prop}{H:Hp}{v:V}{x:PV}{xs:List PV}(r:aR K M H v x)(e:jH x=some xs):∃a us,v = .ref a/\(aV K H a us∨aW K H a us)/\Reps K M H us xs:=by
 cases r with
 |tup h r=>cases e;exact⟨_,_,rfl,.inr (aW.of h),r⟩
 |lst m h r=>cases e;exact⟨_,_,rfl,.inl (aV.of h),r⟩
 |scr h=>cases e;exact⟨_,_,rfl,.inl h.sqL,Reps.intz _⟩
 |kt h r=>cases e;exact⟨_,_,rfl,.inr (.inr h),r⟩
 |fL h r=>cases e;exact⟨_,_,rfl,.inl (.inl (.inr ⟨_,h⟩)),r⟩
 |_=>cases e
section
variable {X:Cx}{σ:St}{H:Hp}{D:cN}{te ti to:aO}{t u:aP}{Q':VK}
theorem _root_.PP.PX.updL {K:ac}{H0:Hp}{W:ar->Prop}{σ:St}{ρ:bK}{H:Hp}{i:Nat}{a:ar}{x:PV}{us:List V}{ys:List PV}(p:PX K H0 W σ ρ H)(hi:ρ[i]? = some (some (.own x)))(ha:σ[i]? = some (some (.ref a)))(wa:W a)(r:Reps K (Ms H0 W true) (upd H a (.lst us)) us ys) :
  PX K H0 W σ (ρ.set i (some (.own (.lst ys)))) (upd H a (.lst us)):=p.updOwn hi ha wa rfl (y:=.lst ys) ⟨us,bD,r⟩
noncomputable def i7 (i:Nat)(te:aO):aP:=λD ρ=>∃xs,ρ[i]? = some (some (.own (.lst xs)))/\te ρ λx g=>Nw g x/\xs.length<16000000/\D.nx (ρ.set i (some (.own (.lst (xs++[x])))))
theorem aq5 {i:Nat}(h:LS X (i7 i te) D σ H):mQ (sT X.K "list" yK (hJ i) (jW (LE X te) jV)) D σ H:=by
 obtain⟨W,ρ,D',px,⟨xs,hi,q⟩,k⟩:=h
 obtain⟨v,ev,a,rfl,wa,us,ea,r⟩:=px.sl i _ hi
 refine⟨_,ev,nF (aV.of ea),W,ρ,_,px,q,?_⟩;rintro w H1 x g s rx ⟨n,hl,q⟩;have ea1:=s _ _ ea;refine⟨a,us,w,rfl,rfl,ea1,iN (by rw[r.length];omega),?_⟩;refine k.nx W σ _ _ ((Ev.same s).trans (Ev.upd wa)) ((px.mono s).updL hi ev wa ?_) q;exact ((r.same s λ_ z=>z).append (.cons (Nw.rep px n rx) .nil)).keep (.upd ea1 rfl λb m=>⟨kB wa m,m⟩)
noncomputable def A7 (K:ac):V->List V->Hp->VK->Prop:=λx vs H Q=>yL x vs H Q∨zX K x vs H Q
noncomputable def pF (i:Nat)(te:aO):aP:=λD ρ=>∃xs,ρ[i]? = some (some (.own (.lst xs)))/\te ρ λy g=>∃ys,(y = .tup ys∨y = .lst ys)/\(Nw g y∨flats ys=true)/\xs.length+ys.length<=16000000/\D.nx (ρ.set i (some (.own (.lst (xs++ys)))))
theorem aq6 {i:Nat}(h:LS X (pF i te) D σ H):mQ (sT X.K "list" (A7 X.K) (hJ i) (jW (LE X te) jV)) D σ H:=by
 obtain⟨W,ρ,D',px,⟨xs,hi,q⟩,k⟩:=h
 obtain⟨v,ev,a,rfl,wa,us,ea,r⟩:=px.sl i _ hi
 refine⟨_,ev,nF (aV.of ea),W,ρ,_,px,q,?_⟩;rintro w H1 y g s ry ⟨ys,hy,n,hl,q⟩;have ea1:=s _ _ ea;have key:∀(zs:List V),Reps X.K (Ms X.H₀ W true) H1 zs ys->D.nx σ (upd H1 a (.lst (us++zs))):=λzs rz=>by
  refine k.nx W σ _ _ ((Ev.same s).trans (Ev.upd wa)) ((px.mono s).updL hi ev wa ?_) q;exact ((r.same s λ_ z=>z).append rz).keep (.upd ea1 rfl λb m=>⟨kB wa m,m⟩)
 have lr:=r.length;rcases hy with rfl|rfl
 ·obtain⟨b,zs,rfl,eb,rz⟩:=ry.sqT
  have lz:=rz.length;refine .inr ⟨a,b,us,zs,rfl,rfl,ea1,aW.of eb,lim (by omega),key zs ?_⟩;rcases n with n|n
  ·obtain⟨b',zs',e1,e2,rz'⟩:=(Nw.rep px n ry).sqT
   cases e1;rw[eb]at e2;cases e2;exact rz'
  ·exact rz.flat n
 ·obtain⟨b,zs,rfl,_,eb,rz⟩:=ry.sqL
  have lz:=rz.length;refine .inl ⟨a,b,us,zs,rfl,rfl,ea1,eb,lim (by omega),key zs ?_⟩;rcases n with n|n
  ·obtain⟨b',zs',e1,_,e2,rz'⟩:=(Nw.rep px n ry).sqL
   cases e1;rw[eb]at e2;cases e2;exact rz'
  ·exact rz.flat n
noncomputable def pG (i j:Nat):aP:=λD ρ=>∃xs y,ρ[i]? = some (some (.own (.lst (xs++[y]))))/\D.nx ((ρ.set i (some (.own (.lst xs)))).set j (some (.sh true y)))
theorem Reps.snoc_inv {K:ac}{M:ar->Prop}{H:Hp}{us:List V}{xs:List PV}{y:PV}(r:Reps K M H us (xs++[y])):∃vs v,us=vs++[v]/\Reps K M H vs xs/\aR K M H v y:=by
 have l:=r.length;have h1:=r.take xs.length;have h2:=r.drop xs.length;rw[List.take_left]at h1;rw[List.drop_left]at h2;generalize hd:us.drop xs.length=ds at h2;cases h2 with
 |cons q t=>
  cases t
  exact⟨_,_,by rw[<- hd,List.take_append_drop],h1,q⟩
theorem aq7 {i j:Nat}(h:LS X (pG i j) D σ H):jU (yJ X.K "list" yM (hJ i)) (cO j) D σ H:=by
 obtain⟨W,ρ,D',px,⟨xs,y,hi,q⟩,k⟩:=h
 obtain⟨v,ev,a,rfl,wa,us,ea,r⟩:=px.sl i _ hi
 obtain⟨vs,w,rfl,r1,ry⟩:=r.snoc_inv
 refine⟨_,ev,nF (aV.of ea),a,_,w,rfl,rfl,ea,by simp,?_⟩;rw[List.dropLast_concat];have kp:fE (Ms X.H₀ W true) (Ms X.H₀ W true) H (upd H a (.lst vs)):=.upd ea rfl λb m=>⟨kB wa m,m⟩
 exact k.nx W _ _ _ (Ev.upd wa) ((px.updL hi ev wa (r1.keep kp)).setSh (ry.keep kp)) q
end
theorem Reps.atI {K:ac}{M:ar->Prop}{H:Hp}{us:List V}{xs:List PV}{i:Int}{z:PV}(r:Reps K M H us xs)(h:L2.atI xs i=some z):∃v,L2.atI us i=some v/\aR K M H v z:=by
 unfold L2.atI at h ⊢;rw[r.length];cases e:jY xs.length i with
 |none=>rw[e]at h;cases h
 |some j=>rw[e]at h;exact r.at h
section
variable {X:Cx}{σ:St}{H:Hp}{Q':VK}{ta tb te:aO}{tr:cA}
noncomputable def u6:PV->Tg->PV->Tg->PK->Prop:=λx g y _ Q=>∃xs i z,jH x=some xs/\y = .int i/\L2.atI xs i=some z/\Q z g
theorem aq8:dG X u6 (yG X.K):=by
 rintro W Hs H u v x y g g' Q Q' s n r1 r2 ⟨xs,i,z,e,rfl,hz,q⟩ k;cases r2
 obtain⟨a,us,rfl,hs,r⟩:=r1.seq e
 obtain⟨v,hv,rv⟩:=r.atI hz
 rcases hs with hs|hs
 ·exact .inl ⟨a,us,i,v,rfl,rfl,hs,hv,k v H z g (aI.refl _) rv q⟩
 ·exact .inr (.inl ⟨a,us,i,v,rfl,rfl,hs,hv,k v H z g (aI.refl _) rv q⟩)
noncomputable def u7:PV->Option Nat
 |.tup xs=>some xs.length
 |.lst xs=>some xs.length
 |.scr ns=>some ns.length
 |.dK ps=>some ps.length
 |.kt xs=>some xs.length
 |.fL xs=>some xs.length
 |_=>none
noncomputable def dI:List PV->(PV->Prop)->Prop:=λxs Q=>∃x n,xs = [x]/\u7 x=some n/\Q (.int n)
theorem Reps.one {K:ac}{M:ar->Prop}{H:Hp}{vs:List V}{x:PV}(r:Reps K M H vs [x]):∃v,vs = [v]/\aR K M H v x:=by
 cases r with
 |cons r t=>cases t;exact⟨_,rfl,r⟩
theorem Reps.two {K:ac}{M:ar->Prop}{H:Hp}{vs:List V}{x y:PV}(r:Reps K M H vs [x,y]):∃v w,vs = [v,w]/\aR K M H v x/\aR K M H w y:=by
 cases r with
 |cons r t=>
  obtain⟨w,rfl,q⟩:=t.one
  exact⟨_,_,rfl,r,q⟩
theorem aq9:eY X dI (λxs H Q=>(∃p ys,xs = [.ref p]/\(aV X.K H p ys∨aW X.K H p ys)/\Q (.int ys.length) H)∨∃a kvs,xs = [V.ref a]/\H a=some (.dK kvs)/\Q (.int kvs.length) H):=by
 rintro H vs xs Q Q' r ⟨x,n,rfl,e,q⟩ k
 obtain⟨v,rfl,r1⟩:=r.one
 have fin:∀{m:Nat},m=n->Q' (.int m) H:=λ{m} z=>by rw[z];exact k _ _ _ (aI.refl _) (.int _) q
 cases r1 with
 |tup h r2=>cases e;exact .inl ⟨_,_,rfl,.inr (aW.of h),fin r2.length⟩
 |lst m h r2=>cases e;exact .inl ⟨_,_,rfl,.inl (aV.of h),fin r2.length⟩
 |scr h=>cases e;exact .inl ⟨_,_,rfl,.inl h.sqL,fin (by rw[be9])⟩
 |kt h r2=>cases e;exact .inl ⟨_,_,rfl,.inr (.inr h),fin r2.length⟩
 |fL h r2=>cases e;exact .inl ⟨_,_,rfl,.inl (.inl (.inr ⟨_,h⟩)),fin r2.length⟩
 |dK m h e' r=>
  cases e;refine .inr ⟨_,_,rfl,h,fin ?_⟩
  have:=congrArg List.length e'
  rw[be9,be9]at this;exact this
 |_=>cases e
noncomputable def seqT:PV->Option (List PV)
 |.kt _=>none
 |x=>jH x
noncomputable def A8:List PV->(PV->Prop)->Prop:=λxs Q=>∃x ys,xs = [x]/\seqT x=some ys/\flats ys=true/\Q (.tup ys)
theorem ar0:eY X (λxs Q=>A8 xs Q/\∀ns,xs≠[.scr ns]) (λxs H Q=>∃p ys,xs = [.ref p]/\((aV X.K H p ys/\∀l,H l=none->Q (.ref l) (upd H l (.tup ys)))∨(aW X.K H p ys/\Q (.ref p) H))):=by
 rintro H vs xs Q Q' r ⟨⟨x,ys,rfl,e,f,q⟩,nsc⟩ k
 obtain⟨v,rfl,r1⟩:=r.one
 cases r1 with
 |tup h r2=>cases e;exact⟨_,_,rfl,.inr ⟨aW.of h,k _ _ _ (aI.refl _) (.tup h (r2.flat f)) q⟩⟩
 |lst m h r2=>cases e;exact⟨_,_,rfl,.inl ⟨aV.of h,λl hl=>k _ _ _ (bC hl _) (.tup bD ((r2.flat f).same (bC hl _) λ_ z=>z)) q⟩⟩
 |scr h=>exact absurd rfl (nsc _)
 |fL h r2=>cases e;exact⟨_,_,rfl,.inl ⟨.inl (.inr ⟨_,h⟩),λl hl=>k _ _ _ (bC hl _) (.tup bD ((r2.flat f).same (bC hl _) λ_ z=>z)) q⟩⟩
 |_=>cases e
noncomputable def nK:List PV->(PV->Prop)->Prop:=λxs Q=>∃bs:List Bool,xs = [.lst (bs.map PV.bl)]/\Q (.bl (bs.all id))
theorem Reps.ofBls {K:ac}{M:ar->Prop}{H:Hp}:∀{ns:List Bool}{us:List V},Reps K M H us (ns.map PV.bl)->us=ns.map V.bl
 |[],_,.nil=>rfl
 |n::r,_,.cons q t=>by
  cases q;rw[Reps.ofBls t];rfl
theorem ar1:eY X nK (λxs H Q=>∃(a:ar) (bs:List Bool),xs = [.ref a]/\aV X.K H a (bs.map V.bl)/\Q (.bl (bs.all id)) H):=by
 rintro H vs xs Q Q' r ⟨bs,rfl,q⟩ k
 obtain⟨v,rfl,r1⟩:=r.one
 obtain⟨a,us,rfl,_,h,r2⟩:=r1.sqL
 obtain rfl:=r2.ofBls
 exact⟨a,bs,rfl,aV.of h,k _ _ _ (aI.refl _) (.bl _) q⟩
noncomputable def pH:List PV->(PV->Prop)->Prop:=λxs Q=>∃i j,xs = [.int i,.int j]/\Q (.int (if j<i then j else i))
noncomputable def u8:List PV->(PV->Prop)->Prop:=λxs Q=>∃i j,xs = [.int i,.int j]/\Q (.int (if j>i then j else i))
theorem ar2:eY X pH (λxs H Q=>∃i j,xs = [.int i,.int j]/\Q (.int (if j<i then j else i)) H):=by
 rintro H vs xs Q Q' r ⟨i,j,rfl,q⟩ k
 obtain⟨v,w,rfl,r1,r2⟩:=r.two
 cases r1;cases r2
 exact⟨i,j,rfl,k _ _ _ (aI.refl _) (.int _) q⟩
theorem ar3:eY X u8 (λxs H Q=>∃i j,xs = [.int i,.int j]/\Q (.int (if j>i then j else i)) H):=by
 rintro H vs xs Q Q' r ⟨i,j,rfl,q⟩ k
 obtain⟨v,w,rfl,r1,r2⟩:=r.two
 cases r1;cases r2
 exact⟨i,j,rfl,k _ _ _ (aI.refl _) (.int _) q⟩
noncomputable abbrev bH:=List PV->(PV->Prop)->Prop
noncomputable def nL (K:ac)(p:bH):Sp:=λvs H Q _=>∃xs Qp,Reps K (λ_=>True) H vs xs/\p xs Qp/\∀v H' x,aI H H'->aR K (λa=>H a=none) H' v x->Qp x->Q v H'
theorem ar4 {p:bH}{E:XK}(h:LE X (aK p tr) σ H Q'):sH (nL X.K p) [] E (LA X tr) σ H Q':=by
 obtain⟨W,ρ,Q,px,q,k⟩:=h
 refine⟨W,ρ,_,px,q,λvs H1 xs s1 r1 q1=>⟨_,_,by rw[bm9];exact r1.any,q1,λv H' x s2 r2 q2=>k v H' x .fr (s1.trans s2) (r2.same (aI.refl _) λ_ z=>s1.free z) q2⟩⟩
noncomputable def ar5:PV->Option Bool
 |.non=>some false
 |.bl b=>some b
 |.int i=>some (i != 0)
 |.tup xs=>some (!xs.isEmpty)
 |.lst xs=>some (!xs.isEmpty)
 |.dK ps=>some (!ps.isEmpty)
 |_=>none
noncomputable def kC (t:aO):cD:=λρ Q=>t ρ λx _=>∃b,ar5 x=some b/\Q b
theorem u9 {α β:Type}:∀{l:List α}{m:List β},l.length=m.length->l.isEmpty=m.isEmpty
 |[],[],_=>rfl
 |_::_,_::_,_=>rfl
theorem ar6 {t:aO}{Qb:Bool->Hp->Prop}(h:LT X (kC t) σ H Qb):LE X t σ H λx H'=>∃k,sF X.K x H' k/\Qb k H':=by
 obtain⟨W,ρ,Q,px,q,k⟩:=h
 refine⟨W,ρ,_,px,q,?_⟩;rintro v H1 x g s r ⟨b,e,q⟩;refine⟨b,?_,k _ _ s q⟩;cases r with
 |non=>cases e;rfl
 |bl b=>cases e;rfl
 |int i=>cases e;rfl
 |str x=>cases e
 |tup h r=>cases e;exact .inr (.inl ⟨_,aW.of h,by rw[u9 r.length]⟩)
 |lst m h r=>cases e;exact .inl ⟨_,aV.of h,by rw[u9 r.length]⟩
 |dK m h e' r=>
  cases e;refine .inr (.inr ⟨_,h,?_⟩)
  have:=congrArg List.length e'
  rw[be9,be9]at this;rw[u9 this]
 |dT m h e' r=>cases e
 |scr h=>cases e
 |kt h r=>cases e
 |exc h e' c=>cases e
 |fK h e' r=>cases e
 |fT h e' r=>cases e
 |fL h r=>cases e
 |fn h=>cases e
 |ob=>cases e
noncomputable def uA:PV->Bool
 |.non=>true
 |_=>false
noncomputable def uB (neg:Bool):PV->Tg->PV->Tg->PK->Prop:=λx _ y _ Q=>y = .non/\Q (.bl (if neg=true then !uA x else uA x)) .fr
theorem ar7 {K:ac}{M:ar->Prop}{H:Hp}{v:V}{x:PV}(r:aR K M H v x):decide (v = .non)=uA x:=by
 cases r<;>rfl
theorem ar8:dG X (uB true) (λx y H Q=>y = .non/\Q (.bl (!decide (x = .non))) H):=by
 rintro W Hs H u v x y g g' Q Q' s n r1 r2 ⟨rfl,q⟩ k;cases r2
 exact⟨rfl,by rw[ar7 r1];exact k _ _ _ _ (aI.refl _) (.bl _) q⟩
end
structure lQ (K:ac)(H0:Hp)(W:ar->Prop)(g:Bool)(H1:Hp)(J:It)(xs:List PV):Prop where
 go:∀W' H' i,Ev W H1 W' H'->i<xs.length->J.go i H'
 yld:∀W' H' i v H2,Ev W H1 W' H'->J.yld i H' v H2->i<xs.length->aI H' H2/\∃x,xs[i]? = some x/\aR K (Ms H0 W' g) H2 v x
 stop:∀W' H',Ev W H1 W' H'->J.stop xs.length H'
noncomputable abbrev e8:=bK->(List PV->Bool->Prop)->Prop
noncomputable def LI (X:Cx)(t:e8):TI:=λσ H R=>∃(W:ar->Prop) (ρ:bK) (Q:List PV->Bool->Prop),PX X.K X.H₀ W σ ρ H/\t ρ Q/\∀J H1 xs g,aI H H1->lQ X.K X.H₀ W g H1 J xs->Q xs g->R J H1
theorem Ev.keep {H0:Hp}{W W':ar->Prop}{H H':Hp}{g:Bool}(e:Ev W H W' H')(tw:∀a,W a->∃o,H a=some o/\eO o=true):fE (Ms H0 W g) (Ms H0 W' g) H H':=by
 have m:∀{a:ar}{o:HO},Ms H0 W g a->H a=some o->zY o=false->Ms H0 W' g a/\H' a=some o:=λ{a o} z h hk=>by
  cases g with
  |true=>
   obtain⟨h1,h2⟩:=e a _ h z.1 hk
   exact⟨⟨h2,z.2⟩,h1⟩
  |false=>
   obtain⟨h1,h2⟩:=e a _ h z hk
   exact⟨h2,h1⟩
 refine⟨λa _ z h=>m z h rfl,λa _ z h=>m z h rfl,λa _ z h=>m z h rfl,λa _ h=>(e a _ h (λz=>?_) rfl).1,λa _ _ h f=>(e a _ h (λz=>?_) f).1⟩
 ·obtain⟨o,h',mu⟩:=tw a z;rw[h]at h';cases h';cases mu
 ·obtain⟨o,h',mu⟩:=tw a z;rw[h]at h';cases h';cases mu
section
variable {X:Cx}{σ:St}{H:Hp}{te:aO}{tr:cA}{R:It→Hp→Prop}
noncomputable def A9 (K:ac)(tl:TE):TI:=λσ H R=>tl σ H λx H1=>∃a,x = .ref a/\((∃xs,aV K H1 a xs/\R (lD K a) H1)∨(∃xs,aW K H1 a xs/\R (jC K a) H1))
noncomputable def pI:Tg->List PV->Bool
 |.fr,_=>true
 |.nw,_=>true
 |_,xs=>flats xs
noncomputable def cY (te:aO):e8:=λρ Q=>te ρ λx g=>∃xs,jH x=some xs/\(g = .rd->flat x=true)/\Q xs (pI g xs)
theorem uC {K:ac}{H0:Hp}{W:ar->Prop}{g:Bool}{H1:Hp}{a:ar}{us:List V}{xs:List PV}(tw:∀a,W a->∃o,H1 a=some o/\eO o=true)(ha:∀W' H',Ev W H1 W' H'->aV K H' a us)(r:Reps K (Ms H0 W g) H1 us xs):lQ K H0 W g H1 (lD K a) xs:=by
 have lr:=r.length;refine⟨λW' H' i e hi=>⟨us,us[i]'(by omega),ha W' H' e,by simp⟩,λW' H' i v H2 e y hi=>?_,λW' H' e=>⟨us,ha W' H' e,by omega⟩⟩
 obtain⟨rfl,y⟩:=y
 obtain⟨x,hx,rx⟩:=r.get (y us (ha W' _ e))
 exact⟨aI.refl _,x,hx,rx.keep (e.keep tw)⟩
theorem B0 {K:ac}{H0:Hp}{W:ar->Prop}{g:Bool}{H1:Hp}{a:ar}{us:List V}{xs:List PV}(tw:∀a,W a->∃o,H1 a=some o/\eO o=true)(ha:∀W' H',Ev W H1 W' H'->aW K H' a us)(r:Reps K (Ms H0 W g) H1 us xs):lQ K H0 W g H1 (jC K a) xs:=by
 have lr:=r.length;refine⟨λW' H' i e hi=>⟨us,us[i]'(by omega),ha W' H' e,by simp⟩,λW' H' i v H2 e y hi=>?_,λW' H' e=>⟨us,ha W' H' e,by omega⟩⟩
 obtain⟨rfl,y⟩:=y
 obtain⟨x,hx,rx⟩:=r.get (y us (ha W' _ e))
 exact⟨aI.refl _,x,hx,rx.keep (e.keep tw)⟩
theorem jI {K:ac}{H0 Hs H:Hp}{W:ar->Prop}{σ:St}{ρ:bK}{g:Tg}{us:List V}{xs:List PV}(px:PX K H0 W σ ρ Hs)(hg:g = .rd->flats xs=true)(r:Reps K (Mg H0 W Hs g) H us xs):Reps K (Ms H0 W (pI g xs)) H us xs:=by
 cases g with
 |fr=>exact r.same (aI.refl _) λ_ z=>px.new z
 |nw=>exact r.same (aI.refl _) λ_ z=>z
 |sh=>
  show Reps K (Ms H0 W (flats xs)) H us xs;cases e:flats xs with
  |true=>exact r.flat e
  |false=>exact r.same (aI.refl _) λ_ z=>z
 |rd=>exact r.flat (hg rfl)
theorem ar9 (h:LI X (cY te) σ H R):A9 X.K (LE X te) σ H R:=by
 obtain⟨W,ρ,Q,px,q,k⟩:=h
 refine⟨W,ρ,_,px,q,?_⟩;rintro v H1 x g s r ⟨xs,e,hg,q⟩;have px1:=px.mono s;have tw:∀a,W a->∃o,H1 a=some o/\eO o=true:=λa z=>(px1.wm a z).2
 cases r with
 |tup h r=>
  cases e;refine⟨_,rfl,.inr ⟨_,aW.of h,k _ _ _ _ s (B0 tw (λW' H' e=>aW.of (e _ _ h (λz=>?_) rfl).1) (jI px (λz=>by have:=hg z;unfold flat at this;exact this) r)) q⟩⟩
  obtain⟨o,h',mu⟩:=tw _ z;rw[h]at h';cases h';cases mu
 |@lst a us xs' m h r=>
  cases e;have wa:¬W a:=by
   cases g with
   |fr=>exact (px.new m).1
   |nw=>exact m.1
   |sh=>exact m
   |rd=>have:=hg rfl;unfold flat at this;cases this
  exact⟨_,rfl,.inl ⟨_,aV.of h,k _ _ _ _ s (uC tw (λW' H' e=>aV.of (e _ _ h wa rfl).1) (jI px (λz=>by have:=hg z;unfold flat at this;cases this) r)) q⟩⟩
 |scr h=>
  cases e;refine⟨_,rfl,.inl ⟨_,h.sqL,k _ _ _ _ s (uC tw (λW' H' e=>(iP.keep (λa o u hz f=>(e _ _ hz (λz=>?_) f).1) h).sqL) (jI (g:=g) px (λz=>i5 _) (Reps.intz _))) q⟩⟩
  obtain⟨o,h',mu⟩:=tw _ z;rw[hz]at h';cases h';cases mu
 |kt h r=>
  cases e
  exact⟨_,rfl,.inr ⟨_,.inr h,k _ _ _ _ s (B0 tw (λW' H' e=>.inr h) (jI px (λz=>by have:=hg z;unfold flat at this;exact this) r)) q⟩⟩
 |fL h r=>
  cases e;refine⟨_,rfl,.inl ⟨_,.inl (.inr ⟨_,h⟩),k _ _ _ _ s (uC tw (λW' H' e=>.inl (.inr ⟨_,(e _ _ h (λz=>?_) rfl).1⟩)) (jI px (λz=>by have:=hg z;unfold flat at this;exact this) r)) q⟩⟩
  obtain⟨o,h',mu⟩:=tw _ z;rw[h]at h';cases h';cases mu
 |_=>cases e
noncomputable def fU (lo:Int)(n:Nat):List PV:=(List.range n).map λ(i:Nat)=>PV.int (lo+(i:Int))
theorem kD (lo:Int)(n:Nat):(fU lo n).length=n:=by unfold fU;rw[be9,bs0]
theorem B1 {lo:Int}{n i:Nat}(h:i<n):(fU lo n)[i]? = some (.int (lo+i)):=by unfold fU;rw[bg9,List.getElem?_range h];rfl
noncomputable def lR (te:aO):e8:=λρ Q=>te ρ λx _=>∃j:Int,x = .int j/\-1000000<=j/\j<=1000000/\Q (fU 0 j.toNat) true
theorem as0 {K:ac}{H0:Hp}{W:ar->Prop}{H1:Hp}(lo:Int)(n:Nat):lQ K H0 W true H1 (oK lo n) (fU lo n):=by
 refine⟨λW' H' i e hi=>by rw[kD]at hi;exact hi,λW' H' i v H2 e y hi=>?_,λW' H' e=>by show n<=(fU lo n).length;rw[kD];exact be7 _⟩;rw[kD]at hi
 obtain⟨rfl,rfl⟩:=y
 exact⟨aI.refl _,_,B1 hi,.int _⟩
theorem as1 (h:LI X (lR te) σ H R):xG (jW (LE X te) jV) σ H R:=by
 obtain⟨W,ρ,Q,px,q,k⟩:=h
 refine⟨W,ρ,_,px,q,?_⟩;rintro v H1 x g s r ⟨j,rfl,h1,h2,q⟩;cases r
 exact⟨j,rfl,by omega,by omega,k _ _ _ _ s (as0 0 j.toNat) q⟩
end
noncomputable abbrev iR:=PV->Bool->bK->(bK->Prop)->Prop
noncomputable def lS (K:ac)(own:Nat->Prop)(p:iR)(t:TG):Prop:=∀(H0:Hp) (W:ar->Prop) (σ:St) (ρ:bK) (H:Hp) (v:V) (x:PV) (g:Bool) (Q:bK->Prop) (Q':St->Hp->Prop),
 PX K H0 W σ ρ H->aR K (Ms H0 W g) H v x->p x g ρ Q->(∀σ' ρ',PX K H0 W σ' ρ' H->(∀i,¬own i->σ'[i]? = σ[i]?)->σ'.length=σ.length->Q ρ'->Q' σ' H)->t v σ H Q'
noncomputable def bT (i:Nat):iR:=λx g ρ Q=>Q (ρ.set i (some (.sh (g||flat x) x)))
theorem pJ {K:ac}{H0 H:Hp}{W:ar->Prop}{v:V}{x:PV}{g:Bool}(r:aR K (Ms H0 W g) H v x):aR K (Ms H0 W (g||flat x)) H v x:=by
 cases g with
 |true=>exact r
 |false=>
  show aR K (Ms H0 W (flat x)) H v x;cases e:flat x with
  |true=>exact r.flat e
  |false=>exact r
theorem lT (K:ac)(i:Nat):lS K (· = i) (bT i) (cO i):=by
 intro H0 W σ ρ H v x g Q Q' px r q k;exact k _ _ (px.setSh (pJ r)) (λj hj=>by rw[bh8 (Ne.symm hj)]) (bn0 ..) q
noncomputable def kE (i j:Nat):iR:=λx g ρ Q=>∃y z,x = .tup [y,z]/\Q ((ρ.set i (some (.sh (g||flat y) y))).set j (some (.sh (g||flat z) z)))
theorem B2 (K:ac)(i j:Nat):lS K (λk=>k=i∨k=j) (kE i j) (lC K 2 (gP (cO i) (gP (cO j) lB))):=by
 intro H0 W σ ρ H v x g Q Q' px r q k
 obtain⟨y,z,rfl,q⟩:=q
 obtain⟨a,us,rfl,h,r⟩:=r.sqT
 obtain⟨u1,u2,rfl,r1,r2⟩:=r.two
 refine⟨a,_,rfl,aW.of h,rfl,u1,_,rfl,u2,_,rfl,rfl,k _ _ ((px.setSh (pJ r1)).setSh (pJ r2)) (λk hk=>?_) (by rw[bn0,bn0]) q⟩;rw[bh8 (λe=>hk (.inr e.symm)),bh8 (λe=>hk (.inl e.symm))]
section
variable {X:Cx}{σ:St}{H:Hp}{D:cN}
noncomputable def e9 (ti:e8)(p:iR)(tb:aP):aP:=λD ρ=>ti ρ λxs g=>∃I:Nat->bK->Prop,I 0 ρ/\(∀i x ρ',xs[i]? = some x->I i ρ'->p x g ρ' λρ2=>tb { D with nx:=I (i+1),ct:=I (i+1),bk:=D.nx } ρ2)/\∀ρ',I xs.length ρ'->D.nx ρ'
theorem as2 {ti:e8}{p:iR}{g:TG}{tb:aP}{own:Nat->Prop}(hg:lS X.K own p g)(h:LS X (e9 ti p tb) D σ H):xH (LI X ti) g (LS X tb) D σ H:=by
 obtain⟨W,ρ,D',px,q,k⟩:=h
 refine⟨W,ρ,_,px,q,?_⟩;rintro J H1 xs gb s it ⟨I,i0,turn,fin⟩;refine⟨λi m σ2 H2=>m=xs.length-i/\i<=xs.length/\∃W2 ρ2,PX X.K X.H₀ W2 σ2 ρ2 H2/\Ev W H1 W2 H2/\I i ρ2,⟨xs.length,by omega,bo1 _,W,ρ,px.mono s,Ev.refl _ _,i0⟩,?_⟩;rintro i m σ2 H2 ⟨rfl,hi,W2,ρ2,px2,e2,i2⟩;have e0:Ev W H W2 H2:=(Ev.same s).trans e2;by_cases hlt:i<xs.length
 ·refine .inr ⟨it.go W2 H2 i e2 hlt,λσ3 H3=>∃W3 ρ3,PX X.K X.H₀ W3 σ3 ρ3 H3/\Ev W H1 W3 H3/\I (i+1) ρ3,λσ3 H3 ⟨W3,ρ3,a,b,c⟩=>⟨xs.length-(i+1),by omega,rfl,hlt,W3,ρ3,a,b,c⟩,λv H3 y=>?_⟩
  obtain⟨s3,x,hx,rx⟩:=it.yld W2 H2 i v H3 e2 y hlt
  refine hg X.H₀ W2 σ2 ρ2 H3 v x gb _ _ (px2.mono s3) rx (turn i x ρ2 hx i2) λσ4 ρ4 px4 _ _ q4=>?_
  have e3:Ev W H1 W2 H3:=e2.trans (Ev.same s3);have e3':Ev W H W2 H3:=e0.trans (Ev.same s3)
  exact⟨W2,ρ4,_,px4,q4,λW' σ' H' ρ' e p q=>⟨W',ρ',p,e3.trans e,q⟩,k.rt,λW' σ' H' ρ' e p q=>k.nx W' σ' H' ρ' (e3'.trans e) p q,λW' σ' H' ρ' e p q=>⟨W',ρ',p,e3.trans e,q⟩⟩
 ·have e:i=xs.length:=by omega
  subst e;exact .inl ⟨it.stop W2 H2 e2,k.nx W2 σ2 H2 ρ2 e0 px2 (fin ρ2 i2)⟩
end
noncomputable def Slot.blk:Slot->Slot
 |.kp _ x ks=>.kp false x ks
 |.sh _ x=>.sh false x
 |.own x=>.sh false x
noncomputable def lU (fr:List (Option Nat))(ρ:bK):bK:=fr.map λo=>o.bind λj=>(ρ[j]?).join.map Slot.blk
theorem k8.any {K:ac}{H0 H:Hp}{a:ar}{st un:List PV}(h:k8 K H0 H a st un):k8 K (λ_=>none) H a st un:=by
 obtain⟨C,dx,l1,l2,us1,us2,h1,h2,h⟩:=h
 exact⟨C,dx,l1,l2,us1,us2,h1,⟨rfl,rfl,rfl,rfl⟩,h⟩
theorem fQ.any {K:ac}{H0 H:Hp}{ks:List (ar×List PV×List PV)}(h:fQ K H0 H ks):fQ K (λ_=>none) H ks:=⟨λk hk=>(h.1 k hk).any,h.2⟩
theorem Slot.blk_own {m:Slot}{x:PV}(h:m.blk = .own x):False:=by
 cases m<;>cases h
theorem as3 {K:ac}{H0 H1 H1' H':Hp}{W W':ar->Prop}{v:V}{m:Slot}(r:pC K H0 W H1 v m)(k:fE (λ_=>False) (λ_=>False) H1 H')(f:∀b o,H1 b=some o->eO o=false->H' b=some o)(rv:aR K (λa=>¬W' a) H' v m.val):pC K H1' W' H' v m.blk:=by
 cases m with
 |sh g x=>exact rv
 |own x=>exact rv
 |kp g x ks=>exact⟨⟨r.1.1.keep k,r.1.2⟩,r.2.any.keep k f⟩
noncomputable def kF (D:ar):ar->Prop:=λa=>a=D
theorem as4 {K:ac}{H0:Hp}{W:ar->Prop}{σ:St}{ρ:bK}{H1 H':Hp}{D:ar}{acc:List V}{fr:List (Option Nat)}(px:PX K H0 W σ ρ H1)(hD:H1 D=none)(s:aI H1 H')(ha:H' D=some (.lst acc)) :
  PX K H1 (kF D) (dO fr σ) (lU fr ρ) H':=by
 have old:∀{a:ar}{o:HO},H1 a=some o->a≠D:=λ{a o} e z=>by rw[z,hD]at e;cases e
 refine⟨by unfold dO lU;rw[be9,be9],s,λa z=>by cases z;exact⟨hD,_,ha,rfl⟩,λi m h=>?_,λi j x y a h1=>?_⟩
 ·unfold lU at h
  rw[bg9]at h;cases ef:fr[i]? with
  |none=>rw[ef]at h;cases h
  |some o=>
   rw[ef]at h;cases o with
   |none=>cases h
   |some j=>
    have h:some ((ρ[j]?).join.map Slot.blk)=some (some m):=h;cases er:ρ[j]? with
    |none=>rw[er]at h;cases h
    |some o=>
     rw[er]at h;cases o with
     |none=>cases h
     |some m0=>
      cases h
      obtain⟨v,ev,r⟩:=px.sl j m0 er
      refine⟨v,?_,?_⟩
      ·unfold dO
       rw[bg9,ef];show some ((σ[j]?).join)=_;rw[ev];rfl
      ·have r':aR K (λ_=>True) H1 v m0.val:=(zZ (Hs:=H1) r).same (aI.refl _) λ_ _=>trivial
       refine as3 r (.same s λ_ z=>z) (λ_ _ e _=>s _ _ e) ?_;exact r'.keep ⟨λa _ _ e=>⟨old e,s _ _ e⟩,λa _ _ e=>⟨old e,s _ _ e⟩,λa _ _ e=>⟨old e,s _ _ e⟩,λ_ _ e=>s _ _ e,λ_ _ _ e _=>s _ _ e⟩
 ·unfold lU at h1
  rw[bg9]at h1;cases ef:fr[i]? with
  |none=>rw[ef]at h1;cases h1
  |some o=>
   rw[ef]at h1;cases o with
   |none=>cases h1
   |some j=>
    have h1:some ((ρ[j]?).join.map Slot.blk)=some (some (Slot.own x)):=h1;cases er:ρ[j]? with
    |none=>rw[er]at h1;cases h1
    |some o=>
     rw[er]at h1;cases o with
     |none=>cases h1
     |some m0=>exact (Slot.blk_own (bh9 (bh9 h1))).elim
section
variable {X:Cx}{σ:St}{H:Hp}{Q':VK}
noncomputable abbrev _root_.L2.Cx.frm (X:Cx)(H1:Hp):Cx:={ X with H₀:=H1 }
noncomputable def cZ (ti:e8)(fr:List (Option Nat))(p:iR)(tc:cD)(te:aO):aO:=λρ Q=>ti ρ λxs g=>xs.length<=16000000/\∃I:Nat->List PV->Prop,I 0 []/\
 (∀i x acc,xs[i]? = some x->I i acc->p x false (lU fr ρ) λρ2=>tc ρ2 λb=>if b=true then te ρ2 λy gy=>Nw gy y/\I (i+1) (acc++[y]) else I (i+1) acc)/\∀acc,I xs.length acc->Q (.lst acc) .fr
theorem nM {ti:e8}{fr:List (Option Nat)}{p:iR}{g:TG}{tc:cD}{te:aO}{own:Nat->Prop}(hg:lS X.K own p g)(ho:∀i,own i->fr[i]? = some none)(h:LE X (cZ ti fr p tc te) σ H Q') :
  tI (LI X ti) fr (λ_=>g) (λH1=>LT (X.frm H1) tc) (λH1=>LE (X.frm H1) te) σ H Q':=by
 obtain⟨W,ρ,Q,px,q,k⟩:=h
 refine⟨W,ρ,_,px,q,?_⟩;rintro J H1 xs gb s it ⟨hl,I,i0,turn,fin⟩ D hD;have px1:=px.mono s;refine⟨λi m acc H'=>m=xs.length-i/\i<=xs.length/\aI H1 H'/\H' D=some (.lst acc)/\∃ys,Reps X.K (Ms H1 (kF D) true) H' acc ys/\ys.length<=i/\I i ys,⟨xs.length,by omega,bo1 _,bC hD _,bD,[],.nil,be7 _,i0⟩,?_⟩;rintro i m acc H' ⟨rfl,hi,sm,ha,ys,ry,hy,iy⟩;refine⟨ha,?_⟩;have ev:Ev W H1 (lP W D) H':=Ev.own sm hD;by_cases hlt:i<xs.length
 ·refine .inr ⟨it.go _ H' i ev hlt,λv H2 y=>?_⟩
  obtain⟨s2,x,hx,rx⟩:=it.yld _ H' i v H2 ev y hlt
  have ha2:=s2 _ _ ha;have pxb:PX X.K H1 (kF D) (dO fr σ) (lU fr ρ) H2:=as4 px1 hD (sm.trans s2) ha2;have rx':aR X.K (Ms H1 (kF D) false) H2 v x:=rx.same (aI.refl _) λa z=>by
   cases gb with
   |true=>exact λe=>z.1 (.inr e)
   |false=>exact λe=>z (.inr e)
  refine hg H1 (kF D) _ _ H2 v x false _ _ pxb rx' (turn i x ys hx iy) λσ2 ρ2 px2 hown ai q2=>⟨⟨ai.symm,λj w e=>?_⟩,?_⟩
  ·by_cases oj:own j
   ·have:=ho j oj
    unfold dO at e;rw[bg9,this]at e;cases e
   ·rw[hown j oj];exact e
  ·refine⟨kF D,ρ2,_,px2,q2,λb H4 s4 q4=>?_⟩
   have ha4:=s4 _ _ ha2;have sm4:=(sm.trans s2).trans s4;cases b with
   |false=>
    refine aQ ⟨xs.length-(i+1),by omega,rfl,hlt,sm4,ha4,ys,ry.same (s2.trans s4) λ_ z=>z,by omega,by simpa using q4⟩
   |true=>
    refine b4 ⟨kF D,ρ2,_,px2.mono s4,by simpa using q4,?_⟩;rintro w H5 y gy s5 ryy ⟨nw,q5⟩;have ha5:=s5 _ _ ha4;have lr:=ry.length;refine⟨ha5,iN (by omega),xs.length-(i+1),by omega,rfl,hlt,λb o e=>?_,bD,ys++[y],?_,by rw[bg8,bp0];omega,q5⟩
    ·rw[b6 (λz=>by rw[z,hD]at e;cases e)]
     exact s5 _ _ (sm4 _ _ e)
    ·exact ((ry.same ((s2.trans s4).trans s5) λ_ z=>z).append (.cons (Nw.rep (px2.mono s4) nw ryy) .nil)).keep (.upd ha5 rfl λb m=>⟨m.1,m⟩)
 ·have e:i=xs.length:=by omega
  subst e;refine .inl ⟨it.stop _ H' ev,k _ H' _ .fr (s.trans sm) (.lst (s.free hD) ha (ry.same (aI.refl _) λ_ z=>s.free z.2)) (fin ys iy)⟩
noncomputable def dC:cD:=λ_ Q=>Q true
theorem as5 {Qb:Bool->Hp->Prop}(h:LT X dC σ H Qb):tG σ H Qb:=by
 obtain⟨W,ρ,Q,px,q,k⟩:=h
 exact k _ _ (aI.refl _) q
end
section
variable {κ:Type}[DecidableEq κ]
noncomputable def bL (ps:List (κ×PV))(k:κ):Option PV:=(ps.find? λp=>decide (p.1=k)).map (·.2)
noncomputable def dD (ps:List (κ×PV))(k:κ)(x:PV):List (κ×PV):=if (ps.any λp=>decide (p.1=k))=true then ps.map (λp=>if p.1=k then (p.1,x) else p) else ps++[(k,x)]
variable {K:ac}{M:ar→Prop}{H:Hp}
theorem iS (k:κ):∀{kvs:List (κ×V)}{ps:List (κ×PV)},kvs.map (·.1)=ps.map (·.1)->Reps K M H (kvs.map (·.2)) (ps.map (·.2))->(bL ps k=none->dU kvs k=none)/\∀x,bL ps k=some x->∃v,dU kvs k=some v/\aR K M H v x
 |[],[],_,_=>⟨λ_=>rfl,λx h=>by cases h⟩
 |[],_::_,e,_=>by cases e
 |_::_,[],e,_=>by cases e
 |(k1,v)::kvs,(k2,x)::ps,e,r=>by
  injection e with e1 e2
  have e1:k1=k2:=e1;subst e1;cases r with
  |cons r t=>
   obtain⟨h1,h2⟩:=iS k e2 t
   unfold bL dU at h1 h2 ⊢;by_cases e:k1=k
   ·simp only[bp7,e,decide_true,Option.map_some]
    exact⟨λz=>(by cases z),λy z=>(by cases z;exact⟨v,rfl,r⟩)⟩
   ·simp only[bp7,e,decide_false]
    exact⟨h1,h2⟩
theorem as6 (k:κ){kvs:List (κ×V)}{ps:List (κ×PV)}(e:kvs.map (·.1)=ps.map (·.1)):(kvs.any λp=>decide (p.1=k))=ps.any λp=>decide (p.1=k):=by
 have h1:(kvs.any λp=>decide (p.1=k))=(kvs.map (·.1)).any λz=>decide (z=k):=by rw[List.any_map];rfl
 have h2:(ps.any λp=>decide (p.1=k))=(ps.map (·.1)).any λz=>decide (z=k):=by rw[List.any_map];rfl
 rw[h1,h2,e]
theorem B3 (k:κ){w:V}{y:PV}(q:aR K M H w y):∀{kvs:List (κ×V)}{ps:List (κ×PV)},kvs.map (·.1)=ps.map (·.1)->Reps K M H (kvs.map (·.2)) (ps.map (·.2))->
  (kvs.map λkv=>if kv.1=k then (kv.1,w) else kv).map (·.1)=(ps.map λkv=>if kv.1=k then (kv.1,y) else kv).map (·.1)/\Reps K M H ((kvs.map λkv=>if kv.1=k then (kv.1,w) else kv).map (·.2)) ((ps.map λkv=>if kv.1=k then (kv.1,y) else kv).map (·.2))
 |[],[],_,_=>⟨rfl,.nil⟩
 |[],_::_,e,_=>by cases e
 |_::_,[],e,_=>by cases e
 |(k1,v)::kvs,(k2,x)::ps,e,r=>by
  injection e with e1 e2
  have e1:k1=k2:=e1;subst e1;cases r with
  |cons r t=>
   obtain⟨h1,h2⟩:=B3 k q e2 t
   by_cases e:k1=k
   ·simp only[bn5,e,if_true]
    exact⟨by rw[h1],.cons q h2⟩
   ·simp only[bn5,e,bq0]
    exact⟨by rw[h1],.cons r h2⟩
theorem uD (k:κ){w:V}{y:PV}(q:aR K M H w y){kvs:List (κ×V)}{ps:List (κ×PV)}(e:kvs.map (·.1)=ps.map (·.1))(r:Reps K M H (kvs.map (·.2)) (ps.map (·.2))) :
  (dN kvs k w).map (·.1)=(dD ps k y).map (·.1)/\Reps K M H ((dN kvs k w).map (·.2)) ((dD ps k y).map (·.2)):=by
 unfold dN dD;rw[as6 k e];split
 ·exact B3 k q e r
 ·rw[bi9,bi9,bi9,bi9,e]
  exact⟨rfl,r.append (.cons q .nil)⟩
end
noncomputable def kP:aH->PV
 |.inl i=>.int i
 |.inr x=>.str x
theorem uE {K:ac}{M:ar->Prop}{H:Hp}{v:V}{k:aH}(r:aR K M H v (kP k)):v=kV k:=by
 cases k with
 |inl i=>cases r;rfl
 |inr x=>cases r;rfl
theorem uF {K:ac}{M:ar->Prop}{H:Hp}:∀{ks:List aH}{us:List V},Reps K M H us (ks.map kP)->us=ks.map kV
 |[],_,.nil=>rfl
 |k::r,_,.cons q t=>by rw[uE q,uF t];rfl
noncomputable def B4:PV->PV
 |.fK ps=>.dK ps
 |.fT ps=>.dT ps
 |x=>x
noncomputable def uG (x y:PV)(o:Option PV):Prop:=(∃ps k,B4 x = .dK ps/\y=kP k/\o=bL ps k)∨(∃ps k,B4 x = .dT ps/\y = .tup (k.map kP)/\o=bL ps k)
theorem uH {K:ac}{M M2:ar->Prop}{H:Hp}{v w:V}{x y:PV}{o:Option PV}(h:uG x y o)(rx:aR K M H v x)(ry:aR K M2 H w y):∃a o',v = .ref a/\fD H a w o'/\(o=none->o'=none)/\∀z,o=some z->∃u,o'=some u/\aR K M H u z:=by
 rcases h with⟨ps,k,ex,rfl,rfl⟩|⟨ps,k,ex,rfl,rfl⟩
 ·obtain rfl:=uE ry
  cases rx with
  |dK m h e r=>cases ex;exact⟨_,_,rfl,fD.k h,(iS k e r).1,(iS k e r).2⟩
  |fK h e r=>cases ex;exact⟨_,_,rfl,.inl ⟨_,k,.inr ⟨_,h⟩,rfl,rfl⟩,(iS k e r).1,(iS k e r).2⟩
  |_=>cases ex
 ·obtain⟨b,us,rfl,hb,rb⟩:=ry.sqT
  obtain rfl:=uF rb;cases rx with
  |dT m h e r=>cases ex;exact⟨_,_,rfl,fD.t h hb,(iS k e r).1,(iS k e r).2⟩
  |fT h e r=>cases ex;exact⟨_,_,rfl,.inr ⟨_,k,b,.inr ⟨_,h⟩,rfl,hb,rfl⟩,(iS k e r).1,(iS k e r).2⟩
  |_=>cases ex
section
variable {X:Cx}{σ:St}{H:Hp}{D:cN}{tk td te:aO}{Q':VK}
noncomputable def fG (neg:Bool)(tk td:aO):aO:=λρ Q=>tk ρ λy _=>td ρ λx _=>∃o,uG x y o/\Q (.bl (if neg=true then !o.isSome else o.isSome)) .fr
theorem B5 {α β:Type}{o:Option α}{o':Option β}{P:β->α->Prop}(h1:o=none->o'=none)(h2:∀z,o=some z->∃u,o'=some u/\P u z):o'.isSome=o.isSome:=by
 cases o with
 |none=>rw[h1 rfl];rfl
 |some z=>obtain⟨u,e,_⟩:=h2 z rfl;rw[e];rfl
theorem as7 (h:LE X (fG false tk td) σ H Q'):yU (LE X tk) (LE X td) σ H Q':=by
 obtain⟨W,ρ,Q,px,q,k⟩:=h
 refine⟨W,ρ,_,px,q,λw H1 y g s r q=>⟨W,ρ,_,px.mono s,q,?_⟩⟩;rintro v H2 x g' s2 r2 ⟨o,ak,q⟩
 obtain⟨a,o',rfl,dg,h1,h2⟩:=uH ak r2 (r.same s2 λ_ z=>z)
 refine⟨a,o',rfl,dg,?_⟩;rw[B5 h1 h2];exact k _ _ _ .fr (s.trans s2) (.bl _) q
theorem B6 (h:LE X (fG true tk td) σ H Q'):yV (LE X tk) (LE X td) σ H Q':=by
 obtain⟨W,ρ,Q,px,q,k⟩:=h
 refine⟨W,ρ,_,px,q,λw H1 y g s r q=>⟨W,ρ,_,px.mono s,q,?_⟩⟩;rintro v H2 x g' s2 r2 ⟨o,ak,q⟩
 obtain⟨a,o',rfl,dg,h1,h2⟩:=uH ak r2 (r.same s2 λ_ z=>z)
 refine⟨a,o',rfl,dg,?_⟩;rw[B5 h1 h2];exact k _ _ _ .fr (s.trans s2) (.bl _) q
noncomputable def iT (td tk:aO):aO:=λρ Q=>td ρ λx g=>tk ρ λy _=>∃z,uG x y (some z)/\Q z g
theorem as8 (h:LE X (iT td tk) σ H Q'):yT (LE X td) (LE X tk) σ H Q':=by
 obtain⟨W,ρ,Q,px,q,k⟩:=h
 refine⟨W,ρ,_,px,q,λv H1 x g s r q=>⟨W,ρ,_,px.mono s,q,?_⟩⟩;rintro w H2 y g' s2 r2 ⟨z,ak,q⟩
 obtain⟨a,o',rfl,dg,h1,h2⟩:=uH ak (r.same s2 λ_ z=>z) r2
 obtain⟨u,rfl,ru⟩:=h2 z rfl
 exact⟨a,u,rfl,dg,k _ _ _ g (s.trans s2) ru q⟩
theorem PX.updD {K:ac}{H0:Hp}{W:ar->Prop}{σ:St}{ρ:bK}{H:Hp}{i:Nat}{a:ar}{x:PV}{kvs:List (aH×V)}{ps:List (aH×PV)}(p:PX K H0 W σ ρ H)(hi:ρ[i]? = some (some (.own x)))(ha:σ[i]? = some (some (.ref a)))(wa:W a)(r:kvs.map (·.1)=ps.map (·.1)/\Reps K (Ms H0 W true) (upd H a (.dK kvs)) (kvs.map (·.2)) (ps.map (·.2))):PX K H0 W σ (ρ.set i (some (.own (.dK ps)))) (upd H a (.dK kvs)):=p.updOwn hi ha wa rfl (y:=.dK ps) ⟨kvs,bD,r⟩
theorem PX.updT {K:ac}{H0:Hp}{W:ar->Prop}{σ:St}{ρ:bK}{H:Hp}{i:Nat}{a:ar}{x:PV}{kvs:List (List aH×V)}{ps:List (List aH×PV)}(p:PX K H0 W σ ρ H)(hi:ρ[i]? = some (some (.own x)))(ha:σ[i]? = some (some (.ref a)))(wa:W a)(r:kvs.map (·.1)=ps.map (·.1)/\Reps K (Ms H0 W true) (upd H a (.dT kvs)) (kvs.map (·.2)) (ps.map (·.2))):PX K H0 W σ (ρ.set i (some (.own (.dT ps)))) (upd H a (.dT kvs)):=p.updOwn hi ha wa rfl (y:=.dT ps) ⟨kvs,bD,r⟩
theorem pK {κ α β:Type}{l:List (κ×α)}{m:List (κ×β)}(e:l.map (·.1)=m.map (·.1)):l.length=m.length:=by
 have:=congrArg List.length e
 rw[be9,be9]at this;exact this
noncomputable def iU (i:Nat)(tk te:aO):aP:=λD ρ=>te ρ λz g=>∃ps,ρ[i]? = some (some (.own (.dK ps)))/\tk ρ λy _=>∃k,y=kP k/\Nw g z/\ps.length<16000000/\D.nx (ρ.set i (some (.own (.dK (dD ps k z)))))
noncomputable def uI (i:Nat)(tk te:aO):aP:=λD ρ=>te ρ λz g=>∃ps,ρ[i]? = some (some (.own (.dT ps)))/\tk ρ λy _=>∃k,y = .tup (k.map kP)/\Nw g z/\ps.length<16000000/\D.nx (ρ.set i (some (.own (.dT (dD ps k z)))))
theorem as9 {i:Nat}(h:LS X (iU i tk te) D σ H):t6 (hJ i) (LE X tk) (LE X te) D σ H:=by
 obtain⟨W,ρ,D',px,q,k⟩:=h
 refine⟨W,ρ,_,px,q,?_⟩;rintro w H1 z g s rz ⟨ps,hi,q⟩
 obtain⟨v,ev,a,rfl,wa,kvs,ea,e1,r⟩:=(px.mono s).sl i _ hi
 refine⟨_,ev,W,ρ,_,px.mono s,q,?_⟩;rintro kv H2 y g' s2 ry ⟨kk,rfl,nw,hl,q⟩;obtain rfl:=uE ry;have ea2:=s2 _ _ ea;refine⟨a,_,rfl,jE.k ea2 (iN (by rw[pK e1];omega)),?_⟩;refine k.nx W σ _ _ ((Ev.same (s.trans s2)).trans (Ev.upd wa)) ((px.mono (s.trans s2)).updD hi ev wa ?_) q
 obtain⟨h1,h2⟩:=uD kk ((Nw.rep px nw rz).same s2 λ_ z=>z) e1 (r.same s2 λ_ z=>z)
 exact⟨h1,h2.keep (.upd ea2 rfl λb m=>⟨kB wa m,m⟩)⟩
theorem at0 {i:Nat}(h:LS X (uI i tk te) D σ H):t6 (hJ i) (LE X tk) (LE X te) D σ H:=by
 obtain⟨W,ρ,D',px,q,k⟩:=h
 refine⟨W,ρ,_,px,q,?_⟩;rintro w H1 z g s rz ⟨ps,hi,q⟩
 obtain⟨v,ev,a,rfl,wa,kvs,ea,e1,r⟩:=(px.mono s).sl i _ hi
 refine⟨_,ev,W,ρ,_,px.mono s,q,?_⟩;rintro kv H2 y g' s2 ry ⟨kk,rfl,nw,hl,q⟩
 obtain⟨b,us,rfl,hb,rb⟩:=ry.sqT
 obtain rfl:=uF rb;have ea2:=s2 _ _ ea;refine⟨a,_,rfl,jE.t ea2 hb (iN (by rw[pK e1];omega)),?_⟩;refine k.nx W σ _ _ ((Ev.same (s.trans s2)).trans (Ev.upd wa)) ((px.mono (s.trans s2)).updT hi ev wa ?_) q
 obtain⟨h1,h2⟩:=uD kk ((Nw.rep px nw rz).same s2 λ_ z=>z) e1 (r.same s2 λ_ z=>z)
 exact⟨h1,h2.keep (.upd ea2 rfl λb m=>⟨kB wa m,m⟩)⟩
theorem at2 (h:LE X (qC (.dK [])) σ H Q'):yZ σ H Q':=by
 obtain⟨W,ρ,Q,px,q,k⟩:=h
 exact λp hp=>k _ _ _ .fr (bC hp _) (.dK hp bD rfl .nil) q
theorem at3 (h:LE X (qC (.dT [])) σ H Q'):z9 σ H Q':=by
 obtain⟨W,ρ,Q,px,q,k⟩:=h
 exact λp hp=>k _ _ _ .fr (bC hp _) (.dT hp bD rfl .nil) q
noncomputable def gT (ps more:List (aH×PV)):List (aH×PV):=more.foldl (λacc kv=>dD acc kv.1 kv.2) ps
theorem B7 {K:ac}{M:ar->Prop}{H:Hp}:∀{more:List (aH×V)}{mp:List (aH×PV)}{kvs:List (aH×V)}{ps:List (aH×PV)},more.map (·.1)=mp.map (·.1)->Reps K M H (more.map (·.2)) (mp.map (·.2))->kvs.map (·.1)=ps.map (·.1)->Reps K M H (kvs.map (·.2)) (ps.map (·.2))->
  (hZ kvs more).map (·.1)=(gT ps mp).map (·.1)/\Reps K M H ((hZ kvs more).map (·.2)) ((gT ps mp).map (·.2))
 |[],[],_,_,_,_,e,r=>⟨e,r⟩
 |[],_::_,_,_,e,_,_,_=>by cases e
 |_::_,[],_,_,e,_,_,_=>by cases e
 |(k1,v)::more,(k2,x)::mp,kvs,ps,e,r,e',r'=>by
  injection e with e1 e2
  have e1:k1=k2:=e1;subst e1;cases r with
  |cons q t=>
   obtain⟨h1,h2⟩:=uD k1 q e' r'
   exact B7 (more:=more) (mp:=mp) e2 t h1 h2
noncomputable def uJ (i:Nat)(te:aO):aP:=λD ρ=>∃ps,ρ[i]? = some (some (.own (.dK ps)))/\te ρ λy g=>∃mp,y = .dK mp/\(g = .fr∨(g = .nw/\False))/\ps.length+mp.length<=16000000/\D.nx (ρ.set i (some (.own (.dK (gT ps mp)))))
theorem at4 {i:Nat}(h:LS X (uJ i te) D σ H):mQ (zW (hJ i) (LE X te)) D σ H:=by
 obtain⟨W,ρ,D',px,⟨ps,hi,q⟩,k⟩:=h
 obtain⟨v,ev,a,rfl,wa,kvs,ea,e1,r⟩:=px.sl i _ hi
 refine⟨_,ev,a,rfl,.inl ⟨kvs,.inl ea⟩,W,ρ,_,px,q,?_⟩;rintro w H1 y g s ry ⟨mp,rfl,hg,hl,q⟩;rcases hg with rfl|⟨_,z⟩
 ·cases ry with
  |@dK b more _ m hb e2 rb=>
   have hab:a≠b:=λz=>by subst z;rw[show H a=none from m]at ea;cases ea
   have ea1:=s _ _ ea;refine⟨b,kvs,more,rfl,hab,ea1,hb,lim (by rw[pK e1,pK e2];exact hl),?_⟩;refine k.nx W σ _ _ ((Ev.same s).trans (Ev.upd wa)) ((px.mono s).updD hi ev wa ?_) q
   obtain⟨h1,h2⟩:=B7 e2 (rb.same (M':=Ms X.H₀ W true) (aI.refl _) λ_ z=>px.new z) e1 (r.same s λ_ z=>z)
   exact⟨h1,h2.keep (.upd ea1 rfl λb m=>⟨kB wa m,m⟩)⟩
 ·exact z.elim
end
noncomputable def cF:Nat->PV->PV->Bool
 |_,.non,.non=>true
 |_,.bl a,.bl b=>a==b
 |_,.int a,.int b=>a==b
 |_,.str a,.str b=>a==b
 |n+1,.tup xs,.tup ys=>(xs.zip ys).all (λp=>cF n p.1 p.2)&&xs.length==ys.length
 |n+1,.lst xs,.lst ys=>(xs.zip ys).all (λp=>cF n p.1 p.2)&&xs.length==ys.length
 |n+1,.kt xs,.kt ys=>(xs.zip ys).all (λp=>cF n p.1 p.2)&&xs.length==ys.length
 |_,_,_=>false
noncomputable def eI:Nat->PV->PV->Bool
 |_,.non,.non=>true
 |_,.bl _,.bl _=>true
 |_,.int _,.int _=>true
 |_,.str _,.str _=>true
 |_,.non,.int _=>true
 |_,.int _,.non=>true
 |n+1,.tup xs,.tup ys=>(xs.zip ys).all (λp=>eI n p.1 p.2)
 |n+1,.lst xs,.lst ys=>(xs.zip ys).all (λp=>eI n p.1 p.2)
 |n+1,.kt xs,.kt ys=>(xs.zip ys).all (λp=>eI n p.1 p.2)
 |_+1,.non,.tup _=>true
 |_+1,.tup _,.non=>true
 |_,_,_=>false
theorem at5 (n:Nat)(a b:Int):cF n (.int a) (.int b)=(a==b):=by cases n<;>rfl
theorem B8 (n:Nat):∀(a b:ae),((((intz a).zip (intz b)).all λp=>cF n p.1 p.2)&&(intz a).length==(intz b).length)=decide (a=b)
 |[],[]=>rfl
 |[],_::_=>by simp
 |_::_,[]=>by simp
 |x::a,y::b=>by
  have ih:=B8 n a b;simp only[bn5,List.zip_cons_cons,List.all_cons,bm3,at5]at ih ⊢;by_cases e:x=y
  ·subst e
   have:((intz a).length+1==(intz b).length+1)=((intz a).length==(intz b).length):=by simp
   rw[this,bm4,Bool.true_and,ih];simp
  ·have:(x==y)=false:=bn6.mpr e
   rw[this,Bool.false_and,Bool.false_and];simp[e]
theorem B9 (n:Nat)(a b:ae):cF (n+1) (.lst (intz a)) (.lst (intz b))=decide (a=b):=B8 n a b
theorem C0 (n:Nat):∀(a b:ae),(((intz a).zip (intz b)).all λp=>eI n p.1 p.2)=true
 |[],_=>by simp
 |_::_,[]=>by simp
 |x::a,y::b=>by
  simp only[bn5,List.zip_cons_cons,List.all_cons,C0 n a b,Bool.and_true];cases n<;>rfl
theorem C1 (n:Nat)(a b:ae):eI (n+1) (.lst (intz a)) (.lst (intz b))=true:=C0 n a b
noncomputable def C2 (ta:aO):aO:=λρ Q=>ta ρ λx _=>∃i,x = .int i/\Q (.int (-i)) .fr
noncomputable def lV (n:Nat)(neg:Bool):PV->Tg->PV->Tg->PK->Prop:=λx _ y _ Q=>((∃xs ys,x = .tup xs/\y = .tup ys)∨(∃xs ys,x = .lst xs/\y = .lst ys))/\eI (n+1) x y=true/\Q (.bl (if neg=true then !cF (n+1) x y else cF (n+1) x y)) .fr
noncomputable abbrev kG:=bK->(Option Int->Prop)->Prop
noncomputable def uK (xs:List PV)(lo hi:Option Int):List PV:=(xs.drop (HT.b8 xs.length 0 lo)).take (HT.b8 xs.length xs.length hi-HT.b8 xs.length 0 lo)
noncomputable def at7:PV->List PV->PV
 |.tup _,ys=>.tup ys
 |.kt _,ys=>.tup ys
 |_,ys=>.lst ys
noncomputable def uL:kG:=λ_ Q=>Q none
noncomputable def uM (te:aO):kG:=λρ Q=>te ρ λx _=>∃i,x = .int i/\Q (some i)
noncomputable def uN (te:aO)(tl th:kG):aO:=λρ Q=>te ρ λx _=>tl ρ λlo=>th ρ λhi=>∃xs,seqT x=some xs/\flats xs=true/\Q (at7 x (uK xs lo hi)) .fr
noncomputable def eQ (N:List Str)(xs:List PV):bK:=xs.map (λx=>some (.sh (flat x) x))++List.replicate (N.length-xs.length) none
noncomputable abbrev kH (ta tb:aO):aO:=q2 (fF λi j=>.int (i+j)) ta tb
noncomputable abbrev jJ (ta tb:aO):aO:=q2 (fF λi j=>.int (i-j)) ta tb
noncomputable abbrev at8 (ta tb:aO):aO:=q2 (RI rZ λi j=>.int (i/j)) ta tb
noncomputable abbrev iV (ta tb:aO):aO:=q2 (RI (λ_ j=>0<j) λi j=>.int (i%j)) ta tb
noncomputable abbrev at9 (ta tb:aO):aO:=q2 (RI sA λi j=>.int (i^j.toNat)) ta tb
noncomputable abbrev iW (ta tb:aO):aO:=q2 (fF λi j=>.bl (decide (i<j))) ta tb
noncomputable abbrev iX (ta tb:aO):aO:=q2 (fF λi j=>.bl (decide (j<i))) ta tb
noncomputable abbrev pM (ta tb:aO):aO:=q2 (fF λi j=>.bl (decide (j<=i))) ta tb
noncomputable abbrev eR (ta tb:aO):aO:=q2 (k9 false) ta tb
noncomputable abbrev uO (ta tb:aO):aO:=q2 (k9 true) ta tb
noncomputable abbrev C3 (ta tb:aO):aO:=q2 (uB true) ta tb
noncomputable abbrev cG (ta tb:aO):aO:=q2 u6 ta tb
noncomputable def gU:List PV->(PV->Prop)->Prop:=λxs Q=>A8 xs Q/\∀ns,xs≠[.scr ns]
noncomputable def bV:aP:=λ_ _=>False
noncomputable def QE (X:Cx)(e:Expr)(t:aO):Prop:=PE X e (LE X t)
noncomputable def QT (X:Cx)(e:Expr)(t:cD):Prop:=PT X e (LT X t)
noncomputable def QW (X:Cx)(e:Expr)(t:cD):Prop:=PW X e (LT X t)
noncomputable def QA (X:Cx)(es:List Expr)(t:cA):Prop:=PA X es (LA X t)
noncomputable def QS (X:Cx)(st:Stmt)(t:aP):Prop:=PS X st (LS X t)
noncomputable def eJ (X:Cx)(st:List Stmt)(t:aP):Prop:=dM X st (LS X t)
noncomputable def QI (X:Cx)(tg iter:Expr)(t:e8):Prop:=PI X tg iter (LI X t)
section
variable {X:Cx}
theorem bS {e:Expr}{t t':TE}(h:PE X e t)(m:∀σ H Q,t' σ H Q->t σ H Q):PE X e t':=λaf s σ H Q I q=>h af s σ H Q I (m σ H Q q)
theorem lW {e:Expr}{t t':TT}(h:PT X e t)(m:∀σ H Q,t' σ H Q->t σ H Q):PT X e t':=λaf s σ H Q I q=>h af s σ H Q I (m σ H Q q)
theorem C4 {e:Expr}{t t':TT}(h:PW X e t)(m:∀σ H Q,t' σ H Q->t σ H Q):PW X e t':=λwh af s σ H Q I q=>h wh af s σ H Q I (m σ H Q q)
theorem C5 {e:List Expr}{t t':TA}(h:PA X e t)(m:∀σ H Q,t' σ H Q->t σ H Q):PA X e t':=λpos af s σ H Q I q=>h pos af s σ H Q I (m σ H Q q)
theorem dP {e:Stmt}{t t':TS}(h:PS X e t)(m:∀D σ H,t' D σ H->t D σ H):PS X e t':=λaf s σ H D I q=>h af s σ H D I (m D σ H q)
theorem uP {e:List Stmt}{t t':TS}(h:dM X e t)(m:∀D σ H,t' D σ H->t D σ H):dM X e t':=λaf s σ H D I q=>h af s σ H D I (m D σ H q)
theorem nN {tg e:Expr}{t t':TI}(h:PI X tg e t)(m:∀σ H R,t' σ H R->t σ H R):PI X tg e t':=λaf s σ H R I q=>h af s σ H R I (m σ H R q)
variable {a b c e o:Expr}{es dA:List Expr}{ta tb te to tk:aO}{tr:cA}{tA tB' tc:cD}{pos p2 px:Pos}{st:Stmt}{sts:List Stmt}{t u:aP}
theorem qv (i:Nat){x:Str}{pos:Pos}(hN:X.N[i]? = some x:=by rfl)(hv:gA X.env.scope x:=by first|exact Or.inl rfl|exact Or.inr (Or.inl rfl)|exact Or.inr (Or.inr rfl))(hd:(x==("__debug__":Str))=false:=by decide)(hcd:(x==("__classdict__":Str))=false:=by decide):QE X (.Name x pos) (aA i):=bS (iH hN hv hd hcd) λ_ _ _=>ao5
theorem aX {i j}:QE X (.Constant (.int i) j pos) (qC (.int i)):=bS mM λ_ _ _=>lN λ_=>.int i
theorem jK {i j}:QE X (.Constant (.bool i) j pos) (qC (.bl i)):=bS wY λ_ _ _=>lN λ_=>.bl i
theorem nO {j}:QE X (.Constant .none j pos) (qC .non):=bS ab3 λ_ _ _=>lN λ_=>.non
theorem bW {i j}:QE X (.Constant (.str i) j pos) (qC (.str i)):=bS ab4 λ_ _ _=>lN λ_=>.str i
theorem iY {op:Operator}{R:PV->Tg->PV->Tg->PK->Prop}{r:R2}(ho:cC X (binaryOp op) r)(cv:dG X R r)(ha:QE X a ta)(hb:QE X b tb):QE X (.BinOp a op b pos) (q2 R ta tb):=bS (ad9 ho ha hb) λ_ _ _=>nG cv
theorem kI (ha:QE X a ta)(hb:QE X b tb):QE X (.BinOp a .Add b pos) (q2 (fF λi j=>.int (i+j)) ta tb):=iY ae1 A0 ha hb
theorem jL (ha:QE X a ta)(hb:QE X b tb):QE X (.BinOp a .Sub b pos) (q2 (fF λi j=>.int (i-j)) ta tb):=iY ae2 A0 ha hb
theorem au0 (ha:QE X a ta)(hb:QE X b tb):QE X (.BinOp a .FloorDiv b pos) (q2 (RI rZ λi j=>.int (i/j)) ta tb):=iY ae3 tW ha hb
theorem iZ (ha:QE X a ta)(hb:QE X b tb):QE X (.BinOp a .Mod b pos) (q2 (RI (λ_ j=>0<j) λi j=>.int (i%j)) ta tb):=iY ae4 tW ha hb
theorem au1 (ha:QE X a ta)(hb:QE X b tb):QE X (.BinOp a .Pow b pos) (q2 (RI sA λi j=>.int (i^j.toNat)) ta tb):=iY ae5 tW ha hb
theorem nP {op:CmpOp}{R:PV->Tg->PV->Tg->PK->Prop}{r:R2}(ho:cC X (compareOp op) r)(cv:dG X R r)(ha:QE X a ta)(hb:QE X b tb)(hm:behindInMarks op b=false):QE X (.Compare a [op] [b] pos) (q2 R ta tb):=bS (sE ho ha hb hm) λ_ _ _=>nG cv
theorem j3 {op:CmpOp}{R:PV->Tg->PV->Tg->PK->Prop}{r:R2}(ho:cC X (compareOp op) r)(cv:dG X R r)(ha:QE X a ta)(hb:QE X b tb)(hm:behindInMarks op b=false):QT X (.Compare a [op] [b] pos) (b5 (q2 R ta tb)):=lW (af1 ho ha hb hm) λ_ _ _ h=>nG cv (pE h)
theorem C6 (ha:QE X a ta)(hb:QE X b tb):QE X (.Compare a [.Lt] [b] pos) (q2 (fF λi j=>.bl (decide (i<j))) ta tb):=nP oM nH ha hb (eV _)
theorem C7 (ha:QE X a ta)(hb:QE X b tb):QE X (.Compare a [.GtE] [b] pos) (q2 (fF λi j=>.bl (decide (j<=i))) ta tb):=nP xQ nH ha hb (eV _)
theorem uQ (ha:QE X a ta)(hb:QE X b tb):QE X (.Compare a [.Eq] [b] pos) (q2 (k9 false) ta tb):=nP sD A3 ha hb (eV _)
theorem kJ (ha:QE X a ta)(hb:QE X b tb):QT X (.Compare a [.Lt] [b] pos) (b5 (q2 (fF λi j=>.bl (decide (i<j))) ta tb)):=j3 oM nH ha hb (eV _)
theorem j4 (ha:QE X a ta)(hb:QE X b tb):QT X (.Compare a [.Gt] [b] pos) (b5 (q2 (fF λi j=>.bl (decide (j<i))) ta tb)):=j3 ae7 nH ha hb (eV _)
theorem C8 (ha:QE X a ta)(hb:QE X b tb):QT X (.Compare a [.GtE] [b] pos) (b5 (q2 (fF λi j=>.bl (decide (j<=i))) ta tb)):=j3 xQ nH ha hb (eV _)
theorem gG (ha:QE X a ta)(hb:QE X b tb):QT X (.Compare a [.Eq] [b] pos) (b5 (q2 (k9 false) ta tb)):=j3 sD A3 ha hb (eV _)
theorem uR (ha:QE X a ta)(hb:QE X b tb):QT X (.Compare a [.NotEq] [b] pos) (b5 (q2 (k9 true) ta tb)):=j3 xP ao6 ha hb (eV _)
theorem C9 (ha:QE X a ta)(hb:QE X b tb):QT X (.Compare a [.IsNot] [b] pos) (b5 (q2 (uB true) ta tb)):=j3 ae9 ar8 ha hb (eV _)
theorem E1 (hu:X.A.units+1<cLine)(hk:QE X a tk)(hd:QE X b te)(hm:behindInMarks .In b=false:=by rfl):QT X (.Compare a [.In] [b] pos) (b5 (fG false tk te)):=lW (wZ (aj7 hu hk hd) hm) λ_ _ _ h=>as7 (pE h)
theorem pN (hu:X.A.units+1<cLine)(hk:QE X a tk)(hd:QE X b te)(hm:behindInMarks .NotIn b=false:=by rfl):QT X (.Compare a [.NotIn] [b] pos) (b5 (fG true tk te)):=lW (wZ (yW hu hk hd) hm) λ_ _ _ h=>B6 (pE h)
theorem au2 (hu:X.A.units+1<cLine)(hk:QE X a tk)(hd:QE X b te)(hm:behindInMarks .NotIn b=false:=by rfl):QE X (.Compare a [.NotIn] [b] pos) (fG true tk te):=bS (ab6 (yW hu hk hd) hm) λ_ _ _ h=>B6 h
theorem gV (h:QE X e te)(he:∀whole,isTrue e X.env whole=(do let v <- whole;standAt e.pos;holding [v] (truthy v)):=by intro _;rfl):QT X e (b5 te):=lW (ab7 h he) λ_ _ _ h=>pE h
theorem nQ (h:QE X e te)(he:∀whole,isTrue e X.env whole=(do let v <- whole;standAt e.pos;holding [v] (truthy v)):=by intro _;rfl):QT X e (kC te):=lW (af4 h he) λ_ _ _ h=>ar6 h
theorem uS (ha:QT X a tA):QW X (.BoolOp .And [a] pos) tA:=ab8 ha
theorem kK (ha:QT X a tA):QW X (.BoolOp .Or [a] pos) tA:=ab9 ha
theorem uT (ha:QT X a tA)(hb:QW X (.BoolOp .And (b::dA) pos) tB'):QW X (.BoolOp .And (a::b::dA) pos) (lO tA tB'):=C4 (ac0 ha hb) λ_ _ _=>ao7
theorem kM (ha:QT X a tA)(hb:QW X (.BoolOp .Or (b::dA) pos) tB'):QW X (.BoolOp .Or (a::b::dA) pos) (iQ tA tB'):=C4 (ac1 ha hb) λ_ _ _=>ao8
theorem i8 (h:QW X e tA):QT X e tA:=PW.pt h
theorem jM (ha:QT X a tA):QT X (.UnaryOp .Not a pos) (i6 tA):=lW (ac2 ha) λ_ _ _=>ao9
theorem uU {op}(h:QE X a ta):QE X (.BoolOp op [a] pos) ta:=ac3 h
theorem uV (ha:QE X a ta)(hb:QE X (.BoolOp .And (b::dA) pos) tb):QE X (.BoolOp .And (a::b::dA) pos) (nI ta tb):=bS (ac4 ha hb) λ_ _ _=>ap0
theorem aG:QA X [] aF:=C5 eN λ_ _ _=>ap1
theorem aD (ha:QE X e te)(hr:QA X es tr)(hs:starEach (e::es) X.env=(false,eval e X.env)::starEach es X.env:=by rfl):QA X (e::es) (aB te tr):=C5 (dS ha hr hs) λ_ _ _=>ap2
theorem bR {x1}(h:QA X es tr):QE X (.Tuple es x1 pos) (bO tr):=bS (af7 h) λ_ _ _=>ap3
theorem eB (h:QA X es tr):QE X (.List es pos) (dH tr):=bS (xU h) λ_ _ _=>ap4
theorem cJ (ha:QE X a ta)(hb:QE X b tb)(hs:sO b:=by exact λ_ _=>rfl):QE X (.Subscript a b pos) (q2 u6 ta tb):=bS (lH ah5 ha hb hs) λ_ _ _=>nG aq8
theorem kN (hu:X.A.units+1<cLine)(ha:QE X a ta)(hb:QE X b tb)(hs:t5 b:=by exact λ_ _=>rfl):QE X (.Subscript a b pos) (iT ta tb):=bS (aj6 hu ha hb hs) λ_ _ _=>as8
theorem uW:QE X (.Dict [] [] pos) (qC (.dK [])):=bS aj9 λ_ _ _=>at2
theorem au3:QE X (.Dict [] [] pos) (qC (.dT [])):=bS ak0 λ_ _ _=>at3
theorem i9 {x:Str}{id:String}{R:List PV->(PV->Prop)->Prop}{r:List V->Hp->VK->Prop}(hc:cV X (.builtin id) r)(cv:eY X R r)(hg:Gl X x)(hm:X.mg x=none)(hv:bootBuiltins x=some (.builtin id))(ha:QA X (e::es) tr)(hn:x≠"__name__":=by decide)(hdb:(x==("__debug__":Str))=false:=by decide)(he:starEach (e::es) X.env=(false,eval e X.env)::starEach es X.env:=by rfl)(hpl:(backTo pos (starEach es X.env)).any (·.1)=false:=by rfl):QE X (.Call (.Name x p2) (e::es) [] pos) (aK R tr):=bS (oP hc hg hm hv ha hn hdb he hpl) λ_ _ _=>A4 cv
theorem E2 {x:Str}{T:String}{R:List PV->(PV->Prop)->Prop}{r:List V->Hp->VK->Prop}(hc:cV X (.type T) r)(cv:eY X R r)(hg:Gl X x)(hm:X.mg x=none)(hv:bootBuiltins x=some (.type T))(ha:QA X (e::es) tr)(hn:x≠"__name__":=by decide)(hdb:(x==("__debug__":Str))=false:=by decide)(he:starEach (e::es) X.env=(false,eval e X.env)::starEach es X.env:=by rfl)(hpl:(backTo pos (starEach es X.env)).any (·.1)=false:=by rfl):QE X (.Call (.Name x p2) (e::es) [] pos) (aK R tr):=bS (y8 hc hg hm hv ha hn hdb he hpl) λ_ _ _=>A4 cv
theorem bX:eJ X [] bQ:=uP ac6 λ_ _ _=>ap5
theorem aN (h1:QS X st t)(h2:eJ X sts u):eJ X (st::sts) (aM t u):=uP (oI h1 h2) λ_ _ _=>ap6
theorem aL (h1:QS X st t):eJ X [st] t:=mP h1
theorem bY:QS X st bV:=dP ac9 λ_ _ _ ⟨_,_,_,_,h,_⟩=>h
theorem bP {i:Nat}{x:Str}(hN:X.N.Nodup)(he:QE X e te)(hi:X.N[i]? = some x:=by rfl)(hx:hG X.env.scope x:=by first|exact Or.inl rfl|exact Or.inr rfl)(hs:swapsWith e (some (.Name x p2)) pos.line X.env=pure false:=by rfl)(hf:X.fn x=true∨X.env.scope.names.lookup x=some .local:=by first|exact .inl rfl|exact .inr rfl) :
  QS X (.Assign [.Name x p2] e pos) (bE i te):=dP (rT hN hi hx he hs hf) λ_ _ _=>u5
theorem fA {i:Nat}{x:Str}(hN:X.N.Nodup)(he:QE X e te)(hi:X.N[i]? = some x:=by rfl)(hx:hG X.env.scope x:=by first|exact Or.inl rfl|exact Or.inr rfl)(hs:swapsWith e (some (.Name x p2)) pos.line X.env=pure false:=by rfl)(hf:X.fn x=true∨X.env.scope.names.lookup x=some .local:=by first|exact .inl rfl|exact .inr rfl) :
  QS X (.Assign [.Name x p2] e pos) (eG i te):=dP (rT hN hi hx he hs hf) λ_ _ _=>ap9
theorem fV (he:QE X e te)(hs:swapsWith e none pos.line X.env=pure false:=by rfl):QS X (.Expr e pos) (eZ te):=dP (lA he hs) λ_ _ _=>aq0
theorem bN (he:QE X e te):QS X (.Return (some e) pos) (bG te):=dP (mR he) λ_ _ _=>aq1
theorem gW (i:Nat){x:Str}(hN:X.N[i]? = some x:=by rfl)(hv:gA X.env.scope x:=by first|exact Or.inl rfl|exact Or.inr (Or.inl rfl)|exact Or.inr (Or.inr rfl))(hd:(x==("__debug__":Str))=false:=by decide)(hcd:(x==("__classdict__":Str))=false:=by decide) :
  QS X (.Return (some (.Name x p2)) pos) (fS i):=dP (mR (iH hN hv hd hcd)) λ_ _ _=>aq2
theorem bI {sa sb:List Stmt}(hc:QT X c tc)(ha:eJ X sa t)(hb:eJ X sb u):QS X (.If c sa sb pos) (bA tc t u):=dP (ac7 hc ha hb) λ_ _ _=>aq3
theorem lX {body:List Stmt}(hp:PassesOwn (model X.prog X.w) X.A X.env X.xe)(hc:QT X c tc)(hb:eJ X body t):QS X (.While c body [] pos) (jG tc t):=dP (ad0 hp hc hb) λ_ _ _=>aq4
theorem kO (i:Nat){x:Str}{ag ah xpos:Pos}(he:QE X e te)(hN:X.N[i]? = some x:=by rfl)(hv:gA X.env.scope x:=by first|exact Or.inl rfl|exact Or.inr (Or.inl rfl)|exact Or.inr (Or.inr rfl))(hd:(x==("__debug__":Str))=false:=by decide)(hcd:(x==("__classdict__":Str))=false:=by decide)(hbase:attributeBase (.Name x xpos) "append" X.env (eval (.Name x xpos) X.env)=eval (.Name x xpos) X.env:=by rfl)(hfew:((backTo ah (starEach [e] X.env)).all (λx=>!x.1)&&(backToKw ah (keywordEach [] X.env)).all (λx=>x.1.isSome)&&decide (([e]:List Expr).length+([]:List Keyword).length+(if ([]:List Keyword).isEmpty then 0 else 1)<30))=true:=by rfl)(hline:(ag.endLine==ah.line)=true:=by rfl)(hs:starEach [e] X.env=(false,eval e X.env)::starEach [] X.env:=by rfl)(am:(backTo ah (starEach [] X.env)).any (·.1)=false:=by rfl)(hsw:swapsWith (.Call (.Attribute (.Name x xpos) "append" ag) [e] [] ah) none pos.line X.env=pure false:=by rfl) :
  QS X (.Expr (.Call (.Attribute (.Name x xpos) "append" ag) [e] [] ah) pos) (i7 i te):=
 dP (lA (mW bs2 PySem.F.slot_list_append PySem.F.type_list_append mY (iH hN hv hd hcd) (dS he eN hs) hbase hfew hline hs am) hsw) λ_ _ _=>aq5
theorem lY {i:Nat}{x:Str}{xpos tpos:Pos}(hu:X.A.units+1<cLine)(hk:QE X a tk)(he:QE X e te)(hN:X.N[i]? = some x:=by rfl)(hv:gA X.env.scope x:=by first|exact Or.inl rfl|exact Or.inr (Or.inl rfl)|exact Or.inr (Or.inr rfl))(hd:(x==("__debug__":Str))=false:=by decide)(hcd:(x==("__classdict__":Str))=false:=by decide)(hs:swapsWith e (some (.Subscript (.Name x xpos) a tpos)) pos.line X.env=pure false:=by rfl):QS X (.Assign [.Subscript (.Name x xpos) a tpos] e pos) (iU i tk te):=dP (yX hu (iH hN hv hd hcd) hk he hs) λ_ _ _=>as9
theorem au4 {i:Nat}{x:Str}{xpos tpos:Pos}(hu:X.A.units+1<cLine)(hk:QE X a tk)(he:QE X e te)(hN:X.N[i]? = some x:=by rfl)(hv:gA X.env.scope x:=by first|exact Or.inl rfl|exact Or.inr (Or.inl rfl)|exact Or.inr (Or.inr rfl))(hd:(x==("__debug__":Str))=false:=by decide)(hcd:(x==("__classdict__":Str))=false:=by decide)(hs:swapsWith e (some (.Subscript (.Name x xpos) a tpos)) pos.line X.env=pure false:=by rfl):QS X (.Assign [.Subscript (.Name x xpos) a tpos] e pos) (uI i tk te):=dP (yX hu (iH hN hv hd hcd) hk he hs) λ_ _ _=>at0
theorem au5 {tg l:Expr}{tl:TE}(hl:PE X l tl):PI X tg l (A9 X.K tl):=by
 intro af s σ H R I h;refine aT (hl af s σ H _ I h) λv s1 ⟨x,H1,I1,r1,q1⟩=>?_
 obtain⟨a,e,q⟩:=q1
 subst e;cases r1;rcases q with⟨xs,hq,q⟩|⟨xs,hq,q⟩
 ·obtain⟨its,rv,p,hz⟩:=I1.list hq
  refine wpAny_pyIter_list p.isList ?_;refine⟨s1.heap.objs.size,[s1.heap.objs.size],_,_,H1,rfl,I1.kept (t':=s1.toks) λb o e=>be4 _ e,ad1 a _,⟨_,bf0 _ rfl,rfl,rfl⟩,λb hb=>?_,q⟩;have e:b=s1.heap.objs.size:=by simpa using hb
  subst e;exact I1.fpOk (be7 _) (I1.hok.fresh (be7 _))
 ·obtain⟨its,rv,p,hz⟩:=I1.tuple hq
  refine br1 (show s1.heap.IsTuple a its.toArray from p) ?_;refine⟨s1.heap.objs.size,[s1.heap.objs.size],_,_,H1,rfl,I1.kept (t':=s1.toks) λb o e=>be4 _ e,xE a _,⟨_,bf0 _ rfl,rfl,rfl⟩,λb hb=>?_,q⟩;have e:b=s1.heap.objs.size:=by simpa using hb
  subst e;exact I1.fpOk (be7 _) (I1.hok.fresh (be7 _))
theorem dJ {tg l:Expr}(hl:QE X l te):QI X tg l (cY te):=nN (au5 hl) λ_ _ _=>ar9
theorem pO {tg:Expr}(hg:Gl X "range")(hm:X.mg "range" = none)(ha:QE X a ta)(hs:starEach [a] X.env = [(false,eval a X.env)]:=by rfl):QI X tg (.Call (.Name "range" p2) [a] [] pos) (lR ta):=nN (ad5 hg hm (dS ha eN hs) hs) λ_ _ _=>as1
theorem E3 {tg:Expr}{body:List Stmt}{ti:e8}{p:iR}{g:TG}{own:Nat->Prop}(hp:PassesOwn (model X.prog X.w) X.A X.env X.xe)(hc:X.calm=true)(hi:QI X tg e ti)(hg:PG X tg g)(ht:lS X.K own p g)(hb:eJ X body t)(hs:∀x,foldedSetIterable e X.env x=pure x:=by intro _;rfl):QS X (.For tg e body [] pos) (e9 ti p t):=dP (xI hp hc hi hg hb hs) λ_ _ _=>as2 ht
end
section
variable {X:Cx}{af:List (ar×Obj)}{σ:St}{H:Hp}{s:aq}{K:ac}{M M':ar→Prop}
theorem lM.inj {a:ar}{us ws:List V}(h:lM K a us)(h':lM K a ws):us=ws:=by
 obtain⟨o,its,n,e1,_,e2,_,v⟩:=h
 obtain⟨o',its',n',e1',_,e2',_,v'⟩:=h'
 rw[e1]at e1';cases e1';rw[e2]at e2';cases e2';exact v.inj v'
theorem Reps.self_of {n:Nat}(ih:∀{v:V}{x y:PV},aR K M H v x->aR K M' H v y->eI n x y=true->cF n x y=true):∀{vs:List V}{xs ys:List PV},Reps K M H vs xs->Reps K M' H vs ys->((xs.zip ys).all λp=>eI n p.1 p.2)=true->(((xs.zip ys).all λp=>cF n p.1 p.2)&&xs.length==ys.length)=true
 |_,_,_,.nil,.nil,_=>rfl
 |_,_,_,.cons r t,.cons r' t',o=>by
  simp only[List.zip_cons_cons,List.all_cons,bm2]at o;have h1:=ih r r' o.1;have h2:=Reps.self_of ih t t' o.2;simp only[List.zip_cons_cons,List.all_cons,h1,Bool.true_and,bm3]at h2 ⊢;rw[<- h2];congr 1;simp
theorem aR.self:∀(n:Nat) {v:V}{x y:PV},aR K M H v x->aR K M' H v y->eI n x y=true->cF n x y=true:=by
 intro n
 induction n with
 |zero=>
  intro v x y r r' o;cases r with
  |non=>cases r';rfl
  |bl b=>cases r';exact bm4 b
  |int i=>cases r';exact bm4 i
  |str z=>cases r';exact bm4 z
  |_=>cases o
 |succ n ih=>
  intro v x y r r' o;cases r with
  |non=>cases r';rfl
  |bl b=>cases r';exact bm4 b
  |int i=>cases r';exact bm4 i
  |str z=>cases r';exact bm4 z
  |tup h rr=>
   cases r' with
   |tup h' rr'=>rw[h]at h';cases h';exact Reps.self_of ih rr rr' o
   |_=>cases o
  |lst _ h rr=>
   cases r' with
   |lst _ h' rr'=>rw[h]at h';cases h';exact Reps.self_of ih rr rr' o
   |_=>cases o
  |kt h rr=>
   cases r' with
   |kt h' rr'=>cases lM.inj h h';exact Reps.self_of ih rr rr' o
   |_=>cases o
  |_=>cases o
theorem Reps.self (n:Nat){vs:List V}{xs ys:List PV}(r:Reps K M H vs xs)(r':Reps K M' H vs ys)(o:((xs.zip ys).all λp=>eI n p.1 p.2)=true):(((xs.zip ys).all λp=>cF n p.1 p.2)&&xs.length==ys.length)=true:=Reps.self_of (aR.self n) r r' o
theorem j5 (n:Nat)(xs ys:List PV):(List.range (min xs.length ys.length)).all (λj=>cF n (xs.getD j .non) (ys.getD j .non))=(xs.zip ys).all λp=>cF n p.1 p.2:=by
 rw[bp5];simp only[bq1,List.mem_range];constructor
 ·intro h p hp
  obtain⟨j,hj,e⟩:=List.getElem_of_mem hp
  have hj':j<min xs.length ys.length:=by simpa using hj
  have:=h j hj'
  rw[List.getElem_zip]at e;subst e;have h1:j<xs.length:=by omega
  have h2:j<ys.length:=by omega
  simpa[bi3,h1,h2] using this
 ·intro h j hj
  have h1:j<xs.length:=by omega
  have h2:j<ys.length:=by omega
  have hz:j<(xs.zip ys).length:=by simp;omega
  have:=h _ (List.getElem_mem hz)
  rw[List.getElem_zip]at this;simpa[bi3,h1,h2] using this
theorem au6 (I:aE X af σ H s):∀(n:Nat) {A:aw}{v w:V}{x y:PV}{a b:ao},A.units+n<cLine->aR X.K M H v x->aR X.K M' H w y->b7 v a->b7 w b->eI n x y=true->SeqAt.EqAt A s a b (cF n x y):=by
 intro n
 induction n with
 |zero=>
  intro A v w x y a b hu rx ry ra rb o;cases rx with
  |non=>
   cases ra;cases ry with
   |non=>cases rb;exact SeqAt.EqAt.same _
   |int i=>obtain⟨t',rfl⟩:=rb;exact SeqAt.EqAt.none_int _ _
   |_=>cases o
  |bl i=>
   cases ra;cases ry with
   |bl j=>cases rb;exact SeqAt.EqAt.bool_bool _ _
   |_=>cases o
  |int i=>
   obtain⟨t,rfl⟩:=ra
   cases ry with
   |int j=>obtain⟨t',rfl⟩:=rb;exact SeqAt.EqAt.int_int _ _ _ _
   |non=>cases rb;exact SeqAt.EqAt.int_none _ _
   |_=>cases o
  |str i=>
   obtain⟨t,rfl⟩:=ra
   cases ry with
   |str j=>obtain⟨t',rfl⟩:=rb;exact SeqAt.EqAt.str_str _ _ _ _
   |_=>cases o
  |_=>cases o
 |succ n ih=>
  intro A v w x y a b hu rx ry ra rb o;have items:∀{us ws:List V}{xs ys:List PV}{its al:List ao},Reps X.K M H us xs->Reps X.K M' H ws ys->aY us its->aY ws al->((xs.zip ys).all λp=>eI n p.1 p.2)=true->
    ∀j (h1:j<its.toArray.size) (h2:j<al.toArray.size),SeqAt.EqAt A.in1 s its.toArray[j] al.toArray[j] (cF n (xs.getD j .non) (ys.getD j .non)):=λ{us ws xs ys its al} r1 r2 v1 v2 ok j h1 h2=>by
   have l1:=v1.length;have l2:=v2.length;have m1:=r1.length;have m2:=r2.length;have k1:j<its.length:=by simpa using h1
   have k2:j<al.length:=by simpa using h2
   have j1:j<us.length:=by omega
   have j2:j<ws.length:=by omega
   have i1:j<xs.length:=by omega
   have i2:j<ys.length:=by omega
   obtain⟨u,hu',ru⟩:=v1.get (bf3 j1)
   obtain⟨u2,hu2',ru2⟩:=v2.get (bf3 j2)
   obtain⟨x,hx,rx⟩:=r1.get (bf3 j1)
   obtain⟨y,hy,ry⟩:=r2.get (bf3 j2)
   have e1:its.toArray[j]=u:=by
    rw[bf3 k1]at hu';simpa using hu'
   have e2:al.toArray[j]=u2:=by
    rw[bf3 k2]at hu2';simpa using hu2'
   have ok':eI n x y=true:=by
    rw[bq1]at ok;have hz:j<(xs.zip ys).length:=by simp;omega
    have:=ok _ (List.getElem_mem hz)
    rw[List.getElem_zip]at this;rw[bf3 i1]at hx;rw[bf3 i2]at hy;cases hx;cases hy;exact this
   rw[e1,e2];have g1:xs.getD j .non=x:=by rw[bi3,hx];rfl
   have g2:ys.getD j .non=y:=by rw[bi3,hy];rfl
   rw[g1,g2];exact ih (by show A.units+1+n<cLine;omega) rx ry ru ru2 ok'
  have huA:A.units<cLine:=by omega
  cases rx with
  |@kt p us xs h1 r1=>
   obtain⟨its,v1,p1,_⟩:=I.tuple (.inr h1)
   cases (show a=Value.ref p from ra);cases ry with
   |@kt p2 ws ys h2 r2=>
    obtain⟨al,v2,p2',_⟩:=I.tuple (.inr h2)
    cases (show b=Value.ref p2 from rb);by_cases e:p=p2
    ·subst e
     have:=aR.self (K:=X.K) (M:=M) (M':=M') (n+1) (.kt h1 r1) (.kt h2 r2) o
     rw[this];exact SeqAt.EqAt.same _
    ·have:=SeqAt.RcAt.tuples p1 p2' huA (items r1 r2 v1 v2 o)
     refine .of_refs e ?_;have l1:=v1.length;have l2:=v2.length;have m1:=r1.length;have m2:=r2.length;rw[be5,be5,<- l1,<- l2,m1,m2,j5]at this;exact this
   |_=>cases o
  |@tup p us xs h1 r1=>
   obtain⟨its,v1,p1,_⟩:=I.tuple (aW.of (K:=X.K) h1)
   cases (show a=Value.ref p from ra);cases ry with
   |@tup p2 ws ys h2 r2=>
    obtain⟨al,v2,p2',_⟩:=I.tuple (aW.of (K:=X.K) h2)
    cases (show b=Value.ref p2 from rb);by_cases e:p=p2
    ·subst e
     have:=aR.self (K:=X.K) (M:=M) (M':=M') (n+1) (.tup h1 r1) (.tup h2 r2) o
     rw[this];exact SeqAt.EqAt.same _
    ·have:=SeqAt.RcAt.tuples p1 p2' huA (items r1 r2 v1 v2 o)
     refine .of_refs e ?_;have l1:=v1.length;have l2:=v2.length;have m1:=r1.length;have m2:=r2.length;rw[be5,be5,<- l1,<- l2,m1,m2,j5]at this;exact this
   |non=>cases rb;exact SeqAt.EqAt.tuple_none p1 huA
   |_=>cases o
  |@lst p us xs _ h1 r1=>
   obtain⟨its,v1,p1,_⟩:=I.list (aV.of (K:=X.K) h1)
   cases (show a=Value.ref p from ra);cases ry with
   |@lst p2 ws ys _ h2 r2=>
    obtain⟨al,v2,p2',_⟩:=I.list (aV.of (K:=X.K) h2)
    cases (show b=Value.ref p2 from rb);have l1:=v1.length;have l2:=v2.length;have m1:=r1.length;have m2:=r2.length;by_cases e:p=p2
    ·subst e
     rw[h1]at h2;cases h2
     have:=Reps.self n r1 r2 o
     show SeqAt.EqAt A s _ _ ((xs.zip ys).all (λp=>cF n p.1 p.2)&&xs.length==ys.length);rw[this];exact SeqAt.EqAt.same _
    ·refine .of_refs e ?_
     by_cases hl:xs.length=ys.length
     ·have:=SeqAt.RcAt.lists p1.isList p2'.isList (by rw[be5,be5];omega) huA (items r1 r2 v1 v2 o)
      have hm:min xs.length ys.length=its.length:=by omega
      rw[be5,<- hm,j5]at this;show SeqAt.RcAt A s _ _ ((xs.zip ys).all (λp=>cF n p.1 p.2)&&xs.length==ys.length);rw[show (xs.length==ys.length)=true by simpa using hl,Bool.and_true];exact this
     ·have:=SeqAt.RcAt.lists_lengths (A:=A) p1.isList p2'.isList (by rw[be5,be5];simp;omega) huA
      show SeqAt.RcAt A s _ _ ((xs.zip ys).all (λp=>cF n p.1 p.2)&&xs.length==ys.length);rw[show (xs.length==ys.length)=false by simpa using hl,bw0];exact this
   |_=>cases o
  |non=>
   cases ra;cases ry with
   |non=>cases rb;exact SeqAt.EqAt.same _
   |int i=>obtain⟨t',rfl⟩:=rb;exact SeqAt.EqAt.none_int _ _
   |@tup p2 ws ys h2 r2=>
    obtain⟨al,v2,p2',_⟩:=I.tuple (aW.of (K:=X.K) h2)
    cases (show b=Value.ref p2 from rb);exact SeqAt.EqAt.none_tuple p2' huA
   |_=>cases o
  |bl i=>
   cases ra;cases ry with
   |bl j=>cases rb;exact SeqAt.EqAt.bool_bool _ _
   |_=>cases o
  |int i=>
   obtain⟨t,rfl⟩:=ra
   cases ry with
   |int j=>obtain⟨t',rfl⟩:=rb;exact SeqAt.EqAt.int_int _ _ _ _
   |non=>cases rb;exact SeqAt.EqAt.int_none _ _
   |_=>cases o
  |str i=>
   obtain⟨t,rfl⟩:=ra
   cases ry with
   |str j=>obtain⟨t',rfl⟩:=rb;exact SeqAt.EqAt.str_str _ _ _ _
   |_=>cases o
  |_=>cases o
end
structure Bt (mg:Str->Option ao):Prop where
 len:mg "len" = none
 range:mg "range" = none
 tuple:mg "tuple" = none
 list:mg "list" = none
 sorted:mg "sorted" = none
 all:mg "all" = none
 any:mg "any" = none
 zip:mg "zip" = none
 min:mg "min" = none
 max:mg "max" = none
 sum:mg "sum" = none
 isinst:mg "isinstance" = none
 int:mg "int" = none
 bool:mg "bool" = none
 enum:mg "enumerate" = none
section
variable {X:Cx}{a b c e o:Expr}{es dA:List Expr}{ta tb te to tk:aO}{tr:cA}{tA tB' tc:cD}{pos p2 px:Pos}{st:Stmt}{sts:List Stmt}{t u:aP}
theorem eC (B:Bt X.mg)(ha:QA X [e] tr)(hg:Gl X "len":=by rfl)(he:starEach [e] X.env=(false,eval e X.env)::starEach [] X.env:=by rfl)(hpl:(backTo pos (starEach [] X.env)).any (·.1)=false:=by rfl):QE X (.Call (.Name "len" p2) [e] [] pos) (aK dI tr):=
 i9 (ah9.or al1) aq9 hg B.len PySem.boot_len ha (he:=he) (hpl:=hpl)
theorem iA (B:Bt X.mg)(ha:QA X [e] tr)(hg:Gl X "tuple":=by rfl)(he:starEach [e] X.env=(false,eval e X.env)::starEach [] X.env:=by rfl)(hpl:(backTo pos (starEach [] X.env)).any (·.1)=false:=by rfl):QE X (.Call (.Name "tuple" p2) [e] [] pos) (aK gU tr):=
 E2 ai1 ar0 hg B.tuple PyProof.Rows.boot_tuple ha (he:=he) (hpl:=hpl)
theorem E4 (B:Bt X.mg)(hc:X.calm=true)(ha:QA X [e] tr)(hg:Gl X "all":=by rfl)(he:starEach [e] X.env=(false,eval e X.env)::starEach [] X.env:=by rfl)(hpl:(backTo pos (starEach [] X.env)).any (·.1)=false:=by rfl):QE X (.Call (.Name "all" p2) [e] [] pos) (aK nK tr):=
 i9 (tQ hc) ar1 hg B.all PyProof.Rows.boot_all ha (he:=he) (hpl:=hpl)
theorem E5 (B:Bt X.mg)(hc:X.calm=true)(ha:QA X [a,b] tr)(hg:Gl X "min":=by rfl)(he:starEach [a,b] X.env=(false,eval a X.env)::starEach [b] X.env:=by rfl)(hpl:(backTo pos (starEach [b] X.env)).any (·.1)=false:=by rfl):QE X (.Call (.Name "min" p2) [a,b] [] pos) (aK pH tr):=
 i9 (af6 hc) ar2 hg B.min PyProof.Rows.boot_min ha (he:=he) (hpl:=hpl)
theorem au7 (B:Bt X.mg)(hc:X.calm=true)(ha:QA X [a,b] tr)(hg:Gl X "max":=by rfl)(he:starEach [a,b] X.env=(false,eval a X.env)::starEach [b] X.env:=by rfl)(hpl:(backTo pos (starEach [b] X.env)).any (·.1)=false:=by rfl):QE X (.Call (.Name "max" p2) [a,b] [] pos) (aK u8 tr):=
 i9 (af5 hc) ar3 hg B.max PyProof.Rows.boot_max ha (he:=he) (hpl:=hpl)
theorem au8 (ha:QE X a ta):QE X (.UnaryOp .USub a pos) (C2 ta):=bS (ae0 ae6 ha) λσ H Q' h=>by
 obtain⟨W,ρ,Q,px,q,k⟩:=h
 refine⟨W,ρ,_,px,q,?_⟩;rintro v H1 x g s r ⟨i,rfl,q⟩;cases r
 exact⟨i,rfl,k _ _ _ .fr s (.int _) q⟩
theorem aR.kt_ {K:ac}{M:ar->Prop}{H:Hp}{v:V}{xs:List PV}(r:aR K M H v (.kt xs)):∃a us,v = .ref a/\lM K a us/\Reps K M H us xs:=by
 cases r with
 |kt h r=>exact⟨_,_,rfl,h,r⟩
noncomputable def uX (K:ac)(n:Nat)(neg:Bool):R2:=λv w H Q=>∃x y,aR K (λ_=>True) H v x/\aR K (λ_=>True) H w y/\((∃xs ys,x = .tup xs/\y = .tup ys)∨(∃xs ys,x = .lst xs/\y = .lst ys)∨(∃xs ys,x = .kt xs/\y = .kt ys))/\eI (n+1) x y=true/\Q (.bl (if neg=true then !cF (n+1) x y else cF (n+1) x y)) H
theorem lZ {af:List (ar×Obj)}{σ:St}{H:Hp}{s:aq}{M M':ar->Prop}(I:aE X af σ H s){n:Nat}{A:aw}(hu:A.units+(n+1)<cLine){us ws:List V}{xs ys:List PV}{its al:List ao}(r1:Reps X.K M H us xs)(r2:Reps X.K M' H ws ys)(v1:aY us its)(v2:aY ws al)(ok:((xs.zip ys).all λp=>eI n p.1 p.2)=true):∀j (h1:j<its.toArray.size) (h2:j<al.toArray.size),SeqAt.EqAt A.in1 s its.toArray[j] al.toArray[j] (cF n (xs.getD j .non) (ys.getD j .non)):=by
 intro j h1 h2;have l1:=v1.length;have l2:=v2.length;have m1:=r1.length;have m2:=r2.length;have k1:j<its.length:=by simpa using h1
 have k2:j<al.length:=by simpa using h2
 have j1:j<us.length:=by omega
 have j2:j<ws.length:=by omega
 have i1:j<xs.length:=by omega
 have i2:j<ys.length:=by omega
 obtain⟨u,hu',ru⟩:=v1.get (bf3 j1)
 obtain⟨u2,hu2',ru2⟩:=v2.get (bf3 j2)
 obtain⟨x,hx,rx⟩:=r1.get (bf3 j1)
 obtain⟨y,hy,ry⟩:=r2.get (bf3 j2)
 have e1:its.toArray[j]=u:=by
  rw[bf3 k1]at hu';simpa using hu'
 have e2:al.toArray[j]=u2:=by
  rw[bf3 k2]at hu2';simpa using hu2'
 have ok':eI n x y=true:=by
  rw[bq1]at ok;have hz:j<(xs.zip ys).length:=by simp;omega
  have:=ok _ (List.getElem_mem hz)
  rw[List.getElem_zip]at this;rw[bf3 i1]at hx;rw[bf3 i2]at hy;cases hx;cases hy;exact this
 rw[e1,e2];have g1:xs.getD j .non=x:=by rw[bi3,hx];rfl
 have g2:ys.getD j .non=y:=by rw[bi3,hy];rfl
 rw[g1,g2];exact au6 I n (by show A.units+1+n<cLine;omega) rx ry ru ru2 ok'
theorem au9 (n:Nat)(hu:X.A.units+(n+1)<cLine):cC X (compareOp .Eq) (uX X.K n false):=by
 intro af s σ H v w a b Q I ra rb h
 obtain⟨x,y,rx,ry,kd,o,q⟩:=h
 have hu0:X.A.units<cLine:=by omega
 rcases kd with⟨xs,ys,rfl,rfl⟩|⟨xs,ys,rfl,rfl⟩|⟨xs,ys,rfl,rfl⟩
 ·obtain⟨p,us,rfl,h1,r1⟩:=rx.sqT
  obtain⟨p2,ws,rfl,h2,r2⟩:=ry.sqT
  cases ra;cases rb
  obtain⟨its,v1,p1,_⟩:=I.tuple (aW.of (K:=X.K) h1)
  obtain⟨al,v2,p2',_⟩:=I.tuple (aW.of (K:=X.K) h2)
  have l1:=v1.length;have l2:=v2.length;have m1:=r1.length;have m2:=r2.length
  have:=SeqAt.RcAt.tuples p1 p2' hu0 (lZ I hu r1 r2 v1 v2 o)
  rw[be5,be5,<- l1,<- l2,m1,m2,j5]at this;exact this _ _ _ _ ⟨.bl _,H,I,rfl,q⟩
 ·obtain⟨p,us,rfl,_,h1,r1⟩:=rx.sqL
  obtain⟨p2,ws,rfl,_,h2,r2⟩:=ry.sqL
  cases ra;cases rb
  obtain⟨its,v1,p1,_⟩:=I.list (aV.of (K:=X.K) h1)
  obtain⟨al,v2,p2',_⟩:=I.list (aV.of (K:=X.K) h2)
  have l1:=v1.length;have l2:=v2.length;have m1:=r1.length;have m2:=r2.length;have q:Q (.bl ((xs.zip ys).all (λp=>cF n p.1 p.2)&&xs.length==ys.length)) H:=q;by_cases hl:xs.length=ys.length
  ·have:=SeqAt.RcAt.lists p1.isList p2'.isList (by rw[be5,be5];omega) hu0 (lZ I hu r1 r2 v1 v2 o)
   have hm:min xs.length ys.length=its.length:=by omega
   rw[be5,<- hm,j5]at this;rw[show (xs.length==ys.length)=true by simpa using hl,Bool.and_true]at q;exact this _ _ _ _ ⟨.bl _,H,I,rfl,q⟩
  ·have:=SeqAt.RcAt.lists_lengths (A:=X.A) p1.isList p2'.isList (by rw[be5,be5];simp;omega) hu0
   rw[show (xs.length==ys.length)=false by simpa using hl,bw0]at q;exact this _ _ _ _ ⟨.bl _,H,I,rfl,q⟩
 ·obtain⟨p,us,rfl,h1,r1⟩:=rx.kt_
  obtain⟨p2,ws,rfl,h2,r2⟩:=ry.kt_
  cases ra;cases rb
  obtain⟨its,v1,p1,_⟩:=I.tuple (.inr h1)
  obtain⟨al,v2,p2',_⟩:=I.tuple (.inr h2)
  have l1:=v1.length;have l2:=v2.length;have m1:=r1.length;have m2:=r2.length
  have:=SeqAt.RcAt.tuples p1 p2' hu0 (lZ I hu r1 r2 v1 v2 o)
  rw[be5,be5,<- l1,<- l2,m1,m2,j5]at this;exact this _ _ _ _ ⟨.bl _,H,I,rfl,q⟩
theorem av0 (n:Nat)(hu:X.A.units+(n+1)<cLine):cC X (compareOp .NotEq) (uX X.K n true):=by
 intro af s σ H v w a b Q I ra rb h
 obtain⟨x,y,rx,ry,kd,o,q⟩:=h
 have hu0:X.A.units<cLine:=by omega
 rcases kd with⟨xs,ys,rfl,rfl⟩|⟨xs,ys,rfl,rfl⟩|⟨xs,ys,rfl,rfl⟩
 ·obtain⟨p,us,rfl,h1,r1⟩:=rx.sqT
  obtain⟨p2,ws,rfl,h2,r2⟩:=ry.sqT
  cases ra;cases rb
  obtain⟨its,v1,p1,_⟩:=I.tuple (aW.of (K:=X.K) h1)
  obtain⟨al,v2,p2',_⟩:=I.tuple (aW.of (K:=X.K) h2)
  have l1:=v1.length;have l2:=v2.length;have m1:=r1.length;have m2:=r2.length
  have:=SeqAt.RcNeAt.tuples p1 p2' hu0 (lZ I hu r1 r2 v1 v2 o)
  rw[be5,be5,<- l1,<- l2,m1,m2,j5]at this;exact this _ _ _ _ ⟨.bl _,H,I,rfl,q⟩
 ·obtain⟨p,us,rfl,_,h1,r1⟩:=rx.sqL
  obtain⟨p2,ws,rfl,_,h2,r2⟩:=ry.sqL
  cases ra;cases rb
  obtain⟨its,v1,p1,_⟩:=I.list (aV.of (K:=X.K) h1)
  obtain⟨al,v2,p2',_⟩:=I.list (aV.of (K:=X.K) h2)
  have l1:=v1.length;have l2:=v2.length;have m1:=r1.length;have m2:=r2.length;have q:Q (.bl (!((xs.zip ys).all (λp=>cF n p.1 p.2)&&xs.length==ys.length))) H:=q;by_cases hl:xs.length=ys.length
  ·have:=SeqAt.RcNeAt.lists p1.isList p2'.isList (by rw[be5,be5];omega) hu0 (lZ I hu r1 r2 v1 v2 o)
   have hm:min xs.length ys.length=its.length:=by omega
   rw[be5,<- hm,j5]at this;rw[show (xs.length==ys.length)=true by simpa using hl,Bool.and_true]at q;exact this _ _ _ _ ⟨.bl _,H,I,rfl,q⟩
  ·have:=SeqAt.RcNeAt.lists_lengths (A:=X.A) p1.isList p2'.isList (by rw[be5,be5];simp;omega) hu0
   rw[show (xs.length==ys.length)=false by simpa using hl,bw0]at q;exact this _ _ _ _ ⟨.bl _,H,I,rfl,q⟩
 ·obtain⟨p,us,rfl,h1,r1⟩:=rx.kt_
  obtain⟨p2,ws,rfl,h2,r2⟩:=ry.kt_
  cases ra;cases rb
  obtain⟨its,v1,p1,_⟩:=I.tuple (.inr h1)
  obtain⟨al,v2,p2',_⟩:=I.tuple (.inr h2)
  have l1:=v1.length;have l2:=v2.length;have m1:=r1.length;have m2:=r2.length
  have:=SeqAt.RcNeAt.tuples p1 p2' hu0 (lZ I hu r1 r2 v1 v2 o)
  rw[be5,be5,<- l1,<- l2,m1,m2,j5]at this;exact this _ _ _ _ ⟨.bl _,H,I,rfl,q⟩
theorem E6 {n:Nat}{neg:Bool}:dG X (lV n neg) (uX X.K n neg):=by
 rintro W Hs H u v x y g g' Q Q' s n r1 r2 ⟨kd,o,q⟩ k
 exact⟨x,y,r1.same (aI.refl _) λ_ _=>trivial,r2.same (aI.refl _) λ_ _=>trivial,kd.elim .inl λz=>.inr (.inl z),o,k _ _ _ .fr (aI.refl _) (.bl _) q⟩
theorem av1 (hu:X.A.units+3<cLine)(ha:QE X a ta)(hb:QE X b tb):QT X (.Compare a [.NotEq] [b] pos) (b5 (q2 (lV 2 true) ta tb)):=j3 (av0 2 hu) E6 ha hb (eV _)
theorem av2 (hu:X.A.units+3<cLine)(ha:QE X a ta)(hb:QE X b tb):QE X (.Compare a [.Eq] [b] pos) (q2 (lV 2 false) ta tb):=nP (au9 2 hu) E6 ha hb (eV _)
end
end PP
namespace PP
open PySem L2 PyProof.Rows
noncomputable def LO (X:Cx)(t:kG):TO:=λσ H Q'=>∃(W:ar->Prop) (ρ:bK) (Q:Option Int->Prop),PX X.K X.H₀ W σ ρ H/\t ρ Q/\∀o H',aI H H'->Q o->Q' o H'
noncomputable def QO (X:Cx)(e:Option Expr)(t:kG):Prop:=PO X e (LO X t)
theorem Reps.cut {K:ac}{M:ar->Prop}{H:Hp}{us:List V}{xs:List PV}(r:Reps K M H us xs)(lo hi:Option Int):Reps K M H (eD us lo hi) (uK xs lo hi):=by
 unfold eD uK;rw[r.length];exact (r.drop _).take _
section
variable {X:Cx}{a b c e o:Expr}{es dA:List Expr}{ta tb te to tk:aO}{tr:cA}{tA tB' tc:cD}{pos p2 px:Pos}{st:Stmt}{sts:List Stmt}{t u:aP}
theorem E7:QO X none uL:=λaf s σ H Q I h=>sJ af s σ H Q I (by
 obtain⟨W,ρ,Q1,px,q,k⟩:=h
 exact k _ _ (aI.refl _) q)
theorem E8 (h:QE X e te):QO X (some e) (uM te):=λaf s σ H Q I hq=>sK h af s σ H Q I (by
 obtain⟨W,ρ,Q1,px,q,k⟩:=hq
 refine⟨W,ρ,_,px,q,?_⟩;rintro v H1 x g s r ⟨i,rfl,q⟩;cases r
 exact⟨i,rfl,k _ _ s q⟩)
theorem E9 {lo hi:Option Expr}{tl th:kG}{sp:Pos}(he:QE X e te)(hl:QO X lo tl)(hh:QO X hi th):QE X (.Subscript e (.Slice lo hi none sp) pos) (uN te tl th):=bS (sM (yH.or zV) he hl hh) λσ H Q' h=>by
 obtain⟨W,ρ,Q,px,q,k⟩:=h
 refine⟨W,ρ,_,px,q,λv H1 x g s1 r1 q1=>⟨W,ρ,_,px.mono s1,q1,λlo H2 s2 q2=>⟨W,ρ,_,px.mono (s1.trans s2),q2,?_⟩⟩⟩;rintro hi H3 s3 ⟨xs,e,f,q3⟩;have S:=(s1.trans s2).trans s3;have r3:=r1.same (M':=Mg X.H₀ W H g) (s2.trans s3) λ_ z=>z
 cases r3 with
 |tup h r=>
  cases e;refine .inr ⟨_,_,rfl,aW.of h,λp hp=>k _ _ _ .fr (S.trans (bC hp _)) (.tup bD (((r.flat f).cut lo hi).same (bC hp _) λ_ z=>z)) q3,λec=>k _ _ _ .fr S (.tup h ?_) q3⟩
  have:=(r.flat (M':=Mg X.H₀ W H .fr) f).cut lo hi
  rw[ec]at this;exact this
 |lst m h r=>
  cases e;exact .inl ⟨_,_,rfl,aV.of h,λp hp=>k _ _ _ .fr (S.trans (bC hp _)) (.lst (S.free hp) bD (((r.flat f).cut lo hi).same (bC hp _) λ_ z=>z)) q3⟩
 |scr h=>
  cases e;exact .inl ⟨_,_,rfl,h.sqL,λp hp=>k _ _ _ .fr (S.trans (bC hp _)) (.lst (S.free hp) bD (((Reps.intz _).cut lo hi).same (bC hp _) λ_ z=>z)) q3⟩
 |fL h r=>
  cases e;exact .inl ⟨_,_,rfl,.inl (.inr ⟨_,h⟩),λp hp=>k _ _ _ .fr (S.trans (bC hp _)) (.lst (S.free hp) bD (((r.flat f).cut lo hi).same (bC hp _) λ_ z=>z)) q3⟩
 |_=>cases e
structure Df (P:av)(w:ax)(K:ac)(mg:Str->Option ao)(base:Heap)(k:Nat)(x:Str)(ps:List Str)(p:bH):Prop where
 ex:∃f fd,cX P w K mg base dX k f fd ps (nL K p)/\hV K fd ps []/\PySem.W.keepIn K (.ref f)=true/\mg x=some (.ref f)
theorem b9 {k j:Nat}{x:Str}{ps:List Str}{p:bH}(d:Df X.prog X.w X.K X.mg X.base k x ps p)(hr:c8 j X.A)(ha:QA X (e::es) tr)(hkj:k<=j:=by decide)(hg:Gl X x:=by rfl)(hdb:(x==("__debug__":Str))=false:=by decide)(he:starEach (e::es) X.env=(false,eval e X.env)::starEach es X.env:=by rfl)(hpl:(backTo pos (starEach es X.env)).any (·.1)=false:=by rfl):QE X (.Call (.Name x p2) (e::es) [] pos) (aK p tr):=by
 obtain⟨f,fd,F,b,kp,m⟩:=d.ex
 exact bS (oO F (hr.mono hkj) hg m kp b .nil ak9 ha hdb he hpl) λ_ _ _=>ar4
theorem pP {K:ac}{H:Hp}{N:List Str}{vs:List V}{xs:List PV}(r:Reps K (λ_=>True) H vs xs):PX K H (λ_=>False) (L2.gC N vs) (eQ N xs) H:=by
 have lr:=r.length;have own:∀{i:Nat}{m:Slot},(eQ N xs)[i]? = some (some m)->∃x,xs[i]? = some x/\m = .sh (flat x) x:=λ{i m} h=>by
  unfold eQ at h;by_cases hi:i<xs.length
  ·rw[List.getElem?_append_left (by simpa using hi),bg9]at h
   rw[bf3 hi]at h ⊢;cases h
   exact⟨_,rfl,rfl⟩
  ·rw[List.getElem?_append_right (by simpa using hi),List.getElem?_replicate]at h
   split at h<;>cases h
 refine⟨by unfold L2.gC eQ;simp[lr],aI.refl _,λa z=>z.elim,λi m h=>?_,λi j x y a h1=>?_⟩
 ·obtain⟨x,hx,rfl⟩:=own h
  obtain⟨v,hv,rx⟩:=r.at hx
  refine⟨v,?_,pJ (g:=false) (rx.same (aI.refl _) λ_ _ z=>z)⟩;have hi:i<vs.length:=(bf7.mp hv).1;unfold L2.gC;rw[List.getElem?_append_left (by simpa using hi),bg9,hv];rfl
 ·obtain⟨x,_,e⟩:=own h1
  cases e
theorem Df.of {P:av}{w:ax}{K:ac}{mg:Str->Option ao}{base:Heap}{k:Nat}{x:Str}{ps N:List Str}{p:bH}{st:Stmt}{f:ar}{fd:FuncData}(F:eF K x x st f fd)(m:mg x=some (.ref f))(S:FnScope N ps (aU st))(hb:∀(kV doc pm:ao) (an:Option ar) (cdv ct:ao) (us:List ao),us.length=ps.length->bindArgs (PySem.W.fnOf x x (i3 st) (dW st) (aU st) .none kV doc pm an cdv ct) ⟨us,[]⟩=pure (ps.zip us))(len:∀xs Q,p xs Q->xs.length=ps.length)(body:∀(cdv:ao) (A:aw) (outer:List Env) (s:aq) (H:Hp) (E:XK),c8 k (A.deeper (envOfC x (aU st) s.heap.objs.size f cdv))->
   ∃t,eJ (cL dX P w K mg base N x (aU st) f cdv A outer s H E).nox (dW st) t/\∀xs Q,p xs Q->t { nx:=λ_=>Q .non,rt:=Q } (eQ N xs)):Df P w K mg base (k+1) x ps p:=by
 refine⟨f,fd,F.ok S (λvs H Q E h=>?_) (λcdv A outer s H vs Q E hr h=>?_),F.binds hb,F.kp,m⟩
 ·obtain⟨xs,Qp,r,q,_⟩:=h
  rw[r.length];exact len xs Qp q
 ·obtain⟨xs,Qp,r,q,k⟩:=h
  obtain⟨t,ht,hq⟩:=body cdv A outer s H E hr
  refine⟨_,ht,λ_=>False,eQ N xs,_,pP r,hq xs Qp q,?_,?_,?_,?_⟩
  ·exact λW' σ' H' ρ' e px q=>k _ _ _ px.same .non q
  ·exact λv H' x s r q=>k _ _ _ s r q
  ·exact λW' σ' H' ρ' e px q=>q
  ·exact λW' σ' H' ρ' e px q=>q
theorem iB (i:Nat){x:Str}{tp:Pos}{body:List Stmt}{ti:e8}(hN:X.N.Nodup)(hi:QI X (.Name x tp) e ti)(hb:eJ X body t)(hx:X.N[i]? = some x:=by rfl)(hl:hG X.env.scope x:=by first|exact Or.inl rfl|exact Or.inr rfl)(hf:X.fn x=true∨X.env.scope.names.lookup x=some .local:=by first|exact .inl rfl|exact .inr rfl)(hp:PassesOwn (model X.prog X.w) X.A X.env X.xe:=by exact bu5)(hc:X.calm=true:=by rfl)(hs:∀x,foldedSetIterable e X.env x=pure x:=by intro _;rfl):QS X (.For (.Name x tp) e body [] pos) (e9 ti (bT i) t):=
 E3 hp hc hi (eU hN hx hl hf) (lT _ i) hb hs
theorem uY (i j:Nat){x y:Str}{tp xp yp:Pos}{kt:Nat}{body:List Stmt}{ti:e8}(hN:X.N.Nodup)(hi:QI X (.Tuple [.Name x xp,.Name y yp] kt tp) e ti)(hb:eJ X body t)(hx:X.N[i]? = some x:=by rfl)(hy:X.N[j]? = some y:=by rfl)(hlx:hG X.env.scope x:=by first|exact Or.inl rfl|exact Or.inr rfl)(hly:hG X.env.scope y:=by first|exact Or.inl rfl|exact Or.inr rfl)(hfx:X.fn x=true∨X.env.scope.names.lookup x=some .local:=by first|exact .inl rfl|exact .inr rfl)(hfy:X.fn y=true∨X.env.scope.names.lookup y=some .local:=by first|exact .inl rfl|exact .inr rfl)(hp:PassesOwn (model X.prog X.w) X.A X.env X.xe:=by exact bu5)(hc:X.calm=true:=by rfl)(hs:∀x,foldedSetIterable e X.env x=pure x:=by intro _;rfl):QS X (.For (.Tuple [.Name x xp,.Name y yp] kt tp) e body [] pos) (e9 ti (kE i j) t):=
 E3 hp hc hi (mT hc (hU (eU hN hx hlx hfx) (hU (eU hN hy hly hfy) mS))) (B2 _ i j) hb hs
noncomputable abbrev cW:ao->aq->Prop:=λ_ _=>False
section
variable {scope:Scope}{N:List Str}{fr:List (Option Nat)}{x y:Str}{tp xp yp:Pos}{kt:Nat}{iter elt:Expr}{ti:e8}
theorem uZ {ifs:List Expr}{tcs:cD}(he:∀(s:aq) (H:Hp) (C:ar) (fp:List ar),QE (bB X scope N s H C fp cW) elt te)(hi:∀(s:aq) (H:Hp) (C:ar) (fp:List ar),i4 (bB X scope N s H C fp cW) ifs (LT (bB X scope N s H C fp cW) tcs))(hN:N.Nodup)(h0:N[0]? = some x)(hl:∀(s:aq) (H:Hp) (C:ar) (fp:List ar),(bB X scope N s H C fp cW).env.scope.names.lookup x=some .local)(s:aq)(H:Hp) :
  lK X scope N (.Name x tp) ifs elt s H (cO 0) (LT (X.frm H) tcs) (LE (X.frm H) te):=
 ⟨λC fp=>eU (X:=bB X scope N s H C fp cW) hN h0 (.inl (hl s H C fp)) (.inr (hl s H C fp)),λC fp=>hi s H C fp,λC fp=>he s H C fp⟩
theorem pQ {Y:Cx}:i4 Y [] (LT Y dC):=λaf s σ H Q I h=>oZ af s σ H Q I (as5 h)
theorem kQ (hi:QI X (.Name x tp) iter ti)(he:∀(s:aq) (H:Hp) (C:ar) (fp:List ar),QE (bB X scope N s H C fp cW) elt te)(hc:X.calm=true:=by rfl)(S:cE X scope N fr:=by exact cE.of rfl rfl)(hN:N.Nodup:=by decide +kernel)(h0:N[0]? = some x:=by rfl)(hl:∀(s:aq) (H:Hp) (C:ar) (fp:List ar),(bB X scope N s H C fp cW).env.scope.names.lookup x=some .local:=by intro _ _ _ _;rfl)(hf:fr[0]? = some none:=by rfl)(hs:∀x,foldedSetIterable iter X.env x=pure x:=by intro _;rfl):QE X (.ListComp elt [⟨.Name x tp,iter,[],0⟩] scope pos) (cZ ti fr (bT 0) dC te):=
 bS (tJ (gh:=λ_=>cO 0) (tch:=λH=>LT (X.frm H) dC) (teh:=λH=>LE (X.frm H) te) hc S hi (uZ he (λ_ _ _ _=>pQ) hN h0 hl) hs) λ_ _ _=>nM (lT _ 0) (λi e=>by subst e;exact hf)
theorem v0 {c:Expr}{tcs:cD}(hi:QI X (.Name x tp) iter ti)(ht:∀(s:aq) (H:Hp) (C:ar) (fp:List ar),QT (bB X scope N s H C fp cW) c tcs)(he:∀(s:aq) (H:Hp) (C:ar) (fp:List ar),QE (bB X scope N s H C fp cW) elt te)(hc:X.calm=true:=by rfl)(S:cE X scope N fr:=by exact cE.of rfl rfl)(hN:N.Nodup:=by decide +kernel)(h0:N[0]? = some x:=by rfl)(hl:∀(s:aq) (H:Hp) (C:ar) (fp:List ar),(bB X scope N s H C fp cW).env.scope.names.lookup x=some .local:=by intro _ _ _ _;rfl)(hf:fr[0]? = some none:=by rfl)(hs:∀x,foldedSetIterable iter X.env x=pure x:=by intro _;rfl):QE X (.ListComp elt [⟨.Name x tp,iter,[c],0⟩] scope pos) (cZ ti fr (bT 0) tcs te):=
 bS (tJ (gh:=λ_=>cO 0) (tch:=λH=>LT (X.frm H) tcs) (teh:=λH=>LE (X.frm H) te) hc S hi (uZ he (λs H C fp=>zH (ht s H C fp)) hN h0 hl) hs) λ_ _ _=>nM (lT _ 0) (λi e=>by subst e;exact hf)
theorem av3 {c:Expr}{tcs:cD}{i:Nat}{z:Str}{zp:Pos}(nd:X.N.Nodup)(hi:QI X (.Name x tp) iter ti)(ht:∀(s:aq) (H:Hp) (C:ar) (fp:List ar),QT (bB X scope N s H C fp cW) c tcs)(he:∀(s:aq) (H:Hp) (C:ar) (fp:List ar),QE (bB X scope N s H C fp cW) elt te)(hz:X.N[i]? = some z:=by rfl)(hzl:X.env.scope.names.lookup z=some .local:=by rfl)(hsw:swapsWith (.ListComp elt [⟨.Name x tp,iter,[c],0⟩] scope p2) (some (.Name z zp)) pos.line X.env=pure true:=by rfl)(hc:X.calm=true:=by rfl)(S:cE X scope N fr:=by exact cE.of rfl rfl)(hN:N.Nodup:=by decide +kernel)(h0:N[0]? = some x:=by rfl)(hl:∀(s:aq) (H:Hp) (C:ar) (fp:List ar),(bB X scope N s H C fp cW).env.scope.names.lookup x=some .local:=by intro _ _ _ _;rfl)(hf:fr[0]? = some none:=by rfl)(hs:∀x,foldedSetIterable iter X.env x=pure x:=by intro _;rfl):QS X (.Assign [.Name z zp] (.ListComp elt [⟨.Name x tp,iter,[c],0⟩] scope p2) pos) (bE i (cZ ti fr (bT 0) tcs te)):=
 dP (al4 (gh:=λ_=>cO 0) (tch:=λH=>LT (X.frm H) tcs) (teh:=λH=>LE (X.frm H) te) hc S hi (uZ he (λs H C fp=>zH (ht s H C fp)) hN h0 hl) nd hz hzl hsw hs) λD σ H h=>nM (lT _ 0) (λi e=>by subst e;exact hf) (u5 h)
end
theorem av4:mX X "list.extend" (A7 X.K):=λaf s σ H x xs v us Q I rx rs h=>h.elim (ai4 af s σ H x xs v us Q I rx rs) (ao4 af s σ H x xs v us Q I rx rs)
theorem F0 (i:Nat){x:Str}{ag ah xpos:Pos}(he:QE X e te)(hN:X.N[i]? = some x:=by rfl)(hv:gA X.env.scope x:=by first|exact Or.inl rfl|exact Or.inr (Or.inl rfl)|exact Or.inr (Or.inr rfl))(hd:(x==("__debug__":Str))=false:=by decide)(hcd:(x==("__classdict__":Str))=false:=by decide)(hbase:attributeBase (.Name x xpos) "extend" X.env (eval (.Name x xpos) X.env)=eval (.Name x xpos) X.env:=by rfl)(hfew:((backTo ah (starEach [e] X.env)).all (λx=>!x.1)&&(backToKw ah (keywordEach [] X.env)).all (λx=>x.1.isSome)&&decide (([e]:List Expr).length+([]:List Keyword).length+(if ([]:List Keyword).isEmpty then 0 else 1)<30))=true:=by rfl)(hline:(ag.endLine==ah.line)=true:=by rfl)(hs:starEach [e] X.env=(false,eval e X.env)::starEach [] X.env:=by rfl)(am:(backTo ah (starEach [] X.env)).any (·.1)=false:=by rfl)(hsw:swapsWith (.Call (.Attribute (.Name x xpos) "extend" ag) [e] [] ah) none pos.line X.env=pure false:=by rfl) :
  QS X (.Expr (.Call (.Attribute (.Name x xpos) "extend" ag) [e] [] ah) pos) (pF i te):=
 dP (lA (mW bs2 PySem.F.slot_list_extend PySem.F.type_list_extend av4 (iH hN hv hd hcd) (dS he eN hs) hbase hfew hline hs am) hsw) λ_ _ _=>aq6
theorem av5 (i:Nat){x:Str}{ag ah xpos:Pos}(he:QE X e te)(hm:M1 X (.Name x xpos) "update" ag e ah:=by exact⟨rfl,rfl,rfl,rfl⟩)(hN:X.N[i]? = some x:=by rfl)(hv:gA X.env.scope x:=by first|exact Or.inl rfl|exact Or.inr (Or.inl rfl)|exact Or.inr (Or.inr rfl))(hd:(x==("__debug__":Str))=false:=by decide)(hcd:(x==("__classdict__":Str))=false:=by decide)(hsw:swapsWith (.Call (.Attribute (.Name x xpos) "update" ag) [e] [] ah) none pos.line X.env=pure false:=by rfl):QS X (.Expr (.Call (.Attribute (.Name x xpos) "update" ag) [e] [] ah) pos) (uJ i te):=
 dP (lA (ao2 (iH hN hv hd hcd) he hm) hsw) λ_ _ _=>at4
end
end PP
namespace SO
open PySem PyProof.Rows
variable {rk:Keyed→Int}
section
variable {κ:SortKind}{a0:Array Keyed}{pd:Array (Nat×Nat×Nat)}{st:SortSt}{prog:av}{w:ax}{A:aw}{E:ao→aq→Prop}{s:aq}{Ok:Keyed→Prop}
noncomputable abbrev DS:=Option (Option Nat)×Nat×Nat
end
noncomputable abbrev LS:=Option (Array Keyed)×Array Keyed×Nat×Nat×Nat×Nat×Nat
noncomputable abbrev LO:=Option (Array Keyed)×Array Keyed×Nat×Nat×Nat
variable {rk:Keyed→Int}{xs ys o:List Keyed}{i j:Nat}
variable {rk:Keyed→Int}{xs ys o:List Keyed}{i j:Nat}
variable {rk:Keyed→Int}
noncomputable def Ch:Nat->List (Nat×Nat)->Nat->Prop
 |a,[],b=>a=b
 |a,(p,n)::r,b=>p=a/\0<n/\Ch (a+n) r b
variable {rk:Keyed→Int}{κ:SortKind}{a0:Array Keyed}{pd:Array (Nat×Nat×Nat)}{st:SortSt}{prog:av}{w:ax}{A:aw}{E:ao→aq→Prop}{s:aq}{Ok:Keyed→Prop}
end SO
namespace L2
open PySem PySem.Spec PyProof.Rows
theorem cI.at {P:av}{w:ax}{H:Hp}{h:Heap}{a:ar}{o:HO}(x:cI P w H h a o):∃ob,h.get? a=some ob:=by
 cases o with
 |lst xs=>obtain⟨_,_,_,_,e⟩:=x;exact⟨_,e⟩
 |tup xs=>obtain⟨_,_,_,⟨_,e,_⟩,_⟩:=x;exact⟨_,e⟩
 |dK kvs=>obtain⟨_,_,_,_,_,_,_,e,_⟩:=x;exact⟨_,e⟩
 |dT kvs=>obtain⟨_,_,_,_,_,_,_,e,_⟩:=x;exact⟨_,e⟩
 |set S n=>obtain⟨_,_,_,_,e,_⟩:=x;exact⟨_,e⟩
 |ins C dx fs=>obtain⟨_,_,_,e,_⟩:=x;exact⟨_,e⟩
 |own y=>exact x
 |xd fs=>obtain⟨_,⟨_,_,_,e,_⟩,_⟩:=x;exact⟨_,e⟩
 |rng lo hi=>obtain⟨_,_,_,e⟩:=x;exact⟨_,e⟩
 |frz ob u=>obtain⟨e,_⟩:=x;exact⟨_,e⟩
 |tbl ps=>exact⟨_,x⟩
 |met f y=>exact⟨_,x⟩
 |ext φ=>exact x.2.1
structure kR (P:av)(w:ax)(outer:List Env)(H:Hp)(s:aq)(H':Hp)(B:Heap)(a C:ar)(s':aq):Prop where
 os:s'.os=s.os
 bare:AllBare s'.gens
 un:Un (bF outer) [] H H' s.heap s'.heap
 hok:bU P w H' s'.heap
 fly:∃a0,Heap.FlyingW B outer a (.ref C) a0 s'.heap
 b0:∀b o,s.heap.get? b=some o->b∉bF outer->∃o',B.get? b=some o'
 b1:∀b o,s.heap.get? b=some o->H b=none->b∉bF outer->B.get? b=some o
 b2:∀b u o,H' b=some u->s'.heap.get? b=some o->B.get? b=some o
noncomputable def cM (P:av)(w:ax):gB:=λouter H s E e s'=>∃(H':Hp) (B:Heap) (a C:ar),e = .ref a/\kR P w outer H s H' B a C s'/\E (.ref C) none H'
section
variable {P:av}{w:ax}{outer:List Env}{H H':Hp}{s s':aq}{B h2:Heap}{a C:ar}
theorem kR.fresh (f:kR P w outer H s H' B a C s'):H' a=none:=by
 cases q:H' a with
 |none=>rfl
 |some u=>
  obtain⟨ob,e⟩:=(f.hok a u q).at
  have z:=f.b2 a u ob q e
  obtain⟨_,_,n,_⟩:=f.fly
  rw[n]at z;cases z
theorem kR.hok2 (f:kR P w outer H s H' B a C s')(k:B.StaysIn h2):bU P w H' h2:=λb u e=>
 (f.hok b u e).stay (λc v hc q=>by
  rcases hc with z|z
  ·subst z;exact k _ _ (f.b2 _ _ _ e q)
  ·exact k _ _ (f.b2 _ _ _ z q)) (λ_ q=>q) λ_ _ q=>q
end
section
variable {P:av}{w:ax}{K:ac}{mg:Str→Option ao}{base:Heap}{N:List Str}{qual:Str}{scope:Scope}{f:ar}{cd:ao}{A:aw}{outer:List Env}{s₀:aq}{H₀:Hp}{E₀ E₁:XK}
theorem m3 {af:List (ar×Obj)}{σ:St}{H:Hp}{s:aq}(I:aE (cL (cM P w) P w K mg base N qual scope f cd A outer s₀ H₀ E₀) af σ H s){b:ar}{o:Obj}(e:s₀.heap.get? b=some o)(n:b∉bF outer) :
  b∉bF (envOfC qual scope s₀.heap.objs.size f cd::outer):=λz=>by
 rcases be8.mp (I.stkSub b z) with y|y
 ·have l:=bf4 e
  have y:b=s₀.heap.objs.size:=y;exact absurd l (by rw[y];exact bj9 _)
 ·exact n y
theorem av6 (hE:∀c d H',E₁ c d H'->E₀ c d H'):jX (cM P w) (cL (cM P w) P w K mg base N qual scope f cd A outer s₀ H₀ E₀) E₁:=by
 intro af σ H s e s' I hx
 obtain⟨H',B,a,C,e1,fl,q⟩:=hx
 subst e1;have I':=I.call' fl.os fl.un fl.hok fl.bare (ch:=[]) (λb z=>absurd z (by simp))
 obtain⟨a0,fly⟩:=fl.fly
 refine wpAny_leaves_onW I.ok.frames rfl fly λh' fly' up=>?_
 have slot:∀b o,s₀.heap.get? b=some o->b∈bF outer->∃sl,h'.get? b=some { o with slots:=sl }:=λb o e hb=>by
  obtain⟨sl,e1⟩:=I'.base.slot b o e (I.ok.frf b hb) hb (λz=>nomatch z)
  obtain⟨_,o2,e2,nf⟩:=I.ok.funs.mem hb
  rw[show (cL (cM P w) P w K mg base N qual scope f cd A outer s₀ H₀ E₀).s₀=s₀ from rfl,e]at e2;cases e2
  obtain⟨sl',e3⟩:=up b _ e1 nf
  exact⟨sl',e3⟩
 have old:∀b o,s₀.heap.get? b=some o->H₀ b=none->b∉bF outer->B.get? b=some o:=λb o e n hb=>
  fl.b1 b o (I.base.keep b o e n hb (λz=>nomatch z)) (I.base.free b o e n (λz=>nomatch z)) (m3 I e hb)
 have old0:∀b o,s₀.heap.get? b=some o->b∉bF outer->∃o',B.get? b=some o':=λb o e hb=>by
  obtain⟨o1,e1⟩:=I.base.there b o e (λz=>nomatch z)
  exact fl.b0 b o1 e1 (m3 I e hb)
 refine⟨H',B,a,C,rfl,⟨I'.os,I'.bare,⟨λb o e n hb _=>fly'.1 _ _ (old b o e n hb),λb o e n hb _=>slot b o e hb,λb o e n hx=>I'.base.free b o e n hx,λb o e _=>?_,I'.base.tups,I'.base.frzs,I'.base.tbls⟩,fl.hok2 fly'.1,⟨a0,fly'⟩,old0,old,λb u o e h=>?_⟩,hE _ _ _ q⟩
 ·by_cases hb:b∈bF outer
  ·obtain⟨sl,e1⟩:=slot b o e hb
   exact⟨_,e1⟩
  ·obtain⟨o',e1⟩:=old0 b o e hb
   exact⟨o',fly'.1 _ _ e1⟩
 ·obtain⟨ob,e1⟩:=(fl.hok b u e).at
  have e2:=fl.b2 b u ob e e1;have e3:=fly'.1 _ _ e2;have h:h'.get? b=some o:=h;rw[h]at e3;cases e3;exact e2
theorem av7 {af:List (ar×Obj)}{σ:St}{H:Hp}{s:aq}{h':Heap}{e C:ar}{args:List ao}(I:aE (cL (cM P w) P w K mg base N qual scope f cd A outer s₀ H₀ E₀) af σ H s)(mx:Heap.MadeExcOf s.heap h' e (.ref C) args)(q:E₀ (.ref C) none H) :
  (cL (cM P w) P w K mg base N qual scope f cd A outer s₀ H₀ E₀).xe (.ref e) { s with heap:=h' }:=by
 have tr:∀b u,H b=some u->b∉bF (envOfC qual scope s₀.heap.objs.size f cd::outer):=λb u z n=>by
  rw[I.stkFree b n]at z;cases z
 have inB:∀b o,s.heap.get? b=some o->b∉bF (envOfC qual scope s₀.heap.objs.size f cd::outer)->(PySem.W.hideAll s.heap (bF (envOfC qual scope s₀.heap.objs.size f cd::outer))).get? b=some o:=λb o z n=>PySem.W.hideAll_get _ z n
 refine wpAny_leaves_madeW (base:=PySem.W.hideAll s.heap (bF (envOfC qual scope s₀.heap.objs.size f cd::outer))) I.ok.frames rfl (λb o z=>PySem.W.of_hideAll _ z) (PySem.W.funFrames_hide I.stack λenv he b hb=>List.mem_filterMap.mpr ⟨env,he,hb⟩) mx λh'' t fly _ _ up=>?_
 have slot:∀b o,s₀.heap.get? b=some o->b∈bF outer->∃sl,h''.get? b=some { o with slots:=sl }:=λb o e hb=>by
  obtain⟨sl,e1⟩:=I.base.slot b o e (I.ok.frf b hb) hb (λz=>nomatch z)
  obtain⟨_,o2,e2,nf⟩:=I.ok.funs.mem hb
  rw[show (cL (cM P w) P w K mg base N qual scope f cd A outer s₀ H₀ E₀).s₀=s₀ from rfl,e]at e2;cases e2
  obtain⟨sl',e3⟩:=up b _ (mx.keeps _ _ e1) nf
  exact⟨sl',e3⟩
 have old:∀b o,s₀.heap.get? b=some o->H₀ b=none->b∉bF outer->(PySem.W.hideAll s.heap (bF (envOfC qual scope s₀.heap.objs.size f cd::outer))).get? b=some o:=λb o e n hb=>
  inB b o (I.base.keep b o e n hb (λz=>nomatch z)) (m3 I e hb)
 have old0:∀b o,s₀.heap.get? b=some o->b∉bF outer->∃o',(PySem.W.hideAll s.heap (bF (envOfC qual scope s₀.heap.objs.size f cd::outer))).get? b=some o':=λb o e hb=>by
  obtain⟨o1,e1⟩:=I.base.there b o e (λz=>nomatch z)
  exact⟨o1,inB b o1 e1 (m3 I e hb)⟩
 refine⟨H,_,e,C,rfl,⟨I.os,I.bare,⟨λb o e n hb _=>fly.1 _ _ (old b o e n hb),λb o e n hb _=>slot b o e hb,λb o e n hx=>I.base.free b o e n hx,λb o e _=>?_,I.base.tups,I.base.frzs,I.base.tbls⟩,λb u z=>?_,⟨_,fly⟩,old0,old,λb u o z h=>?_⟩,q⟩
 ·by_cases hb:b∈bF outer
  ·obtain⟨sl,e1⟩:=slot b o e hb
   exact⟨_,e1⟩
  ·obtain⟨o',e1⟩:=old0 b o e hb
   exact⟨o',fly.1 _ _ e1⟩
 ·refine (I.hok b u z).stay (λc v hc y=>?_) (λ_ y=>y) λ_ _ y=>y
  rcases hc with z'|z'
  ·subst z';exact fly.1 _ _ (inB _ _ y (tr _ _ z))
  ·exact fly.1 _ _ (inB _ _ y (tr _ _ z'))
 ·obtain⟨ob,e1⟩:=(I.hok b u z).at
  have e2:=inB b ob e1 (tr b u z);have e3:=fly.1 _ _ e2;have h:h''.get? b=some o:=h;rw[h]at e3;cases e3;exact e2
end
structure kS (X:Cx)(E:XK):Prop where
 pass:jX (cM X.prog X.w) X E
 made:∀(af:List (ar×Obj)) (σ:St) (H:Hp) (s:aq) (h':Heap) (e C:ar) (args:List ao),aE X af σ H s->Heap.MadeExcOf s.heap h' e (.ref C) args->E (.ref C) none H->X.xe (.ref e) { s with heap:=h' }
 own:PassesOwn (model X.prog X.w) X.A X.env X.xe
theorem F1 {P:av}{w:ax}{K:ac}{mg:Str->Option ao}{base:Heap}{N:List Str}{qual:Str}{scope:Scope}{f:ar}{cd:ao}{A:aw}{outer:List Env}{s₀:aq}{H₀:Hp}{E₀ E₁:XK}(hE:∀c d H',E₁ c d H'->E₀ c d H') :
  kS (cL (cM P w) P w K mg base N qual scope f cd A outer s₀ H₀ E₀) E₁:=
 ⟨av6 hE,λ_ _ _ _ _ _ _ _ I mx q=>av7 I mx (hE _ _ _ q),PassesOwn.leaving⟩
noncomputable def F2 (E:XK)(C:ar)(t:TA):TS:=λ_ σ H=>t σ H λvs H1=>vs.length<=sizeLine/\E (.ref C) none H1
theorem av8 {X:Cx}{E:XK}{x:Str}{C:ar}{bm:List ao}{B newId initId:String}{np ah pos:Pos}{e:Expr}{es:List Expr}{t:TA}(hX:kS X E)(hc:X.calm=true)(O:OwnCls x C bm newId X.mg X.base)(FB:ExcBaseFacts B newId initId bm)(ha:PA X (e::es) t)(hg:Gl X x)(hd:(x==("__debug__":Str))=false:=by decide)(he:starEach (e::es) X.env=(false,eval e X.env)::starEach es X.env:=by rfl)(hpl:(backTo ah (starEach es X.env)).any (·.1)=false:=by rfl) :
  PS X (.Raise (some (.Call (.Name x np) (e::es) [] ah)) none pos) (F2 E C t):=by
 intro af s σ H D I h
 obtain⟨tl,Na,nm,qn,bs,hx,sn,sub,ab,col,dd,k0,k1,k2,k3,k5,mN,hC,hN,hni,T⟩:=O.obj
 refine wpAny_Raise_call_subT (nm:=nm) (q:=qn) (N:=Na) (bs:=bs) (bm:=tl) (hdct:=hx) (sn:=sn) (sub:=sub) (ab:=ab) (col:=col) (dd:=dd) (k0:=k0) (k1:=k1) (k2:=k2) (k3:=k3) (k5:=k5) FB (C:=C) (mN:=mN) (T.hasType FB.hasBase) (I.ok.hd hc) (by rw[he];show (false||(backTo ah (starEach es X.env)).any (·.1))=false;rw[hpl];rfl) hni (mO I hg O.bound ⟨rfl,?_⟩ hd);have h1:=ha ah af s σ H _ I h;rw[he]at h1 ⊢;refine Calls.evalArgs_plain (bk2 h1 (λus s2 h2=>?_) λ_ _ y=>y)
 obtain⟨vs,H2,I2,r,hl,q⟩:=h2
 have r:aY vs us:=r
 exact⟨rfl,by show us.length<=sizeLine;rw[<- r.length];exact hl,I2.bk _ _ hC,hN.keeps I2.bk,T.keeps I2.bk,λh' e' mx=>hX.made af σ H2 s2 h' e' C _ I2 mx q⟩
theorem eF.okX {P:av}{w:ax}{K:ac}{mg:Str->Option ao}{base:Heap}{x qual:Str}{st:Stmt}{f:ar}{fd:FuncData}{N ps:List Str}{k:Nat}{sp:Sp}(F:eF K x qual st f fd)(S:FnScope N ps (aU st))(len:∀vs H Q E,sp vs H Q E->vs.length=ps.length)(hbody:∀(cdv:ao) (A:aw) (outer:List Env) (s:aq) (H:Hp) (vs:List V) (Q:VK) (E:XK),c8 k (A.deeper (envOfC qual (aU st) s.heap.objs.size f cdv))->sp vs H Q E->
   ∃t,dM (cL (cM P w) P w K mg base N qual (aU st) f cdv A outer s H E) (dW st) t/\t { nx:=λ_ H'=>Q .non H',rt:=Q } (gC N vs) H):cX P w K mg base (cM P w) (k+1) f fd ps sp:=by
 obtain⟨oc,od,kV,doc,pm,an,cdv,ct,osl,rfl,lk,hcd⟩:=F.ex
 exact y4 lk hcd S len λA outer s H vs Q E hr hsp=>hbody cdv A outer s H vs Q E hr hsp
section
variable {X:Cx}{af:List (ar×Obj)}{σ:St}{H H1 H':Hp}{s s1 s':aq}{B h2:Heap}{a C:ar}
theorem F3 {oe:Obj}(I:aE X af σ H1 s1)(fl:kR X.prog X.w X.stack H1 s1 H' B a C s')(st:B.StaysIn h2)(up:s'.heap.UpToSlots h2)(he:h2.get? a=some oe) :
  aE X af σ (upd H' a (.frz oe (.own a))) { s' with heap:=h2 }:=by
 obtain⟨a0,fly⟩:=fl.fly
 have na:B.get? a=none:=fly.2.1;have nf:a∉bF X.stack:=λz=>by
  obtain⟨_,o,e,d⟩:=fly.2.2.1.mem z
  obtain⟨o2,vs,e2,_,d2,_⟩:=fly.first
  rw[e]at e2;cases e2;exact d vs d2
 have nb:∀b o,s1.heap.get? b=some o->b≠a:=λb o e z=>by
  subst z
  obtain⟨o',e'⟩:=fl.b0 _ o e nf
  rw[na]at e';cases e'
 have nt:∀b u,H' b=some u->b≠a:=λb u e z=>by
  subst z;rw[fl.fresh]at e;cases e
 have off:∀b,b≠X.env.locals->b∉X.fs->b∉bF X.stack:=λb n1 n2 z=>(be8.mp (I.stkSub b z)).elim n1 n2
 have slot:∀b o,s1.heap.get? b=some o->b∈bF X.stack->∃sl,h2.get? b=some { o with slots:=sl }:=λb o e hb=>by
  obtain⟨sl,e1⟩:=fl.un.any e (I.stkFree b hb) (λz=>nomatch z)
  obtain⟨_,o2,e2,d⟩:=I.stack.mem hb
  rw[e]at e2;cases e2
  obtain⟨sl',e3⟩:=up b _ e1 d
  exact⟨sl',e3⟩
 have ns:∀m,s1.heap.Ns X.env.locals m->h2.Ns X.env.locals m:=λm hm=>by
  obtain⟨o,es,ep,e,r⟩:=hm
  obtain⟨sl,e1⟩:=fl.un.any e I.free (λz=>nomatch z)
  exact up.ns ⟨_,es,ep,e1,r⟩
 have hok:bU X.prog X.w (upd H' a (.frz oe (.own a))) h2:=λb u e=>by
  by_cases hb:b=a
  ·subst hb;rw[bD]at e;cases e;exact⟨he,_,he⟩
  ·rw[b6 hb]at e
   exact (fl.hok2 st b u e).stay (λ_ _ _ q=>q) (λc q=>by rw[b6 (nt c _ q)];exact q) λc xs q=>by rw[b6 (nt c _ q)];exact q
 have bare:=fl.bare;have un:=fl.un;have b0:=fl.b0;have b1:=fl.b1;have os:=fl.os;clear fl fly up
 obtain⟨hh,g,d,t,os'⟩:=s'
 obtain rfl:os'=s1.os:=os;show aE X af σ _ { s1 with heap:=h2,gens:=g,drawn:=d,toks:=t };refine I.step (h':=h2) (g':=g) (d':=d) (t':=t) (ch:=[]) (λ_ z=>nomatch z) (λb o n1 n2 _ e n=>st _ _ (b1 b o e n (off b n1 n2))) (λb o n1 hb _ e n=>?_) (λb o _ e n=>by rw[b6 (nb b o e)];exact un.free b o e n (λz=>nomatch z)) (λb o _ e=>?_)
  (λb xs q=>by rw[b6 (nt b _ (un.tups b xs q))];exact un.tups b xs q) (λb o u q=>by rw[b6 (nt b _ (un.frzs b o u q))];exact un.frzs b o u q) (λb ps q=>by
   obtain⟨more,q'⟩:=un.tbls b ps q
   exact⟨more,by rw[b6 (nt b _ q')];exact q'⟩) ns hok bare
 ·by_cases hs:b∈bF X.stack
  ·exact slot b o e hs
  ·exact⟨o.slots,st _ _ (b1 b o e n hs)⟩
 ·by_cases hb:b∈bF X.stack
  ·obtain⟨sl,e1⟩:=slot b o e hb
   exact⟨_,e1⟩
  ·obtain⟨o',e1⟩:=b0 b o e hb
   exact⟨o',st _ _ e1⟩
noncomputable abbrev Cx.suite (X:Cx)(a:ar):Cx:={ X with A:=X.A.mark (some (.ref a)),calm:=false,xe:=λ_ _=>False }
theorem Cx.Ok.suite {X:Cx}(ok:X.Ok)(a:ar):(X.suite a).Ok:=
 ⟨ok.mod,ok.kind,ok.glob,ok.blt,ok.above,ok.inj,ok.has,ok.cab,λz=>Bool.noConfusion z,ok.frames,ok.stk,ok.exf,ok.bs,ok.bsz,ok.noex,ok.exfs,ok.funs,ok.frf⟩
theorem aE.suite (I:aE X af σ H s)(a:ar):aE (X.suite a) af σ H s:=⟨I.ok.suite a,I.os,I.bare,I.base,I.loc,I.cell,I.free,I.freeC,I.pin,I.hok,I.len⟩
theorem aE.unsuite (I:aE (X.suite a) af σ H s)(ok:X.Ok):aE X af σ H s:=⟨ok,I.os,I.bare,I.base,I.loc,I.cell,I.free,I.freeC,I.pin,I.hok,I.len⟩
theorem pR {M:Model}{A:aw}{E:ao->aq->Prop}{i:Nat}{x:Str}{pos:Pos}{Q:Unit->aq->Prop}(I:aE X af σ H s)(hN:X.N.Nodup)(hi:X.N[i]? = some x)(hk:X.env.scope.names.lookup x=some .local)(h:∀s',aE X af (σ.set i none) H s'->Q () s'):wpAny M A (do bindName X.env x .none;unbindBehindTheSuite X.env x pos) Q E s:=by
 obtain⟨m,hn,hl⟩:=id I.loc
 obtain⟨oL,_,_,hoL,_⟩:=id hn
 have ab:∀b o,X.s₀.heap.get? b=some o->b≠X.env.locals:=λb o e=>bh6 (bf2 (bf4 e) I.ok.above)
 refine wpAny_nameGoes_keeps hk hn (by rw[I.ok.kind];rfl) λh' v hn' hs=>?_
 refine h _ ⟨I.ok,I.os,I.bare,⟨λb o e n hb hx=>(hs.2 b (ab b o e)).trans (I.base.keep b o e n hb hx),λb o e n hb hx=>?_,I.base.free,λb o e hx=>?_,I.base.tups,I.base.frzs,I.base.tbls⟩,⟨_,hn',λj y v' e1 e2 e3=>?_⟩,λy c e=>?_,I.free,I.freeC,λp hp=>?_,λb u e=>?_,by simpa using I.len⟩
 ·obtain⟨sl,e1⟩:=I.base.slot b o e n hb hx
  exact⟨sl,(hs.2 b (ab b o e)).trans e1⟩
 ·obtain⟨o',e1⟩:=I.base.there b o e hx
  exact⟨o',(hs.2 b (ab b o e)).trans e1⟩
 ·by_cases hj:j=i
  ·subst hj
   have hjl:j<σ.length:=by rw[I.len];exact (bf7.mp hi).1
   rw[bm7 hjl]at e2;cases e2
  ·rw[bh8 (Ne.symm hj)]at e2
   obtain⟨u',r',q⟩:=hl j y v' e1 e2 e3
   refine⟨u',r',?_⟩;rcases q with⟨k,e⟩|⟨k,c,e,z⟩
   ·have ny:y≠x:=λz=>hj (rQ hN e1 (z▸hi))
    exact .inl ⟨k,by simp[ny,e]⟩
   ·exact .inr ⟨k,c,e,z.sameBut hs (I.cne y c e)⟩
 ·obtain⟨w',z⟩:=I.cell y c e
  exact⟨w',z.sameBut hs (I.cne y c e)⟩
 ·obtain⟨e,n,ne,nf,d⟩:=I.pin p hp
  exact⟨(hs.2 p.1 ne).trans e,n,ne,nf,d⟩
 ·refine (I.hok b u e).stay (λc v hc q=>(hs.2 c λz=>?_).trans q) (λ_ q=>q) λ_ _ q=>q
  subst z;rcases hc with z|z
  ·subst z;rw[I.free]at e;cases e
  ·rw[I.free]at z;cases z
theorem av9 {M:Model}{A:aw}{E:ao->aq->Prop}{K:ac}{e C D:ar}{oe:Obj}{Q:Bool->aq->Prop}(k:K.In s.heap)(he:s.heap.get? e=some oe)(hc:oe.cls = .ref C)(h1:(PySem.W.clsIn K D).isSome=true)(h2:PySem.W.typeIn K (.ref D)=some (.type "type"))(h3:PySem.W.subIn K (.ref D) (.type "BaseException")=some true)(h4:PySem.W.subIn K (.ref C) (.ref D)=some true)(hq:Q true s):wpAny M A (excMatches (.ref e) (.ref D)) Q E s:=by
 obtain⟨h,g,d,t,os⟩:=s
 have k:K.In h:=k;have he:h.get? e=some oe:=he;have l1:PySem.W.Looks M h (isType (.ref D)) true:=by
  unfold PySem.W.clsIn at h1;split at h1
  ·rename_i c' d' cd' sl' ho
   intro A' Q' E' s' kk q;unfold isType loadHead;exact be2 (wpAny_loadPart (kk _ _ (k _ _ ho)) (be6 q))
  ·cases h1
 have l2:PySem.W.Looks M h (typeOf (.ref D)) (.type "type"):=PySem.W.looks_typeIn k h2;have l3:PySem.W.Looks M h (isSubtype (.ref D) (.type "BaseException")) true:=PySem.W.looks_subIn k h3;have l4:PySem.W.Looks M h (isSubtype (.ref C) (.ref D)) true:=PySem.W.looks_subIn k h4;have l5:PySem.W.Looks M h (typeOf (.ref e)) (.ref C):=hc▸(PySem.W.Looks.ld he).andThen .now;have l6:PySem.W.Looks M h (isInstance (.ref D) (.type "tuple")) false:=l2.andThen (PySem.W.Looks.of_pure tc_notTuple);have l7:PySem.W.Looks M h (isExcClass (.ref D)) true:=by
  unfold isExcClass;exact l1.andThen (by simpa using l3)
 have f:=tc_notTuple;unfold excMatches
 repeat (first|exact hq|(with_reducible refine l2.at ?_)|(with_reducible refine l7.at ?_)|(with_reducible refine l1.at ?_)|(with_reducible refine l3.at ?_)|(with_reducible refine l5.at ?_)|(with_reducible refine l4.at ?_)|wp_step)
end
noncomputable def v3 (D:cN)(i:Nat):cN:={ nx:=λσ H=>D.nx (σ.set i none) H,rt:=D.rt,bk:=λσ H=>D.bk (σ.set i none) H,ct:=λσ H=>D.ct (σ.set i none) H }
section
variable {X:Cx}{af:List (ar×Obj)}{σ:St}{H H1 H':Hp}{s s1 s':aq}{B:Heap}{a C Ch:ar}{i:Nat}{x n:Str}{np pos hpos:Pos}{b₀:Stmt}{suite:List Stmt}{ts:TS}{D:cN}{dA:List ExceptHandler}
structure v4 (K:ac)(Ch:ar):Prop where
 c1:(PySem.W.clsIn K Ch).isSome=true
 c2:PySem.W.typeIn K (.ref Ch)=some (.type "type")
 c3:PySem.W.subIn K (.ref Ch) (.type "BaseException")=some true
theorem aw0 (I:aE X af σ H1 s1)(fl:kR X.prog X.w X.stack H1 s1 H' B a C s')(hstk:X.stack=X.env::X.outer/\X.env.frame=some X.env.locals)(hg:Gl X x)(hm:X.mg x=some (.ref Ch))(ct:v4 X.K Ch)(sub:PySem.W.subIn X.K (.ref C) (.ref Ch)=some true)(hN:X.N.Nodup)(hi:X.N[i]? = some n)(hl:X.env.scope.names.lookup n=some .local)(hs:dM (X.suite a) (b₀::suite) ts)(q:∀oe:Obj,oe.cls = .ref C->ts (v3 D i) (σ.set i (some (.ref a))) (upd H' a (.frz oe (.own a))))(hd:(x==("__debug__":Str))=false) :
  wpAny (model X.prog X.w) X.A (noteFrame (.ref a) X.env) (λ_ s₂=>wpAny (model X.prog X.w) X.A (setFlight (.ref a) none) (λ_ s₃=>wpAny (model X.prog X.w) X.A (handleBy (.ref a) X.env (.ExceptHandler (some (.Name x np)) (some n) (b₀::suite) hpos::dA)) (SP X af D) X.xe s₃) X.xe s₂) X.xe s':=by
 obtain⟨a0,fly⟩:=fl.fly
 rw[hstk.1]at fly;refine wpAny_looks_onW (outer:=X.outer) (L:=X.env.locals) (by rw[I.ok.frames,hstk.1]) hstk.2 fly λh4 held up4=>wpAny_landsW held λh5 fly5 up5=>?_
 obtain⟨o5,v5,e5,c5,_⟩:=fly5.first
 have I5:=F3 I fl fly5.1 (up4.trans up5) e5;refine wpAny_handleBy_cons (codeAny_handlers_test (mO (I5.suite a) hg hm ?_ hd)) (by intro z;cases z);refine av9 I5.kIn e5 c5 ct.c1 ct.c2 ct.c3 sub ?_;show codeAny (model X.prog X.w) (X.A.mark (some (.ref a))) (.handlers (.ref a) [.ExceptHandler none (some n) (b₀::suite) hpos] X.env) _ _;refine codeAny_handlers_suite_as (lands_againW fly5 λh6 fly6 up6=>?_)
 obtain⟨o6,v6,e6,c6,_⟩:=fly6.first
 have I6:=F3 I fl fly6.1 ((up4.trans up5).trans up6) e6;refine rR I6 hN hi (.inl hl) (v:=.ref a) rfl (λs7 I7=>?_) (.inr hl);refine bk2 (hs af s7 _ _ (v3 D i) (I7.suite a) (q o6 c6)) (λf s8 h8=>?_) λ_ _ z=>z.elim
 show wpAny (model X.prog X.w) X.A (do bindName X.env n .none;unbindBehindTheSuite X.env n hpos) (λ_ s9=>SP X af D f s9) X.xe s8;cases f with
 |next=>obtain⟨σ',H',J,q⟩:=h8;exact pR (J.unsuite I.ok) hN hi hl λs9 J9=>⟨_,_,J9,q⟩
 |brk=>obtain⟨σ',H',J,q⟩:=h8;exact pR (J.unsuite I.ok) hN hi hl λs9 J9=>⟨_,_,J9,q⟩
 |cont=>obtain⟨σ',H',J,q⟩:=h8;exact pR (J.unsuite I.ok) hN hi hl λs9 J9=>⟨_,_,J9,q⟩
 |ret u=>obtain⟨v,σ',H',J,r,q⟩:=h8;exact pR (J.unsuite I.ok) hN hi hl λs9 J9=>⟨v,_,_,J9,r,q⟩
end
noncomputable abbrev TB:=cN->XK->St->Hp->Prop
noncomputable def XB (X:Cx)(af:List (ar×Obj))(σ:St)(Ex:XK):ao->aq->Prop:=λe s'=>∃H1 s1,aE X af σ H1 s1/\cM X.prog X.w X.stack H1 s1 Ex e s'
noncomputable def PB (X:Cx)(sts:List Stmt)(t:TB):Prop:=
 ∀(af:List (ar×Obj)) (s:aq) (σ:St) (H:Hp) (D:cN) (Ex:XK),aE X af σ H s->t D Ex σ H->wpAny (model X.prog X.w) X.A (execs sts X.env) (SP X af D) (XB X af σ Ex) s
noncomputable def aw1 (sp:Sp)(t:TA):TB:=λD Ex σ H=>t σ H λvs H1=>sp vs H1 (λ_ H2=>D.nx σ H2) Ex
noncomputable def aw2 (c:TT)(t u:TB):TB:=λD Ex σ H=>c σ H λb H1=>if b=true then t D Ex σ H1 else u D Ex σ H1
section
variable {X:Cx}{k:Nat}{f Ch:ar}{fd:FuncData}{ps:List Str}{sp:Sp}{x n:Str}{p cp pos np hpos:Pos}{e c:Expr}{es:List Expr}{t:TA}{tb ub:TB}{tc:TT}{sa sb body:List Stmt}{i:Nat}{b₀:Stmt}{suite:List Stmt}{ts:TS}
theorem aw3 (F:cX X.prog X.w X.K X.mg X.base (cM X.prog X.w) k f fd ps sp)(hr:c8 k X.A)(hg:Gl X x)(hm:X.mg x=some (.ref f))(hk:PySem.W.keepIn X.K (.ref f)=true)(hb:hV X.K fd ps [])(ha:∀E,PA (X.wish E) (e::es) t)(hdb:(x==("__debug__":Str))=false:=by decide)(he:starEach (e::es) X.env=(false,eval e X.env)::starEach es X.env:=by rfl)(hpl:(backTo cp (starEach es X.env)).any (·.1)=false:=by rfl)(hsw:swapsWith (.Call (.Name x p) (e::es) [] cp) none pos.line X.env=pure false:=by rfl) :
  PB X [.Expr (.Call (.Name x p) (e::es) [] cp) pos] (aw1 sp t):=by
 intro af s σ H D Ex I h;refine wpAny_execs_cons (wpAny_Expr_any ?_ I.quiet hsw);refine bt5 (mO I hg hm ?_ hdb);refine PySem.W.callWith_K (h₀:=X.base) I.ok.mod.kin hk (aT (ha (XB X af σ Ex) cp af s σ H _ (I.wish _) h) λus s1 h1=>⟨?_,?_⟩) he hpl
 ·obtain⟨_,_,I1,_⟩:=h1
  exact I1.kIn
 ·obtain⟨vs,H1,I1,r,q⟩:=h1
  have I1:=I1.unwish;have hl:us.length=ps.length:=by rw[<- r.length];exact F.len _ _ _ _ q
  have bd:=hb s1 us I1.kIn (by rw[bm9];exact hl);rw[bm9]at bd;refine wpAny_call (codeAny_mono (F.run X.A X.stack s1 H1 ⟨us,[]⟩ us vs _ Ex hr I1.env0 bd r q) λrs s' hq=>?_);cases rs with
  |error ev=>exact⟨H1,s1,I1,hq⟩
  |ok fl=>
   cases fl with
   |ret u=>
    obtain⟨v,H2,I2,_,q2⟩:=I1.after hq
    exact bu2 ⟨σ,H2,I2,q2⟩
   |next=>exact False.elim hq
   |brk=>exact False.elim hq
   |cont=>exact False.elim hq
theorem aw4 (hc:∀E,PT (X.wish E) c tc)(ha:PB X sa tb)(hb:PB X sb ub):PB X [.If c sa sb pos] (aw2 tc tb ub):=by
 intro af s σ H D Ex I h;refine wpAny_execs_cons (wpAny_If (aT (hc (XB X af σ Ex) af s σ H _ (I.wish _) h) λd s1 h1=>?_))
 obtain⟨H1,I1,q1⟩:=h1
 have I1:=I1.unwish;have fin:∀(fl:Flow) (s2:aq),SP X af D fl s2->(match fl with|.next=>wpAny (model X.prog X.w) X.A (execs [] X.env) (SP X af D) (XB X af σ Ex) s2|fl=>SP X af D fl s2):=λfl s2 q=>by
  cases fl with
  |next=>exact bu2 q
  |_=>exact q
 cases d with
 |true=>exact aT (ha af s1 σ H1 D Ex I1 q1) fin
 |false=>exact aT (hb af s1 σ H1 D Ex I1 q1) fin
noncomputable def F4 (K:ac)(Ch:ar)(i:Nat)(tb:TB)(ts:TS):TS:=λD σ H=>
 tb D (λc _ H'=>∀(a C:ar) (oe:Obj),c = .ref C->H' a=none->oe.cls = .ref C->PySem.W.subIn K (.ref C) (.ref Ch)=some true/\ts (v3 D i) (σ.set i (some (.ref a))) (upd H' a (.frz oe (.own a)))) σ H
theorem aw5 (hstk:X.stack=X.env::X.outer/\X.env.frame=some X.env.locals)(hb:PB X body tb)(hg:Gl X x)(hm:X.mg x=some (.ref Ch))(ct:v4 X.K Ch)(hN:X.N.Nodup)(hi:X.N[i]? = some n)(hl:X.env.scope.names.lookup n=some .local)(hs:∀a,dM (X.suite a) (b₀::suite) ts)(hd:(x==("__debug__":Str))=false:=by decide):PS X (.Try body [.ExceptHandler (some (.Name x np)) (some n) (b₀::suite) hpos] [] [] pos) (F4 X.K Ch i tb ts):=by
 intro af s σ H D I h;refine wpAny_Try_except (bk2 (hb af s σ H D _ I h) (λfl s1 q=>?_) (λev s1 q=>?_))
 ·cases fl with
  |next=>exact bu2 q
  |_=>exact q
 ·obtain⟨H1,s2,I1,H',B,a,C,e1,fl,q⟩:=q
  subst e1
  obtain⟨a0,fly⟩:=fl.fly
  obtain⟨o5,_,_,c5,_⟩:=fly.first
  exact aw0 I1 fl hstk hg hm ct (q a C o5 rfl fl.fresh c5).1 hN hi hl (hs a) (λoe hc=>(q a C oe rfl fl.fresh hc).2) hd
end
end L2
namespace L2
open PySem PySem.Spec PyProof.Rows PySem.Calls Builtin Builtin.ObjectAttr Builtin.Getset_descriptor
structure iC (K:ac)(D:ar):Prop where
 cls:(PySem.W.clsIn K D).isSome=true
 ga:PySem.W.findIn K (.ref D) "__getattribute__" = some (some (.builtin "BaseException.__getattribute__"))
 gt:PySem.W.findIn K (.ref D) "__getattr__" = some none
 fc:PySem.W.findIn K (.ref D) "__class__" = some (some (.builtin "object.__class__"))
 fg:PySem.W.specialIn K (.builtin "object.__class__") "__get__" = some (some (.builtin "getset_descriptor.__get__"))
 ft:PySem.W.takesIn K (.builtin "object.__class__")=some true
 ob:PySem.W.mroIn K D (.type "object")=some true
 be:PySem.W.mroIn K D (.type "BaseException")=some true
noncomputable def jN (h:Heap)(x D:ar):Prop:=∃ox:Obj,h.get? x=some ox/\ox.cls = .ref D
theorem jN.type {h:Heap}{x D:ar}{M:Model}(I:jN h x D):PySem.W.Looks M h (typeOf (.ref x)) (.ref D):=by
 obtain⟨ox,e,c⟩:=I
 exact c▸(PySem.W.Looks.ld e).andThen .now
section
variable {prog:av}{w:ax}{A:aw}{E:ao→aq→Prop}{K:ac}{x D:ar}{h:Heap}{g:Array GenState}{d:Drawn}{t:Nat}{os:OsState}
theorem aw6 {M:Model}(F:iC K D)(k:K.In h):PySem.W.Looks M h (find (.ref x) (.ref D) "__class__") (.bind (.builtin "getset_descriptor.__get__") (.builtin "object.__class__")):=by
 have L1:=PySem.W.looks_findIn (M:=M) k F.fc;have L2:=PySem.W.looks_specialIn (M:=M) k F.fg;have L3:=PySem.W.looks_takesIn (M:=M) k F.ft;unfold find;refine L1.andThen (PySem.W.Looks.andThen (a:=some (Value.builtin "getset_descriptor.__get__")) L2 ?_);refine PySem.W.Looks.andThen (a:=some (Value.builtin "getset_descriptor.__get__",Value.builtin "object.__class__")) ?_ (PySem.W.Looks.tag .now);unfold dataDescriptor?;exact L3.andThen .now
theorem aw7 {tp:ao}{R:Result->aq->Prop}(F:iC K D)(k:K.In h)(I:jN h x D)(hq:R (.ok (.ret (.ref D))) ⟨h,g,d,t,os⟩):codeAny (model prog w) A (.call (.builtin "getset_descriptor.__get__") ⟨[.builtin "object.__class__",.ref x,tp],[]⟩) R ⟨h,g,d,t,os⟩:=by
 have L0:=I.type (M:=model prog w);have L1:=PySem.W.looks_mroIn (M:=model prog w) k F.ob;refine codeAny_call_builtin PySem.W.KF.slot_gs.plain PySem.W.KF.entry_gs (PySem.W.KF.slot_gs.check _ _ _ _ _ _ _ _ PySem.W.KF.type_class (PySem.W.KF.args_gs _ _ _) ?_);unfold Builtin.«getset_descriptor.__get__» descrGet;rw[PySem.W.dga_obj];refine be2 (be6 ?_);unfold descrGetter descrCheckInstance descrNameAndClass isInstance;simp only[PySem.W.KF.owner_class]
 repeat lk
 refine⟨Code.quiet_builtin _ (by decide +kernel),bu6 PySem.W.KF.entry_class ?_⟩;unfold Builtin.«object.__class__» shownTypeOf
 repeat lk
 exact hq
theorem aw8 {M:Model}{nameV:ao}{Q:Unit->aq->Prop}(F:iC K D)(k:K.In h)(I:jN h x D)(hq:Q () ⟨h,g,d,t,os⟩):wpAny M A (checkBuiltinCall "BaseException.__getattribute__" ⟨[.ref x,nameV],[]⟩) Q E ⟨h,g,d,t,os⟩:=by
 have kd:builtinKind "BaseException.__getattribute__" = some .slot:=by decide +kernel
 have sp:splitId "BaseException.__getattribute__" = some ("BaseException","__getattribute__"):=by decide +kernel
 have L:PySem.W.Looks M h (isInstance (.ref x) (.type "BaseException")) true:=(I.type (M:=M)).andThen (PySem.W.looks_mroIn k F.be);have ha:=PySem.F.args_bexc_ga (.ref x) nameV;simp only[checkBuiltinCall,kd,sp];refine be2 (L.at ?_)
 repeat (any_goals (first|assumption|wp_step))
theorem aw9 {tk:Tok}{Q:Fin->aq->Prop}(F:iC K D)(k:K.In h)(I:jN h x D)(hq:Q (.done (.ret (.ref D))) ⟨h,g,d,t,os⟩):wpAny (model prog w) A (Builtin.«object.__getattribute__» ⟨[.ref x,.str "__class__" tk],[]⟩) Q E ⟨h,g,d,t,os⟩:=by
 have L0:=I.type (M:=model prog w);have L1:=aw6 (M:=model prog w) F k (x:=x);refine be2 (be6 (be2 (be6 (be2 (L0.at (be2 (L1.at ?_)))))));show wpAny _ _ (holding [_] (call _ _) >>= ret) _ _ _;exact be2 (bv6 (wpAny_call (aw7 F k I (be6 hq))))
theorem ax0 {tk:Tok}{R:Result->aq->Prop}(F:iC K D)(k:K.In h)(I:jN h x D)(hq:R (.ok (.ret (.ref D))) ⟨h,g,d,t,os⟩):codeAny (model prog w) A (.call (.builtin "BaseException.__getattribute__") ⟨[.ref x,.str "__class__" tk],[]⟩) R ⟨h,g,d,t,os⟩:=
 codeAny_call_builtin PySem.F.excAttr_ValueError.ga.plain PySem.F.entry_bexc_ga (aw8 F k I (aw9 F k I hq))
theorem ax1 {Q:Option ao->aq->Prop}(F:iC K D)(k:K.In h)(I:jN h x D)(hq:Q (some (.ref D)) ⟨h,g,d,t+1,os⟩):wpAny (model prog w) A (getAttr? (.ref x) "__class__") Q E ⟨h,g,d,t,os⟩:=by
 have L0:=I.type (M:=model prog w);have L1:=PySem.W.looks_findIn (M:=model prog w) k F.ga;have L2:=PySem.W.looks_findIn (M:=model prog w) k F.gt;have f3:=PySem.F.excAttr_ValueError.ga.bind (.ref x);unfold getAttr? getAttrBy? getAttrBy;refine be2 (wpAny_mkText (be2 (br4 (bv6 (be2 (L0.at (be2 (L1.at ?_))))))));have nx:(onTheHeap (Value.ref D)&&Value.builtin "BaseException.__getattribute__"==Value.builtin "object.__getattribute__")=false:=by
  rw[show (Value.builtin "BaseException.__getattribute__"==Value.builtin "object.__getattribute__")=false by decide +kernel,bw0]
 dsimp only;rw[if_neg (by rw[nx];decide)];unfold getAttrByItsOwn hookBefore
 repeat (any_goals (first|assumption|(with_reducible refine L2.at ?_)|wp_step))
 exact ax0 F k I (PySem.W.handed_on rfl (be6 hq))
end
theorem ax2 {K:ac}{x D:ar}(F:iC K D):PySem.W.KitX K (.ref x) (.ref D) (λh=>jN h x D) where
 ty:=λ_ _ _ I=>I.type
 it:=λM h k _=>by
  have z:=F.cls;unfold PySem.W.clsIn at z;split at z
  ·rename_i c' d' cd' sl' ho
   intro A' Q' E' s' kk q;unfold isType loadHead;exact be2 (wpAny_loadPart (kk _ _ (k _ _ ho)) (be6 q))
  ·cases z
 ne:=λh tp dd its n sl k htp=>by
  have z:=F.cls;refine Bool.eq_false_iff.mpr λq=>?_
  obtain rfl:D=tp:=Value.ref.inj (beq_iff_eq.mp q);unfold PySem.W.clsIn at z;split at z
  ·rename_i ho
   have y:=(k _ _ ho).symm.trans htp;cases y
  ·cases z
 ca:=λ{_ _ _ _ _ s} k I q=>by
  obtain⟨h,g,d,t,os⟩:=s
  exact ax1 F k I q
end L2
namespace Raw
open PySem PySem.W PySem.Calls PyProof.Rows
theorem bd5:isSubtype (.type "tuple") (.type "set")=pure false:=by rw[bq5];kernel_rfl
theorem bd6:isSubtype (.type "tuple") (.type "frozenset")=pure false:=by rw[bq5];kernel_rfl
end Raw
namespace Core
open PySem L2 PP
noncomputable def j6 (ns:ae):Bool:=((ns.zip (ns.drop 1)).map λp=>decide (p.1<p.2)).all id
theorem pS {α β:Type}{l:List α}{f:α->β}{i:Nat}{x:α}(h:l[i]? = some x):(l.take (i+1)).map f=(l.take i).map f++[f x]:=by
 rw[bj7,h];simp
theorem nR:∀{ns:ae},j6 ns=true->ns.Pairwise (·<·)
 |[],_=>.nil
 |[x],_=>List.pairwise_singleton _ _
 |x::y::r,h=>by
  have e:j6 (x::y::r)=(decide (x<y)&&j6 (y::r)):=rfl;rw[e,bm2]at h;have ih:=nR h.2;refine List.pairwise_cons.mpr ⟨λz hz=>?_,ih⟩;rcases be8.mp hz with rfl|hz
  ·exact of_decide_eq_true h.1
  ·exact Int.lt_trans (of_decide_eq_true h.1) (List.rel_of_pairwise_cons ih hz)
noncomputable def kin (ws:ae)(ls:aa)(S:ae)(h:Int):Bool:=!decide (h∈S)&&decide (ws.getD h.toNat 0<=(((dB ls h).filter λx=>decide (x∈S)).length:Int))
noncomputable def nextOf (ws:ae)(ls:aa)(S:ae):ae:=((List.range ws.length).map λ(i:Nat)=>(i:Int)).filter (kin ws ls S)
noncomputable def bJ (ws:ae)(ls:aa)(S:ae):Nat->ae
 |0=>S
 |k+1=>bJ ws ls S k++nextOf ws ls (bJ ws ls S k)
noncomputable def fB (ws:ae)(S:ae):Nat:=(((List.range ws.length).map λ(i:Nat)=>(i:Int)).filter λx=>!decide (x∈S)).length
theorem v7 {α:Type}(p q:α->Bool)(h:∀x,q x=true->p x=false):∀L:List α,(L.filter λx=>!p x&&!q x).length+(L.filter q).length=(L.filter λx=>!p x).length
 |[]=>rfl
 |x::r=>by
  have ih:=v7 p q h r;cases e1:p x with
  |true=>
   have e2:q x=false:=by
    cases e:q x with
    |false=>rfl
    |true=>have:=h x e;rw[e1]at this;cases this
   simp only[List.filter_cons,e1,e2,Bool.not_true,Bool.false_and,bi7,bq0];exact ih
  |false=>
   cases e2:q x with
   |true=>
    simp only[List.filter_cons,e1,e2,Bool.not_true,Bool.not_false,bw0,bi7,bq0,if_true,bm3];omega
   |false=>
    simp only[List.filter_cons,e1,e2,Bool.not_false,Bool.and_true,bi7,bq0,if_true,bm3];omega
theorem v8 {ws:ae}{ls:aa}{S:ae}{x:Int}(h:kin ws ls S x=true):decide (x∈S)=false:=by
 unfold kin at h;cases e:decide (x∈S) with
 |false=>rfl
 |true=>rw[e]at h;cases h
theorem v9 (ws:ae)(ls:aa)(S:ae):fB ws (S++nextOf ws ls S)+(nextOf ws ls S).length=fB ws S:=by
 have e:=v7 (λx=>decide (x∈S)) (kin ws ls S) (λx h=>v8 h) ((List.range ws.length).map λ(i:Nat)=>(i:Int));unfold fB;rw[<- e];congr 2;refine List.filter_congr λx hx=>?_
 have:decide (x∈S++nextOf ws ls S)=(decide (x∈S)||kin ws ls S x):=by
  rw[bp5];unfold nextOf;simp only[bs1,bs3,List.mem_filter,Bool.or_eq_true]
  exact⟨λz=>z.elim .inl λz=>.inr z.2,λz=>z.elim .inl λz=>.inr ⟨hx,z⟩⟩
 rw[this];cases decide (x∈S)<;>cases kin ws ls S x<;>rfl
theorem ax3 (ws:ae)(S:ae):fB ws S<=ws.length:=by
 unfold fB;refine bj5 (List.length_filter_le _ _) ?_;rw[be9,bs0];exact be7 _
theorem ax4 (ws:ae)(ls:aa)(S:ae):(nextOf ws ls S).length<=ws.length:=by
 unfold nextOf;refine bj5 (List.length_filter_le _ _) ?_;rw[be9,bs0];exact be7 _
noncomputable def after (ws:ae)(ls:aa)(S:ae)(m:Nat):ad:=(List.range m).map λk=>nextOf ws ls (bJ ws ls S k)
theorem F5 (ws:ae)(ls:aa)(S:ae)(m:Nat):after ws ls S (m+1)=after ws ls S m++[nextOf ws ls (bJ ws ls S m)]:=by
 unfold after;rw[List.range_succ,bi9];rfl
theorem F6 (ws:ae)(ls:aa)(ns:ae):∀k,(bJ ws ls ns k).length+fB ws (bJ ws ls ns k)=ns.length+fB ws ns
 |0=>rfl
 |k+1=>by
  have ih:=F6 ws ls ns k;have cs:=v9 ws ls (bJ ws ls ns k);show (bJ ws ls ns k++nextOf ws ls (bJ ws ls ns k)).length+fB ws (bJ ws ls ns k++nextOf ws ls (bJ ws ls ns k))=_;rw[bg8];omega
theorem F7 {ws ns:ae}(hu:ns.Pairwise (·<·))(hin:∀x∈ns,0<=x/\x<(ws.length:Int)):ns.length+fB ws ns<=ws.length:=by
 have nd:ns.Nodup:=hu.imp λh=>Int.ne_of_lt h
 have sub:ns ⊆ ((List.range ws.length).map λ(i:Nat)=>(i:Int)).filter λx=>decide (x∈ns):=λx hx=>by
  refine List.mem_filter.mpr ⟨bv4.mpr ⟨x.toNat,List.mem_range.mpr ?_,?_⟩,bj1 hx⟩
  ·have:=hin x hx;omega
  ·have:=hin x hx;omega
 have h1:=nd.length_le_of_subset sub;have h2:=v7 (λ_=>false) (λx=>decide (x∈ns)) (λ_ _=>rfl) ((List.range ws.length).map λ(i:Nat)=>(i:Int));have h3:(((List.range ws.length).map λ(i:Nat)=>(i:Int)).filter λx=>!false&&!decide (x∈ns)).length=fB ws ns:=rfl;have h4:(((List.range ws.length).map λ(i:Nat)=>(i:Int)).filter λx=>!false).length<=ws.length:=by
  refine bj5 (List.length_filter_le _ _) ?_;rw[be9,bs0];exact be7 _
 rw[h3]at h2;omega
theorem vA (ws:ae)(ls:aa)(ns:ae):∀m,(ns::after ws ls ns m).flatten=bJ ws ls ns m
 |0=>by simp[after,bJ]
 |m+1=>by
  rw[F5,<- List.cons_append,List.flatten_append,vA ws ls ns m];simp[bJ]
noncomputable def cN (ws:ae)(ls:aa)(ns:ae)(m:Nat):Prop:=(∀k<m,nextOf ws ls (bJ ws ls ns k)≠[])/\nextOf ws ls (bJ ws ls ns m) = []
theorem F8 {ws:ae}{ls:aa}{ns:ae}:∀(m:Nat),(∀k<m,nextOf ws ls (bJ ws ls ns k)≠[])->m+fB ws (bJ ws ls ns m)<=ws.length
 |0,_=>by have:=ax3 ws ns;show 0+fB ws ns<=_;omega
 |m+1,h=>by
  have ih:=F8 m λk hk=>h k (by omega)
  have cs:=v9 ws ls (bJ ws ls ns m)
  have:1<=(nextOf ws ls (bJ ws ls ns m)).length:=by
   cases e:nextOf ws ls (bJ ws ls ns m) with
   |nil=>exact absurd e (h m (by omega))
   |cons _ _=>exact Nat.succ_le_succ (bo1 _)
  show m+1+fB ws (bJ ws ls ns m++nextOf ws ls (bJ ws ls ns m))<=_;omega
theorem jO {ns:ae}{i:Nat}{x:PV}(h:(intz ns)[i]? = some x):∃n,x = .int n/\ns[i]? = some n:=by
 rw[bg9]at h;cases e:ns[i]? with
 |none=>rw[e]at h;cases h
 |some n=>rw[e]at h;exact⟨n,(bh9 h).symm,rfl⟩
theorem pT {lo:Int}{n i:Nat}{x:PV}(h:(fU lo n)[i]? = some x):x = .int (lo+i)/\i<n:=by
 have hi:i<n:=by
  have:=(bf7.mp h).1
  rwa [kD]at this
 rw[B1 hi]at h
 exact⟨(bh9 h).symm,hi⟩
noncomputable def rng (n:Nat):ae:=(List.range n).map λ(i:Nat)=>(i:Int)
theorem vB (n:Nat):(rng n).length=n:=by unfold rng;rw[be9,bs0]
theorem ax5 {n i:Nat}(h:i<n):(rng n)[i]? = some (i:Int):=by unfold rng;rw[bg9,List.getElem?_range h];rfl
theorem F9 {n:Nat}{x:Int}:x∈rng n↔0<=x/\x<(n:Int):=by
 unfold rng;rw[bv4];constructor
 ·rintro⟨i,hi,rfl⟩
  have:=List.mem_range.mp hi
  omega
 ·intro h
  exact⟨x.toNat,List.mem_range.mpr (by omega),by omega⟩
theorem vC {α:Type}{l:List α}{p:α->Bool}{i:Nat}{x:α}(h:l[i]? = some x):(l.take (i+1)).filter p=(l.take i).filter p++(if p x=true then [x] else []):=by
 rw[bj7,h,List.filter_append];congr 1;cases e:p x<;>simp[e]
theorem m5 (a b:ae):intz (a++b)=intz a++intz b:=bi9
theorem dE (a:ae):(intz a).length=a.length:=be9 _
noncomputable def cP (ws:ae)(ls:aa):PV:=.tup [.tup (intz ws),.tup (ls.map λl=>.tup [.int l.1,.int l.2])]
structure Wb (ws:ae)(ls:aa):Prop where
 few:ws.length<=40
 most:ls.length<=1700
 links:∀l∈ls,(0<=l.1/\l.1<ws.length)/\0<=l.2/\l.2<ws.length
noncomputable def cQ (x:PV)(ns:ae):Prop:=x = .tup (intz ns)∨x = .lst (intz ns)
theorem cQ.seq {x:PV}{ns:ae}(h:cQ x ns):jH x=some (intz ns):=by rcases h with rfl|rfl<;>rfl
theorem cQ.seqT {x:PV}{ns:ae}(h:cQ x ns):seqT x=some (intz ns):=by rcases h with rfl|rfl<;>rfl
theorem vD (ns:ae):flat (.tup (intz ns))=true:=i5 ns
noncomputable def cR:bH:=λxs Q=>∃ws ls,xs = [cP ws ls]/\Q (.int ws.length)
noncomputable def G0:aP:=(bG (aK dI (aB (cG (aA 0) (qC (.int 0))) aF)))
noncomputable abbrev c9 (t:aP)(N:List Str)(p:bH):Prop:=∀xs Q,p xs Q->t { nx:=λ_=>Q .non,rt:=Q } (eQ N xs)
theorem ax6:c9 G0 ["web"] cR:=by
 rintro xs Q ⟨ws,ls,rfl,q⟩;refine⟨_,rfl,_,_,_,rfl,rfl,rfl,_,_,rfl,rfl,trivial,?_⟩;rw[dE];exact q
noncomputable def vE:bH:=λxs Q=>∃x ns,xs = [x]/\cQ x ns/\ns.length<=1000/\Q (.bl (j6 ns))
noncomputable def inB (n:Nat)(x:Int):Bool:=decide (0<=x)&&decide (x<(n:Int))
noncomputable def m6:bH:=λxs Q=>∃ws ls n,xs = [cP ws ls,.int n]/\Q (.bl (inB ws.length n))
noncomputable def G1:aP:=(bG (nI (pM (aA 1) (qC (.int 0))) (iW (aA 1) (aK cR (aB (aA 0) aF)))))
theorem ax7:c9 G1 ["web","number"] m6:=by
 rintro xs Q ⟨ws,ls,n,rfl,q⟩;refine⟨_,rfl,_,_,rfl,rfl,_,rfl,?_⟩;unfold inB at q;by_cases h:(0:Int)<=n
 ·rw[bj1 h]at q ⊢
  refine b4 ⟨_,rfl,_,rfl,ws,ls,rfl,_,_,rfl,rfl,trivial,?_⟩;simpa using q
 ·rw[bg1 h]at q ⊢
  exact aQ ⟨trivial,by simpa using q⟩
noncomputable def fC (n:Nat)(ns:ae):Bool:=j6 ns&&(ns.map (inB n)).all id
noncomputable def m7:bH:=λxs Q=>∃ws ls x ns,xs = [cP ws ls,x]/\cQ x ns/\ns.length<=1000/\Q (.bl (fC ws.length ns))
noncomputable def G2:aP:=(bG (nI (aK vE (aB (aA 1) aF)) (aK nK (aB (cZ (cY (aA 1)) [none,some 0] (bT 0) dC (aK m6 (aB (aA 1) (aB (aA 0) aF)))) aF))))
theorem kT {x:PV}{ns:ae}(h:cQ x ns):(Slot.sh (flat x) x).tag = .rd->flat x=true:=by
 cases flat x<;>intro z<;>cases z
theorem ax8:c9 G2 ["web","numbers"] m7:=by
 rintro xs Q ⟨ws,ls,x,ns,rfl,hx,hl,q⟩;refine⟨_,rfl,x,ns,rfl,hx,hl,_,rfl,?_⟩;unfold fC at q;cases h:j6 ns with
 |false=>rw[h]at q;exact aQ ⟨trivial,q⟩
 |true=>
  rw[h]at q;refine b4 ⟨_,rfl,_,hx.seq,kT hx,by rw[dE];omega,λi acc=>acc=(((ns.take i).map (inB ws.length)).map PV.bl),rfl,?_,?_⟩
  ·rintro i y acc hy rfl
   obtain⟨n,rfl,hn⟩:=jO hy
   have tk:((ns.take (i+1)).map (inB ws.length)).map PV.bl=((ns.take i).map (inB ws.length)).map PV.bl++[PV.bl (inB ws.length n)]:=by rw[pS hn,bi9];rfl
   exact⟨_,rfl,_,rfl,ws,ls,n,rfl,trivial,tk.symm⟩
  ·rintro acc rfl
   rw[dE,bj2]
   exact⟨_,rfl,trivial,by simpa using q⟩
theorem cQ.noscr {x:PV}{ns:ae}(h:cQ x ns):∀ms,([x]:List PV)≠[.scr ms]:=by
 rcases h with rfl|rfl<;>intro ms z<;>cases z
structure DS (ps:List (aH×PV))(S:ae):Prop where
 has:∀i:Int,(bL ps (Sum.inl i:aH)).isSome=decide (i∈S)
 len:ps.length<=S.length
 fl:flats (ps.map (·.2))=true
theorem DS.nil:DS [] []:=⟨λi=>rfl,be7 _,rfl⟩
section
variable {κ:Type}[DecidableEq κ]
theorem ax9 {k:κ}:bL ([]:List (κ×PV)) k=none:=rfl
theorem iD {p:κ×PV}{r:List (κ×PV)}{k:κ}(e:p.1=k):bL (p::r) k=some p.2:=by simp[bL,bp7,e]
theorem iE {p:κ×PV}{r:List (κ×PV)}{k:κ}(e:¬p.1=k):bL (p::r) k=bL r k:=by simp[bL,bp7,e]
theorem vF (k:κ):∀kvs:List (κ×PV),(kvs.any λkv=>decide (kv.1=k))=(bL kvs k).isSome
 |[]=>rfl
 |p::r=>by
  rw[List.any_cons];by_cases e:p.1=k
  ·simp only[iD e,bj1 e,Bool.true_or,Option.isSome_some]
  ·rw[iE e,bg1 e,Bool.false_or];exact vF k r
theorem G3 (k j:κ)(y:PV):∀kvs:List (κ×PV),bL (kvs.map λkv=>if kv.1=k then (kv.1,y) else kv) j=(bL kvs j).map λx=>if j=k then y else x
 |[]=>rfl
 |p::r=>by
  have ih:=G3 k j y r;rw[bn5];by_cases h:p.1=k
  ·rw[if_pos h]
   by_cases e:p.1=j
   ·rw[iD (p:=(p.1,y)) e,iD e,Option.map_some,if_pos (e.symm.trans h)]
   ·rw[iE (p:=(p.1,y)) e,iE e,ih]
  ·rw[if_neg h]
   by_cases e:p.1=j
   ·rw[iD (p:=p) e,iD e,Option.map_some,if_neg (λz=>h (e.trans z))]
   ·rw[iE (p:=p) e,iE e,ih]
theorem G4 (k j:κ)(y:PV):∀kvs:List (κ×PV),bL kvs k=none->bL (kvs++[(k,y)]) j=if j=k then some y else bL kvs j
 |[],_=>by
  by_cases e:k=j
  ·rw[if_pos e.symm];exact iD (p:=(k,y)) e
  ·rw[if_neg (λz=>e z.symm)];exact iE (p:=(k,y)) e
 |p::r,hn=>by
  rw[List.cons_append];have hk:¬p.1=k:=λz=>by rw[iD z]at hn;cases hn
  rw[iE hk]at hn;have ih:=G4 k j y r hn;by_cases e:p.1=j
  ·rw[iD e,iD e,if_neg (λz=>hk (e.trans z))]
  ·rw[iE e,iE e,ih]
theorem G5 (kvs:List (κ×PV))(k j:κ)(y:PV):bL (dD kvs k y) j=if j=k then some y else bL kvs j:=by
 unfold dD;by_cases a:(kvs.any λkv=>decide (kv.1=k))=true
 ·rw[if_pos a,G3]
  rw[vF]at a;by_cases e:j=k
  ·obtain⟨x,hx⟩:=Option.isSome_iff_exists.mp a
   rw[if_pos e,e,hx,Option.map_some,if_pos rfl]
  ·rw[if_neg e]
   cases bL kvs j with
   |none=>rfl
   |some x=>rw[Option.map_some,if_neg e]
 ·rw[if_neg a]
  refine G4 k j y kvs ?_;rw[vF]at a;cases q:bL kvs k with
  |none=>rfl
  |some x=>rw[q]at a;exact (a rfl).elim
theorem G6 (kvs:List (κ×PV))(k:κ)(v:PV):(dD kvs k v).length<=kvs.length+1:=by
 unfold dD;split
 ·rw[be9];omega
 ·rw[bg8,bm3,List.length_nil];omega
end
theorem G7:∀(xs:List PV),flats xs=true↔∀x∈xs,flat x=true
 |[]=>by simp[flats]
 |x::r=>by
  unfold flats;rw[bm2,G7 r];simp
theorem ay0 {κ:Type}[DecidableEq κ]{ps:List (κ×PV)}{k:κ}{v:PV}{p:κ×PV}(h:p∈dD ps k v):p.2=v∨p∈ps:=by
 unfold dD at h;split at h
 ·obtain⟨q,hq,e⟩:=bv4.mp h
  split at e
  ·subst e;exact .inl rfl
  ·subst e;exact .inr hq
 ·rcases bs3.mp h with h|h
  ·exact .inr h
  ·rw[bh5.mp h];exact .inl rfl
theorem G8 {κ:Type}[DecidableEq κ]{ps:List (κ×PV)}{k:κ}{v:PV}(h:flats (ps.map (·.2))=true)(hv:flat v=true):flats ((dD ps k v).map (·.2))=true:=by
 rw[G7]at h ⊢;intro x hx
 obtain⟨p,hp,rfl⟩:=bv4.mp hx
 rcases ay0 hp with e|e
 ·rw[e];exact hv
 ·exact h _ (bv4.mpr ⟨p,e,rfl⟩)
theorem DS.put {ps:List (aH×PV)}{S:ae}(h:DS ps S)(x:Int)(v:PV)(hv:flat v=true):DS (dD ps (Sum.inl x:aH) v) (S++[x]):=by
 refine⟨λi=>?_,?_,G8 h.fl hv⟩
 ·rw[G5]
  by_cases e:i=x
  ·subst e;rw[if_pos rfl];simp
  ·rw[if_neg (λz=>e (Sum.inl.inj z)),h.has]
   simp[e]
 ·have:=G6 ps (Sum.inl x:aH) v
  have:=h.len
  rw[bg8,bp0];omega
theorem DS.merge {S:ae}:∀{mp ps:List (aH×PV)}{T:ae},DS ps S->DS mp T->DS (gT ps mp) (S++T):=by
 have key:∀(mp:List (aH×PV)) {ps:List (aH×PV)} (i:Int),(bL (gT ps mp) (Sum.inl i:aH)).isSome=((bL ps (Sum.inl i:aH)).isSome||(bL mp (Sum.inl i:aH)).isSome):=λmp=>by
  induction mp with
  |nil=>intro ps i;show (bL ps (Sum.inl i:aH)).isSome=_;rw[ax9];simp
  |cons p r ih=>
   intro ps i;show (bL (gT (dD ps p.1 p.2) r) (Sum.inl i:aH)).isSome=_;rw[ih,G5];by_cases e:(Sum.inl i:aH)=p.1
   ·rw[if_pos e,iD e.symm];simp
   ·rw[if_neg e,iE (Ne.symm e)]
 have keyl:∀(mp:List (aH×PV)) {ps:List (aH×PV)},(gT ps mp).length<=ps.length+mp.length:=λmp=>by
  induction mp with
  |nil=>intro ps;exact be7 _
  |cons p r ih=>
   intro ps;have h1:=ih (ps:=dD ps p.1 p.2);have h2:=G6 ps p.1 p.2;show (gT (dD ps p.1 p.2) r).length<=_;rw[bm3];omega
 have keyf:∀(mp:List (aH×PV)) {ps:List (aH×PV)},flats (ps.map (·.2))=true->flats (mp.map (·.2))=true->flats ((gT ps mp).map (·.2))=true:=λmp=>by
  induction mp with
  |nil=>intro ps h _;exact h
  |cons p r ih=>
   intro ps h g;have g:(flat p.2&&flats (r.map (·.2)))=true:=g;rw[bm2]at g;exact ih (ps:=dD ps p.1 p.2) (G8 h g.1) g.2
 intro mp ps T h g;refine⟨λi=>?_,?_,keyf mp h.fl g.fl⟩
 ·rw[key,h.has,g.has,bp5];simp
 ·have:=keyl mp (ps:=ps)
  have:=h.len
  have:=g.len
  rw[bg8];omega
noncomputable def fW:bH:=λxs Q=>∃x ns,xs = [x]/\cQ x ns/\ns.length<=1000/\∀ps,DS ps ns->Q (.dK ps)
noncomputable def G9:aP:=(aM (eG 1 (qC (.dK [])))
 (aM (e9 (cY (aA 0)) (bT 2)
  (iU 1 (aA 2) (qC (.bl true))))
 (fS 1)))
theorem ay1:c9 G9 ["hearths","inside","hearth"] fW:=by
 rintro xs Q ⟨x,ns,rfl,hx,hl,q⟩;refine⟨rfl,rfl,_,rfl,_,hx.seq,kT hx,λi ρ=>∃y ps,ρ = [some (.sh (flat x) x),some (.own (.dK ps)),y]/\DS ps (ns.take i),⟨none,[],rfl,DS.nil⟩,?_,?_⟩
 ·rintro i y ρ hy ⟨y0,ps,rfl,d⟩
  obtain⟨n,rfl,hn⟩:=jO hy
  have ai:=d.len;rw[bp9]at ai;refine⟨_,rfl,_,rfl,Sum.inl n,rfl,trivial,by omega,_,_,rfl,?_⟩;rw[bj7,hn];exact d.put n _ rfl
 ·rintro ρ ⟨y,ps,rfl,d⟩
  rw[dE,bj2]at d
  exact⟨_,rfl,trivial,q ps d⟩
noncomputable def pU:bH:=λxs Q=>∃x ns ps S,xs = [x,.dK ps]/\cQ x ns/\DS ps S/\ns.length<=10000/\Q (.int ((ns.filter λx=>decide (x∈S)).length:Nat))
noncomputable def J0:aP:=(bG (aK dI (aB (cZ (cY (aA 0)) [none,some 1] (bT 0) (b5 (fG false (aA 0) (aA 1))) (aA 0)) aF)))
theorem ay2:c9 J0 ["hearths","inside"] pU:=by
 rintro xs Q ⟨x,ns,ps,S,rfl,hx,d,hl,q⟩;refine⟨_,rfl,_,hx.seq,kT hx,by rw[dE];omega,λi acc=>acc=intz ((ns.take i).filter λx=>decide (x∈S)),rfl,?_,?_⟩
 ·rintro i y acc hy rfl
  obtain⟨n,rfl,hn⟩:=jO hy
  have tk:=vC (p:=λx=>decide (x∈S)) hn;refine⟨_,rfl,_,rfl,_,.inl ⟨ps,Sum.inl n,rfl,rfl,rfl⟩,_,rfl,?_⟩;show if (bL ps (Sum.inl n:aH)).isSome=true then _ else _
  rw[d.has n];by_cases h:n∈S
  ·rw[bj1 h]at tk ⊢
   refine b4 ⟨_,rfl,trivial,?_⟩;rw[if_pos rfl]at tk;show _=intz (List.filter _ (List.take (i+1) ns));rw[tk,m5];rfl
  ·rw[bg1 h]at tk ⊢
   refine aQ ?_;rw[if_neg (by decide),bm9]at tk;show _=intz (List.filter _ (List.take (i+1) ns));rw[tk]
 ·rintro acc rfl
  rw[dE,bj2];refine⟨_,_,rfl,rfl,trivial,?_⟩;rw[dE];exact q
noncomputable def j7 (n:Nat)(ls:aa):List PV:=(List.range n).map λ(k:Nat)=>PV.lst (intz (dB ls k))
noncomputable def gX:bH:=λxs Q=>∃ws ls,xs = [cP ws ls]/\Wb ws ls/\Q (.lst (j7 ws.length ls))
theorem ay3 {n:Nat}{ls:aa}{h:Int}(h0:0<=h)(h1:h<(n:Int)):atI (j7 n ls) h=some (.lst (intz (dB ls h))):=by
 refine p9 h0 ?_;unfold j7;rw[bg9,List.getElem?_range (by omega)];show some (PV.lst (intz (dB ls ((h.toNat:Nat):Int))))=_;rw[show ((h.toNat:Nat):Int)=h by omega]
noncomputable def jP:bH:=λxs Q=>∃ws ls ps S h,xs = [cP ws ls,.lst (j7 ws.length ls),.dK ps,.int h]/\Wb ws ls/\DS ps S/\0<=h/\h<(ws.length:Int)/\Q (.bl (kin ws ls S h))
noncomputable def J1:aP:=(bG (nI (fG true (aA 3) (aA 2)) (pM (aK pU (aB (cG (aA 1) (aA 3)) (aB (aA 2) aF))) (cG (cG (aA 0) (qC (.int 0))) (aA 3)))))
theorem J2 {ws:ae}{h:Int}(h0:0<=h)(h1:h<(ws.length:Int)):atI (intz ws) h=some (.int (ws.getD h.toNat 0)):=by
 refine p9 h0 ?_
 have:h.toNat<ws.length:=by omega
 rw[bg9,bi3,bf3 this];rfl
theorem ay4:c9 J1 ["web","around","burning","hearth"] jP:=by
 rintro xs Q ⟨ws,ls,ps,S,h,rfl,wb,d,h0,h1,q⟩;refine⟨_,rfl,_,rfl,_,.inl ⟨ps,Sum.inl h,rfl,rfl,rfl⟩,_,rfl,?_⟩;show if (!(bL ps (Sum.inl h:aH)).isSome)=true then _ else _
 rw[d.has h];unfold kin at q;by_cases hm:h∈S
 ·rw[bj1 hm]at q ⊢
  exact aQ ⟨trivial,by simpa using q⟩
 ·rw[bg1 hm]at q ⊢
  have nl:=tM ls h
  have:=wb.most
  refine b4 ⟨_,rfl,_,rfl,_,_,_,rfl,rfl,ay3 h0 h1,_,rfl,_,dB ls h,ps,S,rfl,.inr rfl,d,by omega,_,rfl,_,_,_,rfl,rfl,rfl,_,rfl,_,_,_,rfl,rfl,J2 h0 h1,_,_,rfl,rfl,trivial,?_⟩;simpa using q
noncomputable def nT:bH:=λxs Q=>∃ws ls ps S,xs = [cP ws ls,.lst (j7 ws.length ls),.dK ps]/\Wb ws ls/\DS ps S/\Q (.tup (intz (nextOf ws ls S)))
noncomputable def J3:aP:=(bG (aK gU (aB (cZ (lR (aK cR (aB (aA 0) aF))) [none,some 0,some 1,some 2] (bT 0) (b5 (aK jP (aB (aA 1) (aB (aA 2) (aB (aA 3) (aB (aA 0) aF)))))) (aA 0)) aF)))
theorem ay5:c9 J3 ["web","around","burning"] nT:=by
 rintro xs Q ⟨ws,ls,ps,S,rfl,wb,d,q⟩;have few:=wb.few;refine⟨_,rfl,ws,ls,rfl,_,rfl,by omega,by omega,by rw[kD];omega,λi acc=>acc=intz (((rng ws.length).take i).filter (kin ws ls S)),rfl,?_,?_⟩
 ·rintro i y acc hy rfl
  obtain⟨rfl,hi⟩:=pT hy
  have hi':i<ws.length:=by omega
  have tk:=vC (p:=kin ws ls S) (ax5 hi');have e0:(0:Int)+(i:Int)=(i:Int):=by omega
  refine⟨_,rfl,_,rfl,_,rfl,_,rfl,ws,ls,ps,S,_,rfl,wb,d,by omega,by omega,_,rfl,?_⟩;show if kin ws ls S ((0:Int)+(i:Int))=true then _ else _
  rw[e0];cases h:kin ws ls S (i:Int) with
  |true=>
   refine b4 ⟨_,rfl,trivial,?_⟩;rw[h,if_pos rfl]at tk;show _=intz (List.filter _ (List.take (i+1) _));rw[tk,m5];show _++[PV.int _]=_;rfl
  |false=>
   refine aQ ?_;rw[h,if_neg (by decide),bm9]at tk;show _=intz (List.filter _ (List.take (i+1) _));rw[tk]
 ·rintro acc rfl
  rw[kD,List.take_of_length_le (by rw[vB];omega)]
  exact⟨⟨_,_,rfl,rfl,i5 _,trivial,q⟩,λns z=>by cases z⟩
noncomputable def tups (rs:ad):List PV:=rs.map λr=>PV.tup (intz r)
theorem J4 {rs:ad}{i:Nat}{x:PV}(h:(tups rs)[i]? = some x):∃r,x = .tup (intz r)/\rs[i]? = some r:=by
 unfold tups at h;rw[bg9]at h;cases e:rs[i]? with
 |none=>rw[e]at h;cases h
 |some n=>rw[e]at h;exact⟨n,(bh9 h).symm,rfl⟩
theorem m8 (rs:ad):(tups rs).length=rs.length:=be9 _
theorem vG:∀(rs:ad),flats (tups rs)=true
 |[]=>rfl
 |r::t=>by
  show (flat (.tup (intz r))&&flats (tups t))=true;rw[vD,vG t];rfl
theorem m9 {n:Nat}{ns:ae}(h:fC n ns=true):j6 ns=true/\∀x∈ns,0<=x/\x<(n:Int):=by
 unfold fC at h;rw[bm2,bq1]at h;refine⟨h.1,λx hx=>?_⟩
 have:=h.2 _ (bv4.mpr ⟨x,hx,rfl⟩)
 unfold inB at this;simpa using this
theorem ay6 {n:Nat}{ns:ae}(h:fC n ns=true):ns.length<=n:=by
 obtain⟨h1,h2⟩:=m9 h
 have:=F7 (ws:=List.replicate n (0:Int)) (nR h1) (by rw[List.length_replicate];exact h2)
 rw[List.length_replicate]at this;omega
theorem vH {ws:ae}{ls:aa}{ns:ae}(h:fC ws.length ns=true)(k:Nat):(bJ ws ls ns k).length<=ws.length:=by
 have h1:=F6 ws ls ns k;have h2:=F7 (nR (m9 h).1) (m9 h).2;omega
end Core
namespace PP
open PySem L2
noncomputable def nU (te:aO):aO:=λρ Q=>te ρ λx _=>∃n:Int,x = .int n/\0<=n/\n<=1000000/\Q (.lst (fU 0 n.toNat)) .fr
end PP
namespace Core
open PySem L2 PP
theorem ay7 (g:Tg)(n:Int):Nw g (.int n):=by cases g<;>first|exact trivial|rfl
noncomputable def nV (x:PV)(ns:ae):Prop:=x = .scr ns∨x = .lst (intz ns)
theorem nV.seq {x:PV}{ns:ae}(h:nV x ns):jH x=some (intz ns):=by rcases h with rfl|rfl<;>rfl
theorem nV.len {x:PV}{ns:ae}(h:nV x ns):u7 x=some ns.length:=by
 rcases h with rfl|rfl
 ·rfl
 ·show some (intz ns).length=_
  rw[dE]
noncomputable def pV:bH:=λxs Q=>∃x ns k,xs = [x,.int k]/\nV x ns/\0<=k/\Q (.int (ns.getD k.toNat 0))
noncomputable def J5:aP:=(aM (bA (b5 (iW (aA 1) (aK dI (aB (aA 0) aF)))) (bG (cG (aA 0) (aA 1))) bQ)
 (bG (qC (.int 0))))
theorem ay8:c9 J5 ["script","k"] pV:=by
 rintro xs Q ⟨x,ns,k,rfl,hx,h0,q⟩;refine⟨_,rfl,_,rfl,_,_,rfl,hx.len,_,_,rfl,rfl,_,rfl,?_⟩;by_cases h:k<(ns.length:Int)
 ·rw[bj1 h]
  exact b4 ⟨_,rfl,_,rfl,_,_,_,hx.seq,rfl,J2 h0 h,ay7 _ _,q⟩
 ·rw[bg1 h]
  rw[bi3,List.getElem?_eq_none (by omega)]at q;exact aQ ⟨trivial,q⟩
noncomputable def kU (ls:aa):List PV:=ls.map λl=>PV.tup [.int l.1,.int l.2]
noncomputable abbrev si (n:Int):Option Slot:=some (.sh true (.int n))
theorem cQ.len {x:PV}{ns:ae}(h:cQ x ns):u7 x=some ns.length:=by
 rcases h with rfl|rfl<;>(show some (intz ns).length=_;rw[dE])
end Core
namespace PySem
theorem vI:fillsNumberSlot (.type "tuple") "mul" = pure false:=
 fillsNumberSlot_seq (id:="tuple.__mul__") (r:=some (.builtin "tuple.__rmul__")) F.slot_tuple_mul.lookup (by decide +kernel) F.slot_tuple_rmul.lookup (by decide +kernel)
theorem vJ:seqRepeat? (.type "tuple")=pure (some (.builtin "tuple.__mul__")):=by
 unfold seqRepeat?;rw[seqSlot_of (T:="tuple") (name:="__mul__") (id:="tuple.__mul__") F.slot_tuple_mul.lookup (by decide +kernel),seqSlot_of (T:="tuple") (name:="__rmul__") (id:="tuple.__rmul__") F.slot_tuple_rmul.lookup (by decide +kernel)];rfl
theorem vK (a:Int)(t:Tok)(l:ar)(items:Array ao)(n:Nat)(dd:Option ar)(sl:Array (Option ao)) :
  Meets (Builtin.«int.__rmul__» ⟨[.int a t,.ref l],[]⟩) (λ_ R s=>s.heap.get? l=some { cls:=.type "tuple",dict:=dd,data:=.seq items n,slots:=sl }/\R (.ok (.ret Value.notImplemented)) s):=
 .of_wp λprog w A R s h=>by obtain⟨hp,g,d,tk,os⟩:=s;obtain⟨hl,h⟩:=h;wp_walk;exact⟨_,rfl,h⟩
theorem ay9 (l:ar)(items:Array ao)(n:Nat)(dd:Option ar)(sl:Array (Option ao))(x:Int)(u:Tok)(h0:items.isEmpty=false)(h1:2<=x)(h2:items.size*x.toNat<=sizeLine)(h3:x<=1000000) :
  Meets (Builtin.«tuple.__mul__» ⟨[.ref l,.int x u],[]⟩) (λ_ R s=>s.heap.get? l=some { cls:=.type "tuple",dict:=dd,data:=.seq items n,slots:=sl }/\R (.ok (.ret (Value.ref s.heap.objs.size))) { s with heap:=s.heap.push { cls:=Value.type "tuple",data:=Data.seq (List.foldl (λx1 x2=>x1++x2) #[] (List.replicate x.toNat items)) } }):=
 .of_wp λprog w A R s h=>by
  obtain⟨hp,g,d,tk,os⟩:=s;obtain⟨hl,h⟩:=h
  have c1:(decide (x < -(2^63))||decide (x >= 2^63))=false:=by
   rw[Bool.or_eq_false_iff];exact⟨bg1 (by omega),bg1 (by omega)⟩
  have c2:(items.isEmpty||x==1)=false:=by rw[h0,Bool.false_or];exact bn6.mpr (by omega)
  have c3:(decide (x<=0)||items.isEmpty)=false:=by rw[h0,Bool.or_false];exact bg1 (by omega)
  have hsz:((items.size:Nat):Int)*x=((items.size*x.toNat:Nat):Int):=by rw[Int.natCast_mul];congr 1;omega
  have hl63:(sizeLine:Nat)<=(2^63-1)/8:=by decide
  have c4:decide (((items.size:Nat):Int)*x>(2^63-1)/8)=false:=bg1 (by rw[hsz];omega);have c5:Builtin.Tuple.tupleTooMany (((items.size:Nat):Int)*x)=false:=by
   rw[hsz];unfold Builtin.Tuple.tupleTooMany;exact bg1 (by omega)
  wp_walk
  refine wpAny_ite_false (by rw[c1];rfl) ?_
  wp_walk
  refine wpAny_ite_false (by rw[c2];rfl) ?_
  wp_walk
  refine wpAny_ite_false (by rw[c3];rfl) ?_
  wp_walk
  refine wpAny_ite_false c4 ?_
  wp_walk
  refine wpAny_ite_false (by rw[c5];rfl) ?_
  wp_walk
  have f0:∀(m:Nat) (acc:Array ao),(List.foldl (λx1 x2=>x1++x2) acc (List.replicate m items)).size=acc.size+m*items.size:=λm=>by
   induction m with
   |zero=>intro acc;simp
   |succ m ih=>intro acc;rw[bl0,List.foldl_cons,ih,Array.size_append,Nat.succ_mul];omega
  have c6:decide ((List.foldl (λx1 x2=>x1++x2) #[] (List.replicate x.toNat items)).size>sizeLine)=false:=bg1 (by
   rw[f0 x.toNat #[]]
   have:x.toNat*items.size=items.size*x.toNat:=Nat.mul_comm _ _
   simp only[Array.size_empty]
   omega)
  refine wpAny_ite_false c6 ?_
  wp_walk
  exact⟨_,rfl,h⟩
end PySem
namespace PP
open PySem L2 PyProof.Rows
noncomputable def az0 (K:ac):R2:=λx y H Q=>∃l k xs,x = .ref l/\y = .int k/\aW K H l xs/\xs≠[]/\2<=k/\k<=1000000/\xs.length*k.toNat<=sizeLine/\∀p,H p=none->Q (.ref p) (upd H p (.tup (List.replicate k.toNat xs).flatten))
theorem az1 {X:Cx}:cC X (binaryOp .Mult) (az0 X.K):=by
 intro af s σ H x y v u Q I rx ry h
 obtain⟨l,k,xs,rfl,rfl,hH,hne,h1,h2,hz,q⟩:=h
 cases rx
 obtain⟨t,rfl⟩:=ry
 obtain⟨its,r,p,_⟩:=I.tuple hH
 obtain⟨⟨cls,dd,data,sl⟩,ho,hc,n,hd⟩:=id p
 simp only at hc hd;subst hc hd;have hl:=r.length;have hemp:its.toArray.isEmpty=false:=by
  cases its with
  |nil=>exact absurd (r.nil_iff.mp rfl) hne
  |cons a b=>rfl
 refine wpAny_binaryOp_repeat_ref (T:="tuple") (U:="int") (by decide) ⟨_,ho,rfl⟩ (λs'=>typeIs_int s' k t) vI F.fills_int_mul bs4 vJ F.slot_int_index.lookup
  (bq3 bs4 (typeIs_int s k t) F.entry_int_rmul (F.args_int_rmul_2 _ _) (vK k t l its.toArray n dd sl)
   ⟨ho,rfl,⟨_,ho,rfl⟩,bq3 F.slot_tuple_mul ⟨_,ho,rfl⟩ F.entry_tuple_mul (F.args_tuple_mul_2 _ _) (ay9 l its.toArray n dd sl k t hemp h1 (by rw[be5,<- hl];exact hz) h2) ⟨ho,?_⟩⟩)
 have f0:List.foldl (λx1 x2=>x1++x2) #[] (List.replicate k.toNat its.toArray)=(List.replicate k.toNat its).flatten.toArray:=by
  have:=sU its k.toNat []
  rw[List.nil_append]at this;exact this
 rw[f0];refine⟨.ref s.heap.objs.size,_,I.laid (t':=s.toks) (o:=.tup (List.replicate k.toNat xs).flatten) (λb ob q=>be4 _ q) (be7 _) ?_,rfl,q _ (I.hok.fresh (be7 _))⟩
 exact⟨by rw[yP,Nat.mul_comm];exact hz,_,r.rep k.toNat,IsTup.new _ _,fM.new _ _ rfl⟩
theorem Reps.rep {K:ac}{M:ar->Prop}{H:Hp}{us:List V}{xs:List PV}(r:Reps K M H us xs):∀k:Nat,Reps K M H (List.replicate k us).flatten (List.replicate k xs).flatten
 |0=>.nil
 |k+1=>by rw[bl0,bl0,bn7,bn7];exact r.append (Reps.rep r k)
section
variable {X:Cx}{a b e:Expr}{ta tb te:aO}{tr:cA}{pos p2 p3 pos2:Pos}
theorem az2 {tA:TA}(hg:Gl X "range")(hm:X.mg "range" = none)(ha:PA X [a] tA)(hs:starEach [a] X.env = [(false,eval a X.env)]:=by rfl) :
  PE X (.Call (.Name "range" p2) [a] [] pos) (λσ H Q=>tA σ H λvs H1=>∃j:Int,vs = [.int j]/\∀r,H1 r=none->Q (.ref r) (upd H1 r (.rng 0 j))):=by
 intro af s σ H Q I h;refine Call_ (gO I hg hm boot_range (bj6 (aT (ha pos af s σ H _ I h) λus s1 ⟨vs,H1,I1,r1,q1⟩=>?_) hs rfl))
 obtain⟨j,e,q⟩:=q1
 subst e;cases r1 with
 |cons r rr=>
  cases rr
  obtain⟨t,rfl⟩:=r
  refine call_range_1 ?_
  exact⟨.ref s1.heap.objs.size,_,I1.laid (o:=.rng 0 j) (λb ob q=>be4 _ q) (be7 _) ⟨_,_,_,bf0 _ rfl⟩,rfl,q _ (I1.hok.fresh (be7 _))⟩
theorem J6:∀{xs:List V}{us:List ao},xs.length=us.length->(∀(i:Nat) x u,xs[i]? = some x->us[i]? = some u->b7 x u)->aY xs us
 |[],[],_,_=>.nil
 |x::xs,u::us,hl,h=>.cons (h 0 x u rfl rfl) (J6 (by simpa using hl) λi y w h1 h2=>h (i+1) y w (by rw[bn9];exact h1) (by rw[bn9];exact h2))
theorem az3 {n:Nat}{acc:Array ao}(h:ItemsOf (λi v=>∃t,v = .int (0+(i:Int)*1) t) acc n):aY (iL 0 n) acc.toList:=by
 obtain⟨h1,h2⟩:=h
 refine J6 (by rw[tK];simp[h1]) λi x u hx hu=>?_
 have hi:i<n:=by
  have:=(bf7.mp hx).1
  rwa [tK]at this
 unfold iL at hx;rw[bg9,List.getElem?_range hi]at hx;cases hx
 obtain⟨t,rfl⟩:=h2 i u (by rw[<- bu0];exact hu)
 exact⟨t,by congr 1;omega⟩
theorem az4 (hc:X.calm=true):cV X (.type "list") (λxs H Q=>∃r j,xs = [.ref r]/\H r=some (.rng 0 j)/\0<=j/\j<=1000000/\∀l,H l=none->Q (.ref l) (upd H l (.lst (iL 0 j.toNat)))):=by
 intro af s σ H xs us Q I r h
 obtain⟨p,j,rfl,hq,h0,h1,q⟩:=h
 obtain⟨u,rfl,rx⟩:=eW r
 cases rx
 obtain⟨t,u,v,ho⟩:=(show cI X.prog X.w H s.heap p (.rng 0 j) from I.hok p _ hq)
 refine PySem.call_list_range (a:=0) (b:=j) (c:=1) (n:=j.toNat) (I.ok.hd hc) ho (small_one (by decide) (by decide) (by omega) (by omega)) (by rw[rangeSize_one];split<;>omega) (by omega) λh' tk acc' c' kp e it=>?_
 have vv:=az3 it;have eq:acc'.toList.toArray=acc':=by simp
 exact⟨.ref s.heap.objs.size,_,I.laid (t':=tk) (o:=.lst (iL 0 j.toNat)) kp (be7 _) ⟨by rw[tK];exact lim (by omega),acc'.toList,c',vv,by rw[eq];exact e⟩,rfl,q _ (I.hok.fresh (be7 _))⟩
theorem az5 {K:ac}{M:ar->Prop}{H:Hp}(lo:Int)(n:Nat):Reps K M H (iL lo n) (fU lo n):=by
 unfold iL fU;generalize List.range n=l
 induction l with
 |nil=>exact .nil
 |cons a r ih=>exact .cons (.int _) ih
theorem vL (B:Bt X.mg)(ha:QE X a ta)(hc:X.calm=true:=by rfl)(hg:Gl X "list":=by rfl)(hgr:Gl X "range":=by rfl)(hs:starEach [a] X.env = [(false,eval a X.env)]:=by rfl)(he:starEach [.Call (.Name "range" p3) [a] [] pos2] X.env=(false,eval (.Call (.Name "range" p3) [a] [] pos2) X.env)::starEach [] X.env:=by rfl)(hpl:(backTo pos (starEach [] X.env)).any (·.1)=false:=by rfl) :
  QE X (.Call (.Name "list" p2) [.Call (.Name "range" p3) [a] [] pos2] [] pos) (nU ta):=
 bS (y8 (az4 hc) hg B.list PyProof.Rows.boot_list (dS (az2 hgr B.range (dS ha eN hs) hs) eN he) (he:=he) (hpl:=hpl)) λσ H Q' h=>by
  obtain⟨W,ρ,Q,px,q,k⟩:=h
  refine⟨W,ρ,_,px,q,?_⟩;rintro v H1 x g s r ⟨n,rfl,h0,h1,q⟩;cases r;refine⟨n,rfl,λr hr=>⟨r,n,rfl,bD,h0,h1,λl hl=>?_⟩⟩;have S:aI H (upd (upd H1 r (.rng 0 n)) l (.lst (iL 0 n.toNat))):=(s.trans (bC hr _)).trans (bC hl _);exact k _ _ _ .fr S (.lst (((s.trans (bC hr _))).free hl) bD (az5 0 n.toNat)) q
end
noncomputable def J7 (K:ac):Sp:=λvs H Q _=>∃(a:ar) (ns:ae),vs = [.ref a]/\(aW K H a (ns.map V.int)∨aV K H a (ns.map V.int))/\ns.length<=1000/\∀H',aI H H'->Q (.bl (Core.j6 ns)) H'
noncomputable def J8:Sp:=λvs H Q _=>∃v ws ls,vs = [v]/\zP H v ws ls/\ws.length<=1000/\ls.length<=2000/\(∀l∈ls,(0<=l.1/\l.1<ws.length)/\0<=l.2/\l.2<ws.length)/\
 ∀(r:ar) (bs:List ar) (H':Hp),bs.length=ws.length->iM H H' r bs (λk=>dB ls k)->Q (.ref r) H'
section
variable {P:av}{w:ax}{K:ac}{mg:Str→Option ao}{base:Heap}{f:ar}{fd:FuncData}{k:Nat}
theorem az6 (F:cX P w K mg base dX k f fd ["things"] (J7 K))(b:hV K fd ["things"] [])(kp:PySem.W.keepIn K (.ref f)=true)(m:mg "rises" = some (.ref f)):Df P w K mg base k "rises" ["things"] Core.vE:=by
 refine⟨f,fd,F.imp λvs H Q E h=>?_,b,kp,m⟩
 obtain⟨xs,Qp,r,⟨x,ns,rfl,hx,hl,q⟩,k⟩:=h
 obtain⟨v,rfl,r1⟩:=r.one
 rcases hx with rfl|rfl
 ·obtain⟨a,us,rfl,h,r2⟩:=r1.sqT
  obtain rfl:=r2.ofInts
  exact⟨a,ns,rfl,.inl (aW.of h),hl,λH' s=>k _ H' _ s (.bl _) q⟩
 ·obtain⟨a,us,rfl,_,h,r2⟩:=r1.sqL
  obtain rfl:=r2.ofInts
  exact⟨a,ns,rfl,.inr (aV.of h),hl,λH' s=>k _ H' _ s (.bl _) q⟩
theorem K0 {M:ar->Prop}{H:Hp}:∀{us:List V}{ls:aa},Reps K M H us (ls.map λl=>PV.tup [.int l.1,.int l.2])->nE H us ls
 |_,[],.nil=>.nil
 |_,l::ls,.cons r t=>by
  obtain⟨a,us,rfl,h,r1⟩:=r.sqT
  obtain⟨u1,u2,rfl,q1,q2⟩:=r1.two
  cases q1;cases q2;exact .cons ⟨a,rfl,h⟩ (K0 t)
theorem az7 {M:ar->Prop}{H:Hp}{v:V}{ws:ae}{ls:aa}(r:aR K M H v (Core.cP ws ls)):zP H v ws ls:=by
 obtain⟨a,us,rfl,h,r1⟩:=aR.sqT r
 obtain⟨u1,u2,rfl,q1,q2⟩:=r1.two
 obtain⟨p,up,rfl,hp,rp⟩:=q1.sqT
 obtain⟨q,uq,rfl,hq,rq⟩:=q2.sqT
 obtain rfl:=rp.ofInts
 exact⟨a,p,q,uq,rfl,h,hp,hq,K0 rq⟩
theorem K1 {M:ar->Prop}{H:Hp}:∀{bs:List ar}{ls:aa} (off:Nat),(∀b∈bs,M b)->(∀(k:Nat) b,bs[k]? = some b->H b=some (.lst ((dB ls ((off+k:Nat):Int)).map V.int)))->Reps K M H (bs.map V.ref) ((List.range' off bs.length).map λ(k:Nat)=>PV.lst (intz (dB ls k)))
 |[],_,_,_,_=>.nil
 |b::bs,ls,off,hm,h=>by
  refine .cons (.lst (hm b bj0) (h 0 b rfl) (Reps.intz _)) (K1 (off+1) (λc hc=>hm c (bj3 _ hc)) λk c hk=>?_)
  have:=h (k+1) c (by rw[bn9];exact hk)
  rw[show off+1+k=off+(k+1) by omega];exact this
theorem az8 (F:cX P w K mg base dX k f fd ["web"] J8)(b:hV K fd ["web"] [])(kp:PySem.W.keepIn K (.ref f)=true)(m:mg "near_lists" = some (.ref f)):Df P w K mg base k "near_lists" ["web"] Core.gX:=by
 refine⟨f,fd,F.imp λvs H Q E h=>?_,b,kp,m⟩
 obtain⟨xs,Qp,r,⟨ws,ls,rfl,wb,q⟩,k⟩:=h
 obtain⟨v,rfl,r1⟩:=r.one
 have:=wb.few
 have:=wb.most
 refine⟨v,ws,ls,rfl,az7 r1,by omega,by omega,wb.links,λt bs H' hb R=>k _ H' _ R.same (.lst R.new R.row ?_) q⟩
 have:=K1 (K:=K) (M:=λa=>H a=none) (H:=H') (bs:=bs) (ls:=ls) 0 (λb hb=>(R.news b hb).1) λk b hk=>by rw[Nat.zero_add];exact R.rows k b hk
 rw[hb,<- List.range_eq_range']at this;exact this
end
end PP
namespace Core
open PySem L2 PP
theorem vM (n:Nat):fU 0 n=intz (rng n):=by
 unfold fU rng;show _=List.map PV.int (List.map (λ(i:Nat)=>(i:Int)) (List.range n));rw[List.map_map];refine List.map_congr_left λi _=>?_
 show PV.int (0+(i:Int))=PV.int (i:Int);rw[Int.zero_add]
theorem az9 (n:Nat):(rng n).Nodup:=by
 unfold rng;rw[List.nodup_iff_pairwise_ne,List.pairwise_map];exact (List.nodup_range (n:=n)).imp λh e=>h (by omega)
noncomputable def two (l:Int×Int):ae:=[l.1,l.2]
theorem aA0:∀{a b:ae},a.Perm b->a.Pairwise (· <= ·)->b.Pairwise (· <= ·)->a=b:=by
 intro a b h ha hb;exact h.eq_of_pairwise (λx y _ _ h1 h2=>Int.le_antisymm h1 h2) ha hb
noncomputable def K2:bH:=λxs Q=>∃ns:ae,xs = [.scr ns]/\ns.length<=63/\Q (.bl true)
end Core
namespace PP
open PySem L2 PyProof.Rows
theorem aA1 {P:av}{w:ax}{K:ac}{mg:Str->Option ao}{base:Heap}{k:Nat}{x:Str}{ps N:List Str}{p:bH}{st:Stmt}{f:ar}{fd:FuncData}(F:eF K x x st f fd)(S:FnScope N ps (aU st))(len:∀xs Q,p xs Q->xs.length=ps.length)(body:∀(cdv:ao) (A:aw) (outer:List Env) (s:aq) (H:Hp) (E:XK),c8 k (A.deeper (envOfC x (aU st) s.heap.objs.size f cdv))->
   ∃t,eJ (cL dX P w K mg base N x (aU st) f cdv A outer s H E).nox (dW st) t/\∀xs Q,p xs Q->t { nx:=λ_=>Q .non,rt:=Q } (eQ N xs)):cX P w K mg base dX (k+1) f fd ps (nL K p):=by
 refine F.ok S (λvs H Q E h=>?_) (λcdv A outer s H vs Q E hr h=>?_)
 ·obtain⟨xs,Qp,r,q,_⟩:=h
  rw[r.length];exact len xs Qp q
 ·obtain⟨xs,Qp,r,q,k⟩:=h
  obtain⟨t,ht,hq⟩:=body cdv A outer s H E hr
  refine⟨_,ht,λ_=>False,eQ N xs,_,pP r,hq xs Qp q,?_,?_,?_,?_⟩
  ·exact λW' σ' H' ρ' e px q=>k _ _ _ px.same .non q
  ·exact λv H' x s r q=>k _ _ _ s r q
  ·exact λW' σ' H' ρ' e px q=>q
  ·exact λW' σ' H' ρ' e px q=>q
noncomputable def pW (K:ac):Sp:=λvs H Q _=>∃(a:ar) (ns:ae),vs = [.ref a]/\iP K H a ns/\ns.length<=63/\∀H',Q (.bl true) H'
theorem aA2 {P:av}{w:ax}{K:ac}{mg:Str->Option ao}{base:Heap}{k:Nat}{f:ar}{fd:FuncData}(F:cX P w K mg base dX k f fd ["script"] (nL K Core.K2)):cX P w K mg base dX k f fd ["script"] (pW K):=
 F.imp λvs H Q E h=>by
  obtain⟨a,ns,rfl,hs,hl,q⟩:=h
  refine⟨[.scr ns],λz=>z = .bl true,.cons (.scr hs) .nil,⟨ns,rfl,hl,rfl⟩,?_⟩;rintro v H' x _ r rfl;cases r;exact q H'
theorem aA3 {K:ac}{H:Hp}{a:ar}{ns:ae}(hO:oV H)(h:aV K H a (ns.map V.int)):iP K H a ns:=by
 rcases h with (h|⟨o,h⟩)|h
 ·rcases hO a with e|⟨o,xs,e⟩<;>(rw[h]at e;cases e)
 ·exact .inl ⟨o,h⟩
 ·exact .inr h
end PP
namespace PyProof.Rows
open PySem
section
variable {prog:av}{w:ax}{A:aw}{E:ao→aq→Prop}{s:aq}
theorem aA4 {l:ar}{vs:List ao}{Q:List ao->aq->Prop}(hl:s.heap.IsTuple l vs.toArray)(h:Q vs { s with heap:=(s.heap.push (seqObj "list" #[] 0)).update s.heap.objs.size (Obj.mapSeq (·++vs.toArray)) })(hsz:vs.length<=sizeLine) :
  wpAny (model prog w) A (collect (.ref l)) Q E s:=by
 obtain⟨o,ho,hc,n,hd⟩:=id hl
 unfold collect;refine be2 (wpAny_runValue (bu6 entry_proto_collect' ?_));show wpAny _ _ (do again (.builtin "list.__iadd__" ⟨[<- newList [],.ref l],[]⟩)) _ _ s;refine be2 (wpAny_newList (be6 ⟨Code.quiet_builtin _ (by decide +kernel),bu6 entry_list_iadd' ?_⟩));show wpAny _ _ (Builtin.List.listExtendWith (.ref s.heap.objs.size) (.ref l) (.ref s.heap.objs.size)) _ _ { s with heap:=s.heap.push (seqObj "list" #[] 0) };unfold Builtin.List.listExtendWith;have ho':(s.heap.push (seqObj "list" #[] 0)).get? l=some o:=be4 _ ho;refine be2 (wpAny_typeOf (T:="tuple") ⟨o,ho',hc⟩ ?_);have ht:(Value.type "tuple"==Value.type "tuple")=true:=by rfl
 rw[if_pos (by rw[ht];simp)];refine be2 (listItems_at ho' hd ?_);refine be2 (listItems_at (xs:=#[]) (n:=0) (bf0 _ rfl) rfl ?_);rw[if_neg (by simp)];refine be2 (listUpdate_at (xs:=#[]) (n:=0) (bf0 _ rfl) rfl ?_ (bo1 _) (by show (#[]++vs.toArray).size<=sizeLine+1;simp only[Array.size_append,be5,List.length_nil];omega));refine be6 ?_
 show wpAny (model prog w) A (do
   let o <- load s.heap.objs.size
   match o.data with
   |.seq xs _=>pure xs.toList
   |_=>unsupported "internal:collect") Q E { s with heap:=(s.heap.push (seqObj "list" #[] 0)).update s.heap.objs.size (Obj.mapSeq (·++vs.toArray)) }
 refine be2 (wpAny_load (get?_update_seq (bf0 _ rfl) _) ?_);show wpAny _ _ (pure ((#[]:Array ao)++vs.toArray).toList) Q E _;rw[show ((#[]:Array ao)++vs.toArray).toList=vs by simp];exact be6 h
theorem aA5 {l:ar}{vs:List ao}{ns:ae}{Q:ao->aq->Prop}(hl:s.heap.IsTuple l vs.toArray)(hI:IntsAre vs ns)(h64:vs.length<64)(h:∀(out:Array ao) (ns':ae),IntsAre out.toList ns'->ns'.Perm ns->ns'.Pairwise (· <= ·)->Q (.ref (s.heap.objs.size+1)) { s with heap:=sortedAll s.heap vs out }) :
  wpAny (model prog w) A (call (.builtin "sorted") [.ref l]) Q E s:=by
 have hsl:vs.length<=sizeLine:=bj5 (bm6 h64) (by decide);refine Calls.call_function_entry kind_sorted plain_sorted entry_sorted (args_sorted1 _) ?_;unfold Builtin.«sorted»;refine be2 (m:=checkCount "sorted" 1 1 _) (be6 ?_);refine be2 (aA4 hl ?_ hsl);refine be2 (wpAny_newList ?_);have hsz:((s.heap.push (seqObj "list" #[] 0)).update s.heap.objs.size (Obj.mapSeq (·++vs.toArray))).objs.size=s.heap.objs.size+1:=by
  rw[Heap.size_update,size_push']
 have hoL:(((s.heap.push (seqObj "list" #[] 0)).update s.heap.objs.size (Obj.mapSeq (·++vs.toArray))).push (seqObj "list" vs.toArray 0)).get? (s.heap.objs.size+1)=some (seqObj "list" vs.toArray 0):=by
  rw[<- hsz];exact bf0 _ rfl
 show wpAny _ _ _ _ _ { s with heap:=((s.heap.push (seqObj "list" #[] 0)).update s.heap.objs.size (Obj.mapSeq (·++vs.toArray))).push (seqObj "list" vs.toArray 0) };rw[hsz];refine be2 (bv6 (bj8 slot_list_sort ⟨_,hoL,rfl⟩ entry_list_sort (list_sort_tree hoL hI h64 λout ns' a1 a2 a3=>⟨_,rfl,?_⟩) (args_list_sort _)));exact be6 ⟨_,rfl,h out ns' a1 a2 a3⟩
end
end PyProof.Rows
namespace PP
open PySem L2 PyProof.Rows
section
variable {X:Cx}{a b e:Expr}{ta tb te:aO}{tr:cA}{pos p2:Pos}
theorem aA6:cV X (.builtin "sorted") (λxs H Q=>∃a ns,xs = [.ref a]/\(aV X.K H a (ns.map V.int)∨aW X.K H a (ns.map V.int))/\ns.length<64/\∀l (ms:ae),H l=none->ms.Perm ns->ms.Pairwise (· <= ·)->Q (.ref l) (upd H l (.lst (ms.map V.int)))):=by
 intro af s σ H xs us Q I r h
 obtain⟨a,ns,rfl,hs,h64,q⟩:=h
 rcases hs with hs|hs
 ·exact al8 af s σ H _ us Q I r ⟨a,ns,rfl,hs,h64,q⟩
 obtain⟨u,rfl,ru⟩:=eW r
 cases ru
 obtain⟨its,rv,p,hz⟩:=I.tuple hs
 have hl:=rv.length;rw[be9]at hl;refine aA5 p (oQ rv) (by omega) λout ns' a1 a2 a3=>?_
 obtain⟨e,he⟩:=sortedAll_at s.heap its out
 have hn:s.heap.objs.size<=s.heap.objs.size+1:=Nat.le_succ _;have ai:ns'.length=ns.length:=a2.length_eq;refine⟨.ref (s.heap.objs.size+1),upd H (s.heap.objs.size+1) (.lst (ns'.map V.int)),I.laid (t':=s.toks) (λ_ _=>sortedAll_old) hn ⟨?_,out.toList,e,nA a1,by simpa using he⟩,rfl,q _ ns' (I.hok.fresh hn) a2 a3⟩;rw[be9,ai];exact bm6 (nB (by omega))
noncomputable def mB:List PV->(PV->Prop)->Prop:=λxs Q=>∃x ns,xs = [x]/\jH x=some (intz ns)/\ns.length<64/\∀ms:ae,ms.Perm ns->ms.Pairwise (· <= ·)->Q (.lst (intz ms))
theorem aA7:eY X mB (λxs H Q=>∃a ns,xs = [.ref a]/\(aV X.K H a (ns.map V.int)∨aW X.K H a (ns.map V.int))/\ns.length<64/\∀l (ms:ae),H l=none->ms.Perm ns->ms.Pairwise (· <= ·)->Q (.ref l) (upd H l (.lst (ms.map V.int)))):=by
 rintro H vs xs Q Q' r ⟨x,ns,rfl,e,hl,q⟩ k
 obtain⟨v,rfl,r1⟩:=r.one
 obtain⟨a,us,rfl,hs,r2⟩:=r1.seq e
 obtain rfl:=r2.ofInts
 exact⟨a,ns,rfl,hs,hl,λl ms hl' p o=>k _ _ _ (bC hl' _) (.lst hl' bD (Reps.intz ms)) (q ms p o)⟩
theorem vN (B:Bt X.mg)(ha:QA X [e] tr)(hg:Gl X "sorted":=by rfl)(he:starEach [e] X.env=(false,eval e X.env)::starEach [] X.env:=by rfl)(hpl:(backTo pos (starEach [] X.env)).any (·.1)=false:=by rfl):QE X (.Call (.Name "sorted" p2) [e] [] pos) (aK mB tr):=
 i9 aA6 aA7 hg B.sorted PyProof.Rows.boot_sorted ha (he:=he) (hpl:=hpl)
noncomputable def K3:PV->Tg->PV->Tg->PK->Prop:=λx _ y _ Q=>∃xs ys,x = .lst xs/\y = .lst ys/\flats xs=true/\flats ys=true/\xs.length+ys.length<=16000000/\Q (.lst (xs++ys)) .fr
noncomputable abbrev vO (ta tb:aO):aO:=q2 K3 ta tb
theorem aA8:dG X K3 yN:=by
 rintro W Hs H u v x y g g' Q Q' s n r1 r2 ⟨xs,ys,rfl,rfl,f1,f2,hl,q⟩ k
 obtain⟨a,us,rfl,_,h1,q1⟩:=r1.sqL
 obtain⟨b,ws,rfl,_,h2,q2⟩:=r2.sqL
 have l1:=q1.length;have l2:=q2.length;refine⟨a,b,us,ws,rfl,rfl,h1,h2,lim (by omega),λp hp=>k _ _ _ .fr (bC hp _) (.lst (s.free hp) bD (((q1.flat f1).append (q2.flat f2)).same (bC hp _) λ_ z=>z)) q⟩
theorem K4 (ha:QE X a ta)(hb:QE X b tb):QE X (.BinOp a .Add b pos) (vO ta tb):=iY ai6 aA8 ha hb
end
end PP
namespace L2
open PySem PySem.Spec PyProof.Rows
noncomputable def vP (K:ac)(a:ar):It:=
  ⟨λi H=>∃xs x,aV K H a xs/\xs[i]? = some x,
   λi H v H'=>∃T x,H T=none/\v = .ref T/\H'=upd H T (.tup [.int i,x])/\∀xs,aV K H a xs->xs[i]? = some x,
   λi H=>∃xs,aV K H a xs/\xs.length<=i⟩
structure aA9 (e it a:ar)(i:Nat)(h:Heap):Prop where
 ee:∃old,IsEnum h e it i old
 s1:h.IsListIter it a i
theorem aB0 {P:av}{w:ax}{K:ac}{elts:List Expr}{k:Nat}{pos:Pos}(a e it:ar)(d:e≠it) :
  fN P w K (.Tuple elts k pos) (vP K a) [e,it] e (aA9 e it a):=by
 refine⟨by simp,λi h st c hc=>?_,λi h h' st kp=>?_,?_,?_,λA i s Q E st q=>?_⟩
 ·simp only[be8,bf1,bi2]at hc
  obtain⟨old,ee⟩:=st.ee
  obtain⟨o1,f1,g1,d1⟩:=st.s1
  rcases hc with rfl|rfl
  ·exact⟨_,ee,λv q=>by cases q⟩
  ·exact⟨_,f1,λv q=>by rw[d1]at q;cases q⟩
 ·obtain⟨old,ee⟩:=st.ee
  exact⟨⟨old,kp e (by simp) _ ee⟩,st.s1.at λo z=>kp it (by simp) o z⟩
 ·intro X hP hw hK hc i af s σ H E I hf st hg
  subst hP hw hK
  obtain⟨xs,x,ha,hx⟩:=hg
  obtain⟨us,ru,pu,lu⟩:=I.list ha
  obtain⟨ux,eux,rux⟩:=ru.get hx
  obtain⟨old,ee⟩:=st.ee
  refine wpAny_pyNext_enum_item ee st.s1 pu.isList (by simpa using eux) d λh' eo it' pr sz kp=>⟨_,rfl,?_⟩
  refine wpAny_letOwnedTupleGo_enum (s:={ s with heap:=h',toks:=s.toks+1 }) eo λg zz sb=>?_
  have hzl:e<s.heap.objs.size:=bf4 ee;have up:∀c o,c≠e->c≠it->s.heap.get? c=some o->g.get? c=some o:=λc o c1 c2 z=>sb.extBut c o c1 (kp c o c1 c2 z)
  have hT:H s.heap.objs.size=none:=I.hok.fresh (be7 _);have prG:g.get? s.heap.objs.size=some { cls:=.type "tuple",data:=.seq #[.int i s.toks,ux] }:=sb.extBut _ _ (bl4 hzl) pr;have fpn:∀c u,H c=some u->c∉[e,it]:=λc u z hm=>by rw[(hf c hm).1]at z;cases z
  have upH:∀c o u,H c=some u->s.heap.get? c=some o->g.get? c=some o:=λc o u q z=>by
   have:=fpn c u q
   simp only[be8,bf1,bi2,not_or]at this;exact up c o this.1 this.2 z
  have ns:∀m,s.heap.Ns X.env.locals m->g.Ns X.env.locals m:=λm hm=>by
   obtain⟨o,es,ep,e1,e2⟩:=hm
   exact⟨o,es,ep,up _ o (Ne.symm (hf e (by simp)).2.1) (Ne.symm (hf it (by simp)).2.1) e1,e2⟩
  have I2:aE X af σ (upd H s.heap.objs.size (.tup [.int i,x])) { s with heap:=g,toks:=s.toks+1 }:=by
   refine I.step (g':=s.gens) (d':=s.drawn) (ch:=[e,it]) (λc hc'=>?_) (λc o _ _ hc' z _=>?_) (λc o _ _ hc' z _=>⟨o.slots,?_⟩) (λc o _ z n=>?_) (λc o hc' z=>⟨o,?_⟩)
    (λc zs z=>by rw[b6 (cU z hT)];exact z) (λc u zs z=>by rw[b6 (cU z hT)];exact z) (λc ps z=>⟨#[],by rw[b6 (cU z hT),z];simp⟩) ns (λc u z=>?_) I.bare
   ·exact⟨(hf c hc').2.2.2.1,(hf c hc').2.1,(hf c hc').2.2.2.2.1,(hf c hc').2.2.2.2.2⟩
   ·simp only[be8,bf1,bi2,not_or]at hc'
    exact up c o hc'.1 hc'.2 z
   ·simp only[be8,bf1,bi2,not_or]at hc'
    exact up c o hc'.1 hc'.2 z
   ·rw[b6 (bh6 (bf4 z))];exact n
   ·simp only[be8,bf1,bi2,not_or]at hc'
    exact up c o hc'.1 hc'.2 z
   ·by_cases hcT:c=s.heap.objs.size
    ·subst hcT
     rw[bD]at z;cases z
     exact⟨by show 2<=sizeLine;decide,[.int i s.toks,ux],.cons ⟨_,rfl⟩ (.cons rux .nil),⟨_,prG,rfl,_,rfl⟩,λu e=>by rw[prG]at e;cases e;rfl⟩
    ·rw[b6 hcT]at z
     refine (I.hok c u z).stay (λc' o' hc2 q'=>?_) (λc' q'=>by rw[b6 (cU q' hT)];exact q') λc' zs q'=>by rw[b6 (cU q' hT)];exact q'
     rcases hc2 with rfl|hc2
     ·exact upH _ _ _ z q'
     ·exact upH _ _ _ hc2 q'
  refine⟨.ref s.heap.objs.size,_,I2,rfl,⟨_,x,hT,rfl,rfl,λxs' ha'=>?_⟩,⟨⟨ux,by push_cast;exact zz⟩,it'.at λo z=>sb.extBut _ o (Ne.symm d) z⟩,λc hc'=>?_⟩
  ·rw[I.list_inj ha' ha];exact hx
  ·obtain⟨o,z⟩:∃o,s.heap.get? c=some o:=by
    simp only[be8,bf1,bi2]at hc'
    obtain⟨o1,f1,_⟩:=st.s1
    rcases hc' with rfl|rfl
    ·exact⟨_,ee⟩
    ·exact⟨_,f1⟩
   rw[b6 (bh6 (bf4 z))];exact (hf c hc').1
 ·intro X hP hw hK hc i af s σ H E I hf st hg
  subst hP hw hK
  obtain⟨xs,ha,hi⟩:=hg
  obtain⟨us,ru,pu,lu⟩:=I.list ha
  obtain⟨old,ee⟩:=st.ee
  have hh:X.A.handled=none:=I.ok.hd hc;have e1:=ru.length;refine wpAny_pyNext_enum_end hh ee st.s1 pu.isList (by rw[bs9];simp only[be5];omega) λg kp=>⟨rfl,?_⟩
  have fpn:∀c u,H c=some u->c∉[e,it]:=λc u z hm=>by rw[(hf c hm).1]at z;cases z
  have upH:∀c o u,H c=some u->s.heap.get? c=some o->g.get? c=some o:=λc o u q z=>by
   have:=fpn c u q
   simp only[be8,bf1,bi2,not_or]at this;exact kp c o this.2 z
  have ns:∀m,s.heap.Ns X.env.locals m->g.Ns X.env.locals m:=λm hm=>by
   obtain⟨o,es,ep,e1,e2⟩:=hm
   exact⟨o,es,ep,kp _ o (Ne.symm (hf it (by simp)).2.1) e1,e2⟩
  refine I.step (g':=s.gens) (d':=s.drawn) (ch:=[it]) (λc hc'=>?_) (λc o _ _ hc' z _=>?_) (λc o _ _ hc' z _=>⟨o.slots,?_⟩) (λc o _ z n=>n) (λc o hc' z=>⟨o,?_⟩)
   (λc zs z=>z) (λc u zs z=>z) (λc ps z=>⟨#[],by rw[z];simp⟩) ns (λc u z=>?_) I.bare
  ·have hm:c∈[e,it]:=bj3 _ hc'
   exact⟨(hf c hm).2.2.2.1,(hf c hm).2.1,(hf c hm).2.2.2.2.1,(hf c hm).2.2.2.2.2⟩
  ·exact kp c o (λy=>hc' (by rw[y];simp)) z
  ·exact kp c o (λy=>hc' (by rw[y];simp)) z
  ·exact kp c o (λy=>hc' (by rw[y];simp)) z
  ·refine (I.hok c u z).stay (λc' o' hc2 q'=>?_) (λ_ q'=>q') λ_ _ q'=>q'
   rcases hc2 with rfl|hc2
   ·exact upH _ _ _ z q'
   ·exact upH _ _ _ hc2 q'
 ·obtain⟨old,ee⟩:=st.ee
  exact wpAny_pyIter_enum ee q
end L2
namespace Zp
open PySem PyProof.Rows
section
variable {prog:av}{w:ax}{A:aw}{E:ao→aq→Prop}{s:aq}
theorem aB1 {e it t:ar}{i:Nat}{items:Array ao}{x old:ao}{Q:Option ao->aq->Prop}(he:IsEnum s.heap e it i old)(hi:s.heap.IsTupleIter it t i)(ht:s.heap.IsTuple t items)(hx:items[i]? = some x)(ne:e≠it)(q:∀h',IsEnumOut h' e it ((i:Int)+1) x s.heap.objs.size->h'.IsTupleIter it t (i+1)->h'.get? s.heap.objs.size=some { cls:=.type "tuple",data:=.seq #[.int i s.toks,x] }->h'.objs.size=s.heap.objs.size+1->
   (∀b o,b≠e->b≠it->s.heap.get? b=some o->h'.get? b=some o)->Q (some (.ref s.heap.objs.size)) { s with heap:=h',toks:=s.toks+1 }):wpAny (model prog w) A (pyNext (.ref e)) Q E s:=by
 have T:s.TypeIs (.ref e) "enumerate":=⟨_,he,rfl⟩;have slot:=PySem.F.slot_enumerate_next;unfold pyNext;apply be2;apply br4;apply bj4 (name:=Str.ofString "__next__") T slot;apply bj8 slot T PySem.F.entry_enumerate_next _ (PySem.F.args_enumerate_next_1 _)
 change wpAny _ _ (field (.ref e) 2 >>= _) _ _ _
 apply be2;refine bi1 he rfl (x:=.ref it) rfl ?_;apply be2;refine zQ hi ht hx λg1 it1 sb1=>?_
 have e1:IsEnum g1 e it i old:=sb1.extBut _ _ ne he
 change wpAny _ _ (field (.ref e) 3 >>= _) _ _ _
 apply be2;refine bi1 e1 rfl (x:=rawInt i) rfl ?_
 change wpAny _ _ (field (.ref e) 4 >>= _) _ _ _
 apply be2;refine bi1 e1 rfl (x:=.none) rfl ?_
 change wpAny _ _ (mkInt i >>= _) _ _ _
 apply be2;refine wpAny_mkInt ?_
 change wpAny _ _ (setField (.ref e) 3 (rawInt ((i:Int)+1)) >>= _) _ _ _
 apply be2;refine bl6 e1 (by simp) λg2 e2 sb2=>?_
 apply be2;refine bl6 e2 (by simp) λg3 e3 sb3=>?_
 have e3:IsEnum g3 e it ((i:Int)+1) old:=e3;apply be2;refine wpAny_newTuple ?_ (by show 2<=sizeLine;decide);have e4:IsEnum (g3.push { cls:=.type "tuple",data:=.seq #[.int i s.toks,x] }) e it ((i:Int)+1) old:=be4 _ e3;have size:g3.objs.size=s.heap.objs.size:=by rw[sb3.1,sb2.1,sb1.1]
 change wpAny _ _ (Builtin.SmallTypes.ownedTupleIsFree (.ref e) >>= _) _ _ _
 apply be2;unfold Builtin.SmallTypes.ownedTupleIsFree;apply be2;refine bi1 e4 rfl (x:=.none) rfl (be6 ?_);simp only[if_true];apply be2;apply wpAny_rule;apply be2;refine bi1 e4 rfl (x:=old) rfl ?_;apply be2;refine bl6 e4 (by simp) λg5 e5 sb5=>?_
 apply be2;unfold Builtin.SmallTypes.ownedTupleHandOut;apply be2;refine bl6 e5 (by simp) λg6 e6 sb6=>?_
 refine bl6 e6 (by simp) λg7 e7 sb7=>?_
 have e7:IsEnumOut g7 e it ((i:Int)+1) x g3.objs.size:=e7;have elt:e<g3.objs.size:=bf4 e3;have up:∀c o,c≠e->(g3.push { cls:=.type "tuple",data:=.seq #[.int i s.toks,x] }).get? c=some o->g7.get? c=some o:=λc o c1 z=>sb7.extBut c o c1 (sb6.extBut c o c1 (sb5.extBut c o c1 z))
 have up3:∀c o,c≠e->g1.get? c=some o->g7.get? c=some o:=λc o c1 z=>up c o c1 (be4 _ (sb3.extBut c o c1 (sb2.extBut c o c1 z)))
 have p7:g7.get? g3.objs.size=some { cls:=.type "tuple",data:=.seq #[.int i s.toks,x] }:=up _ _ (bl4 elt) (bf0 _ rfl);have s7:g7.objs.size=g3.objs.size+1:=by rw[sb7.1,sb6.1,sb5.1,bp3]
 apply be2;apply wpAny_letGo;apply be6;rw[size]at e7 p7 s7;refine⟨_,rfl,be6 ?_⟩
 change Q (some (.ref g3.objs.size)) _
 rw[size];exact q g7 e7 (it1.at λo z=>up3 it o (Ne.symm ne) z) p7 s7 λb o b1 b2 z=>up3 b o b1 (sb1.extBut b o b2 z)
theorem aB2 {e it t:ar}{i:Nat}{items:Array ao}{old:ao}{Q:Option ao->aq->Prop}(hh:A.handled=none)(he:IsEnum s.heap e it i old)(hi:s.heap.IsTupleIter it t i)(ht:s.heap.IsTuple t items)(hx:items[i]? = none)(q:∀h',Heap.ExtBut it s.heap h'->Q none { s with heap:=h' }):wpAny (model prog w) A (pyNext (.ref e)) Q E s:=by
 have T:s.TypeIs (.ref e) "enumerate":=⟨_,he,rfl⟩;have slot:=PySem.F.slot_enumerate_next;unfold pyNext;apply be2;apply br4;apply bj4 (name:=Str.ofString "__next__") T slot;apply bj8 slot T PySem.F.entry_enumerate_next _ (PySem.F.args_enumerate_next_1 _)
 change wpAny _ _ (field (.ref e) 2 >>= _) _ _ _
 apply be2;refine bi1 he rfl (x:=.ref it) rfl ?_;apply be2;refine zR hh hi ht hx λg2 ex eb exo=>?_
 obtain⟨oe,eo,co⟩:=exo
 apply be2;refine wpAny_isInstance (T:="StopIteration") (b:=true) ⟨oe,eo,co⟩ isSubtype_stop ?_;exact be6 (q g2 eb)
theorem aB3 {M:Model}{A:aw}{E:ao->aq->Prop}{s:aq}{α:Type}{c:Prop}[Decidable c]{m n:Sem α}{Q:α->aq->Prop}(h1:wpAny M A m Q E s)(h2:wpAny M A n Q E s):wpAny M A (if c then m else n) Q E s:=by
 split
 ·exact h1
 ·exact h2
theorem aB4 (t:ar)(xs:Array ao):Meets (Builtin.«enumerate.__new__» ⟨[.type "enumerate",.ref t],[]⟩) (λ_ R s=>s.heap.IsTuple t xs/\R (.ok (.ret (.ref (s.heap.objs.size+1)))) { s with heap:=(s.heap.push { cls:=.type "tuple_iterator",data:=.fields #[.ref t,.int 0 0] }).push { cls:=.type "enumerate",data:=.fields #[.none,.bool false,.ref s.heap.objs.size,rawInt 0,.none,.none] } }):=
 .of_wp λprog w A R s h=>by
  obtain⟨hp,g,d,tk,os⟩:=s
  obtain⟨ht,h⟩:=h
  have sub:=sub_enumerate;have a1:Heap.IsTuple (Shared.heap ⟨hp,g,d,tk,os⟩) t xs:=ht
  wp_walk using br1 a1
  refine wpAny_stack_any λst=>be6 ?_
  refine aB3 ?_ ?_
  all_goals
   apply be2;refine bt2 (a:=(Value.ref t,none)) rfl ?_
   wp_walk using br1 a1
   have e:∀(o:Obj) (k:Heap),(k.push o).objs.size=k.objs.size+1:=λo k=>bp3 ..
   refine⟨_,rfl,?_⟩;simp only[e]at h ⊢;exact h
theorem aB5 {t:ar}{xs:Array ao}{Q:ao->aq->Prop}(ht:s.heap.IsTuple t xs)(q:∀h',IsEnum h' (s.heap.objs.size+1) s.heap.objs.size 0 .none->h'.IsTupleIter s.heap.objs.size t 0->h'.objs.size=s.heap.objs.size+2->(∀c o,s.heap.get? c=some o->h'.get? c=some o)->Q (.ref (s.heap.objs.size+1)) { s with heap:=h' }) :
  wpAny (model prog w) A (call (.type "enumerate") [.ref t]) Q E s:=by
 refine callType_new PySem.F.called_enumerate (by decide) (PySem.F.typeCall_enumerate_1 _) (PySem.F.newCall_enumerate_1 _) (λobj=>PySem.F.args_object_init_2 obj _) PySem.F.entry_enumerate_new (aB4 t xs) ⟨ht,?_⟩;have e:∀(o:Obj) (k:Heap),(k.push o).objs.size=k.objs.size+1:=λo k=>bp3 ..
 have g0:((s.heap.push { cls:=.type "tuple_iterator",data:=.fields #[.ref t,.int 0 0] }).push { cls:=.type "enumerate",data:=.fields #[.none,.bool false,.ref s.heap.objs.size,rawInt 0,.none,.none] }).get? s.heap.objs.size=some { cls:=.type "tuple_iterator",data:=.fields #[.ref t,.int 0 0] }:=be4 _ (bf0 _ rfl);have g1:((s.heap.push { cls:=.type "tuple_iterator",data:=.fields #[.ref t,.int 0 0] }).push { cls:=.type "enumerate",data:=.fields #[.none,.bool false,.ref s.heap.objs.size,rawInt 0,.none,.none] }).get? (s.heap.objs.size+1)=some { cls:=.type "enumerate",data:=.fields #[.none,.bool false,.ref s.heap.objs.size,rawInt 0,.none,.none] }:=by
  have:=bf0 (h:=s.heap.push { cls:=.type "tuple_iterator",data:=.fields #[.ref t,.int 0 0] }) (o:={ cls:=.type "enumerate",data:=.fields #[.none,.bool false,.ref s.heap.objs.size,rawInt 0,.none,.none] }) rfl
  rw[e]at this;exact this
 exact⟨⟨_,g1,rfl⟩,q _ g1 ⟨_,g0,rfl,rfl⟩ (by rw[e,e]) λc o z=>be4 _ (be4 _ z)⟩
end
end Zp
namespace L2
open PySem PySem.Spec PyProof.Rows
noncomputable def vQ (K:ac)(a:ar):It:=
  ⟨λi H=>∃xs x,aW K H a xs/\xs[i]? = some x,
   λi H v H'=>∃T x,H T=none/\v = .ref T/\H'=upd H T (.tup [.int i,x])/\∀xs,aW K H a xs->xs[i]? = some x,
   λi H=>∃xs,aW K H a xs/\xs.length<=i⟩
structure aB6 (e it a:ar)(i:Nat)(h:Heap):Prop where
 ee:∃old,IsEnum h e it i old
 s1:h.IsTupleIter it a i
theorem aB7 {P:av}{w:ax}{K:ac}{elts:List Expr}{k:Nat}{pos:Pos}(a e it:ar)(d:e≠it) :
  fN P w K (.Tuple elts k pos) (vQ K a) [e,it] e (aB6 e it a):=by
 refine⟨by simp,λi h st c hc=>?_,λi h h' st kp=>?_,?_,?_,λA i s Q E st q=>?_⟩
 ·simp only[be8,bf1,bi2]at hc
  obtain⟨old,ee⟩:=st.ee
  obtain⟨o1,f1,g1,d1⟩:=st.s1
  rcases hc with rfl|rfl
  ·exact⟨_,ee,λv q=>by cases q⟩
  ·exact⟨_,f1,λv q=>by rw[d1]at q;cases q⟩
 ·obtain⟨old,ee⟩:=st.ee
  exact⟨⟨old,kp e (by simp) _ ee⟩,st.s1.at λo z=>kp it (by simp) o z⟩
 ·intro X hP hw hK hc i af s σ H E I hf st hg
  subst hP hw hK
  obtain⟨xs,x,ha,hx⟩:=hg
  obtain⟨us,ru,pu,lu⟩:=I.tuple ha
  obtain⟨ux,eux,rux⟩:=ru.get hx
  obtain⟨old,ee⟩:=st.ee
  refine Zp.aB1 ee st.s1 pu (by simpa using eux) d λh' eo it' pr sz kp=>⟨_,rfl,?_⟩
  refine wpAny_letOwnedTupleGo_enum (s:={ s with heap:=h',toks:=s.toks+1 }) eo λg zz sb=>?_
  have hzl:e<s.heap.objs.size:=bf4 ee;have up:∀c o,c≠e->c≠it->s.heap.get? c=some o->g.get? c=some o:=λc o c1 c2 z=>sb.extBut c o c1 (kp c o c1 c2 z)
  have hT:H s.heap.objs.size=none:=I.hok.fresh (be7 _);have prG:g.get? s.heap.objs.size=some { cls:=.type "tuple",data:=.seq #[.int i s.toks,ux] }:=sb.extBut _ _ (bl4 hzl) pr;have fpn:∀c u,H c=some u->c∉[e,it]:=λc u z hm=>by rw[(hf c hm).1]at z;cases z
  have upH:∀c o u,H c=some u->s.heap.get? c=some o->g.get? c=some o:=λc o u q z=>by
   have:=fpn c u q
   simp only[be8,bf1,bi2,not_or]at this;exact up c o this.1 this.2 z
  have ns:∀m,s.heap.Ns X.env.locals m->g.Ns X.env.locals m:=λm hm=>by
   obtain⟨o,es,ep,e1,e2⟩:=hm
   exact⟨o,es,ep,up _ o (Ne.symm (hf e (by simp)).2.1) (Ne.symm (hf it (by simp)).2.1) e1,e2⟩
  have I2:aE X af σ (upd H s.heap.objs.size (.tup [.int i,x])) { s with heap:=g,toks:=s.toks+1 }:=by
   refine I.step (g':=s.gens) (d':=s.drawn) (ch:=[e,it]) (λc hc'=>?_) (λc o _ _ hc' z _=>?_) (λc o _ _ hc' z _=>⟨o.slots,?_⟩) (λc o _ z n=>?_) (λc o hc' z=>⟨o,?_⟩)
    (λc zs z=>by rw[b6 (cU z hT)];exact z) (λc u zs z=>by rw[b6 (cU z hT)];exact z) (λc ps z=>⟨#[],by rw[b6 (cU z hT),z];simp⟩) ns (λc u z=>?_) I.bare
   ·exact⟨(hf c hc').2.2.2.1,(hf c hc').2.1,(hf c hc').2.2.2.2.1,(hf c hc').2.2.2.2.2⟩
   ·simp only[be8,bf1,bi2,not_or]at hc'
    exact up c o hc'.1 hc'.2 z
   ·simp only[be8,bf1,bi2,not_or]at hc'
    exact up c o hc'.1 hc'.2 z
   ·rw[b6 (bh6 (bf4 z))];exact n
   ·simp only[be8,bf1,bi2,not_or]at hc'
    exact up c o hc'.1 hc'.2 z
   ·by_cases hcT:c=s.heap.objs.size
    ·subst hcT
     rw[bD]at z;cases z
     exact⟨by show 2<=sizeLine;decide,[.int i s.toks,ux],.cons ⟨_,rfl⟩ (.cons rux .nil),⟨_,prG,rfl,_,rfl⟩,λu e=>by rw[prG]at e;cases e;rfl⟩
    ·rw[b6 hcT]at z
     refine (I.hok c u z).stay (λc' o' hc2 q'=>?_) (λc' q'=>by rw[b6 (cU q' hT)];exact q') λc' zs q'=>by rw[b6 (cU q' hT)];exact q'
     rcases hc2 with rfl|hc2
     ·exact upH _ _ _ z q'
     ·exact upH _ _ _ hc2 q'
  refine⟨.ref s.heap.objs.size,_,I2,rfl,⟨_,x,hT,rfl,rfl,λxs' ha'=>?_⟩,⟨⟨ux,by push_cast;exact zz⟩,it'.at λo z=>sb.extBut _ o (Ne.symm d) z⟩,λc hc'=>?_⟩
  ·rw[I.tuple_inj ha' ha];exact hx
  ·obtain⟨o,z⟩:∃o,s.heap.get? c=some o:=by
    simp only[be8,bf1,bi2]at hc'
    obtain⟨o1,f1,_⟩:=st.s1
    rcases hc' with rfl|rfl
    ·exact⟨_,ee⟩
    ·exact⟨_,f1⟩
   rw[b6 (bh6 (bf4 z))];exact (hf c hc').1
 ·intro X hP hw hK hc i af s σ H E I hf st hg
  subst hP hw hK
  obtain⟨xs,ha,hi⟩:=hg
  obtain⟨us,ru,pu,lu⟩:=I.tuple ha
  obtain⟨old,ee⟩:=st.ee
  have hh:X.A.handled=none:=I.ok.hd hc;have e1:=ru.length;refine Zp.aB2 hh ee st.s1 pu (by rw[bs9];simp only[be5];omega) λg kp=>⟨rfl,?_⟩
  have fpn:∀c u,H c=some u->c∉[e,it]:=λc u z hm=>by rw[(hf c hm).1]at z;cases z
  have upH:∀c o u,H c=some u->s.heap.get? c=some o->g.get? c=some o:=λc o u q z=>by
   have:=fpn c u q
   simp only[be8,bf1,bi2,not_or]at this;exact kp c o this.2 z
  have ns:∀m,s.heap.Ns X.env.locals m->g.Ns X.env.locals m:=λm hm=>by
   obtain⟨o,es,ep,e1,e2⟩:=hm
   exact⟨o,es,ep,kp _ o (Ne.symm (hf it (by simp)).2.1) e1,e2⟩
  refine I.step (g':=s.gens) (d':=s.drawn) (ch:=[it]) (λc hc'=>?_) (λc o _ _ hc' z _=>?_) (λc o _ _ hc' z _=>⟨o.slots,?_⟩) (λc o _ z n=>n) (λc o hc' z=>⟨o,?_⟩)
   (λc zs z=>z) (λc u zs z=>z) (λc ps z=>⟨#[],by rw[z];simp⟩) ns (λc u z=>?_) I.bare
  ·have hm:c∈[e,it]:=bj3 _ hc'
   exact⟨(hf c hm).2.2.2.1,(hf c hm).2.1,(hf c hm).2.2.2.2.1,(hf c hm).2.2.2.2.2⟩
  ·exact kp c o (λy=>hc' (by rw[y];simp)) z
  ·exact kp c o (λy=>hc' (by rw[y];simp)) z
  ·exact kp c o (λy=>hc' (by rw[y];simp)) z
  ·refine (I.hok c u z).stay (λc' o' hc2 q'=>?_) (λ_ q'=>q') λ_ _ q'=>q'
   rcases hc2 with rfl|hc2
   ·exact upH _ _ _ z q'
   ·exact upH _ _ _ hc2 q'
 ·obtain⟨old,ee⟩:=st.ee
  exact wpAny_pyIter_enum ee q
section
variable {X:Cx}
noncomputable def K5 (K:ac)(ta:TA):TI:=λσ H R=>ta σ H λvs H1=>∃a,vs = [.ref a]/\((∃xs,aV K H1 a xs/\R (vP K a) H1)∨(∃xs,aW K H1 a xs/\R (vQ K a) H1))
theorem aB8 {elts:List Expr}{kt:Nat}{pt:Pos}{a:Expr}{ta:TA}{p pos:Pos}(hg:Gl X "enumerate")(hm:X.mg "enumerate" = none)(ha:PA X [a] ta)(hs:starEach [a] X.env = [(false,eval a X.env)]:=by rfl) :
  PI X (.Tuple elts kt pt) (.Call (.Name "enumerate" p) [a] [] pos) (K5 X.K ta):=by
 intro af s σ H R I h;refine Call_ (gO I hg hm PyProof.Rows.boot_enumerate (bj6 (aT (ha pos af s σ H _ I h) λus s1 ⟨vs,H1,I1,r1,q1⟩=>?_) (by rw[hs];rfl) (by rfl)))
 obtain⟨a',e,q⟩:=q1
 subst e;have fresh:∀k,H1 (s1.heap.objs.size+k)=none:=λk=>I1.hok.fresh (bl2 _ _)
 cases r1 with
 |cons r rr=>
  cases rr;cases r;rcases q with⟨xs,h1,q⟩|⟨xs,h1,q⟩
  ·obtain⟨us,_,p1,_⟩:=I1.list h1
   refine call_enumerate_list p1.isList λh' z s1' sz kp=>wpAny_pyIter_enum z ?_
   refine⟨s1.heap.objs.size+1,[s1.heap.objs.size+1,s1.heap.objs.size],_,_,H1,rfl,I1.kept (t':=s1.toks) kp,
    aB0 a' _ _ (Nat.succ_ne_self _),⟨⟨_,z⟩,s1'⟩,λc hc=>?_,q⟩
   simp only[be8,bf1,bi2]at hc;rcases hc with rfl|rfl
   ·exact I1.fpOk (bl2 _ _) (fresh 1)
   ·exact I1.fpOk (be7 _) (fresh 0)
  ·obtain⟨us,_,p1,_⟩:=I1.tuple h1
   refine Zp.aB5 p1 λh' z s1' sz kp=>wpAny_pyIter_enum z ?_
   refine⟨s1.heap.objs.size+1,[s1.heap.objs.size+1,s1.heap.objs.size],_,_,H1,rfl,I1.kept (t':=s1.toks) kp,
    aB7 a' _ _ (Nat.succ_ne_self _),⟨⟨_,z⟩,s1'⟩,λc hc=>?_,q⟩
   simp only[be8,bf1,bi2]at hc;rcases hc with rfl|rfl
   ·exact I1.fpOk (bl2 _ _) (fresh 1)
   ·exact I1.fpOk (be7 _) (fresh 0)
end
end L2
namespace Zp
open PySem PyProof.Rows
theorem aB9 (t b:ar)(xs ys:Array ao)(n n2:Nat)(dd dd2:Option ar)(sl sl2:Array (Option ao))(hx:xs.isEmpty=true):Meets (Builtin.«tuple.__add__» ⟨[.ref t,.ref b],[]⟩)
  (λ_ R s=>s.heap.get? t=some { cls:=.type "tuple",dict:=dd,data:=.seq xs n,slots:=sl }/\s.heap.get? b=some { cls:=.type "tuple",dict:=dd2,data:=.seq ys n2,slots:=sl2 }/\R (.ok (.ret (.ref b))) s):=
 .of_wp λprog w A R s h=>by
  obtain⟨h1,h2,h⟩:=h
  have sub:isSubtype (Value.type "tuple") (Value.type "tuple")=pure true:=rfl
  wp_walk
  exact⟨_,rfl,h⟩
end Zp
namespace L2
open PySem PySem.Spec PyProof.Rows
section
variable {X:Cx}
noncomputable def K6 (K:ac):R2:=λx y H Q=>∃a b xs ys,x = .ref a/\y = .ref b/\aW K H a xs/\aW K H b ys/\xs.length+ys.length<=sizeLine/\
 (xs = []->Q (.ref b) H)/\(xs≠[]->ys = []->Q (.ref a) H)/\(xs≠[]->ys≠[]->∀p,H p=none->Q (.ref p) (upd H p (.tup (xs++ys))))
theorem aC0:cC X (binaryOp .Add) (K6 X.K):=by
 intro af s σ H x y v u Q I rx ry h
 obtain⟨a,b,xs,ys,ex,ey,ha,hb,hz,q0,q1,q2⟩:=h
 by_cases hx:xs = []
 ·subst ex ey
  cases rx;cases ry
  obtain⟨its,r1,p1,_⟩:=I.tuple ha
  obtain⟨al,r2,p2,_⟩:=I.tuple hb
  have hi:its = []:=r1.nil_iff.mpr hx
  obtain⟨⟨cls,dd,data,sl⟩,ho,hc,n,hd⟩:=id p1
  obtain⟨⟨cls2,dd2,data2,sl2⟩,ho2,hc2,n2,hd2⟩:=id p2
  simp only at hc hd hc2 hd2;subst hc hd hc2 hd2;exact concat_meets ⟨_,ho,rfl⟩ ⟨_,ho2,rfl⟩ noFill_tuple_add seq_tuple_add PySem.F.slot_tuple_add PySem.F.entry_tuple_add (PySem.F.args_tuple_add_2 _ _)
   (Zp.aB9 a b its.toArray al.toArray n n2 dd dd2 sl sl2 (by simp[hi])) ⟨ho,ho2,⟨.ref b,H,I,rfl,q0 hx⟩⟩
 ·exact ah2 af s σ H x y v u Q I rx ry ⟨a,b,xs,ys,ex,ey,ha,hb,hx,hz,q1 hx,q2 hx⟩
end
end L2
namespace PP
open PySem L2 PyProof.Rows
noncomputable def j8 (xs:List PV):List PV:=xs.mapIdx λi x=>PV.tup [.int (i:Int),x]
theorem vR (xs:List PV):(j8 xs).length=xs.length:=by unfold j8;rw[List.length_mapIdx]
theorem K7 {xs:List PV}{i:Nat}{x:PV}(h:xs[i]? = some x):(j8 xs)[i]? = some (.tup [.int (i:Int),x]):=by
 unfold j8;rw[List.getElem?_mapIdx,h];rfl
theorem aC1 {xs:List PV}{i:Nat}{z:PV}(h:(j8 xs)[i]? = some z):∃x,xs[i]? = some x/\z = .tup [.int (i:Int),x]:=by
 unfold j8 at h;rw[List.getElem?_mapIdx]at h;cases e:xs[i]? with
 |none=>rw[e]at h;cases h
 |some x=>rw[e]at h;exact⟨x,rfl,(bh9 h).symm⟩
noncomputable def vS (te:aO):e8:=λρ Q=>te ρ λx g=>∃xs,(x = .lst xs∨x = .tup xs)/\(g = .rd->flat x=true)/\Q (j8 xs) (pI g xs)
theorem aC2 {K:ac}{H0:Hp}{W:ar->Prop}{g:Bool}{H1:Hp}{a:ar}{us:List V}{xs:List PV}(tw:∀a,W a->∃o,H1 a=some o/\eO o=true)(ha:∀W' H',Ev W H1 W' H'->aV K H' a us)(r:Reps K (Ms H0 W g) H1 us xs):lQ K H0 W g H1 (vP K a) (j8 xs):=by
 have lr:=r.length;have ll:=vR xs;refine⟨λW' H' i e hi=>⟨us,us[i]'(by omega),ha W' H' e,by simp⟩,λW' H' i v H2 e y hi=>?_,λW' H' e=>⟨us,ha W' H' e,by omega⟩⟩
 obtain⟨T,x,hT,rfl,rfl,y⟩:=y
 obtain⟨z,hz,rz⟩:=r.get (y us (ha W' _ e))
 have sm:=bC hT (HO.tup [.int (i:Int),x])
 exact⟨sm,_,K7 hz,.tup bD (.cons (.int _) (.cons ((rz.keep (e.keep tw)).same sm λ_ q=>q) .nil))⟩
theorem aC3 {K:ac}{H0:Hp}{W:ar->Prop}{g:Bool}{H1:Hp}{a:ar}{us:List V}{xs:List PV}(tw:∀a,W a->∃o,H1 a=some o/\eO o=true)(ha:∀W' H',Ev W H1 W' H'->aW K H' a us)(r:Reps K (Ms H0 W g) H1 us xs):lQ K H0 W g H1 (vQ K a) (j8 xs):=by
 have lr:=r.length;have ll:=vR xs;refine⟨λW' H' i e hi=>⟨us,us[i]'(by omega),ha W' H' e,by simp⟩,λW' H' i v H2 e y hi=>?_,λW' H' e=>⟨us,ha W' H' e,by omega⟩⟩
 obtain⟨T,x,hT,rfl,rfl,y⟩:=y
 obtain⟨z,hz,rz⟩:=r.get (y us (ha W' _ e))
 have sm:=bC hT (HO.tup [.int (i:Int),x])
 exact⟨sm,_,K7 hz,.tup bD (.cons (.int _) (.cons ((rz.keep (e.keep tw)).same sm λ_ q=>q) .nil))⟩
section
variable {X:Cx}{σ:L2.St}{H:Hp}{te:aO}{R:It→Hp→Prop}
theorem aC4 (h:LI X (vS te) σ H R):K5 X.K (jW (LE X te) jV) σ H R:=by
 obtain⟨W,ρ,Q,px,q,k⟩:=h
 refine⟨W,ρ,_,px,q,?_⟩;rintro v H1 x g s r ⟨xs,hx,hg,q⟩;have px1:=px.mono s;have tw:∀a,W a->∃o,H1 a=some o/\eO o=true:=λa z=>(px1.wm a z).2
 rcases hx with rfl|rfl
 ·obtain⟨a,us,rfl,m,h,r⟩:=r.sqL
  have wa:¬W a:=by
   cases g with
   |fr=>exact (px.new m).1
   |nw=>exact m.1
   |sh=>exact m
   |rd=>have:=hg rfl;unfold flat at this;cases this
  exact⟨a,rfl,.inl ⟨us,aV.of h,k _ _ _ _ s (aC2 tw (λW' H' e=>aV.of (e _ _ h wa rfl).1) (jI px (λz=>by have:=hg z;unfold flat at this;cases this) r)) q⟩⟩
 ·obtain⟨a,us,rfl,h,r⟩:=r.sqT
  refine⟨a,rfl,.inr ⟨us,aW.of h,k _ _ _ _ s (aC3 tw (λW' H' e=>aW.of (e _ _ h (λz=>?_) rfl).1) (jI px (λz=>by have:=hg z;unfold flat at this;exact this) r)) q⟩⟩
  obtain⟨o,h',mu⟩:=tw _ z;rw[h]at h';cases h';cases mu
theorem aC5 {elts:List Expr}{kt:Nat}{pt p2 pos:Pos}{a:Expr}{ta:aO}(hg:Gl X "enumerate")(hm:X.mg "enumerate" = none)(ha:QE X a ta)(hs:starEach [a] X.env = [(false,eval a X.env)]:=by rfl):QI X (.Tuple elts kt pt) (.Call (.Name "enumerate" p2) [a] [] pos) (vS ta):=
 nN (aB8 hg hm (dS ha eN hs) hs) λ_ _ _=>aC4
end
section
variable {X:Cx}{e:Expr}{te:aO}{pos p2:Pos}{scope:Scope}{N:List Str}{fr:List (Option Nat)}{x y:Str}{tp xp yp:Pos}{kt:Nat}{iter elt:Expr}{ti:e8}
noncomputable abbrev vT (x y:Str)(xp yp:Pos)(kt:Nat)(tp:Pos):Expr:=.Tuple [.Name x xp,.Name y yp] kt tp
theorem aC6 {ifs:List Expr}{tcs:cD}(hc:X.calm=true)(he:∀(s:aq) (H:Hp) (C:ar) (fp:List ar),QE (bB X scope N s H C fp cW) elt te)(hi:∀(s:aq) (H:Hp) (C:ar) (fp:List ar),i4 (bB X scope N s H C fp cW) ifs (LT (bB X scope N s H C fp cW) tcs))(hN:N.Nodup)(h0:N[0]? = some x)(h1:N[1]? = some y)(hl:∀(s:aq) (H:Hp) (C:ar) (fp:List ar),(bB X scope N s H C fp cW).env.scope.names.lookup x=some .local)(hl2:∀(s:aq) (H:Hp) (C:ar) (fp:List ar),(bB X scope N s H C fp cW).env.scope.names.lookup y=some .local)(s:aq)(H:Hp) :
  lK X scope N (vT x y xp yp kt tp) ifs elt s H (lC X.K 2 (gP (cO 0) (gP (cO 1) lB))) (LT (X.frm H) tcs) (LE (X.frm H) te):=
 ⟨λC fp=>mT (X:=bB X scope N s H C fp cW) hc (hU (eU hN h0 (.inl (hl s H C fp)) (.inr (hl s H C fp))) (hU (eU hN h1 (.inl (hl2 s H C fp)) (.inr (hl2 s H C fp))) mS)),λC fp=>hi s H C fp,λC fp=>he s H C fp⟩
theorem aC7 (hi:QI X (vT x y xp yp kt tp) iter ti)(he:∀(s:aq) (H:Hp) (C:ar) (fp:List ar),QE (bB X scope N s H C fp cW) elt te)(hc:X.calm=true:=by rfl)(S:cE X scope N fr:=by exact cE.of rfl rfl)(hN:N.Nodup:=by decide +kernel)(h0:N[0]? = some x:=by rfl)(h1:N[1]? = some y:=by rfl)(hl:∀(s:aq) (H:Hp) (C:ar) (fp:List ar),(bB X scope N s H C fp cW).env.scope.names.lookup x=some .local:=by intro _ _ _ _;rfl)(hl2:∀(s:aq) (H:Hp) (C:ar) (fp:List ar),(bB X scope N s H C fp cW).env.scope.names.lookup y=some .local:=by intro _ _ _ _;rfl)(hf:fr[0]? = some none:=by rfl)(hf2:fr[1]? = some none:=by rfl)(hs:∀x,foldedSetIterable iter X.env x=pure x:=by intro _;rfl):QE X (.ListComp elt [⟨vT x y xp yp kt tp,iter,[],0⟩] scope pos) (cZ ti fr (kE 0 1) dC te):=
 bS (tJ (gh:=λ_=>lC X.K 2 (gP (cO 0) (gP (cO 1) lB))) (tch:=λH=>LT (X.frm H) dC) (teh:=λH=>LE (X.frm H) te) hc S hi (aC6 hc he (λ_ _ _ _=>pQ) hN h0 h1 hl hl2) hs) λ_ _ _=>nM (B2 _ 0 1) (λi e=>by rcases e with e|e<;>(subst e;assumption))
end
section
variable {X:Cx}{a b e o f:Expr}{ta tb te td tk tx:aO}{pos p2 ag ah:Pos}{σ:L2.St}{H:Hp}{Q':VK}
noncomputable def K8:PV->Tg->PV->Tg->PK->Prop:=λx _ y _ Q=>∃xs n,x = .lst xs/\y = .int n/\flats xs=true/\-1000000<=n/\n<=1000000/\xs.length<=10/\Q (.lst (List.replicate n.toNat xs).flatten) .fr
noncomputable abbrev K9 (ta tb:aO):aO:=q2 K8 ta tb
theorem aC8:dG X K8 yO:=by
 rintro W Hs H u v x y g g' Q Q' s n r1 r2 ⟨xs,m,rfl,rfl,f,h1,h2,hl,q⟩ k;cases r2
 obtain⟨a,us,rfl,mm,h,r⟩:=r1.sqL
 have lr:=r.length;refine⟨a,m,us,rfl,rfl,h,by omega,by omega,lim ?_,λp hp=>k _ _ _ .fr (bC hp _) (.lst (s.free hp) bD (((r.flat f).rep m.toNat).same (bC hp _) λ_ z=>z)) q⟩;have h3:us.length<=10:=by omega
 have h4:m.toNat<=1000000:=by omega
 calc us.length*m.toNat<=10*1000000:=Nat.mul_le_mul h3 h4
  _<=16000000:=by decide
theorem aC9 (ha:QE X a ta)(hb:QE X b tb):QE X (.BinOp a .Mult b pos) (K9 ta tb):=iY ai7 aC8 ha hb
theorem jQ {x:Str}{n:Int}{t:Nat}(hg:Gl X x)(hm:X.mg x=some (.int n t))(hd:(x==("__debug__":Str))=false:=by decide):QE X (.Name x pos) (qC (.int n)):=
 bS (oH (v:=.int n) hg hm ⟨t,rfl⟩ hd) λ_ _ _=>lN λ_=>.int n
end
section
variable {X:Cx}{a b:Expr}{ta tb:aO}{pos:Pos}
noncomputable def L4:PV->Tg->PV->Tg->PK->Prop:=λx _ y _ Q=>∃xs ys,x = .tup xs/\y = .tup ys/\flats xs=true/\flats ys=true/\xs.length+ys.length<=16000000/\Q (.tup (xs++ys)) .fr
noncomputable abbrev mC (ta tb:aO):aO:=q2 L4 ta tb
theorem aD0:dG X L4 (K6 X.K):=by
 rintro W Hs H u v x y g g' Q Q' s n r1 r2 ⟨xs,ys,rfl,rfl,f1,f2,hl,q⟩ k
 obtain⟨a,us,rfl,h1,q1⟩:=r1.sqT
 obtain⟨b,ws,rfl,h2,q2⟩:=r2.sqT
 have l1:=q1.length;have l2:=q2.length;refine⟨a,b,us,ws,rfl,rfl,aW.of h1,aW.of h2,lim (by omega),λz=>?_,λ_ z=>?_,λ_ _ p hp=>k _ _ _ .fr (bC hp _) (.tup bD (((q1.flat f1).append (q2.flat f2)).same (bC hp _) λ_ z=>z)) q⟩
 ·obtain rfl:xs = []:=by cases xs with
   |nil=>rfl
   |cons _ _=>rw[z]at l1;cases l1
  exact k _ _ _ .fr (aI.refl _) (.tup h2 (q2.flat f2)) q
 ·obtain rfl:ys = []:=by cases ys with
   |nil=>rfl
   |cons _ _=>rw[z]at l2;cases l2
  rw[bm9]at q;exact k _ _ _ .fr (aI.refl _) (.tup h1 (q1.flat f1)) q
theorem nW (ha:QE X a ta)(hb:QE X b tb):QE X (.BinOp a .Add b pos) (mC ta tb):=iY aC0 aD0 ha hb
end
end PP
namespace Core
open PySem L2 PP
section
variable (ws:ae)(ls:aa)(os ns:ae)
noncomputable def fX:Nat->ae
 |0=>[]
 |k+1=>fX k++(os.find? (kin ws ls (ns++fX k))).toList
noncomputable def nX (k:Nat):Option Int:=os.find? (kin ws ls (ns++fX ws ls os ns k))
end
section
variable {ws:ae}{ls:aa}{os ns:ae}
theorem aD1 {k:Nat}{h:Int}(e:nX ws ls os ns k=some h):fX ws ls os ns (k+1)=fX ws ls os ns k++[h]:=by
 show fX ws ls os ns k++(nX ws ls os ns k).toList=_;rw[e];rfl
noncomputable def aD2 (ws:ae)(ls:aa)(T:ae):Prop:=∀h∈rng ws.length,kin ws ls T h=false
theorem aD3 {k:Nat}{h:Int}(e:nX ws ls os ns k=some h):h∈os/\h∉ns++fX ws ls os ns k:=
 ⟨List.mem_of_find?_eq_some e,of_decide_eq_false (v8 (List.find?_some e))⟩
theorem aD4 (po:os.Perm (rng ws.length))(hs:fC ws.length ns=true):∀k,(ns++fX ws ls os ns k).Nodup/\∀x∈ns++fX ws ls os ns k,x∈rng ws.length
 |0=>by
  rw[show fX ws ls os ns 0 = [] from rfl,bm9]
  exact⟨(nR (m9 hs).1).imp λh=>Int.ne_of_lt h,λx hx=>F9.mpr ((m9 hs).2 x hx)⟩
 |k+1=>by
  obtain⟨i1,i2⟩:=aD4 po hs k
  cases e:nX ws ls os ns k with
  |none=>
   have:fX ws ls os ns (k+1)=fX ws ls os ns k:=by
    show fX ws ls os ns k++(nX ws ls os ns k).toList=_;rw[e];exact bm9 _
   rw[this];exact⟨i1,i2⟩
  |some h=>
   obtain⟨n1,n2⟩:=aD3 e
   rw[aD1 e,<- List.append_assoc];refine⟨List.nodup_append.mpr ⟨i1,List.pairwise_singleton _ _,λx hx y hy=>?_⟩,λx hx=>?_⟩
   ·rw[bh5.mp hy];intro z;subst z;exact n2 hx
   ·rcases bs3.mp hx with hx|hx
    ·exact i2 x hx
    ·rw[bh5.mp hx];exact po.mem_iff.mp n1
theorem L5 (hs:fC ws.length ns=true):∀k,(bJ ws ls ns k).Nodup
 |0=>(nR (m9 hs).1).imp λh=>Int.ne_of_lt h
 |k+1=>by
  show (bJ ws ls ns k++nextOf ws ls (bJ ws ls ns k)).Nodup;refine List.nodup_append.mpr ⟨L5 hs k,(az9 ws.length).filter _,λx hx y hy=>?_⟩;intro z;subst z;exact of_decide_eq_false (v8 (List.mem_filter.mp hy).2) hx
end
noncomputable def aD5:bH:=λxs Q=>∃ws ls x os,xs = [cP ws ls,x]/\ws.length<=40/\cQ x os/\os.Perm (rng ws.length)/\Q (.bl true)
noncomputable def L6:aP:=(bG (q2 (lV 2 false) (aK mB (aB (aA 1) aF)) (nU (aK cR (aB (aA 0) aF)))))
theorem aD6 (n:Nat):(rng n).Pairwise (· <= ·):=by
 unfold rng;rw[List.pairwise_map];exact List.pairwise_lt_range.imp λh=>by omega
theorem aD7:c9 L6 ["web","numbers"] aD5:=by
 rintro xs Q ⟨ws,ls,x,os,rfl,few,hx,po,q⟩;have lo:=po.length_eq;rw[vB]at lo;refine⟨_,rfl,_,os,rfl,hx.seq,by omega,λms pm sm=>?_⟩;obtain rfl:ms=rng ws.length:=aA0 (pm.trans po) sm (aD6 _);refine⟨_,rfl,ws,ls,rfl,_,rfl,by omega,by omega,?_⟩;rw[vM];refine⟨.inr ⟨_,_,rfl,rfl⟩,C1 2 _ _,trivial,?_⟩;show Q (.bl (cF 3 (.lst (intz (rng ws.length))) (.lst (intz (rng ((ws.length:Int).toNat))))));rw[show ((ws.length:Int).toNat)=ws.length from rfl,B9,bj1 rfl];exact q
noncomputable def vU:Option Int->PV
 |none=>.non
 |some h=>.int h
noncomputable def nY:bH:=λxs Q=>∃ws ls ps S x os,xs = [cP ws ls,.lst (j7 ws.length ls),.dK ps,x]/\Wb ws ls/\DS ps S/\cQ x os/\(∀h∈os,h∈rng ws.length)/\Q (vU (os.find? (kin ws ls S)))
noncomputable def L7:aP:=(aM (e9 (cY (aA 3)) (bT 4)
  (bA (b5 (aK jP (aB (aA 0) (aB (aA 1) (aB (aA 2) (aB (aA 4) aF)))))) (fS 4) bQ))
 (bG (qC .non)))
theorem aD8 {os:ae}{p:Int->Bool}{i:Nat}{h:Int}(e:(os.take i).find? p=none)(hh:os[i]? = some h):(p h=true->os.find? p=some h)/\(p h=false->(os.take (i+1)).find? p=none):=by
 constructor
 ·intro hp
  have h1:os=os.take (i+1)++os.drop (i+1):=(List.take_append_drop _ _).symm;rw[h1,List.find?_append,bj7,hh,List.find?_append,e];simp[hp]
 ·intro hp
  rw[bj7,hh,List.find?_append,e];simp[hp]
theorem aD9:c9 L7 ["web","around","burning","order","hearth"] nY:=by
 rintro xs Q ⟨ws,ls,ps,S,x,os,rfl,wb,d,hx,inn,q⟩;refine⟨_,rfl,_,hx.seq,kT hx,λi ρ=>∃y,ρ = [some (.sh (flat (cP ws ls)) (cP ws ls)),some (.sh (flat (.lst (j7 ws.length ls))) (.lst (j7 ws.length ls))),some (.sh (flat (.dK ps)) (.dK ps)),some (.sh (flat x) x),y]/\(os.take i).find? (kin ws ls S)=none,⟨none,rfl,rfl⟩,?_,?_⟩
 ·rintro i y ρ hy ⟨y0,rfl,fn⟩
  obtain⟨h,rfl,hh⟩:=jO hy
  have hm:=F9.mp (inn h (bo2 hh));have ft:=aD8 fn hh;refine⟨_,rfl,_,rfl,_,rfl,_,rfl,ws,ls,ps,S,h,rfl,wb,d,hm.1,hm.2,_,rfl,?_⟩;cases hk:kin ws ls S h with
  |true=>
   refine b4 ⟨_,rfl,?_,?_⟩
   ·show Slot.nw (.sh (_||true) _)
    rw[Bool.or_true];trivial
   ·rw[ft.1 hk]at q;exact q
  |false=>exact aQ ⟨some (.sh (_||true) (.int h)),rfl,ft.2 hk⟩
 ·rintro ρ ⟨y,rfl,fn⟩
  rw[dE,bj2]at fn;rw[fn]at q
  exact⟨trivial,q⟩
theorem fY {i:Nat}{h:Int}{g:Bool}{ρ:bK}{Q:bK->Prop}(q:Q (ρ.set i (some (.sh true (.int h))))):bT i (.int h) g ρ Q:=by
 show Q (ρ.set i (some (.sh (g||true) (.int h))));rw[Bool.or_true];exact q
noncomputable def aE0 (ns S:ae):Int:=(ns.length:Int)-(((ns.filter λx=>decide (x∈S)).length:Nat):Int)
noncomputable def mD:bH:=λxs Q=>∃x ns y ms,xs = [x,y]/\cQ x ns/\cQ y ms/\ns.length<=10000/\ms.length<=1000/\Q (.tup (intz (ns.filter λz=>!decide (z∈ms))))
noncomputable def L8:aP:=(aM (bE 2 (aK fW (aB (aA 1) aF)))
 (bG (aK gU (aB (cZ (cY (aA 0)) [none,some 2] (bT 0) (b5 (fG true (aA 0) (aA 1))) (aA 0)) aF))))
theorem aE1:c9 L8 ["hearths","some","gone"] mD:=by
 rintro xs Q ⟨x,ns,y,ms,rfl,hx,hy,hl,hm,q⟩;refine⟨_,rfl,y,ms,rfl,hy,hm,λps d=>⟨trivial,?_⟩⟩;refine⟨_,rfl,_,hx.seq,kT hx,by rw[dE];omega,λi acc=>acc=intz ((ns.take i).filter λz=>!decide (z∈ms)),rfl,?_,?_⟩
 ·rintro i z acc hz rfl
  obtain⟨n,rfl,hn⟩:=jO hz
  have tk:=vC (p:=λz=>!decide (z∈ms)) hn;refine⟨_,rfl,_,rfl,_,.inl ⟨ps,Sum.inl n,rfl,rfl,rfl⟩,_,rfl,?_⟩;show if (!(bL ps (Sum.inl n:aH)).isSome)=true then _ else _
  rw[d.has n];by_cases h:n∈ms
  ·rw[bj1 h]at tk ⊢
   refine aQ ?_;show _=intz (List.filter _ (List.take (i+1) ns));rw[tk];exact congrArg intz (bm9 _).symm
  ·rw[bg1 h]at tk ⊢
   refine b4 ⟨_,rfl,trivial,?_⟩;show _=intz (List.filter _ (List.take (i+1) ns));rw[tk,m5];rfl
 ·rintro acc rfl
  rw[dE,bj2]
  exact⟨⟨_,_,rfl,rfl,i5 _,trivial,q⟩,λns z=>by cases z⟩
noncomputable def aE2 (ws:ae)(ls:aa)(S:ae)(h:Int):Bool:=decide (aE0 (dB ls h) S<ws.getD h.toNat 0)
noncomputable def stay (ws:ae)(ls:aa)(S:ae):ae:=S.filter (aE2 ws ls S)
section
variable {ws:ae}{ls:aa}{ns:ae}
noncomputable def aE3 (n:Nat)(S:ae):ae:=(rng n).filter λx=>!decide (x∈S)
end
end Core
namespace Raw
open PySem PySem.W PyProof.Rows
section
variable {prog:av}{w:ax}{A:aw}{E:ao→aq→Prop}{s:aq}{T:String}{r d:ar}{n:Nat}{P:Nat→ao→Prop}{OK:Heap→Prop}
theorem aE4 {R:Result->aq->Prop}(K:KdlSrc prog w T r d n P OK)(hh:A.handled=none)(hok:OK s.heap)(hn:n<=sizeLine)(hR:∀h' tk acc c,(∀b o,b≠s.heap.objs.size->(s.heap.push { cls:=.type "list",data:=.seq ([]:List ao).toArray }).get? b=some o->h'.get? b=some o)->h'.get? s.heap.objs.size=some { cls:=.type "list",dict:=none,data:=.seq acc c,slots:=#[] }->ItemsOf P acc n->R (.ok (.ret (.ref s.heap.objs.size))) { s with heap:=h',toks:=tk }) :
  codeAny (model prog w) A (.builtin "proto.collect" ⟨[.ref r],[]⟩) R s:=by
 have lt:=K.there _ hok;refine bu6 PySem.F.entry_proto_collect ?_;rw[Around.under_plainId PySem.F.plain_proto_collect _];show wpAny _ A.in1 (newList [] >>= λl=>again (.builtin "list.__iadd__" ⟨[l,.ref r],[]⟩)) _ _ s;refine be2 (bi8 ?_);refine be6 ⟨plainId_quiet PySem.F.plain_list_iadd _,bu6 PySem.F.entry_list_iadd ?_⟩;rw[Around.under_plainId PySem.F.plain_list_iadd _];show wpAny _ A.in1 (Builtin.List.listExtendWith (.ref s.heap.objs.size) (.ref r) (.ref s.heap.objs.size)) _ _ _;exact kdl_extend (s:={ s with heap:=s.heap.push { cls:=.type "list",data:=.seq ([]:List ao).toArray } }) (R:=R) K hh (K.keep _ _ hok λb _ o e=>be4 _ e) s.heap.objs.size (bl4 lt.1) (bl4 lt.2) _ 0 (bf0 _ rfl) hR hn
theorem aE5 {Q:List ao->aq->Prop}(K:KdlSrc prog w T r d n P OK)(hh:A.handled=none)(hok:OK s.heap)(hn:n<=sizeLine)(hQ:∀h' tk acc,(∀b o,s.heap.get? b=some o->h'.get? b=some o)->s.heap.objs.size<=h'.objs.size->ItemsOf P acc n->Q acc.toList { s with heap:=h',toks:=tk }) :
  wpAny (model prog w) A (collect (.ref r)) Q E s:=by
 unfold collect;refine be2 (wpAny_runValue (aE4 (s:=s) K hh hok hn λh' tk acc c kp at1 it=>?_));show wpAny _ A (load s.heap.objs.size >>= _) _ _ _;refine be2 (wpAny_load at1 ?_);exact be6 (hQ h' tk acc (λb o e=>kp b o (bh6 (bf4 e)) (be4 _ e)) (bm6 (bf4 at1)) it)
theorem aE6 {Q:ao->aq->Prop}{G:ae->Prop}(K:KdlSrc prog w T r d n P OK)(hh:A.handled=none)(hok:OK s.heap)(hn:n<64)(hI:∀acc,ItemsOf P acc n->∃ns,IntsAre acc.toList ns/\G ns)(h:∀h' tk a (out:Array ao) (ns ns':ae) e,(∀b o,s.heap.get? b=some o->h'.get? b=some o)->s.heap.objs.size<=a->h'.get? a=some (seqObj "list" out e)->IntsAre out.toList ns'->G ns->ns'.Perm ns->ns'.Pairwise (· <= ·)->Q (.ref a) { s with heap:=h',toks:=tk }) :
  wpAny (model prog w) A (call (.builtin "sorted") [.ref r]) Q E s:=by
 have hsl:n<=sizeLine:=bj5 (bm6 hn) (by decide);refine Calls.call_function_entry kind_sorted plain_sorted entry_sorted (args_sorted1 _) ?_;unfold Builtin.«sorted»;refine be2 (m:=checkCount "sorted" 1 1 _) (be6 ?_);refine be2 (aE5 (s:=s) K hh hok hsl λh' tk acc kp hs it=>?_)
 obtain⟨ns,hi,g⟩:=hI acc it
 have hz:acc.toList.length<64:=by rw[bk9,it.1];exact hn
 refine be2 (wpAny_newList ?_ (bj5 (bm6 hz) (by decide)));have hoL:(h'.push (seqObj "list" acc.toList.toArray 0)).get? h'.objs.size=some (seqObj "list" acc.toList.toArray 0):=bf0 _ rfl;show wpAny _ _ _ _ _ { s with heap:=h'.push (seqObj "list" acc.toList.toArray 0),toks:=tk };refine be2 (bv6 (bj8 slot_list_sort ⟨_,hoL,rfl⟩ entry_list_sort (list_sort_tree hoL hi hz λout ns' a1 a2 a3=>⟨_,rfl,?_⟩) (args_list_sort _)))
 obtain⟨e,he⟩:=sortedHeap_at (vs:=acc.toList) (out:=out) hoL
 refine be6 ⟨_,rfl,h _ tk h'.objs.size out ns ns' e (λb o hb=>?_) hs he a1 g a2 a3⟩;have lt:=bf4 (kp b o hb);rw[sortedHeap_old (bh6 lt) (by rw[size_push'];exact Nat.lt_succ_of_lt lt)];exact be4 _ (kp b o hb)
end
end Raw
namespace L2
open PySem PySem.Spec PyProof.Rows
section
variable {X:Cx}
theorem aE7 (hc:X.calm=true):cV X (.builtin "sorted") (λxs H Q=>∃a kvs ns,xs = [.ref a]/\H a=some (.dK kvs)/\kvs.map (·.1)=ns.map Sum.inl/\ns.length<64/\∀l (ms:ae),H l=none->ms.Perm ns->ms.Pairwise (· <= ·)->Q (.ref l) (upd H l (.lst (ms.map V.int)))):=by
 intro af s σ H xs us Q I r h
 obtain⟨a,kvs,ns,rfl,ha,hk,h64,q⟩:=h
 obtain⟨u,rfl,ru⟩:=eW r
 cases ru
 obtain⟨es,ep,rd,far,vk,z⟩:=am2 I ha
 have hl:=vk.length;have hl2:=congrArg List.length hk;rw[be9,be9]at hl hl2;have hsz:es.toList.length=es.size:=bk9;have e1:(kvs.map λp=>kV p.1)=ns.map V.int:=by
  have:(kvs.map λp=>kV p.1)=(kvs.map (·.1)).map kV:=by rw[List.map_map];rfl
  rw[this,hk,List.map_map];rfl
 rw[e1]at vk;refine Raw.aE6 (G:=λms=>ms=ns) (Raw.am0 far) (I.ok.hd hc) rd (by omega) (λacc it=>⟨ns,by rw[am3 it];exact oQ vk,rfl⟩) λh' tk l out ns1 ns' e kp hn he a1 g a2 a3=>?_
 subst g;have ai:ns'.length=ns1.length:=a2.length_eq;refine⟨.ref l,upd H l (.lst (ns'.map V.int)),I.laid (t':=tk) kp hn ⟨?_,out.toList,e,nA a1,by simpa using he⟩,rfl,q _ ns' (I.hok.fresh hn) a2 a3⟩;rw[be9,ai];exact bm6 (nB (by omega))
end
end L2
namespace PP
open PySem L2 PyProof.Rows
section
variable {X:Cx}{a b e:Expr}{ta tb te:aO}{tr:cA}{pos p2:Pos}
noncomputable def pX:List PV->(PV->Prop)->Prop:=λxs Q=>∃(ps:List (aH×PV)) (ns:ae),xs = [.dK ps]/\ps.map (·.1)=ns.map Sum.inl/\ns.length<64/\∀ms:ae,ms.Perm ns->ms.Pairwise (· <= ·)->Q (.lst (intz ms))
theorem aE8:eY X pX (λxs H Q=>∃a kvs ns,xs = [.ref a]/\H a=some (.dK kvs)/\kvs.map (·.1)=ns.map Sum.inl/\ns.length<64/\∀l (ms:ae),H l=none->ms.Perm ns->ms.Pairwise (· <= ·)->Q (.ref l) (upd H l (.lst (ms.map V.int)))):=by
 rintro H vs xs Q Q' r ⟨ps,ns,rfl,e,hl,q⟩ k
 obtain⟨v,rfl,r1⟩:=r.one
 cases r1 with
 |@dK a kvs _ m h e2 r2=>
  exact⟨a,kvs,ns,rfl,h,e2.trans e,hl,λl ms hl' p o=>k _ _ _ (bC hl' _) (.lst hl' bD (Reps.intz ms)) (q ms p o)⟩
theorem L9 (B:Bt X.mg)(hc:X.calm=true)(ha:QA X [e] tr)(hg:Gl X "sorted":=by rfl)(he:starEach [e] X.env=(false,eval e X.env)::starEach [] X.env:=by rfl)(hpl:(backTo pos (starEach [] X.env)).any (·.1)=false:=by rfl):QE X (.Call (.Name "sorted" p2) [e] [] pos) (aK pX tr):=
 i9 (aE7 hc) aE8 hg B.sorted PyProof.Rows.boot_sorted ha (he:=he) (hpl:=hpl)
end
end PP
namespace Core
open PySem L2 PP
noncomputable def gH (k:Nat)(r:ae):List (aH×PV):=r.map λh=>((Sum.inl h:aH),PV.int (k:Int))
noncomputable def j9 (rs:ad):List (aH×PV):=(rs.mapIdx gH).flatten
theorem aE9 (rs:ad)(r:ae):j9 (rs++[r])=j9 rs++gH rs.length r:=by
 unfold j9;rw[List.mapIdx_append,List.flatten_append];simp
theorem M0 (k:Nat)(r:ae):(gH k r).map (·.1)=r.map Sum.inl:=by
 unfold gH;rw[List.map_map];rfl
theorem M3:∀(rs:ad) (g:Nat->Nat),((rs.mapIdx λi r=>gH (g i) r).flatten).map (·.1)=rs.flatten.map (Sum.inl:Int->aH)
 |[],_=>rfl
 |r::t,g=>by
  rw[List.mapIdx_cons,bn7,bn7,bi9,bi9,M0,M3 t λi=>g (i+1)]
theorem M4 (rs:ad):(j9 rs).map (·.1)=rs.flatten.map (Sum.inl:Int->aH):=M3 rs λi=>i
theorem aF0 {ps:List (aH×PV)}{h:Int}{v:PV}{S:ae}(e:ps.map (·.1)=S.map Sum.inl)(hn:h∉S):dD ps (Sum.inl h:aH) v=ps++[(Sum.inl h,v)]:=by
 unfold dD;rw[if_neg];intro z;rw[List.any_eq_true]at z
 obtain⟨p,hp,hq⟩:=z
 have:p.1∈ps.map (·.1):=bv4.mpr ⟨p,hp,rfl⟩
 rw[e,of_decide_eq_true hq]at this
 obtain⟨y,hy,e2⟩:=bv4.mp this
 exact hn (Sum.inl.inj e2▸hy)
theorem aF1 {k:Nat}{r:ae}{i:Nat}{n:Int}(h:r[i]? = some n):gH k (r.take (i+1))=gH k (r.take i)++[(Sum.inl n,PV.int (k:Int))]:=by
 unfold gH;rw[bj7,h,bi9];rfl
end Core
namespace L2
open PySem PySem.Spec PyProof.Rows
theorem M5:∀(n:Nat) (ns:ae),n<=ns.length->preSum (λi=>ns.getD i 0) n=(ns.take n).sum
 |0,_,_=>by simp[preSum]
 |n+1,ns,h=>by
  show preSum (λi=>ns.getD i 0) n+ns.getD n 0=_;have h1:ns[n]? = some (ns[n]'(by omega)):=bf3 (by omega);have h2:ns.take (n+1)=ns.take n++[ns[n]'(by omega)]:=by rw[bj7,h1];rfl
  have h3:ns.getD n 0=ns[n]'(by omega):=by rw[bi3,h1];rfl
  rw[M5 n ns (by omega),h2,h3,List.sum_append,List.sum_cons,List.sum_nil];omega
section
variable {X:Cx}
theorem aF2 (hc:X.calm=true):cV X (.builtin "sum") (λxs H Q=>∃(a:ar) (ns:ae),xs = [.ref a]/\(aV X.K H a (ns.map V.int)∨aW X.K H a (ns.map V.int))/\Q (.int ns.sum) H):=by
 intro af s σ H xs us Q I r h
 obtain⟨a,ns,rfl,hq,q⟩:=h
 obtain⟨u,rfl,ru⟩:=eW r
 cases ru;have hh:X.A.in1.handled=none:=I.ok.hd hc;have fin:∀(its:List ao) (o:Obj) (wr:List ar) (hw:∀b∈wr,s.heap.objs.size<=b),aY (ns.map V.int) its->∀s' t',Moved wr (λa b=>b=a) { s with heap:=s.heap.push o } s'->
   ∃x H',aE X af σ H' s'/\b7 x (.int (preSum (λi=>ns.getD i 0) its.toArray.size) t')/\Q x H':=λits o wr hw rv s' t' hm=>by
  have hl:=rv.length;rw[be9]at hl;have e:=Moved.eq_with hm;have e2:preSum (λi=>ns.getD i 0) its.toArray.size=ns.sum:=by rw[be5,<- hl,M5 _ _ (be7 _),bj2]
  rw[e2,e];refine⟨.int ns.sum,H,I.kept (t':=s'.toks) (h':=s'.heap) λb o' eb=>hm.heap b o' (λz=>?_) (be4 _ eb),⟨t',rfl⟩,q⟩;exact absurd (bf4 eb) (Nat.not_lt.mpr (hw b z))
 have val:∀(its:List ao),aY (ns.map V.int) its->∀(i:Nat) (v:ao),its.toArray[i]? = some v->∃t,v = .int (ns.getD i 0) t:=λits rv i v hv=>by
  have hi:its[i]? = some v:=by simpa using hv
  have hl:=rv.length;rw[be9]at hl;have hil:i<ns.length:=by rw[hl];exact (bf7.mp hi).1
  obtain⟨u,e1,e2⟩:=rv.get (i:=i) (x:=.int ns[i]) (by simp[hil])
  rw[hi]at e1;cases e1
  obtain⟨t,rfl⟩:=e2
  exact⟨t,by rw[bi3,bf3 hil];rfl⟩
 rcases hq with hq|hq
 ·obtain⟨its,rv,p,hz⟩:=I.list hq
  have hlt:a<s.heap.objs.size:=by obtain⟨o,e,_⟩:=p.isList;exact bf4 e
  refine call_sum_walkAnyS (wpAny_pyIter_list p.isList ?_);refine⟨s.heap.objs.size,_,_,_,_,_,_,λi=>ns.getD i 0,rfl,(Walks.list hh s.heap.objs.size a (bh6 hlt) its.toArray).toS,⟨⟨_,bf0 _ rfl,rfl,rfl⟩,p.isList.push _⟩,?_,val its rv,λs' t' hm=>fin its _ _ ?_ rv s' t' hm⟩
  ·intro b hb
   have hs:(s.heap.push { cls:=.type "list_iterator",data:=.fields #[.ref a,.int 0 0] }).objs.size=s.heap.objs.size+1:=size_push' _ _;show b<(s.heap.push _).objs.size;rw[size_push'];rcases be8.mp hb with rfl|hb
   ·exact Nat.lt_succ_self _
   ·rw[bh5.mp hb];exact Nat.lt_succ_of_lt hlt
  ·intro b hb
   rw[bh5.mp hb];exact be7 _
 ·obtain⟨its,rv,p,hz⟩:=I.tuple hq
  have hlt:a<s.heap.objs.size:=by obtain⟨o,e,_⟩:=p;exact bf4 e
  refine call_sum_walkAnyS (br1 p ?_);refine⟨s.heap.objs.size,_,_,_,_,_,_,λi=>ns.getD i 0,rfl,(Walks.tuple hh s.heap.objs.size a (bh6 hlt) its.toArray).toS,⟨⟨_,bf0 _ rfl,rfl,rfl⟩,?_⟩,?_,val its rv,λs' t' hm=>fin its _ _ ?_ rv s' t' hm⟩
  ·obtain⟨o,e,h⟩:=p
   exact⟨o,be4 _ e,h⟩
  ·intro b hb
   show b<(s.heap.push _).objs.size;rw[size_push'];rcases be8.mp hb with rfl|hb
   ·exact Nat.lt_succ_self _
   ·rw[bh5.mp hb];exact Nat.lt_succ_of_lt hlt
  ·intro b hb
   rw[bh5.mp hb];exact be7 _
theorem aF3 (hc:X.calm=true):cV X (.builtin "any") (λxs H Q=>∃(a:ar) (bs:List Bool),xs = [.ref a]/\aV X.K H a (bs.map V.bl)/\Q (.bl (bs.any id)) H):=by
 intro af s σ H xs us Q I r h
 obtain⟨a,bs,rfl,hq,q⟩:=h
 obtain⟨u,rfl,ru⟩:=eW r
 cases ru
 obtain⟨its,rv,p,hz⟩:=I.list hq
 have hl:=rv.length;rw[be9]at hl;have hlt:a<s.heap.objs.size:=by obtain⟨o,e,_⟩:=p.isList;exact bf4 e
 refine call_any_walk (wpAny_pyIter_list p.isList ?_);have hh:X.A.in1.handled=none:=I.ok.hd hc;refine⟨s.heap.objs.size,_,_,_,_,_,λi=>bs.getD i false,rfl,Walks.list hh s.heap.objs.size a (bh6 hlt) its.toArray,⟨⟨_,bf0 _ rfl,rfl,rfl⟩,p.isList.push _⟩,?_,λh' tk kp=>?_⟩
 ·intro i v s' Q' E' hP hQ'
  have hi:its[i]? = some v:=by simpa using hP
  have hil:i<bs.length:=by rw[hl];exact (bf7.mp hi).1
  obtain⟨u,e1,e2⟩:=rv.get (i:=i) (x:=.bl bs[i]) (by simp[hil])
  rw[hi]at e1;cases e1;cases e2
  have:bs.getD i false=bs[i]:=by rw[bi3,bf3 hil];rfl
  have hQ2:Q' (bs.getD i false) s':=hQ';rw[this]at hQ2;exact br9 hQ2
 ·have any_eq:(List.range its.toArray.size).any (λi=>bs.getD i false)=bs.any id:=by
   rw[be5,<- hl];clear q rv hz hl hq hlt p hh kp
   induction bs with
   |nil=>rfl
   |cons b r ih=>
    rw[bm3,List.range_succ_eq_map,List.any_cons,List.any_map,List.any_cons,<- ih];rfl
  rw[any_eq];refine⟨.bl (bs.any id),H,I.kept (t':=tk) (h':=h') λb o e=>kp b o (λz=>?_) (be4 _ e),rfl,q⟩;rw[bh5.mp z]at e;exact absurd (bf4 e) (bj9 _)
end
end L2
namespace PP
open PySem L2 PyProof.Rows
section
variable {X:Cx}{a b e:Expr}{ta tb te:aO}{tr:cA}{pos p2:Pos}
noncomputable def vV:List PV->(PV->Prop)->Prop:=λxs Q=>∃x ns,xs = [x]/\jH x=some (intz ns)/\Q (.int ns.sum)
theorem aF4:eY X vV (λxs H Q=>∃(a:ar) (ns:ae),xs = [.ref a]/\(aV X.K H a (ns.map V.int)∨aW X.K H a (ns.map V.int))/\Q (.int ns.sum) H):=by
 rintro H vs xs Q Q' r ⟨x,ns,rfl,e,q⟩ k
 obtain⟨v,rfl,r1⟩:=r.one
 obtain⟨a,us,rfl,hs,r2⟩:=r1.seq e
 obtain rfl:=r2.ofInts
 exact⟨a,ns,rfl,hs,k _ _ _ (aI.refl _) (.int _) q⟩
theorem aF5 (B:Bt X.mg)(hc:X.calm=true)(ha:QA X [e] tr)(hg:Gl X "sum":=by rfl)(he:starEach [e] X.env=(false,eval e X.env)::starEach [] X.env:=by rfl)(hpl:(backTo pos (starEach [] X.env)).any (·.1)=false:=by rfl):QE X (.Call (.Name "sum" p2) [e] [] pos) (aK vV tr):=
 i9 (aF2 hc) aF4 hg B.sum PyProof.Rows.boot_sum ha (he:=he) (hpl:=hpl)
noncomputable def vW:List PV->(PV->Prop)->Prop:=λxs Q=>∃bs:List Bool,xs = [.lst (bs.map PV.bl)]/\Q (.bl (bs.any id))
theorem aF6:eY X vW (λxs H Q=>∃(a:ar) (bs:List Bool),xs = [.ref a]/\aV X.K H a (bs.map V.bl)/\Q (.bl (bs.any id)) H):=by
 rintro H vs xs Q Q' r ⟨bs,rfl,q⟩ k
 obtain⟨v,rfl,r1⟩:=r.one
 obtain⟨a,us,rfl,_,h,r2⟩:=r1.sqL
 obtain rfl:=r2.ofBls
 exact⟨a,bs,rfl,aV.of h,k _ _ _ (aI.refl _) (.bl _) q⟩
theorem aF7 (B:Bt X.mg)(hc:X.calm=true)(ha:QA X [e] tr)(hg:Gl X "any":=by rfl)(he:starEach [e] X.env=(false,eval e X.env)::starEach [] X.env:=by rfl)(hpl:(backTo pos (starEach [] X.env)).any (·.1)=false:=by rfl):QE X (.Call (.Name "any" p2) [e] [] pos) (aK vW tr):=
 i9 (aF3 hc) aF6 hg B.any PyProof.Rows.boot_any ha (he:=he) (hpl:=hpl)
end
end PP
namespace Core
open PySem L2 PP
section
variable {ws:ae}{ls:aa}{ns wts:ae}{m:Nat}
noncomputable def loose (ls:aa)(wts ns:ae):List ((Int×Int)×Int):=(ls.zip wts).filter λz=>!(decide (z.1.1∈ns)&&decide (z.1.2∈ns))
end
end Core
namespace PP
open PySem L2 PyProof.Rows
noncomputable abbrev bM:=(Str->Prop)->bH
noncomputable def EX (K:ac)(H0:Hp)(Ep:Str->Prop):XK:=λc d H'=>d=none/\aI H0 H'/\∃n C,c = .ref C/\PySem.W.nsIn K mainGlobals n=some (some (.ref C))/\Ep n
noncomputable def M6 (K:ac)(p:bM):Sp:=λvs H Q E=>∃xs Qp Ep,Reps K (λ_=>True) H vs xs/\p Ep xs Qp/\(∀v H' x,aI H H'->aR K (λa=>H a=none) H' v x->Qp x->Q v H')/\
 ∀n C H',aI H H'->PySem.W.nsIn K mainGlobals n=some (some (.ref C))->Ep n->E (.ref C) none H'
structure aS (P:av)(w:ax)(K:ac)(mg:Str->Option ao)(base:Heap)(k:Nat)(x:Str)(ps:List Str)(p:bM):Prop where
 ex:∃f fd,cX P w K mg base (cM P w) k f fd ps (M6 K p)/\hV K fd ps []/\PySem.W.keepIn K (.ref f)=true/\mg x=some (.ref f)
section
variable {X:Cx}{σ:L2.St}{H:Hp}{D:cN}{tr:cA}{Q':VK}{a b c e:Expr}{es:List Expr}{pos p2 cp np hp:Pos}{t:aP}{te:aO}{tc:cD}
noncomputable def bZ (Ep:Str->Prop)(p:bM)(t:cA):aO:=aK (p Ep) t
theorem vX {p:bM}{Ep:Str->Prop}(h:LE X (bZ Ep p tr) σ H Q'):sH (M6 X.K p) [] (EX X.K X.H₀ Ep) (LA X tr) σ H Q':=by
 obtain⟨W,ρ,Q,px,q,k⟩:=h
 refine⟨W,ρ,_,px,q,λvs H1 xs s1 r1 q1=>⟨_,_,Ep,by rw[bm9];exact r1.any,q1,λv H' x s2 r2 q2=>k v H' x .fr (s1.trans s2) (r2.same (aI.refl _) λ_ z=>s1.free z) q2,λn C H' s2 z1 z2=>⟨rfl,(px.same.trans s1).trans s2,n,C,rfl,z1,z2⟩⟩⟩
theorem cH {Ep:Str->Prop}{k j:Nat}{x:Str}{ps:List Str}{p:bM}(hX:kS X (EX X.K X.H₀ Ep))(d:aS X.prog X.w X.K X.mg X.base k x ps p)(hr:c8 j X.A)(ha:QA X (e::es) tr)(hkj:k<=j:=by decide)(hg:Gl X x:=by rfl)(hdb:(x==("__debug__":Str))=false:=by decide)(he:starEach (e::es) X.env=(false,eval e X.env)::starEach es X.env:=by rfl)(hpl:(backTo pos (starEach es X.env)).any (·.1)=false:=by rfl):QE X (.Call (.Name x p2) (e::es) [] pos) (bZ Ep p tr):=by
 obtain⟨f,fd,F,b,kp,m⟩:=d.ex
 exact bS (oO F (hr.mono hkj) hg m kp b .nil hX.pass ha hdb he hpl) λ_ _ _=>vX
theorem M7 {k j:Nat}{x:Str}{ps:List Str}{p:bM}(d:aS X.prog X.w X.K X.mg X.base k x ps p)(hr:c8 j X.A)(ha:QA X (e::es) tr)(hkj:k<=j:=by decide)(hg:Gl X x:=by rfl)(hdb:(x==("__debug__":Str))=false:=by decide)(he:starEach (e::es) X.env=(false,eval e X.env)::starEach es X.env:=by rfl)(hpl:(backTo pos (starEach es X.env)).any (·.1)=false:=by rfl):QE X (.Call (.Name x p2) (e::es) [] pos) (aK (p λ_=>False) tr):=by
 obtain⟨f,fd,F,b,kp,m⟩:=d.ex
 refine bS (oO F (E:=EX X.K X.H₀ λ_=>False) (hr.mono hkj) hg m kp b .nil (λ_ _ _ _ _ _ _ h=>?_) ha hdb he hpl) λ_ _ _ h=>vX (Ep:=λ_=>False) h
 obtain⟨_,_,_,_,_,_,_,_,_,_,_,_,z⟩:=h
 exact z.elim
noncomputable def dF (Ep:Str->Prop)(n:Str)(t:cA):aP:=λ_ ρ=>t ρ λxs=>xs.length<=1000/\Ep n
theorem aF8 {Ep:Str->Prop}{n:Str}{C:ar}(hn:PySem.W.nsIn X.K mainGlobals n=some (some (.ref C)))(h:LS X (dF Ep n tr) D σ H):F2 (EX X.K X.H₀ Ep) C (LA X tr) D σ H:=by
 obtain⟨W,ρ,D',px,q,k⟩:=h
 exact⟨W,ρ,_,px,q,λvs H1 xs s1 r z=>⟨by rw[r.length];exact tX z.1,rfl,px.same.trans s1,n,C,rfl,hn,z.2⟩⟩
structure Xc (K:ac)(mg:Str->Option ao)(base:Heap)(n:Str):Prop where
 ex:∃C B newId initId bm,OwnCls n C bm newId mg base/\ExcBaseFacts B newId initId bm/\PySem.W.nsIn K mainGlobals n=some (some (.ref C))
theorem dQ {Ep:Str->Prop}{n:Str}(hX:kS X (EX X.K X.H₀ Ep))(x:Xc X.K X.mg X.base n)(ha:QA X (e::es) tr)(hc:X.calm=true:=by rfl)(hg:Gl X n:=by rfl)(hd:(n==("__debug__":Str))=false:=by decide)(he:starEach (e::es) X.env=(false,eval e X.env)::starEach es X.env:=by rfl)(hpl:(backTo cp (starEach es X.env)).any (·.1)=false:=by rfl):QS X (.Raise (some (.Call (.Name n np) (e::es) [] cp)) none pos) (dF Ep n tr):=by
 obtain⟨C,B,newId,initId,bm,O,FB,hn⟩:=x.ex
 exact dP (av8 hX hc O FB ha hg hd he hpl) λ_ _ _=>aF8 hn
noncomputable abbrev jA:=gF->(Str->Prop)->bK->Prop
noncomputable def LB (X:Cx)(t:jA):TB:=λD Ex σ H=>∃(W:ar->Prop) (ρ:bK) (D':gF) (Ep:Str->Prop),PX X.K X.H₀ W σ ρ H/\t D' Ep ρ/\nJ X W H D' D/\∀n C H',aI H H'->PySem.W.nsIn X.K mainGlobals n=some (some (.ref C))->Ep n->Ex (.ref C) none H'
noncomputable def QB (X:Cx)(sts:List Stmt)(t:jA):Prop:=PB X sts (LB X t)
theorem M8 {sts:List Stmt}{t t':TB}(h:PB X sts t)(m:∀D Ex σ H,t' D Ex σ H->t D Ex σ H):PB X sts t':=λaf s σ H D Ex I q=>h af s σ H D Ex I (m D Ex σ H q)
noncomputable def vY (p:bM)(t:cA):jA:=λD Ep ρ=>t ρ λxs=>p Ep (xs.map (·.1)) λ_=>D.nx ρ
noncomputable def M9 (c:cD)(t u:jA):jA:=λD Ep ρ=>c ρ λb=>if b=true then t D Ep ρ else u D Ep ρ
theorem N0 {k j:Nat}{x:Str}{ps:List Str}{p:bM}(d:aS X.prog X.w X.K X.mg X.base k x ps p)(hr:c8 j X.A)(ha:∀E,QA (X.wish E) (e::es) tr)(hkj:k<=j:=by decide)(hg:Gl X x:=by rfl)(hdb:(x==("__debug__":Str))=false:=by decide)(he:starEach (e::es) X.env=(false,eval e X.env)::starEach es X.env:=by rfl)(hpl:(backTo cp (starEach es X.env)).any (·.1)=false:=by rfl)(hsw:swapsWith (.Call (.Name x p2) (e::es) [] cp) none pos.line X.env=pure false:=by rfl):QB X [.Expr (.Call (.Name x p2) (e::es) [] cp) pos] (vY p tr):=by
 obtain⟨f,fd,F,b,kp,m⟩:=d.ex
 refine M8 (aw3 (t:=LA X tr) F (hr.mono hkj) hg m kp b (λE=>ha E) hdb he hpl hsw) λD Ex σ H h=>?_
 obtain⟨W,ρ,D',Ep,px,q,k,ke⟩:=h
 exact⟨W,ρ,_,px,q,λvs H1 xs s1 r q1=>⟨_,_,Ep,r.any,q1,λv H' x s2 r2 q2=>k.nx W σ H' ρ (Ev.same (s1.trans s2)) (px.mono (s1.trans s2)) q2,λn C H' s2 z1 z2=>ke n C H' (s1.trans s2) z1 z2⟩⟩
theorem aF9 {sa sb:List Stmt}{tb ub:jA}(hc:∀E,QT (X.wish E) c tc)(ha:QB X sa tb)(hb:QB X sb ub):QB X [.If c sa sb pos] (M9 tc tb ub):=by
 refine M8 (aw4 (tc:=LT X tc) (λE=>hc E) ha hb) λD Ex σ H h=>?_
 obtain⟨W,ρ,D',Ep,px,q,k,ke⟩:=h
 refine⟨W,ρ,_,px,q,λb H1 s1 q1=>?_⟩;have ke':∀n C H',aI H1 H'->PySem.W.nsIn X.K mainGlobals n=some (some (.ref C))->Ep n->Ex (.ref C) none H':=λn C H' s2 z1 z2=>ke n C H' (s1.trans s2) z1 z2
 cases b with
 |true=>exact b4 ⟨W,ρ,D',Ep,px.mono s1,by simpa using q1,k.step (Ev.same s1),ke'⟩
 |false=>exact aQ ⟨W,ρ,D',Ep,px.mono s1,by simpa using q1,k.step (Ev.same s1),ke'⟩
noncomputable def N1 (D:gF)(i:Nat):gF:={ nx:=λρ=>D.nx (ρ.set i none),rt:=D.rt,bk:=λρ=>D.bk (ρ.set i none),ct:=λρ=>D.ct (ρ.set i none) }
noncomputable def eS:List Str:=["BadWeb","BadSet","BadOrder","BadPrices","BadBoard","BadDeed","NotWood","NoPaper","NoSuch","TooMany","NoText","OddRound"]
noncomputable def kW (n m:Str):Option Bool:=if eS.contains n then some (n==m||m=="HearthError"||m=="ValueError") else none
noncomputable def vZ (m:Str)(i:Nat)(tb:jA)(ts:aP):aP:=λD ρ=>tb D (λn=>kW n m=some true/\ts (N1 D i) (ρ.set i (some (.sh true (.exc n))))) ρ
theorem aG0 {m:Str}{Ch:ar}{i:Nat}{tb:jA}{ts:aP}(hs:∀n C,kW n m=some true->PySem.W.nsIn X.K mainGlobals n=some (some (.ref C))->PySem.W.subIn X.K (.ref C) (.ref Ch)=some true)(h:LS X (vZ m i tb ts) D σ H):F4 X.K Ch i (LB X tb) (LS X ts) D σ H:=by
 obtain⟨W,ρ,D',px,q,k⟩:=h
 refine⟨W,ρ,D',_,px,q,k,λn C H' s z1 z2 a C' oe hc na hcl=>?_⟩;cases hc;refine⟨hs n C z2.1 z1,W,_,N1 D' i,(px.mono (s.trans (bC na _))).setSh (g:=true) (.exc bD z1 hcl),z2.2,?_⟩;have k':=k.step (Ev.same (W:=W) (s.trans (bC na (.frz oe (.own a)))))
 exact⟨λW' σ' H2 ρ' ev px' q'=>k'.nx W' _ H2 _ ev px'.setNone q',k'.rt,λW' σ' H2 ρ' ev px' q'=>k'.bk W' _ H2 _ ev px'.setNone q',λW' σ' H2 ρ' ev px' q'=>k'.ct W' _ H2 _ ev px'.setNone q'⟩
structure w4 (K:ac)(mg:Str->Option ao)(m:Str):Prop where
 ex:∃Ch,mg m=some (.ref Ch)/\v4 K Ch/\∀n C,kW n m=some true->PySem.W.nsIn K mainGlobals n=some (some (.ref C))->PySem.W.subIn K (.ref C) (.ref Ch)=some true
theorem aG1 (i:Nat){m n:Str}{b₀:Stmt}{suite body:List Stmt}{tb:jA}{ts:aP}(ct:w4 X.K X.mg m)(hN:X.N.Nodup)(hb:QB X body tb)(hs:∀a,eJ (X.suite a) (b₀::suite) ts)(hstk:X.stack=X.env::X.outer/\X.env.frame=some X.env.locals:=by exact⟨rfl,rfl⟩)(hi:X.N[i]? = some n:=by rfl)(hl:X.env.scope.names.lookup n=some .local:=by rfl)(hg:Gl X m:=by rfl)(hd:(m==("__debug__":Str))=false:=by decide):QS X (.Try body [.ExceptHandler (some (.Name m np)) (some n) (b₀::suite) hp] [] [] pos) (vZ m i tb ts):=by
 obtain⟨Ch,hm,c,sub⟩:=ct.ex
 exact dP (aw5 (ts:=LS X ts) hstk hb hg hm c hN hi hl (λa=>uP (hs a) λ_ _ _ ⟨W,ρ,D',px,q,k⟩=>⟨W,ρ,D',px,q,⟨k.nx,k.rt,k.bk,k.ct⟩⟩) hd) λ_ _ _=>aG0 sub
noncomputable def gD:V->ao
 |.ref a=>.ref a
 |.ty n=>.type n
 |_=>.none
noncomputable def aG2 (K:ac):List V->Hp->VK->Prop:=λxs H Q=>∃v v2 b,xs = [v,v2]/\gD v2≠.none/\((∃a o C,v = .ref a/\H a=some (.frz o (.own a))/\o.cls = .ref C/\iC K C/\PySem.W.kitOne K (.ref C) (gD v2)=some b)∨(v = .non/\PySem.W.kitOne K (.type "NoneType") (gD v2)=some b))/\Q (.bl b) H
theorem aG3:cV X (.builtin "isinstance") (aG2 X.K):=by
 intro af s σ H xs us Q I r h
 obtain⟨v,v2,b,rfl,hv,hk,q⟩:=h
 obtain⟨u,u',rfl,ru,ru'⟩:=sG r
 obtain rfl:u'=gD v2:=by
  cases v2<;>first|exact ru'|exact absurd rfl hv
 rcases hk with⟨a,o,C,rfl,hH,hc,F,e⟩|⟨rfl,e⟩
 ·obtain⟨h1,_⟩:=I.hok a _ hH
  cases (show u=Value.ref a from ru);exact PySem.W.kia_one (ax2 F) I.kIn ⟨o,h1,hc⟩ e (λz=>nomatch z) λtk=>⟨.bl b,H,I.tok tk,rfl,q⟩
 ·cases (show u=Value.none from ru)
  exact PySem.W.kia_one PySem.W.kitx_none I.kIn trivial e (λz=>nomatch z) λtk=>⟨.bl b,H,I.tok tk,rfl,q⟩
noncomputable def fH (m:Str):PV->Option Bool
 |.exc n=>kW n m
 |.non=>some false
 |_=>none
noncomputable def eT (m:Str)(te:aO):aO:=λρ Q=>te ρ λx _=>∃b,fH m x=some b/\Q (.bl b) .fr
structure w5 (K:ac)(m:Str)(v2:V):Prop where
 nn:gD v2≠.none
 ex:∀n C b,PySem.W.nsIn K mainGlobals n=some (some (.ref C))->kW n m=some b->iC K C/\PySem.W.kitOne K (.ref C) (gD v2)=some b
 no:PySem.W.kitOne K (.type "NoneType") (gD v2)=some false
theorem N2 {x:Str}{v2:V}{px:Pos}(B:Bt X.mg)(A:w5 X.K x v2)(hx:PE X (.Name x px) (tC v2))(ha:QE X a te)(hg:Gl X "isinstance":=by rfl)(he:starEach [a,.Name x px] X.env=(false,eval a X.env)::starEach [.Name x px] X.env:=by rfl)(he2:starEach [.Name x px] X.env=(false,eval (.Name x px) X.env)::starEach [] X.env:=by rfl)(hpl:(backTo pos (starEach [.Name x px] X.env)).any (·.1)=false:=by rfl):QE X (.Call (.Name "isinstance" p2) [a,.Name x px] [] pos) (eT x te):=
 bS (oP aG3 hg B.isinst PyProof.Rows.boot_isinstance (dS ha (dS hx eN he2) he) (he:=he) (hpl:=hpl)) λσ H Q' h=>by
  obtain⟨W,ρ,Q,px,q,k⟩:=h
  refine⟨W,ρ,_,px,q,?_⟩;rintro v H1 y g s r ⟨b,e,q⟩;refine⟨v,v2,b,rfl,A.nn,?_,k _ _ _ .fr s (.bl _) q⟩;cases r with
  |exc h z c=>
   obtain⟨F,kt⟩:=A.ex _ _ _ z e
   exact .inl ⟨_,_,_,rfl,h,c,F,kt⟩
  |non=>cases e;exact .inr ⟨rfl,A.no⟩
  |_=>cases e
end
section
variable {X:Cx}{a:Expr}{pos p2 px:Pos}{te:aO}
structure cS (K:ac)(mg:Str->Option ao)(m:Str):Prop where
 ex:∃C,mg m=some (.ref C)/\w5 K m (.ref C)
structure w6 (K:ac)(mg:Str->Option ao):Prop where
 mg:mg "ValueError" = none
 is:w5 K "ValueError" (.ty "ValueError")
theorem gI {x:Str}(B:Bt X.mg)(A:cS X.K X.mg x)(ha:QE X a te)(hgx:Gl X x:=by rfl)(hdx:(x==("__debug__":Str))=false:=by decide)(hg:Gl X "isinstance":=by rfl)(he:starEach [a,.Name x px] X.env=(false,eval a X.env)::starEach [.Name x px] X.env:=by rfl)(he2:starEach [.Name x px] X.env=(false,eval (.Name x px) X.env)::starEach [] X.env:=by rfl)(hpl:(backTo pos (starEach [.Name x px] X.env)).any (·.1)=false:=by rfl):QE X (.Call (.Name "isinstance" p2) [a,.Name x px] [] pos) (eT x te):=by
 obtain⟨C,m,i⟩:=A.ex
 exact N2 B i (oH hgx m rfl hdx) ha hg he he2 hpl
theorem aG4 (B:Bt X.mg)(A:w6 X.K X.mg)(ha:QE X a te)(hgx:Gl X "ValueError":=by rfl)(hg:Gl X "isinstance":=by rfl)(he:starEach [a,.Name "ValueError" px] X.env=(false,eval a X.env)::starEach [.Name "ValueError" px] X.env:=by rfl)(he2:starEach [.Name "ValueError" px] X.env=(false,eval (.Name "ValueError" px) X.env)::starEach [] X.env:=by rfl)(hpl:(backTo pos (starEach [.Name "ValueError" px] X.env)).any (·.1)=false:=by rfl):QE X (.Call (.Name "isinstance" p2) [a,.Name "ValueError" px] [] pos) (eT "ValueError" te):=
 N2 B A.is (ab5 (v:=.ty "ValueError") hgx A.mg PyProof.Rows.Boot.«ValueError» rfl (by decide) (by decide)) ha hg he he2 hpl
end
structure eL (K:ac)(C:ar):Prop where
 cls:PySem.W.isClsIn K C=true
 ty:PySem.W.typeIn K (.ref C)=some (.type "type")
 ga:PySem.W.findIn K (.ref C) "__getattribute__" = some (some (.builtin "BaseException.__getattribute__"))
 gt:PySem.W.findIn K (.ref C) "__getattr__" = some none
 fc:PySem.W.findIn K (.ref C) "__class__" = some (some (.builtin "object.__class__"))
 fg:PySem.W.specialIn K (.builtin "object.__class__") "__get__" = some (some (.builtin "getset_descriptor.__get__"))
 ft:PySem.W.takesIn K (.builtin "object.__class__")=some true
 ob:PySem.W.mroIn K C (.type "object")=some true
 be:PySem.W.mroIn K C (.type "BaseException")=some true
theorem eL.exc {K:ac}{C:ar}(h:eL K C):iC K C:=⟨h.cls,h.ga,h.gt,h.fc,h.fg,h.ft,h.ob,h.be⟩
theorem gJ {K:ac}{h₀:Heap}{mg:Str->Option ao}{x:Str}{C:ar}{bmB:List ao}{newId:String}(X:K.In h₀)(m:mg x=some (.ref C))(q:PySem.W.excIn K C bmB newId=true):OwnCls x C bmB newId mg h₀:=by
 refine⟨m,?_⟩;unfold PySem.W.excIn at q;split at q
 case h_2=>cases q
 rename_i dd cd sl ho
 split at q
 case h_2=>cases q
 rename_i C' bm k0 k1 k2 k3 n k5 hm hs
 simp only[bm2,beq_iff_eq,Bool.not_eq_true']at q
 obtain⟨⟨⟨⟨⟨rfl,rfl⟩,dl⟩,ht⟩,hok⟩,hni⟩:=q
 obtain⟨nm,bs,mro,ns,qn,hd,sn,sub,ab,col,del⟩:=cd
 dsimp only at hm dl hok hni;subst hm dl;obtain rfl:sl = #[k0,k1,k2,k3,some (.builtin n),k5]:=by
  obtain⟨l⟩:=sl
  exact congrArg Array.mk hs
 exact⟨bm,ns,nm,qn,bs,hd,sn,sub,ab,col,dd,k0,k1,k2,k3,k5,_,X _ _ ho,.of_isNs (PySem.W.isNs_of_in X hok),PySem.W.nsMap_none_of_in X hok hni,PySem.W.tail_of_in X ht⟩
theorem fI {n m:Str}{b:Bool}(h:kW n m=some b):n∈eS/\b=(n==m||m=="HearthError"||m=="ValueError"):=by
 unfold kW at h;split at h
 ·rename_i z
  exact⟨by simpa using z,by cases h;rfl⟩
 ·cases h
theorem aJ {K:ac}{C D:ar}{b:Bool}(hd:eL K D)(ne:(C==D)=false)(s:PySem.W.subIn K (.ref C) (.ref D)=some b):PySem.W.kitOne K (.ref C) (.ref D)=some b:=by
 have ne':(Value.ref C==Value.ref D)=false:=by
  rw[bn6]at ne ⊢;exact λz=>ne (Value.ref.inj z)
 have c:=hd.cls;unfold PySem.W.isClsIn at c;unfold PySem.W.kitOne PySem.W.kitCls;rw[if_neg (by rw[ne'];decide)];dsimp only;rw[if_pos (by rw[c,hd.ty];decide)];exact s
theorem gK {K:ac}{C:ar}:PySem.W.kitOne K (.ref C) (.ref C)=some true:=by
 unfold PySem.W.kitOne;rw[if_pos (bm4 _)]
theorem gL {K:ac}{C:ar}(s:PySem.W.subIn K (.ref C) (.type "ValueError")=some true):PySem.W.kitOne K (.ref C) (.type "ValueError")=some true:=by
 unfold PySem.W.kitOne PySem.W.kitCls;rw[if_neg (λz=>by cases beq_iff_eq.mp z)];dsimp only;rw[if_pos (by decide +kernel)];exact s
theorem gM {K:ac}{D:ar}(hd:eL K D)(s:PySem.W.subIn K (.type "NoneType") (.ref D)=some false):PySem.W.kitOne K (.type "NoneType") (.ref D)=some false:=by
 have c:=hd.cls;unfold PySem.W.isClsIn at c;unfold PySem.W.kitOne PySem.W.kitCls;rw[if_neg (λz=>by cases beq_iff_eq.mp z)];dsimp only;rw[if_pos (by rw[c,hd.ty];decide)];exact s
theorem aG5 {K:ac}:PySem.W.kitOne K (.type "NoneType") (.type "ValueError")=some false:=by
 have e:(if PySem.W.kitMeta "ValueError" = true then (fastBuiltinMro "NoneType").map (·.contains (Value.type "ValueError")) else none)=some false:=by decide +kernel
 unfold PySem.W.kitOne;rw[if_neg (by decide)];exact e
theorem aS.of {P:av}{w:ax}{K:ac}{mg:Str->Option ao}{base:Heap}{k:Nat}{x:Str}{ps N:List Str}{p:bM}{st:Stmt}{f:ar}{fd:FuncData}(F:eF K x x st f fd)(m:mg x=some (.ref f))(S:FnScope N ps (aU st))(hb:∀(kV doc pm:ao) (an:Option ar) (cdv ct:ao) (us:List ao),us.length=ps.length->bindArgs (PySem.W.fnOf x x (i3 st) (dW st) (aU st) .none kV doc pm an cdv ct) ⟨us,[]⟩=pure (ps.zip us))(t:(Str->Prop)->aP)(len:∀Ep xs Q,p Ep xs Q->xs.length=ps.length)(rd:∀Ep xs Q,p Ep xs Q->t Ep { nx:=λ_=>Q .non,rt:=Q } (eQ N xs))(body:∀(cdv:ao) (A:aw) (outer:List Env) (s:aq) (H:Hp) (E:XK) (Ep:Str->Prop),c8 k (A.deeper (envOfC x (aU st) s.heap.objs.size f cdv))->kS (cL (cM P w) P w K mg base N x (aU st) f cdv A outer s H E) (EX K H Ep)->
   eJ (cL (cM P w) P w K mg base N x (aU st) f cdv A outer s H E) (dW st) (t Ep)):aS P w K mg base (k+1) x ps p:=by
 refine⟨f,fd,F.okX S (λvs H Q E h=>?_) (λcdv A outer s H vs Q E hr h=>?_),F.binds hb,F.kp,m⟩
 ·obtain⟨xs,Qp,Ep,r,q,_⟩:=h
  rw[r.length];exact len Ep xs Qp q
 ·obtain⟨xs,Qp,Ep,r,q,k,ke⟩:=h
  have ht:=body cdv A outer s H E Ep hr (F1 λc d H' z=>?_)
  ·refine⟨_,ht,λ_=>False,eQ N xs,_,pP r,rd Ep xs Qp q,?_,?_,?_,?_⟩
   ·exact λW' σ' H' ρ' e px q=>k _ _ _ px.same .non q
   ·exact λv H' x s r q=>k _ _ _ s r q
   ·exact λW' σ' H' ρ' e px q=>q
   ·exact λW' σ' H' ρ' e px q=>q
  ·obtain⟨rfl,s1,n,C,rfl,z1,z2⟩:=z
   exact ke n C H' s1 z1 z2
end PP
namespace Core
open PySem L2 PP
noncomputable abbrev cK (t:(Str->Prop)->aP)(N:List Str)(p:bM):Prop:=∀Ep xs Q,p Ep xs Q->t Ep { nx:=λ_=>Q .non,rt:=Q } (eQ N xs)
noncomputable def iF:bM:=λEp xs Q=>∃ws ls x ns,xs = [cP ws ls,x]/\cQ x ns/\ns.length<=1000/\(fC ws.length ns=true->Q (.tup (intz ns)))/\(fC ws.length ns=false->Ep "BadSet")
noncomputable def N3 (Ep:Str->Prop):aP:=(aM (bA (i6 (b5 (aK m7 (aB (aA 0) (aB (aA 1) aF))))) (dF Ep "BadSet" (aB (qC (.str "a set is of rising hearths of the web")) aF)) bQ)
 (bG (aK gU (aB (aA 1) aF))))
theorem aG6:cK N3 ["web","hearths"] iF:=by
 rintro Ep xs Q ⟨ws,ls,x,ns,rfl,hx,hl,q1,q2⟩;refine⟨_,rfl,_,rfl,ws,ls,x,ns,rfl,hx,hl,_,rfl,?_⟩;cases h:fC ws.length ns with
 |true=>exact aQ ⟨_,rfl,⟨_,_,rfl,hx.seqT,i5 _,trivial,q1 h⟩,hx.noscr⟩
 |false=>exact b4 ⟨by decide,q2 h⟩
end Core
namespace PP
open PySem L2
theorem us1 {us:List ao}(h:us.length=1):∃a,us = [a]:=List.length_eq_one_iff.mp h
theorem us2 {us:List ao}(h:us.length=2):∃a b,us = [a,b]:=by
 cases us with
 |nil=>cases h
 |cons a r=>
  obtain⟨b,rfl⟩:=us1 (us:=r) (by simpa using h)
  exact⟨a,b,rfl⟩
theorem w9 {us:List ao}(h:us.length=3):∃a b c,us = [a,b,c]:=by
 cases us with
 |nil=>cases h
 |cons a r=>
  obtain⟨b,c,rfl⟩:=us2 (us:=r) (by simpa using h)
  exact⟨a,b,c,rfl⟩
theorem N4 {us:List ao}(h:us.length=4):∃a b c d,us = [a,b,c,d]:=by
 cases us with
 |nil=>cases h
 |cons a r=>
  obtain⟨b,c,d,rfl⟩:=w9 (us:=r) (by simpa using h)
  exact⟨a,b,c,d,rfl⟩
end PP
namespace Core
open PySem L2 PP
noncomputable def pY (f:ae->aa->ae->(PV->Prop)->Prop):bM:=λEp xs Q=>∃ws ls x ns,xs = [cP ws ls,x]/\Wb ws ls/\cQ x ns/\ns.length<=1000/\(fC ws.length ns=true->f ws ls ns Q)/\(fC ws.length ns=false->Ep "BadSet")
noncomputable def pZ:bM:=pY λws ls ns Q=>∀m,cN ws ls ns m->Q (.lst (tups (ns::after ws ls ns m)))
noncomputable def qA:bM:=pY λws ls ns Q=>∀m,cN ws ls ns m->Q (.dK (j9 (ns::after ws ls ns m)))
noncomputable def qB:bM:=pY λws ls ns Q=>∀ms m,cN ws ls ns m->ms.Perm (bJ ws ls ns m)->ms.Pairwise (· <= ·)->Q (.tup (intz ms))
noncomputable def mE:bM:=pY λws ls ns Q=>∀m,cN ws ls ns m->Q (.bl (decide (((bJ ws ls ns m).length:Int)=(ws.length:Int))))
noncomputable def N5 (Ep:Str->Prop):aP:=(aM (eG 2 (dH (aB (bZ Ep iF (aB (aA 0) (aB (aA 1) aF))) aF)))
 (aM (eG 3 (aK fW (aB (cG (aA 2) (qC (.int 0))) aF)))
 (aM (bE 4 (aK gX (aB (aA 0) aF)))
 (aM (bE 5 (aK nT (aB (aA 0) (aB (aA 4) (aB (aA 3) aF)))))
 (aM (jG (kC (aA 5))
  (aM (i7 2 (aA 5))
  (aM (uJ 3 (aK fW (aB (aA 5) aF)))
  (bE 5 (aK nT (aB (aA 0) (aB (aA 4) (aB (aA 3) aF))))))))
 (fS 2))))))
theorem aG7:cK N5 ["web","seeds","told","burning","around","lit"] pZ:=by
 rintro Ep xs Q ⟨ws,ls,x,ns,rfl,wb,hx,hl,q,qe⟩;have few:=wb.few;refine⟨_,rfl,_,rfl,ws,ls,x,ns,rfl,hx,hl,λhs=>?_,qe⟩;have q:=q hs;have ln:=ay6 hs;refine⟨by show 1<=1000;decide,?_,rfl,?_,?_⟩
 ·show (flat (.tup (intz ns))&&true)=true
  rw[vD];rfl
 ·show (flat (.tup (intz ns))&&true)=true
  rw[vD];rfl
 refine⟨_,rfl,_,_,_,rfl,rfl,rfl,_,ns,rfl,.inl rfl,by omega,λps d=>⟨rfl,d.fl,?_⟩⟩;refine⟨_,rfl,ws,ls,rfl,wb,trivial,?_⟩;refine⟨_,rfl,_,rfl,_,rfl,ws,ls,ps,ns,rfl,wb,d,trivial,?_⟩
 refine⟨λn ρ=>∃k ps,ρ = [some (.sh (flat (cP ws ls)) (cP ws ls)),some (.sh (flat x) x),some (.own (.lst (tups (ns::after ws ls ns k)))),some (.own (.dK ps)),some (.sh true (.lst (j7 ws.length ls))),some (.sh true (.tup (intz (nextOf ws ls (bJ ws ls ns k)))))]/\
   n=fB ws (bJ ws ls ns k)/\DS ps (bJ ws ls ns k)/\∀j<k,nextOf ws ls (bJ ws ls ns j)≠[],⟨_,0,ps,rfl,rfl,d,λ_ z=>absurd z (Nat.not_lt_zero _)⟩,?_⟩
 rintro n ρ ⟨k,ps,rfl,rfl,d,ne⟩;refine⟨_,rfl,_,rfl,?_⟩;cases hn:nextOf ws ls (bJ ws ls ns k) with
 |nil=>exact aQ ⟨_,rfl,trivial,q k ⟨ne,hn⟩⟩
 |cons y yr=>
  refine b4 ?_;rw[<- hn];have cs:=v9 ws ls (bJ ws ls ns k);have nl:1<=(nextOf ws ls (bJ ws ls ns k)).length:=by rw[hn];exact Nat.succ_le_succ (bo1 _)
  have nle:=ax4 ws ls (bJ ws ls ns k);have sl:=vH (ls:=ls) hs k;have dl:=d.len;have ke:=F8 k ne;refine⟨_,rfl,_,rfl,trivial,?_,?_⟩
  ·rw[m8,bm3]
   unfold after;rw[be9,bs0];omega
  refine⟨_,rfl,_,rfl,_,_,rfl,.inl rfl,by omega,λmp dm=>⟨mp,rfl,.inl rfl,?_,?_⟩⟩
  ·have:=dm.len;omega
  have D7:DS (gT ps mp) (bJ ws ls ns (k+1)):=d.merge dm;refine⟨_,rfl,_,rfl,_,rfl,ws,ls,_,_,rfl,wb,D7,trivial,?_⟩;refine⟨_,?_,k+1,gT ps mp,?_,rfl,D7,λj hj=>?_⟩
  ·show fB ws (bJ ws ls ns k++nextOf ws ls (bJ ws ls ns k))<_
   omega
  ·rw[F5,<- List.cons_append]
   unfold tups;rw[bi9];rfl
  ·by_cases e:j=k
   ·rw[e,hn];exact λz=>nomatch z
   ·exact ne j (by omega)
noncomputable def N6 (Ep:Str->Prop):aP:=(aM (eG 2 (qC (.dK [])))
 (aM (e9 (vS (bZ Ep pZ (aB (aA 0) (aB (aA 1) aF)))) (kE 3 4)
  (e9 (cY (aA 4)) (bT 5)
   (iU 2 (aA 5) (aA 3))))
 (fS 2)))
theorem aG8:cK N6 ["web","seeds","ranks","rank","lit","hearth"] qA:=by
 rintro Ep xs Q ⟨ws,ls,x,ns,rfl,wb,hx,hl,q,qe⟩;have few:=wb.few;refine⟨rfl,rfl,_,rfl,_,rfl,ws,ls,x,ns,rfl,wb,hx,hl,λhs m en=>⟨_,.inl rfl,λz=>(by cases z),?_⟩,qe⟩;have q:=q hs;have fl:=vA ws ls ns m;have sl:=vH (ls:=ls) hs m;have nd:=L5 (ls:=ls) hs m;generalize hrs:ns::after ws ls ns m=rs at fl;rw[<- fl]at sl nd;refine⟨λi ρ=>∃y z u,ρ = [some (.sh (flat (cP ws ls)) (cP ws ls)),some (.sh (flat x) x),some (.own (.dK (j9 (rs.take i)))),y,z,u],⟨none,none,none,rfl⟩,?_,?_⟩
 ·rintro i y ρ hy ⟨y0,z0,u0,rfl⟩
  obtain⟨y,hy2,rfl⟩:=aC1 hy
  obtain⟨r,rfl,hr⟩:=J4 hy2
  have tk:rs.take (i+1)=rs.take i++[r]:=by rw[bj7,hr];rfl
  have il:(rs.take i).length=i:=by
   have:=(bf7.mp hr).1
   rw[bp9];omega
  have nd2:((rs.take i).flatten++r).Nodup/\((rs.take i).flatten++r).length<=rs.flatten.length:=by
   have e:rs.flatten=((rs.take i).flatten++r)++(rs.drop (i+1)).flatten:=by
    rw[<- List.flatten_singleton (l:=r),<- List.flatten_append,<- tk,<- List.flatten_append,List.take_append_drop]
   rw[e]at nd ⊢
   exact⟨(List.nodup_append.mp nd).1,by rw[bg8 (as:=(rs.take i).flatten++r)];omega⟩
  refine⟨_,_,rfl,_,rfl,_,rfl,λz=>(by cases z),λj ρ=>∃u,ρ = [some (.sh (flat (cP ws ls)) (cP ws ls)),some (.sh (flat x) x),some (.own (.dK (j9 (rs.take i)++gH i (r.take j)))),some (.sh true (.int (i:Int))),some (.sh true (.tup (intz r))),u],⟨u0,?_⟩,?_,?_⟩
  ·rw[show gH i (r.take 0) = [] from rfl,bm9]
   rfl
  ·rintro j y ρ hy ⟨u1,rfl⟩
   obtain⟨n,rfl,hn⟩:=jO hy
   have ke:(j9 (rs.take i)++gH i (r.take j)).map (·.1)=((rs.take i).flatten++r.take j).map (Sum.inl:Int->aH):=by
    rw[bi9,bi9,M4,M0]
   have nn:n∉(rs.take i).flatten++r.take j:=by
    have:=nd2.1
    rw[<- List.take_append_drop j r,List.drop_eq_getElem_cons (bf7.mp hn).1,(bf7.mp hn).2,<- List.append_assoc]at this;exact λz=>(List.nodup_append.mp this).2.2 n z n bj0 rfl
   have le:(j9 (rs.take i)++gH i (r.take j)).length<=40:=by
    have e1:=congrArg List.length ke;have e2:=nd2.2;rw[be9,be9,bg8,bg8,bp9]at e1;rw[bg8]at e2;rw[bg8];omega
   refine⟨_,rfl,_,rfl,_,rfl,Sum.inl n,rfl,trivial,by omega,si n,?_⟩;rw[aF0 ke nn,aF1 hn,List.append_assoc];rfl
  ·rintro ρ ⟨u,rfl⟩
   refine⟨some (.sh true (.int i)),some (.sh true (.tup (intz r))),u,?_⟩;rw[dE,bj2,tk,aE9,il]
 ·rintro ρ ⟨y,z,u,rfl⟩
  rw[vR,m8,bj2,<- hrs]
  exact⟨_,rfl,trivial,q m en⟩
noncomputable def N7 (Ep:Str->Prop):aP:=(bG (aK gU (aB (aK pX (aB (bZ Ep qA (aB (aA 0) (aB (aA 1) aF))) aF)) aF)))
theorem aG9:cK N7 ["web","seeds"] qB:=by
 rintro Ep xs Q ⟨ws,ls,x,ns,rfl,wb,hx,hl,q,qe⟩;have few:=wb.few;refine⟨_,rfl,_,rfl,ws,ls,x,ns,rfl,wb,hx,hl,λhs m en=>?_,qe⟩;have sl:=vH (ls:=ls) hs m;refine⟨_,bJ ws ls ns m,rfl,?_,by omega,λms hp ho=>⟨⟨_,_,rfl,rfl,i5 _,trivial,q hs ms m en hp ho⟩,λns z=>by cases z⟩⟩;rw[M4,vA]
noncomputable def N8 (Ep:Str->Prop):aP:=(bG (eR (aK dI (aB (bZ Ep qB (aB (aA 0) (aB (aA 1) aF))) aF)) (aK cR (aB (aA 0) aF))))
theorem aH0:cK N8 ["web","seeds"] mE:=by
 rintro Ep xs Q ⟨ws,ls,x,ns,rfl,wb,hx,hl,q,qe⟩;refine⟨_,rfl,_,rfl,ws,ls,x,ns,rfl,wb,hx,hl,λhs ms m en hp ho=>⟨_,_,rfl,rfl,_,rfl,ws,ls,rfl,.inl ⟨_,_,rfl,rfl,trivial,?_⟩⟩,qe⟩;rw[dE,hp.length_eq];exact q hs m en
noncomputable def qD:bH:=λxs Q=>∃ws ls y ms,xs = [cP ws ls,y]/\cQ y ms/\ms.length<=1000/\ws.length<=1000/\Q (.tup (intz (aE3 ws.length ms)))
noncomputable def N9:aP:=(bG (aK mD (aB (nU (aK cR (aB (aA 0) aF))) (aB (aA 1) aF))))
theorem aH1:c9 N9 ["web","some"] qD:=by
 rintro xs Q ⟨ws,ls,y,ms,rfl,hy,hm,hw,q⟩;refine⟨_,rfl,ws,ls,rfl,_,rfl,by omega,by omega,?_⟩;rw[vM];refine⟨_,rfl,_,rng ws.length,y,ms,rfl,.inr rfl,hy,by rw[vB];omega,hm,trivial,q⟩
end Core
namespace PP
open PySem L2
section
variable {X:Cx}{a:Expr}{tk:aO}{σ:St}{H:Hp}{Q':VK}{pos p2:Pos}
noncomputable def wA (tk:aO):aO:=λρ Q=>tk ρ λx _=>∃n:Int,x = .int n/\Q (.dK [(Sum.inl n,.bl true)]) .fr
theorem aH2 (h:LE X (wA tk) σ H Q'):zB [(LE X tk,tC (.bl true))] σ H Q':=by
 obtain⟨W,ρ,Q,px,q,k⟩:=h
 intro p hp;refine⟨W,ρ,_,px.mono (bC hp _),q,?_⟩;rintro v H1 x g s r ⟨n,rfl,q1⟩;cases r;have hp1:H1 p=some (.dK []):=s p _ bD;refine⟨hp1,[((Sum.inl n:aH),V.bl true)],rfl,by show 1<=15;decide,?_⟩;have sm:aI H (upd H1 p (.dK (hZ [] [((Sum.inl n:aH),V.bl true)]))):=λb o e=>by
  have nb:b≠p:=λz=>by rw[z,hp]at e;cases e
  rw[b6 nb];exact s b o (by rw[b6 nb];exact e)
 exact k _ _ _ .fr sm (.dK hp bD rfl (.cons (.bl true) .nil)) q1
theorem aH3 {j:Nat}(ha:QE X a tk):QE X (.Dict [some a] [.Constant (.bool true) j p2] pos) (wA tk):=
 bS (ak3 (ak2 ha wY ak1) rfl rfl (by simp) (by show 1<=15;decide)) λ_ _ _=>aH2
theorem O0 (hN:X.N.Nodup)(i j:Nat){x y:Str}{ag ah xpos:Pos}(hi:X.N[i]? = some x:=by rfl)(hj:X.N[j]? = some y:=by rfl)(hv:gA X.env.scope x:=by first|exact Or.inl rfl|exact Or.inr (Or.inl rfl)|exact Or.inr (Or.inr rfl))(hd:(x==("__debug__":Str))=false:=by decide)(hcd:(x==("__classdict__":Str))=false:=by decide)(hbase:attributeBase (.Name x xpos) "pop" X.env (eval (.Name x xpos) X.env)=eval (.Name x xpos) X.env:=by rfl)(hline:(ag.endLine==ah.line)=true:=by rfl)(hx:hG X.env.scope y:=by first|exact Or.inl rfl|exact Or.inr rfl)(hs:swapsWith (.Call (.Attribute (.Name x xpos) "pop" ag) [] [] ah) (some (.Name y p2)) pos.line X.env=pure false:=by rfl)(hf:X.fn y=true∨X.env.scope.names.lookup y=some .local:=by first|exact .inl rfl|exact .inr rfl) :
  QS X (.Assign [.Name y p2] (.Call (.Attribute (.Name x xpos) "pop" ag) [] [] ah) pos) (pG i j):=
 dP (rT hN hj hx (ai2 bs2 PySem.F.slot_list_pop PySem.F.type_list_pop ai5 (iH hi hv hd hcd) hbase hline) hs hf) λ_ _ _=>aq7
end
end PP
namespace Core
open PySem L2 PP
noncomputable def fJ (hs:ae):ad:=hs.foldl (λacc h=>acc++acc.map λp=>p++[h]) [[]]
theorem wB (hs:ae)(h:Int):fJ (hs++[h])=fJ hs++(fJ hs).map λp=>p++[h]:=by
 unfold fJ;rw[List.foldl_append];rfl
theorem aH4:∀hs:ae,∀k,(fJ (hs.take k)).length=2^min k hs.length:=by
 intro hs k
 induction k with
 |zero=>simp[fJ]
 |succ k ih=>
  by_cases h:k<hs.length
  ·have tk:hs.take (k+1)=hs.take k++[hs[k]]:=by rw[bj7,bf3 h];rfl
   rw[tk,wB,bg8,be9,ih,show min (k+1) hs.length=min k hs.length+1 by omega,Nat.pow_succ];omega
  ·rw[List.take_of_length_le (by omega),show min (k+1) hs.length=min k hs.length by omega,<- ih,List.take_of_length_le (by omega)]
noncomputable def qE:bH:=λxs Q=>∃x hs,xs = [x]/\cQ x hs/\hs.length<=12/\Q (.lst (tups (fJ hs)))
noncomputable def O1:aP:=(aM (bE 1 (dH (aB (bO aF) aF)))
 (aM (e9 (cY (aA 0)) (bT 2)
  (bE 1 (vO (aA 1) (cZ (cY (aA 1)) [none,some 2] (bT 0) dC (mC (aA 0) (bO (aB (aA 1) aF)))))))
 (fS 1)))
theorem aH5:c9 O1 ["hearths","chosen","hearth"] qE:=by
 rintro xs Q ⟨x,S,rfl,hx,hl,q⟩;refine⟨by decide,rfl,by show 1<=1000;decide,rfl,trivial,?_⟩;refine⟨_,rfl,_,hx.seq,kT hx,λi ρ=>∃(y:Option Slot),ρ = [some (.sh (flat x) x),some (.sh true (.lst (tups (fJ (S.take i))))),y],⟨none,rfl⟩,?_,?_⟩
 ·rintro i y ρ hy ⟨y0,rfl⟩
  obtain⟨h,rfl,hi⟩:=jO hy
  have il:i<S.length:=(bf7.mp hi).1;have sl:=aH4 S i;have p8:(fJ (S.take i)).length<=4096:=by
   rw[sl];exact bj5 (Nat.pow_le_pow_right (by decide) (show min i S.length<=12 by omega)) (by decide)
  have shr:∀p∈fJ (S.take i),p.length<=12:=by
   have gen:∀hs:ae,∀p∈fJ hs,p.length<=hs.length:=by
    intro hs
    have:∀(n:Nat) (hs:ae),hs.length=n->∀p∈fJ hs,p.length<=hs.length:=by
     intro n
     induction n with
     |zero=>intro hs e p hp;rw[List.eq_nil_of_length_eq_zero e]at hp ⊢;rw[bh5.mp (show p∈[[]] from hp)];exact be7 _
     |succ n ih=>
      intro hs e p hp;rcases List.eq_nil_or_concat hs with z|⟨l,a,z⟩
      ·rw[z]at e;cases e
      ·have z:hs=l++[a]:=by rw[z];simp
       subst z;have le:l.length=n:=by simpa using e
       rw[wB]at hp;rw[bg8,bp0];rcases bs3.mp hp with z|z
       ·have:=ih l le p z;omega
       ·obtain⟨r,hr,rfl⟩:=bv4.mp z
        have:=ih l le r hr
        rw[bg8,bp0];omega
    exact this hs.length hs rfl
   intro p hp
   have:=gen _ p hp
   rw[bp9]at this;omega
  have tk:S.take (i+1)=S.take i++[h]:=by rw[bj7,hi];rfl
  refine fY ?_;refine⟨_,rfl,_,rfl,_,rfl,(λz=>by cases z),by rw[m8];omega,λj acc=>acc=tups (((fJ (S.take i)).take j).map λp=>p++[h]),rfl,?_,?_⟩
  ·rintro j z acc hz rfl
   obtain⟨p,rfl,hj⟩:=J4 hz
   refine⟨_,rfl,_,rfl,by show 1<=1000;decide,rfl,_,_,rfl,rfl,i5 _,rfl,?_,trivial,?_⟩
   ·have:=shr p (bo2 hj)
    rw[dE];show p.length+1<=16000000;omega
   ·show tups _++[PV.tup (intz p++intz [h])]=tups (((fJ (S.take i)).take (j+1)).map λp=>p++[h])
    rw[bj7,hj,<- m5];unfold tups;rw[bi9,bi9];rfl
  ·rintro acc rfl
   rw[m8,bj2];refine⟨_,_,rfl,rfl,vG _,vG _,?_,trivial,some (.sh true (.int h)),?_⟩
   ·rw[m8,m8,be9];omega
   ·rw[tk,wB]
    unfold tups;rw[bi9];rfl
 ·rintro ρ ⟨y,rfl⟩
  rw[dE,bj2]
  exact⟨_,rfl,trivial,q⟩
section
variable {ws:ae}{ls:aa}
noncomputable def cne (ws:ae)(ls:aa)(S:ae):Bool:=!decide (S = [])&&decide (stay ws ls S=S)
noncomputable def bd7 (s:Nat):aa:=(0,(s:Int)-1)::(rng (s-1)).map λk=>(k,k+1)
end
noncomputable def far (ns S:ae):Bool:=decide (((S.filter λx=>decide (x∈ns)).length:Int)=0)
noncomputable def aH6 (ls:aa)(S U:ae):Prop:=∀x∈U,∀y∈dB ls x,y∈S->y∈U
noncomputable def aH7 (ls:aa)(S:ae)(h:Int):ae:=S.filter λx=>@decide (∀U:ae,aH6 ls S U->h∈U->x∈U) (Classical.propDecidable _)
section
variable {ws:ae}{ls:aa}{S:ae}{n:Nat}{h x:Int}
noncomputable def aH8 (ls:aa)(S:ae)(h:Int):Bool:=decide ((aH7 ls S h).head? = some h)
noncomputable def aH9 (ls:aa)(S:ae):ae:=S.filter (aH8 ls S)
end
noncomputable def O2 (ws:ae)(ls:aa):ae->ae->Bool
 |_,[]=>true
 |B,h::R=>inB ws.length h&&(kin ws ls B h&&O2 ws ls (B++[h]) R)
end Core
namespace L2
open PySem PySem.Spec PyProof.Rows
section
variable {X:Cx}
theorem aI0 (hc:X.calm=true):cV X (.builtin "min") (λxs H Q=>∃(a:ar) (ns:ae),xs = [.ref a]/\aV X.K H a (ns.map V.int)/\ns≠[]/\∀M:Int,M∈ns->(∀x∈ns,M<=x)->Q (.int M) H):=by
 intro af s σ H xs us Q I r h
 obtain⟨a,ns,rfl,hq,ne,q⟩:=h
 obtain⟨u,rfl,ru⟩:=eW r
 cases ru
 obtain⟨its,rv,p,hz⟩:=I.list hq
 have ia:=oQ rv
 obtain⟨ys,ey⟩:=ia.allInts.items
 have en:ns=ys.toList.map (·.1):=by
  have e1:=nums_intItems ys;rw[<- ey]at e1;exact ia.numsOf.symm.trans e1
 have pos:0<ys.size:=Nat.pos_of_ne_zero λz=>ne (by rw[en,Array.eq_empty_of_size_eq_zero z];rfl)
 have hl:s.heap.IsList a (intItems ys):=ey▸p.isList;refine min_intList (I.ok.hd hc) hl pos λv h' tk ev old=>?_
 obtain⟨t,rfl⟩:=intItems_at ev
 have best:=argBest_lt (numAt ys) (ys.size-1);have mem:∀x:Int,x∈ns↔∃j,j<ys.size/\numAt ys j=x:=λx=>by
  rw[en];constructor
  ·intro z
   obtain⟨j,hj,e⟩:=mem_getD z
   exact⟨j,by simpa using hj,by rw[numAt_eq];exact e⟩
  ·rintro⟨j,hj,rfl⟩
   rw[numAt_eq];exact getD_mem (by simpa using hj)
 refine⟨.int _,H,I.kept (t':=tk) (h':=h') old,⟨t,rfl⟩,q _ ?_ λx hx=>?_⟩
 ·exact (mem _).mpr ⟨_,by have:=best.1;omega,rfl⟩
 ·obtain⟨j,hj,rfl⟩:=(mem x).mp hx
  exact best.2 j (by omega)
end
end L2
namespace PP
open PySem L2
section
variable {X:Cx}{e:Expr}{tr:cA}{pos p2:Pos}
noncomputable def wC:List PV->(PV->Prop)->Prop:=λxs Q=>∃ns:ae,xs = [.lst (intz ns)]/\ns≠[]/\∀M:Int,M∈ns->(∀x∈ns,M<=x)->Q (.int M)
theorem aI1:eY X wC (λxs H Q=>∃(a:ar) (ns:ae),xs = [.ref a]/\aV X.K H a (ns.map V.int)/\ns≠[]/\∀M:Int,M∈ns->(∀x∈ns,M<=x)->Q (.int M) H):=by
 rintro H vs xs Q Q' r ⟨ns,rfl,ne,q⟩ k
 obtain⟨v,rfl,r1⟩:=r.one
 obtain⟨a,us,rfl,_,h,r2⟩:=r1.sqL
 rw[r2.ofInts]at h
 exact⟨a,ns,rfl,aV.of h,ne,λM m1 m2=>k _ _ _ (aI.refl _) (.int M) (q M m1 m2)⟩
theorem aI2 (B:Bt X.mg)(hc:X.calm=true)(ha:QA X [e] tr)(hg:Gl X "min":=by rfl)(he:starEach [e] X.env=(false,eval e X.env)::starEach [] X.env:=by rfl)(hpl:(backTo pos (starEach [] X.env)).any (·.1)=false:=by rfl):QE X (.Call (.Name "min" p2) [e] [] pos) (aK wC tr):=
 i9 (aI0 hc) aI1 hg B.min PyProof.Rows.boot_min ha (he:=he) (hpl:=hpl)
end
section
variable {X:Cx}{a b e:Expr}{ta tb te:aO}{tr:cA}{pos:Pos}{σ:St}{H:Hp}{Q':VK}{es:List Expr}
noncomputable def jR (neg:Bool):PV->Tg->PV->Tg->PK->Prop:=λx _ y _ Q=>∃i j:Str,x = .str i/\y = .str j/\Q (.bl (if neg=true then !decide (i=j) else decide (i=j))) .fr
theorem aI3 (i j:Str):decide (V.str i=V.str j)=decide (i=j):=by
 rw[bp5,bs1,bs1];exact⟨λz=>V.str.inj z,λz=>congrArg V.str z⟩
theorem aI4:dG X (jR false) sB:=by
 rintro W Hs H u v x y g g' Q Q' s n r1 r2 ⟨i,j,rfl,rfl,q⟩ k;cases r1;cases r2
 exact⟨rfl,by rw[aI3];exact k _ _ _ _ (aI.refl _) (.bl _) q⟩
theorem mF (ha:QE X a ta)(hb:QE X b tb):QT X (.Compare a [.Eq] [b] pos) (b5 (q2 (jR false) ta tb)):=j3 sD aI4 ha hb (eV _)
end
end PP
namespace L2
open PySem PySem.Spec PyProof.Rows
noncomputable def O3 (K:ac)(a:ar)(n:Nat):It:=
 ⟨λi H=>(∃xs,aV K H a xs/\xs.length=n)/\i<n,λi H x H'=>H'=H/\∀xs,aV K H a xs->xs[n-1-i]? = some x,λi H=>i=n⟩
theorem aI5 {P:av}{w:ax}{K:ac}{tg:Expr}(a it:ar)(n:Nat):fN P w K tg (O3 K a n) [it] it (λi h=>h.IsRevIter it a ((n:Int)-1-(i:Int))):=by
 refine⟨by simp,λi h st b hb=>?_,λi h h' st k=>st.at λo e=>k it (by simp) o e,?_,?_,λ_ _ _ _ _ st q=>wpAny_pyIter_revIter st q⟩
 ·obtain rfl:b=it:=by simpa using hb
  obtain⟨o,e,c,d⟩:=st
  exact⟨o,e,λv z=>by rw[d]at z;cases z⟩
 ·intro X hP hw hK hc i af s σ H E I hf st hg
  subst hP hw hK
  obtain⟨⟨xs,hq,hl⟩,hi⟩:=hg
  obtain⟨its,rv,p,hz⟩:=I.list hq
  have lv:=rv.length;have hx:xs[n-1-i]? = some (xs[n-1-i]'(by omega)):=bf3 (by omega)
  obtain⟨u,hu,ru⟩:=rv.get hx
  obtain⟨f0,f1,f2,f3,f4,f5⟩:=hf it (by simp)
  have e0:(n:Int)-1-(i:Int)=((n-1-i:Nat):Int):=by omega
  rw[e0]at st;refine wpAny_pyNext_rev_item st p.isList (x:=u) (by simpa using hu) λh' st' sb=>?_
  have I1:aE X af σ H { s with heap:=h' }:=I.turned (t':=s.toks) (λb o hb e=>(sb.2 b hb).trans e) f0 f1 f3 f4 f5;have e1:((n-1-i:Nat):Int)-1=(n:Int)-1-((i+1:Nat):Int):=by omega
  rw[e1]at st'
  obtain⟨o,e,c,d⟩:=id st'
  exact⟨u,rfl,mU (s:={ s with heap:=h' }) e c d (by decide) ⟨_,H,I1,ru,⟨rfl,λys hy=>by rw[I.list_inj hy hq];exact hx⟩,st',λb hb=>(hf b hb).1⟩⟩
 ·intro X hP hw hK hc i af s σ H E I hf st hg
  subst hP hw hK;have hg:i=n:=hg;subst hg
  obtain⟨f0,f1,f2,f3,f4,f5⟩:=hf it (by simp)
  rw[show (i:Int)-1-(i:Int) = -1 by omega]at st;exact wpAny_pyNext_rev_end (I.ok.hd hc) st λh' eb=>⟨rfl,I.turned (t':=s.toks) (λb o hb e=>eb b o hb e) f0 f1 f3 f4 f5⟩
section
variable {X:Cx}
noncomputable def O4 (K:ac)(ta:TA):TI:=λσ H R=>ta σ H λvs H1=>∃a xs,vs = [.ref a]/\aV K H1 a xs/\R (O3 K a xs.length) H1
theorem aI6 {tg:Expr}{a:Expr}{ta:TA}{p pos:Pos}(hg:Gl X "reversed")(hm:X.mg "reversed" = none)(ha:PA X [a] ta)(hs:starEach [a] X.env = [(false,eval a X.env)]:=by rfl) :
  PI X tg (.Call (.Name "reversed" p) [a] [] pos) (O4 X.K ta):=by
 intro af s σ H R I h;refine Call_ (gO I hg hm PyProof.Rows.boot_reversed (bj6 (aT (ha pos af s σ H _ I h) λus s1 ⟨vs,H1,I1,r1,q1⟩=>?_) (by rw[hs];rfl) (by rfl)))
 obtain⟨a',xs,e,h1,q⟩:=q1
 subst e;cases r1 with
 |cons r rr=>
  cases rr;cases r
  obtain⟨us,rv,p1,_⟩:=I1.list h1
  have lv:=rv.length;refine call_reversed_list p1.isList ?_;have st:∀t:Nat,(s1.heap.push (revObj a' ((us.toArray.size:Int)-1))).IsRevIter s1.heap.objs.size a' ((xs.length:Int)-1-(0:Nat)):=λ_=>by
   rw[be5,<- lv]
   exact⟨_,bf0 _ rfl,rfl,by rw[show (xs.length:Int)-1-(0:Nat)=(xs.length:Int)-1 by omega];rfl⟩
  refine wpAny_pyIter_revIter (st 0) ?_;refine⟨s1.heap.objs.size,[s1.heap.objs.size],_,_,H1,rfl,I1.kept (t':=s1.toks) λb o e=>be4 _ e,aI5 a' _ xs.length,st 0,λc hc=>?_,q⟩;obtain rfl:c=s1.heap.objs.size:=by simpa using hc
  exact I1.fpOk (be7 _) (I1.hok.fresh (be7 _))
end
end L2
namespace PP
open PySem L2
section
variable {X:Cx}{σ:St}{H:Hp}{te:aO}{R:It→Hp→Prop}{a:Expr}{p2 pos:Pos}
noncomputable def wD (te:aO):e8:=λρ Q=>te ρ λx g=>∃xs,x = .lst xs/\g≠.rd/\Q xs.reverse (pI g xs)
theorem aI7 (h:LI X (wD te) σ H R):O4 X.K (jW (LE X te) jV) σ H R:=by
 obtain⟨W,ρ,Q,px,q,k⟩:=h
 refine⟨W,ρ,_,px,q,?_⟩;rintro v H1 x g s r ⟨xs,rfl,hg,q⟩;have px1:=px.mono s;have tw:∀a,W a->∃o,H1 a=some o/\eO o=true:=λa z=>(px1.wm a z).2
 obtain⟨a,us,rfl,m,ea,r⟩:=r.sqL
 have wa:¬W a:=by
  cases g with
  |fr=>exact (px.new m).1
  |nw=>exact m.1
  |sh=>exact m
  |rd=>exact absurd rfl hg
 have lr:=r.length;have ha:∀W' H',Ev W H1 W' H'->aV X.K H' a us:=λW' H' e=>aV.of (e _ _ ea wa rfl).1
 have rr:=jI px (λz=>absurd z hg) r;refine⟨a,us,rfl,aV.of ea,k _ _ _ _ s ⟨λW' H' i e hi=>⟨⟨us,ha W' H' e,rfl⟩,?_⟩,λW' H' i v H2 e y hi=>?_,λW' H' e=>?_⟩ q⟩
 ·rw[List.length_reverse]at hi;omega
 ·rw[List.length_reverse]at hi
  obtain⟨rfl,y⟩:=y
  obtain⟨x,hx,rx⟩:=rr.get (y us (ha W' _ e))
  refine⟨aI.refl _,x,?_,rx.keep (e.keep tw)⟩;rw[List.getElem?_reverse hi,<- lr];exact hx
 ·show xs.reverse.length=us.length
  rw[List.length_reverse];omega
theorem aI8 {tg:Expr}(hm:X.mg "reversed" = none)(ha:QE X a te)(hg:Gl X "reversed":=by rfl)(hs:starEach [a] X.env = [(false,eval a X.env)]:=by rfl):QI X tg (.Call (.Name "reversed" p2) [a] [] pos) (wD te):=nN (aI6 hg hm (dS ha eN hs) hs) λ_ _ _=>aI7
end
end PP
namespace Core
open PySem L2 PP
noncomputable def O5 (n:Nat)(ps:ae):Prop:=ps.length=n/\∀w∈ps,0<=w
noncomputable def qF:bM:=λEp xs Q=>∃(x:PV) (ns:ae) (m:Nat),xs = [x,.int m]/\cQ x ns/\ns.length<=1000/\m<=1000000/\(O5 m ns->Q (.tup (intz ns)))/\(¬O5 m ns->Ep "BadPrices")
noncomputable def O6 (Ep:Str->Prop):aP:=(aM (bA (b5 (uO (aK dI (aB (aA 0) aF)) (aA 1))) (dF Ep "BadPrices" (aB (qC (.str "there is one price for each")) aF)) bQ)
 (aM (bA (b5 (aK vW (aB (cZ (cY (aA 0)) [none] (bT 0) dC (iW (aA 0) (qC (.int 0)))) aF))) (dF Ep "BadPrices" (aB (qC (.str "no price is below 0")) aF)) bQ)
 (bG (aK gU (aB (aA 0) aF)))))
theorem aI9:cK O6 ["prices","many"] qF:=by
 rintro Ep xs Q ⟨x,ns,m,rfl,hx,hl,hm,q,qe⟩;refine⟨_,rfl,_,_,rfl,hx.len,_,rfl,.inl ⟨_,_,rfl,rfl,_,rfl,?_⟩⟩;show if (!decide ((ns.length:Int)=(m:Int)))=true then _ else _
 by_cases hlm:ns.length=m
 ·rw[bj1 (by omega)]
  refine aQ ⟨_,rfl,_,hx.seq,kT hx,by rw[dE];omega,λi acc=>acc=((ns.take i).map λn=>PV.bl (decide (n<0))),rfl,?_,?_⟩
  ·rintro i y acc hy rfl
   obtain⟨n,rfl,hn⟩:=jO hy
   refine⟨_,rfl,_,_,rfl,rfl,trivial,?_⟩;dsimp only;rw[bj7,hn,bi9];rfl
  ·rintro acc rfl
   rw[dE,bj2];refine⟨ns.map λn=>decide (n<0),by rw[List.map_map];rfl,_,rfl,?_⟩;by_cases hp:∀w∈ns,0<=w
   ·have:(ns.map λn=>decide (n<0)).any id=false:=by
     rw[List.any_map,List.any_eq_false];intro x hx
     have:=hp x hx
     simp;omega
    rw[this];exact aQ ⟨_,rfl,⟨_,_,rfl,hx.seqT,i5 _,trivial,q ⟨hlm,hp⟩⟩,hx.noscr⟩
   ·have:(ns.map λn=>decide (n<0)).any id=true:=by
     obtain⟨w,hw⟩:=Classical.not_forall.mp hp
     obtain⟨h1,h2⟩:=Classical.not_imp.mp hw
     rw[List.any_map,List.any_eq_true]
     exact⟨w,h1,by simp;omega⟩
    rw[this];exact b4 ⟨by show 1<=1000;decide,qe λz=>hp z.2⟩
 ·rw[bg1 (by omega)]
  exact b4 ⟨by show 1<=1000;decide,qe λz=>hlm z.1⟩
noncomputable def aJ0:bH:=λxs Q=>∃ws ls x os,xs = [cP ws ls,x]/\ws.length<=40/\cQ x os/\os.length<64/\¬os.Perm (rng ws.length)/\Q (.bl false)
noncomputable def aJ1:aP:=(bG (q2 (lV 2 false) (aK mB (aB (aA 1) aF)) (nU (aK cR (aB (aA 0) aF)))))
theorem aJ2:c9 aJ1 ["web","numbers"] aJ0:=by
 rintro xs Q ⟨ws,ls,x,os,rfl,few,hx,lo,po,q⟩;refine⟨_,rfl,_,os,rfl,hx.seq,lo,λms pm sm=>?_⟩;refine⟨_,rfl,ws,ls,rfl,_,rfl,by omega,by omega,?_⟩;rw[vM];refine⟨.inr ⟨_,_,rfl,rfl⟩,C1 2 _ _,trivial,?_⟩;show Q (.bl (cF 3 (.lst (intz ms)) (.lst (intz (rng ((ws.length:Int).toNat))))));rw[show ((ws.length:Int).toNat)=ws.length from rfl,B9,bg1 (λz=>po (by rw[<- z];exact pm.symm))];exact q
noncomputable def nZ (ps:aa):Int:=if ps = [] then 1 else (ps.map (·.2)).sum
noncomputable def qG:bH:=λxs Q=>∃x ns,xs = [x]/\cQ x ns/\ns.length<64/\∀ms:ae,ms.Perm ns->ms.Pairwise (· <= ·)->Q (.tup (intz ms))
noncomputable def O7:aP:=(bG (aK gU (aB (aK mB (aB (aA 0) aF)) aF)))
theorem aJ3:c9 O7 ["row"] qG:=by
 rintro xs Q ⟨x,ns,rfl,hx,hl,q⟩
 exact⟨_,rfl,_,ns,rfl,hx.seq,hl,λms pm sm=>⟨⟨_,_,rfl,rfl,i5 _,trivial,q ms pm sm⟩,λ_ z=>by cases z⟩⟩
noncomputable def mG:bH:=λxs Q=>∃ps:aa,xs = [.lst (kU ps)]/\ps.length<=1000/\Q (.int (nZ ps))
noncomputable def O8:aP:=(aM (bA (i6 (kC (aA 0))) (bG (qC (.int 1))) bQ)
 (bG (aK vV (aB (cZ (cY (aA 0)) [none,none] (kE 0 1) dC (aA 1)) aF))))
theorem aJ4 {ps:aa}{i:Nat}{y:PV}(h:(kU ps)[i]? = some y):∃p:Int×Int,y = .tup [.int p.1,.int p.2]/\ps[i]? = some p:=by
 unfold kU at h;rw[bg9]at h;cases e:ps[i]? with
 |none=>rw[e]at h;cases h
 |some p=>rw[e]at h;cases h;exact⟨p,rfl,rfl⟩
theorem O9 (ps:aa):(kU ps).length=ps.length:=be9 ..
theorem aJ5:c9 O8 ["choices"] mG:=by
 rintro xs Q ⟨ps,rfl,hl,q⟩;refine⟨_,rfl,_,rfl,?_⟩;show if (!!(kU ps).isEmpty)=true then _ else _
 cases ps with
 |nil=>exact b4 ⟨trivial,q⟩
 |cons p r=>
  refine aQ ?_;have e:nZ (p::r)=((p::r).map (·.2)).sum:=by unfold nZ;rw[if_neg (by simp)]
  rw[e]at q;generalize p::r=ps at q hl;refine⟨_,rfl,_,rfl,(λz=>by cases z),by rw[O9];omega,λi acc=>acc=intz ((ps.take i).map (·.2)),rfl,?_,?_⟩
  ·rintro i y acc hy rfl
   obtain⟨p,rfl,hp⟩:=aJ4 hy
   refine⟨_,_,rfl,_,rfl,trivial,?_⟩;dsimp only;rw[bj7,hp,bi9,m5];rfl
  rintro acc rfl;rw[O9,bj2]
  exact⟨_,_,rfl,rfl,trivial,q⟩
noncomputable def bd8 (ws:ae)(ls:aa)(ns L A:ae):ae:=L.filter (kin ws ls (ns++A))
noncomputable def aJ6:aP:=(uI 4 (aA 5) (cZ (cY (aA 7)) [none,some 4,some 5] (bT 0) dC (bO (aB (aA 0) (aB (aK mG (aB (iT (aA 1) (aK qG (aB (mC (aA 2) (bO (aB (aA 0) aF))) aF))) aF)) aF)))))
noncomputable def aJ7:aP:=(aM (bE 6 (aK fW (aB (mC (aK gU (aB (aA 1) aF)) (aA 5)) aF)))
  (aM (bE 7 (cZ (cY (aA 2)) [none,some 0,some 3,some 6] (bT 0) (b5 (aK jP (aB (aA 1) (aB (aA 2) (aB (aA 3) (aB (aA 0) aF)))))) (aA 0)))
  aJ6))
noncomputable def Ord (ws:ae)(ls:aa)(ns R:ae):Prop:=O2 ws ls ns R=true/\aD2 ws ls (ns++R)
end Core
namespace L2
open PySem PySem.Spec PyProof.Rows PP
section
variable {prog:av}{w:ax}{A:aw}{R:Result→aq→Prop}{I S:ar}{n:Nat}{l:ar}{its:Array ao}{s0:aq}{bt:Nat→Nat→Bool}
noncomputable abbrev at_ (s:aq)(h:Heap)(k:Nat):aq:={ s with heap:=h,toks:=k }
end
end L2
namespace Core
open PySem L2 PP
noncomputable def FB (L:ad)(f:ae->Int)(r:ae):Prop:=∃i,L[i]? = some r/\(∀(j:Nat) (s:ae),j<i->L[j]? = some s->f s<f r)/\∀s∈L,f s<=f r
end Core
namespace Raw
open PySem PySem.W PySem.Calls PyProof.Rows
section
variable {prog:av}{w:ax}{A:aw}{E:ao→aq→Prop}{s:aq}{l:ar}{items:Array ao}{ns:ae}
theorem bd9:isSubtype (.type "list") (.type "set")=pure false:=by rw[bq5];kernel_rfl
theorem be0:isSubtype (.type "list") (.type "frozenset")=pure false:=by rw[bq5];kernel_rfl
end
end Raw
namespace Core
open PySem L2 PP
noncomputable def inL (S:ae)(l:Int×Int):Bool:=decide (l.1∈S)&&decide (l.2∈S)
structure Moved (ws os ws':ae):Prop where
 len:ws'.length=ws.length
 at_:∀h:Nat,h<ws.length->ws'[(os.getD h 0).toNat]? = ws[h]?
noncomputable def qH:bH:=λxs Q=>∃ws ls x os,xs = [cP ws ls,x]/\ws.length<=40/\cQ x os/\os.length<64/\(os.Perm (rng ws.length)->Q (.bl true))/\(¬os.Perm (rng ws.length)->Q (.bl false))
noncomputable abbrev P0:aP:=L6
theorem aJ8:c9 P0 ["web","numbers"] qH:=by
 rintro xs Q ⟨ws,ls,x,os,rfl,hw,hx,hl,q1,q2⟩;by_cases h:os.Perm (rng ws.length)
 ·exact aD7 _ Q ⟨ws,ls,x,os,rfl,hw,hx,h,q1 h⟩
 ·exact aJ2 _ Q ⟨ws,ls,x,os,rfl,hw,hx,hl,h,q2 h⟩
end Core
namespace L2
open PySem PySem.Spec PyProof.Rows
noncomputable def be1 (H:Hp):HO->List V->Prop
 |.dK kvs,ys=>ys=kvs.map λp=>kV p.1
 |.dT kvs,ys=>Paired (am1 H) ys (kvs.map (·.1))
 |_,_=>False
end L2
namespace PySem
theorem aJ9 (l:ar)(items:Array ao)(n:Nat)(dd:Option ar)(sl:Array (Option ao))(x:Int)(u:Tok)(hx:x=1) :
  Meets (Builtin.«tuple.__mul__» ⟨[.ref l,.int x u],[]⟩) (λ_ R s=>s.heap.get? l=some { cls:=.type "tuple",dict:=dd,data:=.seq items n,slots:=sl }/\R (.ok (.ret (Value.ref l))) s):=
 .of_wp λprog w A R s h=>by
  obtain⟨hp,g,d,tk,os⟩:=s;obtain⟨hl,h⟩:=h
  have c1:(decide (x < -(2^63))||decide (x >= 2^63))=false:=by
   rw[Bool.or_eq_false_iff];exact⟨bg1 (by omega),bg1 (by omega)⟩
  have c2:(items.isEmpty||x==1)=true:=by rw[hx,show ((1:Int)==1)=true from rfl,Bool.or_true]
  wp_walk
  exact⟨_,rfl,h⟩
end PySem
namespace PP
open PySem L2 PyProof.Rows
noncomputable def aK0 (K:ac):R2:=λx y H Q=>∃l k xs,x = .ref l/\y = .int k/\aW K H l xs/\xs≠[]/\1<=k/\k<=1000000/\xs.length*k.toNat<=sizeLine/\(k=1->Q (.ref l) H)/\∀p,H p=none->Q (.ref p) (upd H p (.tup (List.replicate k.toNat xs).flatten))
theorem aK1 {X:Cx}:cC X (binaryOp .Mult) (aK0 X.K):=by
 intro af s σ H x y v u Q I rx ry h
 obtain⟨l,k,xs,rfl,rfl,hH,hne,h1,h2,hz,q1,q⟩:=h
 by_cases hk:k=1
 ·subst hk
  cases rx
  obtain⟨t,rfl⟩:=ry
  obtain⟨its,r,p,_⟩:=I.tuple hH
  obtain⟨⟨cls,dd,data,sl⟩,ho,hc,n,hd⟩:=id p
  simp only at hc hd;subst hc hd;exact wpAny_binaryOp_repeat_ref (T:="tuple") (U:="int") (by decide) ⟨_,ho,rfl⟩ (λs'=>typeIs_int s' 1 t) vI F.fills_int_mul bs4 vJ F.slot_int_index.lookup
   (bq3 bs4 (typeIs_int s 1 t) F.entry_int_rmul (F.args_int_rmul_2 _ _) (vK 1 t l its.toArray n dd sl)
    ⟨ho,rfl,⟨_,ho,rfl⟩,bq3 F.slot_tuple_mul ⟨_,ho,rfl⟩ F.entry_tuple_mul (F.args_tuple_mul_2 _ _) (aJ9 l its.toArray n dd sl 1 t rfl) ⟨ho,.ref l,H,I,rfl,q1 rfl⟩⟩)
 ·exact az1 af s σ H _ _ v u Q I rx ry ⟨l,k,xs,rfl,rfl,hH,hne,by omega,h2,hz,q⟩
end PP
namespace Core
open PySem L2 PP
noncomputable def kX (r c:Int):Prop:=1<=r/\r<=40/\1<=c/\c<=40
noncomputable def qI:bM:=λEp xs Q=>∃r c:Int,xs = [.int r,.int c]/\(kX r c->Q .non)/\(¬kX r c->Ep "BadBoard")
noncomputable def P3 (Ep:Str->Prop):aP:=(bA (iQ (b5 (iW (aK pH (aB (aA 0) (aB (aA 1) aF))) (qC (.int 1)))) (b5 (iX (aK u8 (aB (aA 0) (aB (aA 1) aF))) (qC (.int 40))))) (dF Ep "BadBoard" (aB (qC (.str "a board has from 1 to 40 rows and columns")) aF)) bQ)
theorem aK2:cK P3 ["rows","columns"] qI:=by
 rintro Ep xs Q ⟨r,c,rfl,q,ex⟩;refine⟨_,rfl,_,rfl,_,_,rfl,_,_,rfl,rfl,_,rfl,?_⟩;show if decide ((if c<r then c else r)<1)=true then _ else _
 by_cases h1:(if c<r then c else r)<1
 ·rw[bj1 h1]
  exact b4 (b4 ⟨by decide,ex λz=>by unfold kX at z;split at h1<;>omega⟩)
 rw[bg1 h1];refine aQ ⟨_,rfl,_,rfl,_,_,rfl,_,_,rfl,rfl,_,rfl,?_⟩;show if decide ((if c>r then c else r)>40)=true then _ else _
 by_cases h2:(if c>r then c else r)>40
 ·rw[bj1 h2]
  exact b4 ⟨by decide,ex λz=>by unfold kX at z;split at h2<;>omega⟩
 rw[bg1 h2];refine aQ (q ?_);unfold kX;split at h1<;>split at h2<;>omega
noncomputable def wE (r c:Int)(l:Int×Int):Bool:=decide (0<=l.1)&&(decide (l.1<r)&&(decide (0<=l.2)&&decide (l.2<c)))
noncomputable def aK3 (l:Int×Int):aa:=[(l.1-1,l.2),(l.1,l.2-1),(l.1,l.2+1),(l.1+1,l.2)]
noncomputable def wF (r c:Int)(l:Int×Int):aa:=(aK3 l).filter (wE r c)
section
variable {ls:aa}{n:Nat}{B:ae}
noncomputable def ins (ls:aa)(S:ae)(h:Int):Nat:=((dB ls h).filter λx=>decide (x∈S)).length
end
end Core
namespace PySem
theorem aK4 (l:ar)(items:Array ao)(n:Nat)(dd:Option ar)(sl:Array (Option ao))(x:Int)(u:Tok)(h0:items.isEmpty=false)(hx:x=0) :
  Meets (Builtin.«tuple.__mul__» ⟨[.ref l,.int x u],[]⟩) (λ_ R s=>s.heap.get? l=some { cls:=.type "tuple",dict:=dd,data:=.seq items n,slots:=sl }/\R (.ok (.ret (Value.ref s.heap.objs.size))) { s with heap:=s.heap.push { cls:=Value.type "tuple",data:=Data.seq #[] } }):=
 .of_wp λprog w A R s h=>by
  obtain⟨hp,g,d,tk,os⟩:=s;obtain⟨hl,h⟩:=h
  have c1:(decide (x < -(2^63))||decide (x >= 2^63))=false:=by
   rw[Bool.or_eq_false_iff];exact⟨bg1 (by omega),bg1 (by omega)⟩
  have c2:(items.isEmpty||x==1)=false:=by rw[h0,Bool.false_or];exact bn6.mpr (by omega)
  have c3:(decide (x<=0)||items.isEmpty)=true:=by rw[bj1 (by omega)];rfl
  wp_walk
  exact⟨_,rfl,h⟩
end PySem
namespace PP
open PySem L2 PyProof.Rows
noncomputable def P4 (K:ac):R2:=λx y H Q=>∃l k xs,x = .ref l/\y = .int k/\aW K H l xs/\xs≠[]/\0<=k/\k<=1000000/\xs.length*k.toNat<=sizeLine/\(k=1->Q (.ref l) H)/\∀p,H p=none->Q (.ref p) (upd H p (.tup (List.replicate k.toNat xs).flatten))
theorem aK5 {X:Cx}:cC X (binaryOp .Mult) (P4 X.K):=by
 intro af s σ H x y v u Q I rx ry h
 obtain⟨l,k,xs,rfl,rfl,hH,hne,h1,h2,hz,q1,q⟩:=h
 by_cases hk:k=0
 ·subst hk
  cases rx
  obtain⟨t,rfl⟩:=ry
  obtain⟨its,r,p,_⟩:=I.tuple hH
  obtain⟨⟨cls,dd,data,sl⟩,ho,hc,n,hd⟩:=id p
  simp only at hc hd;subst hc hd;have hemp:its.toArray.isEmpty=false:=by
   cases its with
   |nil=>exact absurd (r.nil_iff.mp rfl) hne
   |cons a b=>rfl
  refine wpAny_binaryOp_repeat_ref (T:="tuple") (U:="int") (by decide) ⟨_,ho,rfl⟩ (λs'=>typeIs_int s' 0 t) vI F.fills_int_mul bs4 vJ F.slot_int_index.lookup
   (bq3 bs4 (typeIs_int s 0 t) F.entry_int_rmul (F.args_int_rmul_2 _ _) (vK 0 t l its.toArray n dd sl)
    ⟨ho,rfl,⟨_,ho,rfl⟩,bq3 F.slot_tuple_mul ⟨_,ho,rfl⟩ F.entry_tuple_mul (F.args_tuple_mul_2 _ _) (aK4 l its.toArray n dd sl 0 t hemp rfl) ⟨ho,?_⟩⟩)
  refine⟨.ref s.heap.objs.size,_,I.laid (t':=s.toks) (o:=.tup []) (λb ob q=>be4 _ q) (be7 _) ?_,rfl,q _ (I.hok.fresh (be7 _))⟩
  exact⟨bo1 _,[],.nil,IsTup.new _ _,fM.new _ _ rfl⟩
 ·exact aK1 af s σ H _ _ v u Q I rx ry ⟨l,k,xs,rfl,rfl,hH,hne,by omega,h2,hz,q1,q⟩
section
variable {X:Cx}{a b e:Expr}{ta tb te:aO}{tr:cA}{pos p2:Pos}
noncomputable def o0:PV->Tg->PV->Tg->PK->Prop:=λx _ y _ Q=>∃xs n,x = .tup xs/\y = .int n/\flats xs=true/\xs≠[]/\0<=n/\n<=1000000/\xs.length<=10/\Q (.tup (List.replicate n.toNat xs).flatten) .fr
theorem aK6:dG X o0 (P4 X.K):=by
 rintro W Hs H u v x y g g' Q Q' s n r1 r2 ⟨xs,m,rfl,rfl,f,ne,h1,h2,hl,q⟩ k;cases r2;have r1':=r1
 obtain⟨a,us,rfl,h,r⟩:=r1.sqT
 have lr:=r.length;refine⟨a,m,us,rfl,rfl,aW.of h,λz=>ne (by cases xs with|nil=>rfl|cons _ _=>rw[z]at lr;cases lr),h1,h2,lim ?_,λe=>?_,λp hp=>k _ _ _ .fr (bC hp _) (.tup bD (((r.flat f).rep m.toNat).same (bC hp _) λ_ z=>z)) q⟩
 ·have h3:us.length<=10:=by omega
  have h4:m.toNat<=1000000:=by omega
  calc us.length*m.toNat<=10*1000000:=Nat.mul_le_mul h3 h4
   _<=16000000:=by decide
 ·subst e
  rw[show (List.replicate (1:Int).toNat xs).flatten=xs by simp]at q;exact k _ _ _ .fr (aI.refl _) (.tup h (r.flat f)) q
theorem wG (ha:QE X a ta)(hb:QE X b tb):QE X (.BinOp a .Mult b pos) (q2 o0 ta tb):=iY aK5 aK6 ha hb
end
end PP
namespace L2
open PySem PySem.Spec PyProof.Rows SO
noncomputable abbrev kk (l:Int×Int):List aH:=[Sum.inl l.1,Sum.inl l.2]
end L2
namespace Core
open PySem L2 PP
inductive o3 (r c:Int)(S:aa):Int×Int->Prop
 |seed {x:Int×Int}:x∈S->o3 r c S x
 |kin {x a b:Int×Int}:wE r c x=true->a∈wF r c x->b∈wF r c x->a≠b->o3 r c S a->o3 r c S b->o3 r c S x
noncomputable def nbC (r c:Int)(P:aa)(x:Int×Int):Nat:=(P.filter λp=>decide (x∈wF r c p)).length
structure Wk (r c:Int)(S K P:aa):Prop where
 nd:K.Nodup
 ndP:P.Nodup
 sub:∀x∈P,x∈K
 brn:∀x∈K,o3 r c S x
 sd:∀x∈S,x∈K
 bd:∀x∈K,wE r c x=true
 low:∀x,x∉K->nbC r c P x<2
structure Bx where
 t:Int
 l:Int
 b:Int
 r:Int
deriving DecidableEq
noncomputable def Bx.k (x:Bx):ae:=[x.t,x.l,x.b,x.r]
noncomputable def okX (x:Bx):Prop:=x.t<=x.b/\x.l<=x.r
noncomputable def P5 (x:Bx)(p:Int×Int):Prop:=x.t<=p.1/\p.1<=x.b/\x.l<=p.2/\p.2<=x.r
noncomputable def P6 (x a:Int×Int):Prop:=(a.1=x.1/\(a.2=x.2-1∨a.2=x.2+1))∨(a.2=x.2/\(a.1=x.1-1∨a.1=x.1+1))
noncomputable def Clo (B:Bx)(U:Int×Int->Prop):Prop:=∀x a b,P5 B x->P6 x a->P6 x b->a≠b->U a->U b->U x
section
variable {B:Bx}{U:Int×Int→Prop}
variable {t l b r:Int}
section
variable (cl:Clo B U){p1 p2:Int}(u:U (p1, p2))(ip:P5 B (p1, p2))
include cl u ip
end
end
noncomputable abbrev bxP (x:Bx):PV:=.tup (intz x.k)
section
variable {ns:ae}{a r c z t l:Int}{Q:PV→Prop}(q:∀x:Bx, Q (bxP x))
include q
end
section
variable {ls:aa}{n:Nat}{U:ae}{v:Int}
noncomputable def mu (ls:aa)(U:ae):Int:=((ls.filter (inL U)).length:Int)-(U.length:Int)+((aH9 ls U).length:Int)
end
noncomputable abbrev Wys:=List (Int×ae)
end Core
namespace PP
open PySem L2
noncomputable def P7:List PV->(PV->Prop)->Prop:=λxs Q=>∃ys,xs = [.tup ys]/\flats ys=true/\Q (.tup ys.reverse)
end PP
namespace Core
open PySem L2 PP
noncomputable def aK7:aP:=(aM (bE 2 (qC (.int 0)))
 (aM (jG (lO (b5 (iW (aA 2) (aK pH (aB (aK dI (aB (aA 0) aF)) (aB (aK dI (aB (aA 1) aF)) aF))))) (b5 (eR (cG (aA 0) (aA 2)) (cG (aA 1) (aA 2)))))
  (bE 2 (kH (aA 2) (qC (.int 1)))))
 (bG (mC (uN (aA 0) (uM (jJ (aA 2) (qC (.int 1)))) uL) (aK P7 (aB (uN (aA 1) (uM (aA 2)) uL) aF))))))
noncomputable def o4:bH:=λxs Q=>∃w:ae,xs = [.tup (intz w)]/\Q (.int (((w.length:Int)-1)%2))
noncomputable def P8:aP:=(bG (iV (jJ (aK dI (aB (aA 0) aF)) (qC (.int 1))) (qC (.int 2))))
theorem aK8:c9 P8 ["way"] o4:=by
 rintro xs Q ⟨w,rfl,q⟩;refine⟨_,rfl,_,_,rfl,rfl,_,_,rfl,rfl,_,_,rfl,rfl,(by show (0:Int)<2;decide),trivial,?_⟩;rw[dE];exact q
end Core
namespace Raw
open PySem PySem.W PySem.Calls PyProof.Rows
theorem aK9:Slot "reversed" "__init__" "object.__init__":=
 .of (owner:="object") (n:="__init__") (by rw[typeLookup_type,br0];kernel_rfl) (by decide +kernel) (by decide +kernel) (by decide +kernel)
  (by first|exact .inl (by decide +kernel)|exact .inr (by decide +kernel)) (by rw[bq5];kernel_rfl)
theorem aL0:TypeCalled "reversed" "reversed.__new__" "object.__init__":=
 ⟨by decide +kernel,by decide +kernel,⟨_,_,F.mro_reversed⟩,F.made_reversed,F.plain_reversed_new,F.sub_reversed_self,aK9⟩
theorem aL1:typeLookup (.type "tuple") "__reversed__" = pure none:=by rw[typeLookup_type,br0];kernel_rfl
noncomputable def qJ (t:ar)(i:Int):Obj:={ cls:=.type "reversed",data:=.fields #[.ref t,rawInt i] }
theorem aL2 (t:ar)(items:Array ao)(hz:(items.size:Int)<2^62) :
  Meets (Builtin.«reversed.__new__» ⟨[.type "reversed",.ref t],[]⟩) (λ_ R s=>IsTup s.heap t items/\∀tk,R (.ok (.ret (.ref s.heap.objs.size))) { s with heap:=s.heap.push (qJ t ((items.size:Int)-1)),toks:=tk }):=
 .of_wp λprog w A R s h=>by
  obtain⟨ht,h⟩:=h
  have hT:s.TypeIs (.ref t) "tuple":=ht.typeIs;unfold Builtin.«reversed.__new__»;refine be2 (bt2 (newClass_reversed _) ?_)
  try dsimp only
  refine be2 (bt2 (a:=()) (by first|rfl|kernel_rfl) ?_);refine be2 (bt2 (a:=()) (by first|rfl|kernel_rfl) ?_)
  try dsimp only
  refine be2 (wpAny_specialOf hT aL1 ?_)
  try dsimp only
  have hg:=F.slot_tuple_getitem.lookup;have hsd:isSubtype (.type "tuple") (.type "dict")=pure false:=by rw[bq5];kernel_rfl
  generalize pc:call (Value.builtin "len") [Value.ref t]=CL;refine be2 ?_;show wpAny _ _ (isInstance (.ref t) (.type "dict") >>= λb=>_) _ _ _
  wp_walk using wpAny_typeOf hT,wpAny_specialOf hT hg
  subst pc;refine len_tuple ht (by omega) ?_;refine be2 (m:=asInt? _) (be6 ?_);show wpAny _ _ (newObj (.type "reversed") (.fields #[.ref t,rawInt ((items.size:Int)-1)]) >>= λv=>ret v) _ _ _;refine be2 (bi8 ?_);exact be6 ⟨_,rfl,h _⟩
theorem wH:Manifest.owners.lookup (String.ofList ['d','e','s','r','e','v','e','r'].reverse)=some Manifest.sig_reversed:=by kernel_rfl
theorem o7:Slot "reversed" "__next__" "reversed.__next__":=
 .of (owner:="reversed") (n:="__next__") (by rw[typeLookup_type,br0];kernel_rfl) (by decide +kernel) (by decide +kernel) (by decide +kernel)
  (by first|exact .inl (by decide +kernel)|exact .inr (by decide +kernel)) (by rw[bq5];kernel_rfl)
theorem P9:entryFor table "reversed.__next__" = some Builtin.«reversed.__next__»:=entryFor_of_tree (by kernel_rfl)
theorem Q0 (a:ao):argsOk "reversed.__next__" ⟨[a],[]⟩:=by
 unfold argsOk;rw[signature?_of (id:="reversed.__next__") (n:=['_','_','t','x','e','n','_','_']) (o:=['d','e','s','r','e','v','e','r']) (by kernel_rfl) wH];kernel_rfl
theorem Q3:Slot "reversed" "__iter__" "reversed.__iter__":=
 .of (owner:="reversed") (n:="__iter__") (by rw[typeLookup_type,br0];kernel_rfl) (by decide +kernel) (by decide +kernel) (by decide +kernel)
  (by first|exact .inl (by decide +kernel)|exact .inr (by decide +kernel)) (by rw[bq5];kernel_rfl)
theorem aL3 (a:ao):argsOk "reversed.__iter__" ⟨[a],[]⟩:=by
 unfold argsOk;rw[signature?_of (id:="reversed.__iter__") (n:=['_','_','r','e','t','i','_','_']) (o:=['d','e','s','r','e','v','e','r']) (by kernel_rfl) wH];kernel_rfl
theorem aL4:entryFor table "reversed.__iter__" = some Builtin.«dict_keyiterator.__iter__»:=
 entryFor_alias (id':="dict_keyiterator.__iter__") (by kernel_rfl) (by first|rfl|decide +kernel|(unfold String.splitOn;simp +decide [String.splitOnAux])) (by decide +kernel) (by kernel_rfl)
theorem aL5:typeLookup (.type "reversed") "__len__" = pure none:=by rw[typeLookup_type,br0];kernel_rfl
theorem wI:Slot "reversed" "__length_hint__" "reversed.__length_hint__":=
 .of (owner:="reversed") (n:="__length_hint__") (by rw[typeLookup_type,br0];kernel_rfl) (by decide +kernel) (by decide +kernel) (by decide +kernel)
  (by first|exact .inl (by decide +kernel)|exact .inr (by decide +kernel)) (by rw[bq5];kernel_rfl)
theorem aL6:entryFor table "reversed.__length_hint__" = some Builtin.«reversed.__length_hint__»:=entryFor_of_tree (by kernel_rfl)
theorem aL7 (a:ao):argsOk "reversed.__length_hint__" ⟨[a],[]⟩:=by
 unfold argsOk;rw[signature?_of (id:="reversed.__length_hint__") (n:=['_','_','t','n','i','h','_','h','t','g','n','e','l','_','_']) (o:=['d','e','s','r','e','v','e','r']) (by kernel_rfl) wH];kernel_rfl
noncomputable def dR (h:Heap)(a t:ar)(i:Int):Prop:=∃o,h.get? a=some o/\o.cls = .type "reversed"/\o.data = .fields #[.ref t,rawInt i]
theorem dR.at {h h':Heap}{a t:ar}{i:Int}(x:dR h a t i)(e:∀o,h.get? a=some o->h'.get? a=some o):dR h' a t i:=let ⟨o,ho,r⟩:=x;⟨o,e _ ho,r⟩
section
variable {prog:av}{w:ax}{A:aw}{E:ao→aq→Prop}{s:aq}
theorem dR.typeIs {a t:ar}{i:Int}(x:dR s.heap a t i):s.TypeIs (.ref a) "reversed":=let ⟨o,ho,hc,_⟩:=x;⟨o,ho,hc⟩
theorem aL8 {it t:ar}{i:Nat}{items:Array ao}{x:ao}{Q:Option ao->aq->Prop}(hit:dR s.heap it t (i:Int))(ht:IsTup s.heap t items)(hz:(items.size:Int)<2^62)(hx:items[i]? = some x)(hQ:∀h' tk,dR h' it t ((i:Int)-1)->Heap.SameBut it s.heap h'->Q (some x) { s with heap:=h',toks:=tk }):wpAny (model prog w) A (pyNext (.ref it)) Q E s:=by
 obtain⟨o,ho,hc,hd⟩:=id hit
 have hi:i<items.size:=(bt8.mp hx).1;unfold pyNext
 refine be2 (br4 (bj4 (name:=Str.ofString "__next__") hit.typeIs o7
  (bj8 o7 hit.typeIs P9 ?_ (Q0 _))))
 unfold Builtin.«reversed.__next__»;refine be2 (bt2 (a:=(Value.ref it,[])) rfl ?_)
 try dsimp only
 refine be2 (bi1 ho hd (x:=.ref t) rfl ?_);refine be2 (bi1 ho hd (x:=rawInt (i:Int)) rfl ?_);show wpAny _ _ (if (i:Int)<0 then _ else _) _ _ s;rw[if_neg (by omega)];refine be2 (wpAny_specialOf ht.typeIs PySem.F.slot_tuple_getitem.lookup ?_);rw[if_neg (by simp)];refine be2 (wpAny_mkInt ?_);refine be2 (br4 (getItem_tuple (s:={ s with toks:=s.toks+1 }) (j:=i) ht (by omega) (by omega) (by simp[seqIndex?];omega) hx ?_));refine be2 (bi1 (s:={ s with toks:=s.toks+1 }) ho hd (x:=rawInt (i:Int)) rfl ?_);refine be2 (br8 (s:={ s with toks:=s.toks+1 }) ho hd (by simp) ?_);refine be6 ⟨x,rfl,be6 (hQ _ _ ?_ (Heap.SameBut.update ..))⟩
 exact⟨_,bp1 _ ho (bu1 (bm8 hd _)),(Obj.cls_mapFields ..).trans hc,by
  rw[bm8 hd];simp⟩
theorem aL9 {it t:ar}{Q:Option ao->aq->Prop}(hh:A.handled=none)(hit:dR s.heap it t (-1))(hQ:∀h',Heap.ExtBut it s.heap h'->Q none { s with heap:=h' }):wpAny (model prog w) A (pyNext (.ref it)) Q E s:=by
 obtain⟨o,ho,hc,hd⟩:=id hit
 unfold pyNext
 refine be2 (br4 (bj4 (name:=Str.ofString "__next__") hit.typeIs o7
  (bj8 o7 hit.typeIs P9 ?_ (Q0 _))))
 unfold Builtin.«reversed.__next__»;refine be2 (bt2 (a:=(Value.ref it,[])) rfl ?_)
 try dsimp only
 refine be2 (bi1 ho hd (x:=.ref t) rfl ?_);refine be2 (bi1 ho hd (x:=rawInt (-1)) rfl ?_);show wpAny _ _ (if (-1:Int)<0 then _ else _) _ _ s;rw[if_pos (by decide)];refine be2 (wpAny_rule ?_);refine be2 ?_;show wpAny _ _ (setField (.ref it) 1 (rawInt (-1)) >>= λ_=>setField (.ref it) 0 .none) _ _ s;refine be2 (br8 ho hd (by simp) ?_);refine br8 (bp1 _ ho (bu1 (bm8 hd _))) (bm8 hd _) (by simp) ?_
 first
 |show wpAny _ _ (newExc (.type "StopIteration") [] >>= _) _ _ _
 |(refine be2 ?_;show wpAny _ _ (newExc (.type "StopIteration") [] >>= _) _ _ _)
 refine be2 ?_;simp only[newExc,newTuple];refine be2 (bi8 ?_ (by size_fits));refine be2 (m:=firstArgMember _ _) (bt2 (a:=Value.none) (by first|rfl|(simp only[firstArgMember];rfl)) ?_);refine bi8 ?_ (by size_fits);simp only[raiseNew];refine be2 (wpAny_handled ?_)
 first|rw[show A.in1.handled=none from hh]|rw[hh]
 refine be2 (be6 (wpAny_throw ?_));refine be2 (wpAny_isInstance (T:="StopIteration") (b:=true) ⟨_,bf0 _ rfl,rfl⟩ isSubtype_stop ?_);refine be6 (hQ _ ?_);intro b o' hb e;exact be4 _ (be4 _ ((bo7 _ _ (Ne.symm hb)).trans ((bo7 _ _ (Ne.symm hb)).trans e)))
theorem Q4 {it t:ar}{i:Int}{Q:ao->aq->Prop}(hit:dR s.heap it t i)(h:Q (.ref it) s):wpAny (model prog w) A (pyIter (.ref it)) Q E s:=by
 refine wpAny_pyIter_slot hit.typeIs Q3 (bj8 Q3 hit.typeIs aL4 ?_ (aL3 _));show wpAny _ _ (ret (.ref it)) _ _ s;exact be6 ⟨_,rfl,"reversed",_,hit.typeIs,o7.lookup,h⟩
end
theorem aM0 {prog:av}{w:ax}{A:aw}(hh:A.handled=none)(I l:ar)(hne:l≠I)(items:Array ao)(hz:(items.size:Int)<2^62) :
  Walks prog w A I [I,l] [I] items.size (λi v=>items[items.size-1-i]? = some v) (λi h=>i<=items.size/\dR h I l ((items.size:Int)-1-(i:Int))/\IsTup h l items) where
 sub:=λb hb=>by simp at hb;simp[hb]
 frame:=λ_ _ _ x hk=>⟨x.1,x.2.1.at λo e=>hk I (by simp) o e,let ⟨o,ho,r⟩:=x.2.2;⟨o,hk l (by simp) o ho,r⟩⟩
 item:=λi s Q E hi x hQ=>by
  have e:(items.size:Int)-1-(i:Int)=((items.size-1-i:Nat):Int):=by omega
  have hit:=x.2.1;rw[e]at hit;have hx:items[items.size-1-i]? = some (items[items.size-1-i]'(by omega)):=bo8 (by omega);refine aL8 hit x.2.2 hz hx λh' tk hit' hs'=>?_
  have e2:((items.size-1-i:Nat):Int)-1=(items.size:Int)-1-((i+1:Nat):Int):=by omega
  rw[e2]at hit';exact hQ _ h' tk hx ⟨hi,hit',let ⟨o,ho,r⟩:=x.2.2;⟨o,(hs'.2 l hne).trans ho,r⟩⟩ λb o hb eo=>hs'.extBut b o (λh=>hb (by simp[h])) eo
 done:=λs Q E x hQ=>by
  have e:(items.size:Int)-1-(items.size:Int) = -1:=by omega
  have hit:=x.2.1;rw[e]at hit;exact aL9 hh hit λh' he'=>hQ h' s.toks λb o hb eo=>he' b o (λh=>hb (by simp[h])) eo
 self:=λ_ _ _ _ x hQ=>Q4 x.2.1 hQ
section
variable {prog:av}{w:ax}{A:aw}{E:ao→aq→Prop}{s:aq}
theorem aM1 {it t:ar}{items:Array ao}{Q:ao->aq->Prop}(hit:dR s.heap it t ((items.size:Int)-1))(ht:IsTup s.heap t items)(hz:(items.size:Int)<2^62)(h:∀u tk,s.toks<=tk->Q (.int items.size u) { s with toks:=tk }):wpAny (model prog w) A (call (.builtin "reversed.__length_hint__") [.ref it]) Q E s:=by
 obtain⟨o,ho,hc,hd⟩:=id hit
 refine bj8 wI hit.typeIs aL6 ?_ (aL7 _);unfold Builtin.«reversed.__length_hint__»;refine be2 (bt2 (a:=Value.ref it) rfl ?_);refine be2 (bi1 ho hd (x:=.ref t) rfl ?_);rw[if_neg (show ¬((Value.ref t==Value.none)=true) from bh4)];refine be2 (len_tuple ht (by omega) ?_);refine be2 (m:=asInt? _) (be6 ?_);dsimp only;refine be2 (bi1 (s:={ s with toks:=_ }) ho hd (x:=rawInt ((items.size:Int)-1)) rfl ?_);show wpAny _ _ (if (items.size:Int)<(items.size:Int)-1+1 then _ else _) _ _ _;rw[if_neg (by omega),show (items.size:Int)-1+1=items.size by omega];exact be2 (wpAny_mkInt (be6 ⟨_,rfl,h _ _ (by show s.toks<=s.toks+1+1+1;omega)⟩))
theorem aM2 {it t:ar}{items:Array ao}{Q:Bool->aq->Prop}(hit:dR s.heap it t ((items.size:Int)-1))(ht:IsTup s.heap t items)(hz:items.size<=2^24)(h:∀tk,s.toks<=tk->Q ((items.size:Int) != 0) { s with toks:=tk }):wpAny (model prog w) A (Builtin.List.listLengthHint (.ref it)) Q E s:=by
 unfold Builtin.List.listLengthHint;refine be2 (wpAny_specialOf hit.typeIs aL5 ?_);show wpAny _ _ (specialOf (Value.ref it) (Str.ofString "__length_hint__") >>= _) _ _ _;refine be2 (wpAny_specialOf hit.typeIs wI.lookup ?_);generalize hid:("reversed.__length_hint__":String)=id0
 wp_delta
 rw[show splitId id0=some ("reversed","__length_hint__") from by subst hid;decide +kernel];subst hid;refine be2 (wpAny_isInstance (b:=true) hit.typeIs (by rw[bq5];kernel_rfl) ?_);refine wpAny_ite_split (λhab=>absurd hab (by decide)) (λ_=>?_);refine wpAny_ite_split (λhab=>absurd hab (by decide +kernel)) (λ_=>?_);refine be2 (wpAny_rule ?_);refine be2 (bt2 (wI.bind _) ?_);dsimp only;refine be2 (br4 (aM1 hit ht (by omega) λu tk htk=>?_));have h0:0<=(items.size:Int):=by omega
 have h1:(items.size:Int)<=2^24:=by omega
 replace h:=h tk htk
 generalize (items.size:Int)=k at h h0 h1 ⊢;have htl:Builtin.List.listTooLong k.toNat=false:=by simp[Builtin.List.listTooLong,sizeLine];omega
 have hfi:Builtin.List.listFitsIndex k=true:=by simp[Builtin.List.listFitsIndex];omega
 refine be2 (m:=asInt? _) (be6 ?_);dsimp only;rw[if_neg (by rw[hfi];decide),if_neg (by omega),if_neg (by rw[htl];decide)];exact be6 h
theorem aM3 {R:Result->aq->Prop}{it t:ar}{items:Array ao}(hh:A.handled=none)(hne:t≠it)(hit:dR s.heap it t ((items.size:Int)-1))(ht:IsTup s.heap t items)(ai:items.size<=2^24)(S:ar)(res:ao)(c₀:Nat)(hS:s.heap.get? S=some { cls:=.type "list",data:=.seq #[] c₀ })(hR:∀h' tk acc' c',(∀b o,b≠S->b≠it->s.heap.get? b=some o->h'.get? b=some o)->h'.get? S=some { cls:=.type "list",dict:=none,data:=.seq acc' c',slots:=#[] }->
   ItemsOf (λi v=>items[items.size-1-i]? = some v) acc' items.size->R (.ok (.ret res)) { s with heap:=h',toks:=tk }) :
  wpAny (model prog w) A.in1 (Builtin.List.listExtendWith (.ref S) (.ref it) res)
   (λfin s'=>match fin with|.done f=>R (.ok f) s'|.again c'=>c'.quiet=true/\codeAny (model prog w) A c' R s') (λe s'=>R (.error e) s') s:=by
 have hSi:S≠it:=λe=>by obtain⟨o,ho,hc,_⟩:=hit;rw[e,ho]at hS;cases hS;exact absurd hc (by show ¬Value.type "list" = _;decide)
 have hSt:S≠t:=λe=>by obtain⟨o,ho,hc,_⟩:=ht;rw[e,ho]at hS;cases hS;exact absurd hc (by show ¬Value.type "list" = _;decide)
 have hSf:S∉[it,t]:=λhm=>by rcases be8.mp hm with e|e;exact hSi e;exact hSt (bh5.mp e)
 have W:=(aM0 (prog:=prog) (w:=w) (A:=A.in1) hh it t hne items (by omega)).toS;have key:∀(h:Heap) (c₁ tk:Nat),(∀b o,b≠S->s.heap.get? b=some o->h.get? b=some o)->
   h.get? S=some { cls:=.type "list",data:=.seq #[] c₁ }->codeAny (model prog w) A (.builtin "list.extend.loop" ⟨[.ref S,.ref it,res],[]⟩) R { s with heap:=h,toks:=tk }:=by
  intro h c₁ tk hk hS₁;have st:0<=items.size/\dR h it t ((items.size:Int)-1-((0:Nat):Int))/\IsTup h t items:=
   ⟨bo1 _,by rw[show (items.size:Int)-1-((0:Nat):Int)=(items.size:Int)-1 by omega];exact hit.at λo e=>hk it o (Ne.symm hSi) e,let ⟨o,ho,r⟩:=ht;⟨o,hk t o (Ne.symm hSt) ho,r⟩⟩
  refine codeAny_extend_loopS W (by rw[bt1];omega) S hSf res items.size 0 _ #[] c₁ rfl (bo1 _) st hS₁ (ItemsOf.nil _) λs' acc' c' hm hS' hacc=>?_
  rw[hm.eq_with];refine hR s'.heap s'.toks acc' c' (λb o hb hb2 e=>hm.heap b o (λhmem=>?_) (hk b o hb e)) hS' hacc;rcases be8.mp hmem with e'|hmem
  ·exact hb e'
  ·exact hb2 (bh5.mp hmem)
 unfold Builtin.List.listExtendWith;refine be2 (wpAny_typeOf (T:="reversed") hit.typeIs ?_);have h1:Builtin.List.listSameRef (.ref S) (.ref it)=false:=by simp[Builtin.List.listSameRef,hSi]
 have h2:(Value.type "reversed"==Value.type "list")=false:=by decide
 have h3:(Value.type "reversed"==Value.type "tuple")=false:=by decide
 simp only[h1,h2,h3,Bool.or_false,bi7,bq0];refine be2 (Q4 hit ?_);refine be2 (bv6 (aM2 hit ht ai λtk htk=>?_));refine wpAny_ite_split (λ_=>?_) (λ_=>be6 ⟨plainId_quiet F.plain_extend_loop _,key _ c₀ _ (λb o _ e=>e) hS⟩);refine be2 (wpAny_rule ?_);refine be2 ?_;show wpAny _ _ (updateSeq S (·.push .none) >>= λ_=>updateSeq S (·.pop)) _ _ _;refine be2 (wpAny_updateSeq hS rfl ?_);have hS₂:=bp1 (Obj.mapSeq (·.push Value.none)) hS rfl;refine wpAny_updateSeq (hz:=by seq_fits) hS₂ rfl ?_;have hS₃:=bp1 (Obj.mapSeq (·.pop)) hS₂ rfl;refine be6 ⟨plainId_quiet F.plain_extend_loop _,key _ _ _ (λb o hb e=>?_) hS₃⟩;exact (bo7 _ _ (Ne.symm hb)).trans ((bo7 _ _ (Ne.symm hb)).trans e)
theorem aM4 {R:Result->aq->Prop}{it t:ar}{items:Array ao}(hh:A.handled=none)(hne:t≠it)(hit:dR s.heap it t ((items.size:Int)-1))(ht:IsTup s.heap t items)(ai:items.size<=2^24)(hR:∀h' tk acc c,(∀b o,b≠s.heap.objs.size->b≠it->(s.heap.push { cls:=.type "list",data:=.seq ([]:List ao).toArray }).get? b=some o->h'.get? b=some o)->h'.get? s.heap.objs.size=some { cls:=.type "list",dict:=none,data:=.seq acc c,slots:=#[] }->ItemsOf (λi v=>items[items.size-1-i]? = some v) acc items.size->R (.ok (.ret (.ref s.heap.objs.size))) { s with heap:=h',toks:=tk }) :
  codeAny (model prog w) A (.builtin "proto.collect" ⟨[.ref it],[]⟩) R s:=by
 refine bu6 PySem.F.entry_proto_collect ?_;rw[Around.under_plainId PySem.F.plain_proto_collect _];show wpAny _ A.in1 (newList [] >>= λl=>again (.builtin "list.__iadd__" ⟨[l,.ref it],[]⟩)) _ _ s;refine be2 (bi8 ?_);refine be6 ⟨plainId_quiet PySem.F.plain_list_iadd _,bu6 PySem.F.entry_list_iadd ?_⟩;rw[Around.under_plainId PySem.F.plain_list_iadd _];show wpAny _ A.in1 (Builtin.List.listExtendWith (.ref s.heap.objs.size) (.ref it) (.ref s.heap.objs.size)) _ _ _;exact aM3 (s:={ s with heap:=s.heap.push { cls:=.type "list",data:=.seq ([]:List ao).toArray } }) (R:=R) hh hne (hit.at λo e=>be4 _ e) (let ⟨o,ho,r⟩:=ht;⟨o,be4 _ ho,r⟩) ai s.heap.objs.size _ 0 (bf0 _ rfl) hR
theorem aM5 {Q:List ao->aq->Prop}{it t:ar}{items:Array ao}(hh:A.handled=none)(hne:t≠it)(hit:dR s.heap it t ((items.size:Int)-1))(ht:IsTup s.heap t items)(ai:items.size<=2^24)(hQ:∀h' tk acc,(∀b o,b≠it->s.heap.get? b=some o->h'.get? b=some o)->ItemsOf (λi v=>items[items.size-1-i]? = some v) acc items.size->Q acc.toList { s with heap:=h',toks:=tk }):wpAny (model prog w) A (collect (.ref it)) Q E s:=by
 unfold collect;refine be2 (wpAny_runValue (aM4 (s:=s) hh hne hit ht ai λh' tk acc c kp at1 i1=>?_));show wpAny _ A (load s.heap.objs.size >>= _) _ _ _;refine be2 (wpAny_load at1 ?_);exact be6 (hQ h' tk acc (λb o hb e=>kp b o (bh6 (bf4 e)) hb (be4 _ e)) i1)
theorem aM6 (it t:ar)(items:Array ao)(hne:t≠it)(ai:items.size<=2^24) :
  Meets (Builtin.«tuple.__new__» ⟨[.type "tuple",.ref it],[]⟩) (λA R s=>A.handled=none/\dR s.heap it t ((items.size:Int)-1)/\IsTup s.heap t items/\∀(h':Heap) tk (acc:Array ao),(∀b o',b≠it->s.heap.get? b=some o'->h'.get? b=some o')->ItemsOf (λi v=>items[items.size-1-i]? = some v) acc items.size->R (.ok (.ret (.ref h'.objs.size))) { s with heap:=h'.push { cls:=.type "tuple",data:=.seq acc },toks:=tk }):=
 .of_wp λprog w A R s h=>by
  obtain⟨hp,g,d,tk,os⟩:=s
  obtain⟨hh,hit,ht,h⟩:=h
  have hsub:=sub_tuple_self;have hinit:=init_tuple_lookup;have hmh:=madeHere_tuple;have hT:Shared.TypeIs ⟨hp,g,d,tk,os⟩ (.ref it) "reversed":=dR.typeIs (s:=⟨hp,g,d,tk,os⟩) hit;unfold Builtin.«tuple.__new__»;generalize pi:collect=CC
  wp_walk using wpAny_typeOf hT
  subst pi;refine aM5 (s:=⟨hp,g,d,tk,os⟩) hh hne hit ht ai λh' tk' acc kp i1=>?_
  refine be2 (be6 ?_);show wpAny _ _ (Builtin.Tuple.tupleExact acc.toList.toArray >>= λv=>ret v) _ _ _;unfold Builtin.Tuple.tupleExact;refine be2 (bi8 ?_ (by show acc.toList.toArray.size<=sizeLine;rw[be5,bk9,i1.1,bt1];omega));refine be6 ⟨_,rfl,?_⟩;have e:acc.toList.toArray=acc:=by simp
  rw[e];exact h h' tk' acc kp i1
theorem aM7 {Q:ao->aq->Prop}{it t:ar}{items:Array ao}(hh:A.handled=none)(hne:t≠it)(hit:dR s.heap it t ((items.size:Int)-1))(ht:IsTup s.heap t items)(ai:items.size<=2^24)(h:∀(h':Heap) tk (acc:Array ao),(∀b o',b≠it->s.heap.get? b=some o'->h'.get? b=some o')->ItemsOf (λi v=>items[items.size-1-i]? = some v) acc items.size->Q (.ref h'.objs.size) { s with heap:=h'.push { cls:=.type "tuple",data:=.seq acc },toks:=tk }) :
  wpAny (model prog w) A (call (.type "tuple") [.ref it]) Q E s:=
 callType_new F.called_tuple (by decide) (F.typeCall_tuple_1 _) (F.newCall_tuple_1 _) (λobj=>F.args_object_init_2 obj _) F.entry_tuple_new (aM6 it t items hne ai) ⟨by simp[hh],hit,ht,λh' tk acc hk i1=>⟨⟨_,bf0 _ rfl,rfl⟩,h h' tk acc hk i1⟩⟩
theorem aM8 {t:ar}{items:Array ao}{Q:ao->aq->Prop}(ht:IsTup s.heap t items)(hz:(items.size:Int)<2^62)(h:∀tk,Q (.ref s.heap.objs.size) { s with heap:=s.heap.push (qJ t ((items.size:Int)-1)),toks:=tk }):wpAny (model prog w) A (call (.type "reversed") [.ref t]) Q E s:=
 callType_new aL0 (by decide) (PySem.F.typeCall_reversed_1 _) (PySem.F.newCall_reversed_1 _) (λobj=>PySem.F.args_object_init_2 obj _) PySem.F.entry_reversed_new (aL2 t items hz) ⟨ht,λtk=>⟨⟨_,bf0 _ rfl,rfl⟩,h tk⟩⟩
end
end Raw
namespace L2
open PySem PySem.Spec PyProof.Rows
section
variable {X:Cx}
theorem aM9 {xs:List V}{its acc:Array ao}(rv:aY xs its.toList)(h:ItemsOf (λi v=>its[its.size-1-i]? = some v) acc its.size):aY xs.reverse acc.toList:=by
 have e:acc.toList=its.toList.reverse:=by
  refine List.ext_getElem? λi=>?_
  by_cases hi:i<its.size
  ·obtain⟨hl,hv⟩:=h
   have h2:acc[i]? = some (acc[i]'(by omega)):=bo8 (by omega);rw[List.getElem?_reverse (by simpa using hi),bk9,bu0,bu0,h2,hv i _ h2]
  ·rw[List.getElem?_eq_none (by rw[bk9,h.1];omega),List.getElem?_eq_none (by rw[List.length_reverse,bk9];omega)]
 rw[e];exact rv.reverse
noncomputable def aN0 (ta:TA):TE:=λσ H Q=>ta σ H λvs H1=>∃t xs,vs = [.ref t]/\H1 t=some (.tup xs)/\∀p,H1 p=none->Q (.ref p) (upd H1 p (.tup xs.reverse))
theorem aN1 {a:Expr}{ta:TA}{p2 p3 pos pos2:Pos}(hc:X.calm=true)(hg:Gl X "tuple")(hm:X.mg "tuple" = none)(hgr:Gl X "reversed")(hmr:X.mg "reversed" = none)(ha:PA X [a] ta)(hs:starEach [a] X.env = [(false,eval a X.env)]:=by rfl)(he:starEach [.Call (.Name "reversed" p3) [a] [] pos2] X.env=(false,eval (.Call (.Name "reversed" p3) [a] [] pos2) X.env)::starEach [] X.env:=by rfl)(hpl:(backTo pos (starEach [] X.env)).any (·.1)=false:=by rfl)(hnl:starEach [] X.env = []:=by rfl) :
  PE X (.Call (.Name "tuple" p2) [.Call (.Name "reversed" p3) [a] [] pos2] [] pos) (aN0 ta):=by
 intro af s σ H Q I h;refine bt5 (gO I hg hm PyProof.Rows.boot_tuple ?_);refine bj6 ?_ he hpl;rw[he,hnl];show wpAny _ _ (spliced ((false,eval _ X.env)::[])) _ _ s;refine Calls.spliced_cons ?_;refine bt5 (gO I hgr hmr PyProof.Rows.boot_reversed (bj6 (aT (ha pos2 af s σ H _ I h) λus s1 ⟨vs,H1,I1,r1,q1⟩=>?_) (by rw[hs];rfl) (by rfl)))
 obtain⟨t,xs,e,h1,q⟩:=q1
 subst e
 obtain⟨u,rfl,rx⟩:=eW r1
 cases rx
 obtain⟨hz,its,rv,tp,nd⟩:=(show cI X.prog X.w H1 s1.heap t (.tup xs) from I1.hok t _ h1)
 have hl:xs.length<=2^24:=by have e:=bt1;omega
 have lv:its.length=xs.length:=rv.length.symm;have tlt:t<s1.heap.objs.size:=by obtain⟨o,ho,_⟩:=tp;exact bf4 ho
 refine Raw.aM8 tp (by rw[be5,lv];omega) λtk=>?_
 refine Calls.spliced_nil ?_;have I2:aE X af σ H1 { s1 with heap:=s1.heap.push (Raw.qJ t ((its.toArray.size:Int)-1)),toks:=tk }:=I1.kept (t':=tk) λb o e=>be4 _ e
 have fr:H1 s1.heap.objs.size=none:=I1.hok.fresh (be7 _)
 obtain⟨f0,f1,f2,f3,f4,f5⟩:=I1.fpOk (b:=s1.heap.objs.size) (be7 _) fr
 refine Raw.aM7 (s:={ s1 with heap:=s1.heap.push (Raw.qJ t ((its.toArray.size:Int)-1)),toks:=tk }) (t:=t) (items:=its.toArray) (I2.ok.hd hc) (bh6 tlt) ⟨_,bf0 _ rfl,rfl,rfl⟩ (let ⟨o,ho,r⟩:=tp;⟨o,be4 _ ho,r⟩) (by rw[be5,lv];omega) λh' tk' acc kp it=>?_
 have vv:=aM9 (its:=its.toArray) (by simpa using rv) it;have eq:acc.toList.toArray=acc:=by simp
 have I3:aE X af σ H1 { s1 with heap:=h',toks:=tk' }:=I2.turned (t':=tk') (λb o hb e=>kp b o hb e) f0 f1 f3 f4 f5;have I4:aE X af σ (upd H1 h'.objs.size (.tup xs.reverse)) { s1 with heap:=h'.push { cls:=.type "tuple",data:=.seq acc.toList.toArray },toks:=tk' }:=
  I3.laid (t':=tk') (λb o e=>be4 _ e) (be7 _) (show cI X.prog X.w _ _ _ (.tup _) from ⟨by rw[List.length_reverse];exact hz,acc.toList,vv,PyProof.Rows.IsTup.new _ _,fM.new _ _ rfl⟩)
 rw[eq]at I4
 exact⟨.ref h'.objs.size,_,I4,rfl,q _ (I3.hok.fresh (be7 _))⟩
end
end L2
namespace PP
open PySem L2
theorem aN2 {K:ac}{M:ar->Prop}{H:Hp}{vs:List V}{xs:List PV}(r:Reps K M H vs xs):Reps K M H vs.reverse xs.reverse:=by
 induction vs generalizing xs with
 |nil=>cases r;exact .nil
 |cons v vs ih=>
  cases r with
  |cons r t=>rw[List.reverse_cons,List.reverse_cons];exact (ih t).append (.cons r .nil)
section
variable {X:Cx}{a:Expr}{tr:cA}{pos pos2 p2 p3:Pos}
theorem aN3 (B:Bt X.mg)(bs:X.mg "reversed" = none)(ha:QA X [a] tr)(hc:X.calm=true:=by rfl)(hg:Gl X "tuple":=by rfl)(hgr:Gl X "reversed":=by rfl)(hs:starEach [a] X.env = [(false,eval a X.env)]:=by rfl)(he:starEach [.Call (.Name "reversed" p3) [a] [] pos2] X.env=(false,eval (.Call (.Name "reversed" p3) [a] [] pos2) X.env)::starEach [] X.env:=by rfl)(hpl:(backTo pos (starEach [] X.env)).any (·.1)=false:=by rfl)(hnl:starEach [] X.env = []:=by rfl) :
  QE X (.Call (.Name "tuple" p2) [.Call (.Name "reversed" p3) [a] [] pos2] [] pos) (aK P7 tr):=
 bS (aN1 hc hg B.tuple hgr bs ha hs he hpl hnl) λσ H Q' h=>by
  obtain⟨W,ρ,Q,px,q,k⟩:=h
  refine⟨W,ρ,_,px,q,λvs H1 xs s1 r1 q1=>?_⟩
  obtain⟨ys,e1,fl,q⟩:=q1
  have r2:=r1.any;rw[e1]at r2
  obtain⟨v,rfl,r3⟩:=r2.one
  obtain⟨p,us,rfl,hp,r4⟩:=r3.sqT
  exact⟨p,us,rfl,hp,λl hl=>k _ _ _ .fr (s1.trans (bC hl _)) (.tup bD ((aN2 (r4.flat fl)).same (bC hl _) λ_ z=>z)) q⟩
end
end PP
namespace Core
open PySem L2 PP
noncomputable abbrev Q5:=List (Int×Option Int)
noncomputable abbrev wJ:=List (Int×ae)
noncomputable def Q6 (W:wJ):ae:=W.map (·.1)
section
variable {ws:ae}{n:Nat}{ls:aa}{P:Q5}{W T:wJ}{D B:ae}{h x y c:Int}{e:Option Int}
structure nD (P:Q5)(W:wJ)(D:ae)(x:Int)(B:ae):Prop where
 self:x∈B
 nd:B.Nodup
 up:∀y∈B,y=x∨(y∈Q6 W/\∃e,(y,some e)∈P/\e∈B)
 dn:∀y∈B,∀c,(c,some y)∈P->c∈Q6 W->c∈B
 inn:∀y∈B,y∈D
end
noncomputable abbrev Led:=aa
noncomputable def IsL (y:PV)(L:Led):Prop:=y = .tup (kU L)∨y = .lst (kU L)
end Core
namespace PP
open PySem L2
noncomputable abbrev Cau:=Option (Int×ae)
end PP
namespace L2
open PySem PySem.Spec PyProof.Rows SO
noncomputable def KD (P:av)(w:ax)(K:ac)(mg:Str->Option ao)(x:Str)(kvs:List (aH×V)):Prop:=
 ∃a o,mg x=some (.ref a)/\K.lookup a=some o/\(a==sysModules)=false/\∀h:Heap,h.get? a=some o->∃vs,KV kvs vs/\h.DictOf (cT P w) a vs
noncomputable def Q7 (kvs:List (aH×V))(ty:TE):TE:=λσ H Q=>ty σ H λy H2=>∃k,y=kV k/\Q ((dU kvs k).getD .non) H2
theorem aN4 {X:Cx}{x:Str}{xp ag ah:Pos}{e:Expr}{ty:TE}{kvs:List (aH×V)}(hg:Gl X x)(hd:KD X.prog X.w X.K X.mg x kvs)(he:PE X e ty)(m:M1 X (.Name x xp) "get" ag e ah)(hx:(x==("__debug__":Str))=false:=by decide):PE X (.Call (.Attribute (.Name x xp) "get" ag) [e] [] ah) (Q7 kvs ty):=by
 obtain⟨a,o,ha,hk,hs,hD⟩:=hd
 intro af s σ H Q I h;refine wpAny_Call_method m.base m.few m.line PySem.F.plainAttrs_dict PySem.F.slot_dict_get PySem.F.type_dict_get (aT (oH (v:=.ref a) hg ha rfl hx af s σ H (λv H1=>v = .ref a/\ty σ H1 λy H2=>∃k,y=kV k/\Q ((dU kvs k).getD .non) H2) I ⟨rfl,h⟩) λu s1 ⟨x,H1,I1,rx,ex,q1⟩=>?_);subst ex;obtain rfl:u=Value.ref a:=rx
 obtain⟨vs,rel,dd⟩:=hD _ (I1.kIn a o hk)
 refine⟨dd.typeIs,λb q=>?_,?_⟩
 ·cases q
  obtain⟨ob,_,_,h1,h2,_⟩:=dd
  exact⟨ob,h1,h2.2.1⟩
 rw[m.trees];refine Calls.callWith_builtin rfl (Calls.evalArgs_plain (Calls.spliced_cons (aT (he af s1 σ H1 _ I1 q1) λiv s2 ⟨y,H2,I2,ry,k,ey,q2⟩=>Calls.spliced_nil ?_)));subst ey
 obtain⟨vs,rel,dd⟩:=hD _ (I2.kIn a o hk)
 exact call_meetsIn PySem.F.slot_dict_get dd.typeIs PySem.F.entry_dict_get (PySem.F.args_dict_get_2 _ _) (meets_dict_get (cT X.prog X.w) a (jZ ry) hs) ⟨_,dd.mapOf,_,H2,I2.tok _,(rel.val k).getD (show b7 .non Value.none from rfl),q2⟩
theorem aN5 {P:av}{w:ax}{K:ac}{mg:Str->Option ao}{x:Str}{a:ar}{o:Obj}{es:Array DictEntry}{ep:Nat}{kvs:List (aH×V)}(ha:mg x=some (.ref a))(hk:K.lookup a=some o)(ho:o.ExactDict)(hd:o.data = .dict es ep)(hs:(a==sysModules)=false)(hv:∃vs,KV kvs vs/\PySem.KeysOf (cT P w) es/\PySem.Pairs (cT P w) es.toList vs/\(vs.map (·.1)).Nodup):KD P w K mg x kvs:=by
 obtain⟨vs,h1,h2,h3,h4⟩:=hv
 exact⟨a,o,ha,hk,hs,λh e=>⟨vs,h1,o,es,ep,e,ho,hd,h2,h3,h4⟩⟩
end L2
namespace PP
open PySem L2
section
variable {X:Cx}{e a b:Expr}{tr:cA}{te ta tb:aO}{pos p2:Pos}
noncomputable def mH (ds:List (Str×Int)):List (aH×V):=ds.map λp=>(.inr p.1,.int p.2)
noncomputable def wK (ds:List (Str×Int))(te:aO):aO:=λρ Q=>te ρ λx _=>∃s,x = .str s/\Q (Core.vU (ds.lookup s)) .fr
theorem aN6 (ds:List (Str×Int))(s:Str):(dU (mH ds) (.inr s)).getD .non=(match ds.lookup s with|some i=>V.int i|none=>V.non):=by
 induction ds with
 |nil=>rfl
 |cons p r ih=>
  obtain⟨x,i⟩:=p
  rw[bk7];by_cases e:s=x
  ·subst e
   rw[show (s==s)=true from bm4 s];show (Option.map _ (List.find? _ (_::_))).getD _=_;rw[List.find?_cons_of_pos (by exact bj1 rfl)];rfl
  ·rw[show (s==x)=false from bn6.mpr e]
   show (Option.map _ (List.find? _ (_::_))).getD _=_;rw[List.find?_cons_of_neg (by simp;exact λz=>e z.symm)];exact ih
theorem aN7 {σ:St}{H:Hp}{Q':VK}{ds:List (Str×Int)}(h:LE X (wK ds te) σ H Q'):Q7 (mH ds) (LE X te) σ H Q':=by
 obtain⟨W,ρ,Q,px,q,k⟩:=h
 refine⟨W,ρ,_,px,q,?_⟩;rintro v H1 x g s r ⟨t,rfl,q⟩;cases r;refine⟨.inr t,rfl,?_⟩;rw[aN6];cases e:ds.lookup t with
 |none=>rw[e]at q;exact k _ _ _ _ s .non q
 |some i=>rw[e]at q;exact k _ _ _ _ s (.int i) q
theorem aN8 {x:Str}{xp ag ah:Pos}{ds:List (Str×Int)}(hd:KD X.prog X.w X.K X.mg x (mH ds))(he:QE X e te)(hg:Gl X x:=by rfl)(m:M1 X (.Name x xp) "get" ag e ah:=by exact⟨rfl,rfl,rfl,rfl⟩)(hx:(x==("__debug__":Str))=false:=by decide):QE X (.Call (.Attribute (.Name x xp) "get" ag) [e] [] ah) (wK ds te):=
 bS (aN4 hg hd he m hx) λ_ _ _=>aN7
noncomputable def wL:PV->Tg->PV->Tg->PK->Prop:=λx _ y _ Q=>∃(i:Int) (o:Option Int),x=Core.vU o/\y = .int i/\Q (.bl (!decide (o=some i))) .fr
theorem aN9:dG X wL sC:=by
 rintro W Hs H u v x y g g' Q Q' s n r1 r2 ⟨i,o,rfl,rfl,q⟩ k;cases r2;cases o with
 |none=>
  cases r1
  exact⟨rfl,k _ _ _ .fr (aI.refl _) (.bl true) q⟩
 |some j=>
  cases r1;have e:decide (V.int j=V.int i)=decide (some j=some i):=decide_eq_decide.mpr ⟨λz=>by cases z;rfl,λz=>by cases z;rfl⟩;refine⟨rfl,?_⟩;rw[e];exact k _ _ _ .fr (aI.refl _) (.bl _) q
theorem aO0 (ha:QE X a ta)(hb:QE X b tb):QT X (.Compare a [.NotEq] [b] pos) (b5 (q2 wL ta tb)):=j3 xP aN9 ha hb (eV _)
end
end PP
namespace Core
open PySem L2 PP
noncomputable abbrev mm (i j:Int):Int×Int:=(if j<i then j else i,if j>i then j else i)
noncomputable def qK:List (Str×Int):=[("light",1),("douse",1),("want",2),("link",2),("cut",2)]
theorem aO1 {P:av}{w:ax}{t0 u0 t1 u1 t2 u2 t3 u3 t4 u4:Tok}:∃vs,KV (mH qK) vs/\PySem.KeysOf (cT P w) #[⟨hashStr w "light",.str "light" t0,.int 1 u0⟩,⟨hashStr w "douse",.str "douse" t1,.int 1 u1⟩,⟨hashStr w "want",.str "want" t2,.int 2 u2⟩,⟨hashStr w "link",.str "link" t3,.int 2 u3⟩,⟨hashStr w "cut",.str "cut" t4,.int 2 u4⟩]/\
  PySem.Pairs (cT P w) (#[⟨hashStr w "light",.str "light" t0,.int 1 u0⟩,⟨hashStr w "douse",.str "douse" t1,.int 1 u1⟩,⟨hashStr w "want",.str "want" t2,.int 2 u2⟩,⟨hashStr w "link",.str "link" t3,.int 2 u3⟩,⟨hashStr w "cut",.str "cut" t4,.int 2 u4⟩]:Array DictEntry).toList vs/\(vs.map (·.1)).Nodup:=by
 have k:∀x t,(cT P w).is (.inr x) (.str x t)=true:=wX
 refine⟨[(.inr "light",.int 1 u0),(.inr "douse",.int 1 u1),(.inr "want",.int 2 u2),(.inr "link",.int 2 u3),(.inr "cut",.int 2 u4)],?_,?_,.cons (k _ _) rfl (.cons (k _ _) rfl (.cons (k _ _) rfl (.cons (k _ _) rfl (.cons (k _ _) rfl .nil)))),by show List.Nodup [(.inr "light":aH),.inr "douse",.inr "want",.inr "link",.inr "cut"];decide⟩
 ·exact .cons ⟨rfl,_,rfl⟩ (.cons ⟨rfl,_,rfl⟩ (.cons ⟨rfl,_,rfl⟩ (.cons ⟨rfl,_,rfl⟩ (.cons ⟨rfl,_,rfl⟩ .nil))))
 ·intro e he
  simp only[List.mem_toArray,be8,bf1,bi2]at he;rcases he with rfl|rfl|rfl|rfl|rfl<;>exact⟨_,k _ _,rfl⟩
end Core
namespace L2
open PySem PySem.Spec PyProof.Rows
section
variable {M:Model}{A:aw}{E:ao→aq→Prop}{s:aq}
theorem aO2 {x:ao}{env env':Env}(h:env'.frame=env.frame):noteFrame x env'=noteFrame x env:=by
 unfold noteFrame PySem.frameOf;rw[h]
theorem aO3 {h1 h2 h3:Heap}(a:h1.UpToSlots h2)(b:h2.UpToSlots h3):h1.UpToSlots h3:=λc o e n=>by
 obtain⟨sl,e2⟩:=a c o e n
 obtain⟨sl2,e3⟩:=b c { o with slots:=sl } e2 n
 exact⟨sl2,e3⟩
theorem aO4 {base:Heap}{env:Env}{outer:List Env}{L e:ar}{cls a0 fl:ao}{Q:Unit->aq->Prop}(hfr:A.frames=some (env::outer))(hf:env.frame=some L)(k1:base.StaysIn s.heap)(k2:base.get? e=none)(k3:s.heap.FunFrames base (env::outer))(k4:s.heap.TracedAtW base e cls a0 fl)(hQ:∀h',Heap.FlyingW base outer e cls a0 h'->s.heap.UpToSlots h'->Q () { s with heap:=h' }):wpAny M A (leaving env (.ref e)) Q E s:=by
 by_cases c:fl=rawInt L
 ·subst c
  unfold leaving;refine be2 (wpAny_noteFrame_againW hf k4 ?_);refine wpAny_landsW ⟨k1,k2,k3,k4⟩ λh' hfl up=>?_
  obtain⟨l1,l2,⟨_,_,l3⟩,l4⟩:=hfl
  exact hQ h' ⟨l1,l2,l3,l4⟩ up
 ·unfold leaving
  refine be2 ?_
  obtain⟨oe,vs,T,oT,ts,he,⟨hcls,h0⟩,hd,h1,hnT,hTe,hT,hdT,h3⟩:=k4
  subst hcls;unfold noteFrame;simp only[hf];refine be2 (bi1 he hd h1 ?_);rw[if_pos (show (Value.ref T != Value.none)=true from by simp)];refine be2 (bi1 hT hdT h3 ?_);rw[if_neg (show ¬((fl==rawInt L)=true) from λz=>c (eq_of_beq z))];refine be2 (br8 hT hdT (bt8.mp h3).1 ?_);have other:∀b,b≠T->(s.heap.update T (Obj.mapFields (·.setIfInBounds 3 Value.none))).get? b=s.heap.get? b:=λb hb=>bo7 _ _ (Ne.symm hb)
  have noRecord:∀b o,s.heap.get? b=some o->(∀vs,o.data≠.fields vs)->b≠T:=λb o hb hnf q=>by
   rw[q,hT]at hb;injection hb with hb;subst hb;exact hnf ts hdT
  refine wpAny_entryW hfr (k3.of_keeps λb o hb hnf=>⟨o,(other b (noRecord b o hb hnf)).trans hb,rfl⟩) hf ((other e (Ne.symm hTe)).trans he)
   (λb o hbo=>(other b λq=>by rw[q,hnT]at hbo;cases hbo).trans (k1 b o hbo)) k2 hd (bt8.mp h1).1 h0 ?_
  rintro h1' ⟨x1,x2,x3,x4⟩;refine wpAny_landsW (s:={ s with heap:=h1' }) ⟨x1,k2,x2,x3⟩ λh' hfl up=>?_
  obtain⟨l1,l2,⟨_,_,l3⟩,l4⟩:=hfl
  exact hQ h' ⟨l1,l2,l3,l4⟩ (aO3 (λb o hb hnf=>x4 b o ((other b (noRecord b o hb hnf)).trans hb) hnf) up)
end
structure aO5 (P:av)(w:ax)(outer:List Env)(ch:List ar)(H:Hp)(s:aq)(H':Hp)(B:Heap)(a C:ar)(s':aq):Prop where
 os:s'.os=s.os
 bare:AllBare s'.gens
 un:Un (bF outer) ch H H' s.heap s'.heap
 hok:bU P w H' s'.heap
 st:B.StaysIn s'.heap
 na:B.get? a=none
 ff:s'.heap.FunFrames B outer
 tr:∃a0 fl,s'.heap.TracedAtW B a (.ref C) a0 fl
 b0:∀b o,s.heap.get? b=some o->b∉bF outer->b∉ch->∃o',B.get? b=some o'
 b1:∀b o,s.heap.get? b=some o->H b=none->b∉bF outer->b∉ch->B.get? b=some o
 b2:∀b u o,H' b=some u->s'.heap.get? b=some o->B.get? b=some o
noncomputable def gY (X:Cx)(E:XK):Prop:=∀(af:List (ar×Obj)) (σ:St) (H H':Hp) (s s':aq) (B:Heap) (a C:ar) (ch:List ar),aE X af σ H s->(∀b∈ch,eM X af H b/\X.s₀.heap.objs.size<=b)->aO5 X.prog X.w X.stack ch H s H' B a C s'->E (.ref C) none H'->X.xe (.ref a) s'
section
variable {P:av}{w:ax}{K:ac}{mg:Str→Option ao}{base:Heap}{N:List Str}{qual:Str}{scope:Scope}{f:ar}{cd:ao}{A:aw}{outer:List Env}{s₀:aq}{H₀:Hp}{E₀ E₁:XK}
theorem aO6 (hE:∀c d H',E₁ c d H'->E₀ c d H'):gY (cL (cM P w) P w K mg base N qual scope f cd A outer s₀ H₀ E₀) E₁:=by
 intro af σ H H' s s' B a C ch I hch fl q;have I':=I.call' fl.os fl.un fl.hok fl.bare (ch:=ch) λb hb=>⟨(hch b hb).1.2.2.2.1,(hch b hb).1.2.1,(hch b hb).1.2.2.2.2.1,(hch b hb).1.2.2.2.2.2⟩
 have nch:∀{b o},s₀.heap.get? b=some o->b∉ch:=λ{b o} e z=>absurd (bf2 (bf4 e) (hch b z).2) (bj9 _)
 obtain⟨a0,fv,tr⟩:=fl.tr
 refine aO4 I.ok.frames rfl fl.st fl.na fl.ff tr λh' fly' up=>?_
 have slot:∀b o,s₀.heap.get? b=some o->b∈bF outer->∃sl,h'.get? b=some { o with slots:=sl }:=λb o e hb=>by
  obtain⟨sl,e1⟩:=I'.base.slot b o e (I.ok.frf b hb) hb (λz=>nomatch z)
  obtain⟨_,o2,e2,nf⟩:=I.ok.funs.mem hb
  rw[show (cL (cM P w) P w K mg base N qual scope f cd A outer s₀ H₀ E₀).s₀=s₀ from rfl,e]at e2;cases e2
  obtain⟨sl',e3⟩:=up b _ e1 nf
  exact⟨sl',e3⟩
 have old:∀b o,s₀.heap.get? b=some o->H₀ b=none->b∉bF outer->B.get? b=some o:=λb o e n hb=>
  fl.b1 b o (I.base.keep b o e n hb (λz=>nomatch z)) (I.base.free b o e n (λz=>nomatch z)) (m3 I e hb) (nch e)
 have old0:∀b o,s₀.heap.get? b=some o->b∉bF outer->∃o',B.get? b=some o':=λb o e hb=>by
  obtain⟨o1,e1⟩:=I.base.there b o e (λz=>nomatch z)
  exact fl.b0 b o1 e1 (m3 I e hb) (nch e)
 have hok2:bU P w H' h':=λb u e=>
  (fl.hok b u e).stay (λc v hc q=>by
   rcases hc with z|z
   ·subst z;exact fly'.1 _ _ (fl.b2 _ _ _ e q)
   ·exact fly'.1 _ _ (fl.b2 _ _ _ z q)) (λ_ q=>q) λ_ _ q=>q
 refine⟨H',B,a,C,rfl,⟨I'.os,I'.bare,⟨λb o e n hb _=>fly'.1 _ _ (old b o e n hb),λb o e n hb _=>slot b o e hb,λb o e n hx=>I'.base.free b o e n hx,λb o e _=>?_,I'.base.tups,I'.base.frzs,I'.base.tbls⟩,hok2,⟨a0,fly'⟩,old0,old,λb u o e h=>?_⟩,hE _ _ _ q⟩
 ·by_cases hb:b∈bF outer
  ·obtain⟨sl,e1⟩:=slot b o e hb
   exact⟨_,e1⟩
  ·obtain⟨o',e1⟩:=old0 b o e hb
   exact⟨o',fly'.1 _ _ e1⟩
 ·obtain⟨ob,e1⟩:=(fl.hok b u e).at
  have e2:=fl.b2 b u ob e e1;have e3:=fly'.1 _ _ e2;have h:h'.get? b=some o:=h;rw[h]at e3;cases e3;exact e2
end
section
variable {X:Cx}{af:List (ar×Obj)}{σ:St}{H:Hp}{s:aq}{scope:Scope}{N:List Str}{fr:List (Option Nat)}{tg iter elt:Expr}{ifs:List Expr}{pos:Pos}{wi:TI}{g:TG}{tc:TT}{te:TE}
structure wM (X:Cx)(scope:Scope)(N:List Str)(tg:Expr)(ifs:List Expr)(elt:Expr)(s:aq)(H:Hp)(XE:ar->List ar->ao->aq->Prop)(g:TG)(tc:TT)(te:TE):Prop where
 tg:∀(C:ar) (fp:List ar),PG (bB X scope N s H C fp (XE C fp)) tg g
 ifs:∀(C:ar) (fp:List ar),i4 (bB X scope N s H C fp (XE C fp)) ifs tc
 elt:∀(C:ar) (fp:List ar),PE (bB X scope N s H C fp (XE C fp)) elt te
theorem Q8 {XE:ar->List ar->ao->aq->Prop}{Rr:ao->ar->Result->aq->Prop}{J:It}{fp:List ar}{it:ar}{tn:Nat->Heap->Prop}{Q:VK}(hc:X.calm=true)(S:cE X scope N fr)(B:wM X scope N tg ifs elt s H XE g tc te)(I:aE X af σ H s)(T:fN X.prog X.w X.K tg J fp it tn)(hst:tn 0 s.heap)(hf:∀b∈fp,eM X af H b)(h:∀D,H D=none->∃W:Nat->Nat->List V->Hp->Prop,(∃m,W 0 m [] (upd H D (.lst [])))/\k7 g tc te (dO fr σ) J D Q W)(herr:∀(D C:ar) (e:ao) (s':aq),s.heap.objs.size<=C->XE C fp e s'->notedBy (model X.prog X.w) X.A (compEnvC scope (dZ X scope C) C X.env) (λe s''=>Rr (.ref D) C (.error e) s'') e s')(hend:∀(D C:ar) (s':aq) (H':Hp) (m:Str->Option ao),s.heap.objs.size<=C->s.heap.objs.size<=D->aE X af σ H' s'->s'.heap.Ns C m->H' C=none->Q (.ref D) H'->Rr (.ref D) C (.ok .next) s') :
  wpAny (model X.prog X.w) X.A (newList []) (λacc s₃=>wpAny (model X.prog X.w) X.A (newFunctionEnv scope X.env.globals (dY X.env.cells scope.names []) [] X.env.qual none .none (some X.env)) (λcenv s₄=>
   codeAny (model X.prog X.w) X.A (.compStart (.ListComp elt [⟨tg,iter,ifs,0⟩] scope pos) 0 (.ref it) acc { cenv with scope:=relabel scope X.env }) (Rr acc cenv.locals) s₄) X.xe s₃) X.xe s:=by
 refine bi8 (zK (λh₁ hns₁ keep₁ hco₁=>?_));dsimp only at hns₁ keep₁ hco₁ ⊢;generalize hH2:s.heap.push { cls:=.type "list",dict:=none,data:=.seq ([]:List ao).toArray }=H2 at hns₁ keep₁ hco₁ ⊢;have hC:H2.objs.size=s.heap.objs.size+1:=by rw[<- hH2,bp3]
 have hDC:s.heap.objs.size<H2.objs.size:=by rw[hC];exact Nat.lt_succ_self _
 have hCle:s.heap.objs.size<=H2.objs.size:=by rw[hC];exact Nat.le_succ _
 have old:∀b o,s.heap.get? b=some o->h₁.get? b=some o:=λb o e=>keep₁ b o (hH2▸be4 _ e)
 have hacc:h₁.get? s.heap.objs.size=some { cls:=.type "list",data:=.seq #[] 0 }:=keep₁ _ _ (hH2▸bf0 _ rfl);have hfl:∀b∈fp,b<s.heap.objs.size:=λb hb=>by obtain⟨o,e,_⟩:=T.obj _ _ hst b hb;exact bf4 e
 obtain⟨W,⟨m0,w0⟩,turn⟩:=h s.heap.objs.size (I.hok.fresh (be7 _))
 have st1:tn 0 h₁:=T.keep _ _ _ hst λb _ o e=>old b o e
 have fr0:∀b∈fp,upd H s.heap.objs.size (.lst []) b=none:=λb hb=>by rw[b6 (bh6 (hfl b hb))];exact (hf b hb).1
 have stat:∀{H':Hp},(∀b∈fp,H' b=none)->∀b∈fp,eM (bB X scope N s H H2.objs.size fp (XE H2.objs.size fp)) [] H' b:=λ{H'} hn b hb=>by
  have f:=hf b hb;refine⟨hn b hb,bh6 (bf2 (hfl b hb) hCle),λz=>?_,.inl hb,λx c e=>(jF e).elim (λz=>bl4 (Nat.lt_trans (bf2 (hfl b hb) hCle) (hco₁.empty x c z).2)) λz=>f.2.2.2.2.1 x c (nC scope.names [] (S.cells I) (λ_ _ z=>by simp at z) z.2),λp hp=>absurd (show p∈([]:List (ar×Obj)) from hp) (by simp)⟩;rcases be8.mp (I.stkSub b z) with e|e
  ·exact f.2.1 e
  ·exact f.2.2.1 e
 generalize hX:bB X scope N s H H2.objs.size fp (XE H2.objs.size fp)=Y at stat;have I0:aE Y [] (dO fr σ) (upd H s.heap.objs.size (.lst [])) { s with heap:=h₁ }:=hX▸zG S I hf hfl (be7 _) hCle hDC old hns₁ hacc hco₁;have bt:PG Y tg g:=hX▸B.tg H2.objs.size fp;have bi:i4 Y ifs tc:=hX▸B.ifs H2.objs.size fp;have be:PE Y elt te:=hX▸B.elt H2.objs.size fp;have eP:Y.prog=X.prog:=by rw[<- hX];rfl
 have ew:Y.w=X.w:=by rw[<- hX];rfl
 have eK:Y.K=X.K:=by rw[<- hX];rfl
 have eA:Y.A=X.A:=by rw[<- hX];rfl
 have eE:Y.env=compEnvC scope (dZ X scope H2.objs.size) H2.objs.size X.env:=by rw[<- hX];rfl
 have eX:Y.xe=XE H2.objs.size fp:=by rw[<- hX];rfl
 have ec:Y.calm=true:=by rw[<- hX];exact hc
 have never:∀(e:ao) (s':aq),Y.xe e s'->notedBy (model X.prog X.w) X.A (compEnvC scope (dZ X scope H2.objs.size) H2.objs.size X.env) (λe s''=>Rr (.ref s.heap.objs.size) H2.objs.size (.error e) s'') e s':=λe s' z=>by rw[eX]at z;exact herr _ _ e s' hCle z
 have out:∀{pins' σ' H' s'},aE Y pins' σ' H' s'->aE X af σ H' s':=λ{_ _ _ _} I'=>tH (C:=H2.objs.size) (E:=XE H2.objs.size fp) (scope:=scope) (N:=N) I hf (hX▸I')
 have loop:codeAny (model X.prog X.w) X.A (.compLoop (.ListComp elt [⟨tg,iter,ifs,0⟩] scope pos) 0 (.ref it) (.ref s.heap.objs.size) (compEnvC scope (dZ X scope H2.objs.size) H2.objs.size X.env))
   (Rr (.ref s.heap.objs.size) H2.objs.size) { s with heap:=h₁ }:=by
  refine zI (λn s'=>∃i acc H',aE Y [] (dO fr σ) H' s'/\tn i s'.heap/\(∀b∈fp,H' b=none)/\W i n acc H') ?_ m0 ⟨0,[],_,I0,st1,fr0,w0⟩;rintro n s3 ⟨i,acc,H3,I3,st3,fr3,w3⟩;unfold p4;dsimp only
  obtain⟨hD3,step⟩:=turn i n acc H3 w3
  rcases step with⟨stop,qn⟩|⟨go,step⟩
  ·have z:=T.done Y eP ew eK ec i [] s3 _ H3 (notedBy (model X.prog X.w) X.A (compEnvC scope (dZ X scope H2.objs.size) H2.objs.size X.env) λe s'=>Rr (.ref s.heap.objs.size) H2.objs.size (.error e) s') I3 (stat fr3) st3 stop
   rw[eA]at z;refine aT z λr s4 ⟨hr,I4⟩=>?_
   subst hr
   obtain⟨m4,hn4,_⟩:=I4.loc
   rw[eE]at hn4;have f4:=I4.free;rw[eE]at f4;exact hend _ _ s4 H3 m4 hCle (be7 _) (out I4) hn4 f4 qn
  ·have z:=T.item Y eP ew eK ec i [] s3 _ H3 (notedBy (model X.prog X.w) X.A (compEnvC scope (dZ X scope H2.objs.size) H2.objs.size X.env) λe s'=>Rr (.ref s.heap.objs.size) H2.objs.size (.error e) s') I3 (stat fr3) st3 go
   rw[eA]at z;refine aT z λr s4 ⟨u,hr,h4⟩=>?_
   subst hr;refine aT h4 λ_ s5 ⟨x,H5,I5,r5,y5,st5,fr5⟩=>?_
   have I5':=I5.pinned (stat fr5) (T.obj _ _ st5);have q1:=bt _ s5 _ H5 x u _ I5' r5 (step x H5 y5);rw[eP,ew,eA,eE]at q1;refine bk2 q1 (λ_ s6 ⟨σ6,H6,I6,wk,q6⟩=>?_) never;have q2:=bi _ s6 σ6 H6 _ I6 q6;rw[eP,ew,eA,eE]at q2;refine bk2 q2 (λb s7 ⟨H7,I7,q7⟩=>?_) never;have again:∀{H8:Hp}{s8:aq}{acc':List V},aE Y ([]++lE fp s5.heap) σ6 H8 s8->(∃m',m'<n/\W (i+1) m' acc' H8)->∃m,m<n/\∃i acc H',aE Y [] (dO fr σ) H' s8/\tn i s8.heap/\(∀b∈fp,H' b=none)/\W i m acc H':=λ{H8 s8 acc'} I8 n8=>by
    obtain⟨m',hm,w8⟩:=n8
    refine⟨m',hm,i+1,acc',H8,(I8.unpinned).weak wk.1 wk.2,T.keep _ _ _ st5 λb hb o e=>(I8.pin (b,o) (bi5 _ (bi5 _ (lF hb e)))).1,λb hb=>?_,w8⟩
    obtain⟨o,e,d⟩:=T.obj _ _ st5 b hb
    exact (I8.pin (b,o) (bi5 _ (bi5 _ (lF hb e)))).2.1
   cases b with
   |false=>
    rw[if_neg bh4]at q7 ⊢;exact again I7 q7
   |true=>
    rw[if_pos rfl]at q7 ⊢;have q3:=be _ s7 σ6 H7 _ I7 q7;rw[eP,ew,eA,eE]at q3;refine bk2 q3 (λv s8 ⟨y,H8,I8,r8,hD8,hz8,q8⟩=>?_) never;have q4:=mY _ s8 σ6 H8 (.ref s.heap.objs.size) [y] (.ref s.heap.objs.size) [v] (λ_ H9=>∃m',m'<n/\W (i+1) m' (acc++[y]) H9) I8 rfl (.cons r8 .nil) ⟨_,_,_,rfl,rfl,hD8,hz8,q8⟩;rw[eP,ew,eA]at q4;exact bk2 q4 (λ_ s9 ⟨_,H9,I9,_,q9⟩=>again I9 q9) never
 exact codeAny_compStart_list loop (T.self _ 0 _ _ _ st1 loop)
noncomputable def XC (X:Cx)(scope:Scope)(N:List Str)(s:aq)(H:Hp)(E:XK)(C:ar)(fp:List ar):ao->aq->Prop:=λe s'=>∃af σ H1 s1,aE (bB X scope N s H C fp λ_ _=>False) af σ H1 s1/\cM X.prog X.w X.stack H1 s1 E e s'
theorem Q9 {E:XK}{C:ar}{fp:List ar}:jX (cM X.prog X.w) (bB X scope N s H C fp (XC X scope N s H E C fp)) E:=by
 intro af σ H1 s1 e s' I h
 exact⟨af,σ,H1,s1,⟨⟨I.ok.mod,I.ok.kind,I.ok.glob,I.ok.blt,I.ok.above,I.ok.inj,I.ok.has,I.ok.cab,I.ok.hd,I.ok.frames,I.ok.stk,I.ok.exf,I.ok.bs,I.ok.bsz,I.ok.noex,I.ok.exfs,I.ok.funs,I.ok.frf⟩,I.os,I.bare,I.base,I.loc,I.cell,I.free,I.freeC,I.pin,I.hok,I.len⟩,h⟩
theorem R3 {E:XK}{fp:List ar}{C:ar}{e:ao}{s':aq}{cenv:Env}{Q:ao->aq->Prop}{acc:ao}(pa:gY X E)(hst:X.stack=X.env::X.outer)(hfm:X.env.frame=some X.env.locals)(I:aE X af σ H s)(hf:∀b∈fp,eM X af H b)(hC:s.heap.objs.size<=C)(hcf:cenv.frame=X.env.frame)(h:XC X scope N s H E C fp e s'):notedBy (model X.prog X.w) X.A cenv (λe s''=>compPost (model X.prog X.w) X.A X.xe none Q acc C (.error e) s'') e s':=by
 obtain⟨pins1,σ1,H1,s1,I1,H',B,a,Cc,rfl,fl,q⟩:=h
 have I2:aE X af σ H1 s1:=tH I hf I1
 obtain⟨m,hns,_⟩:=I1.loc
 have hns:s1.heap.Ns C m:=hns;have HC1:H1 C=none:=I1.free
 obtain⟨oC,es,ep,hoC,hdC,hsk,hnf⟩:=hns
 have nfr:C∉bF X.stack:=λz=>by
  rcases be8.mp (I.stkSub C z) with y|y
  ·exact absurd (bf2 I.lt hC) (by rw[y];exact bj9 _)
  ·exact I.nofs hC y
 have BC:B.get? C=some oC:=fl.b1 C oC hoC HC1 nfr;have HC':H' C=none:=fl.un.free C oC hoC HC1 (by simp)
 obtain⟨a0,fly⟩:=fl.fly
 unfold notedBy;rw[aO2 hcf];have fly0:Heap.FlyingW B (X.env::X.outer) a (.ref Cc) a0 s'.heap:=hst▸fly;refine wpAny_looks_onW (by rw[I.ok.frames,hst]) hfm fly0 λh1 held up=>?_
 obtain⟨k1,k2,k3,k4⟩:=held
 refine⟨m,⟨oC,es,ep,k1 _ _ BC,hdC,hsk,hnf⟩,λh' sb cenv' hc'=>?_⟩
 obtain⟨oe,vs,T,oT,ts,he,hcls,hd,hv1,hnT,hTe,hT,hdT,h3⟩:=k4
 have aC:a≠C:=λz=>by rw[z,BC]at k2;cases k2
 have TC:T≠C:=λz=>by rw[z,BC]at hnT;cases hnT
 have he':h'.get? a=some oe:=(sb.2 a aC).trans he;have hT':h'.get? T=some oT:=(sb.2 T TC).trans hT;have hsz3:3<ts.size:=(bt8.mp h3).1;unfold PySem.passOn;refine be2 (bi1 (s:={ s' with heap:=h' }) he' hd hv1 ?_);rw[if_neg (show ¬((Value.ref T==Value.none)=true) from by simp)];refine be2 ?_;unfold setFlight;refine be2 (bi1 (s:={ s' with heap:=h' }) he' hd hv1 ?_);rw[if_pos (show (Value.ref T != Value.none)=true from by simp)];refine br8 (s:={ s' with heap:=h' }) hT' hdT hsz3 (wpAny_throw ?_);generalize hv:(cenv'.frame.elim Value.none λf=>rawInt f)=fv;generalize hh2:h'.update T (Obj.mapFields (·.setIfInBounds 3 fv))=h2;have other:∀b,b≠T->h2.get? b=h'.get? b:=λb hb=>by rw[<- hh2];exact bo7 _ _ (Ne.symm hb)
 have nC2:(PySem.W.hideAll B [C]).get? C=none:=PySem.W.hideAll_none [C] (.head _);have inB:∀{b o},B.get? b=some o->b≠C->(PySem.W.hideAll B [C]).get? b=some o:=λ{b o} e n=>PySem.W.hideAll_get [C] e λz=>n (bh5.mp z)
 have ofB:∀{b o},(PySem.W.hideAll B [C]).get? b=some o->B.get? b=some o:=λ{b o} e=>PySem.W.of_hideAll [C] e
 have none2:∀{b},B.get? b=none->(PySem.W.hideAll B [C]).get? b=none:=λ{b} e=>by
  cases z:(PySem.W.hideAll B [C]).get? b with
  |none=>rfl
  |some o=>rw[ofB z]at e;cases e
 have neC:∀{b o},(PySem.W.hideAll B [C]).get? b=some o->b≠C:=λ{b o} e z=>by rw[z,nC2]at e;cases e
 have stay:(PySem.W.hideAll B [C]).StaysIn h2:=λb o e=>by
  rw[other b (λz=>by rw[z]at e;rw[ofB e]at hnT;cases hnT),sb.2 b (neC e)];exact k1 _ _ (ofB e)
 have upS:∀b o,s'.heap.get? b=some o->(∀vs,o.data≠.fields vs)->b≠C->∃sl,h2.get? b=some { o with slots:=sl }:=λb o e nf n=>by
  obtain⟨sl,e1⟩:=up b o e nf
  refine⟨sl,?_⟩;rw[other b (λz=>?_),sb.2 b n]
  ·exact e1
  ·rw[z]at e1
   rw[hT]at e1;cases e1;exact nf ts hdT
 have hne:∀{b u},H' b=some u->b≠C:=λ{b u} e z=>by rw[z,HC']at e;cases e
 have tr2:∀{b u o},H' b=some u->s'.heap.get? b=some o->(PySem.W.hideAll B [C]).get? b=some o:=λ{b u o} e g=>inB (fl.b2 b u o e g) (hne e)
 refine pa af σ H1 H' s1 _ (PySem.W.hideAll B [C]) a Cc [C] I2 (λb hb=>?_) ⟨fl.os,fl.bare,⟨λb o e n hb hx=>?_,λb o e n hb hx=>?_,λb o e n hx=>fl.un.free b o e n (by simp),λb o e hx=>?_,fl.un.tups,fl.un.frzs,fl.un.tbls⟩,λb u e=>?_,stay,none2 k2,?_,?_,λb o e hb hx=>?_,λb o e n hb hx=>?_,λb u o e g=>?_⟩ q
 ·rw[bh5.mp hb]
  exact⟨I.fpOk hC HC1,bj5 I.sz hC⟩
 ·exact stay _ _ (inB (fl.b1 b o e n hb) λz=>hx (by rw[z];exact .head _))
 ·obtain⟨sl,e1⟩:=fl.un.slot b o e n hb (by simp)
  have nf:∀vs,o.data≠.fields vs:=by
   obtain⟨_,o2,e2,nf⟩:=I2.stack.mem hb
   rw[e]at e2;cases e2;exact nf
  obtain⟨sl2,e2⟩:=upS b _ e1 nf λz=>hx (by rw[z];exact .head _)
  exact⟨sl2,e2⟩
 ·by_cases hb:b∈bF X.stack
  ·have n:=I2.stkFree b hb
   obtain⟨sl,e1⟩:=fl.un.slot b o e n hb (by simp)
   have nf:∀vs,o.data≠.fields vs:=by
    obtain⟨_,o2,e2,nf⟩:=I2.stack.mem hb
    rw[e]at e2;cases e2;exact nf
   obtain⟨sl2,e2⟩:=upS b _ e1 nf λz=>hx (by rw[z];exact .head _)
   exact⟨_,e2⟩
  ·obtain⟨o',e1⟩:=fl.b0 b o e hb
   exact⟨o',stay _ _ (inB e1 λz=>hx (by rw[z];exact .head _))⟩
 ·refine (fl.hok b u e).stay (λc v hc g=>?_) (λ_ g=>g) λ_ _ g=>g
  rcases hc with z|z
  ·subst z;exact stay _ _ (tr2 e g)
  ·exact stay _ _ (tr2 z g)
 ·rw[hst]
  have ff:h1.FunFrames B (X.env::X.outer):=k3;have ff2:∀{l:List Env},h1.FunFrames B l->h2.FunFrames (PySem.W.hideAll B [C]) l:=by
   intro l
   induction l with
   |nil=>exact λ_=>trivial
   |cons en l ih=>
    rintro⟨hk,⟨Lf,o,hfL,hn,ho,hdd⟩,hr⟩
    refine⟨hk,⟨Lf,o,hfL,none2 hn,?_,hdd⟩,ih hr⟩;have n1:Lf≠C:=λz=>by rw[z,BC]at hn;cases hn
    have n2:Lf≠T:=λz=>by
     rw[z,hT]at ho;cases ho;exact absurd hdT (hdd ts)
    rw[other Lf n2,sb.2 Lf n1];exact ho
  exact ff2 ff
 ·refine⟨a0,fv,oe,vs,T,Obj.mapFields (·.setIfInBounds 3 fv) oT,ts.setIfInBounds 3 fv,(other a (Ne.symm hTe)).trans he',hcls,hd,hv1,none2 hnT,hTe,?_,bm8 hdT _,?_⟩
  ·rw[<- hh2]
   exact bp1 _ hT' (bu1 (bm8 hdT _))
  ·show (ts.setIfInBounds 3 fv)[3]? = some fv
   simp[hsz3]
 ·obtain⟨o',e1⟩:=fl.b0 b o e hb
  exact⟨o',inB e1 λz=>hx (by rw[z];exact .head _)⟩
 ·exact inB (fl.b1 b o e n hb) λz=>hx (by rw[z];exact .head _)
 ·obtain⟨ob,e1⟩:=(fl.hok b u e).at
  have e2:=tr2 e e1;have e3:=stay _ _ e2;rw[show h2.get? b=some o from g]at e3;cases e3;exact e2
end
end L2
namespace PP
open PySem L2
section
variable {X:Cx}{σ:L2.St}{H:Hp}{D:cN}{tr:cA}{Q':VK}{a b c e:Expr}{es:List Expr}{pos p2:Pos}{t:aP}{te:aO}{tc:cD}{Ep:Str→Prop}
variable {scope:Scope}{N:List Str}{fr:List (Option Nat)}{x y:Str}{tp:Pos}{iter elt tg:Expr}{ifs:List Expr}{ti:e8}{wi:TI}{gh:Hp→TG}{tch:Hp→TT}{teh:Hp→TE}
noncomputable def wN (X:Cx)(wi:TI)(fr:List (Option Nat))(gh:Hp->TG)(tch:Hp->TT)(teh:Hp->TE):TE:=λσ H Q=>wi σ H λJ H1=>aI X.H₀ H1/\∀D,H1 D=none->
 ∃W:Nat->Nat->List V->Hp->Prop,(∃m,W 0 m [] (upd H1 D (.lst [])))/\k7 (gh H1) (tch H1) (teh H1) (dO fr σ) J D Q W
theorem R4 {E E':XK}(pa:gY X E)(h:∀c d H',E' c d H'->E c d H'):gY X E':=λaf σ H H' s s' B a C ch I hc fl q=>pa af σ H H' s s' B a C ch I hc fl (h _ _ _ q)
theorem aO7 (pa:gY X (EX X.K X.H₀ Ep))(hst:X.stack=X.env::X.outer)(hfm:X.env.frame=some X.env.locals)(hc:X.calm=true)(S:cE X scope N fr)(hi:PI X tg iter wi)(B:∀(s:aq) (H:Hp),wM X scope N tg ifs elt s H (XC X scope N s H (EX X.K H Ep)) (gh H) (tch H) (teh H))(hs:∀x,foldedSetIterable iter X.env x=pure x:=by intro _;rfl):PE X (.ListComp elt [⟨tg,iter,ifs,0⟩] scope pos) (wN X wi fr gh tch teh):=by
 intro af s σ H Q I h;rw[eval_ListComp];refine bp4 (use:=none) rfl hs (lJ (S.cells I)) S.kind S.names (aT (hi af s σ H _ I h) λv s1 h1=>aT h1 λitv s2 h2=>?_)
 obtain⟨it,fp,tn,J,H2,e,I2,T,st2,f2,sm,hW⟩:=h2
 subst e;have pa2:gY X (EX X.K H2 Ep):=R4 pa λc d H' z=>⟨z.1,sm.trans z.2.1,z.2.2⟩
 refine Q8 (Rr:=λacc C=>compPost (model X.prog X.w) X.A X.xe none (EP X af σ Q) acc C) hc S (B _ _) I2 T st2 f2 hW (λD C e s' hC hx=>R3 pa2 hst hfm I2 f2 hC rfl hx) ?_;intro D C s' H' m hC hD I' hns hHC q
 exact⟨m,hns,λh' sb=>⟨.ref D,H',I2.drop hC I' hHC sb,rfl,q⟩⟩
theorem R5 {p:iR}{g:TG}{own:Nat->Prop}(hg:lS X.K own p g)(ho:∀i,own i->fr[i]? = some none)(h:LE X (cZ ti fr p tc te) σ H Q') :
  wN X (LI X ti) fr (λ_=>g) (λH1=>LT (X.frm H1) tc) (λH1=>LE (X.frm H1) te) σ H Q':=by
 obtain⟨W,ρ,Q2,px,q2,k2⟩:=nM hg ho h
 exact⟨W,ρ,Q2,px,q2,λJ H1 xs gb s it hq=>⟨px.same.trans s,k2 J H1 xs gb s it hq⟩⟩
theorem aO8 (pa:gY X (EX X.K X.H₀ Ep))(hi:QI X (.Name x tp) iter ti)(he:∀(s:aq) (H:Hp) (C:ar) (fp:List ar),QE (bB X scope N s H C fp (XC X scope N s H (EX X.K H Ep) C fp)) elt te)(hst:X.stack=X.env::X.outer:=by rfl)(hfm:X.env.frame=some X.env.locals:=by rfl)(hc:X.calm=true:=by rfl)(S:cE X scope N fr:=by exact cE.of rfl rfl)(hN:N.Nodup:=by decide +kernel)(h0:N[0]? = some x:=by rfl)(hl:∀(s:aq) (H:Hp) (C:ar) (fp:List ar),(bB X scope N s H C fp cW).env.scope.names.lookup x=some .local:=by intro _ _ _ _;rfl)(hf:fr[0]? = some none:=by rfl)(hs:∀x,foldedSetIterable iter X.env x=pure x:=by intro _;rfl):QE X (.ListComp elt [⟨.Name x tp,iter,[],0⟩] scope pos) (cZ ti fr (bT 0) dC te):=
 bS (aO7 (gh:=λ_=>cO 0) (tch:=λH=>LT (X.frm H) dC) (teh:=λH=>LE (X.frm H) te) pa hst hfm hc S hi
  (λs H=>⟨λC fp=>eU (X:=bB X scope N s H C fp (XC X scope N s H (EX X.K H Ep) C fp)) hN h0 (.inl (hl s H C fp)) (.inr (hl s H C fp)),λC fp=>pQ (Y:=bB X scope N s H C fp (XC X scope N s H (EX X.K H Ep) C fp)),λC fp=>he s H C fp⟩) hs) λ_ _ _=>R5 (lT _ 0) (λi e=>by subst e;exact hf)
theorem R6 {k j:Nat}{x:Str}{ps:List Str}{p:bM}(hp:jX (cM X.prog X.w) X (EX X.K X.H₀ Ep))(d:aS X.prog X.w X.K X.mg X.base k x ps p)(hr:c8 j X.A)(ha:QA X (e::es) tr)(hkj:k<=j:=by decide)(hg:Gl X x:=by rfl)(hdb:(x==("__debug__":Str))=false:=by decide)(he:starEach (e::es) X.env=(false,eval e X.env)::starEach es X.env:=by rfl)(hpl:(backTo pos (starEach es X.env)).any (·.1)=false:=by rfl):QE X (.Call (.Name x p2) (e::es) [] pos) (bZ Ep p tr):=by
 obtain⟨f,fd,F,b,kp,m⟩:=d.ex
 exact bS (oO F (hr.mono hkj) hg m kp b .nil hp ha hdb he hpl) λ_ _ _=>vX
end
theorem aS.ofA {P:av}{w:ax}{K:ac}{mg:Str->Option ao}{base:Heap}{k:Nat}{x:Str}{ps N:List Str}{p:bM}{st:Stmt}{f:ar}{fd:FuncData}(F:eF K x x st f fd)(m:mg x=some (.ref f))(S:FnScope N ps (aU st))(hb:∀(kV doc pm:ao) (an:Option ar) (cdv ct:ao) (us:List ao),us.length=ps.length->bindArgs (PySem.W.fnOf x x (i3 st) (dW st) (aU st) .none kV doc pm an cdv ct) ⟨us,[]⟩=pure (ps.zip us))(t:(Str->Prop)->aP)(len:∀Ep xs Q,p Ep xs Q->xs.length=ps.length)(rd:∀Ep xs Q,p Ep xs Q->t Ep { nx:=λ_=>Q .non,rt:=Q } (eQ N xs))(body:∀(cdv:ao) (A:aw) (outer:List Env) (s:aq) (H:Hp) (E:XK) (Ep:Str->Prop),c8 k (A.deeper (PyProof.Rows.envOfC x (aU st) s.heap.objs.size f cdv))->kS (cL (cM P w) P w K mg base N x (aU st) f cdv A outer s H E) (EX K H Ep)->gY (cL (cM P w) P w K mg base N x (aU st) f cdv A outer s H E) (EX K H Ep)->
   eJ (cL (cM P w) P w K mg base N x (aU st) f cdv A outer s H E) (dW st) (t Ep)):aS P w K mg base (k+1) x ps p:=by
 refine⟨f,fd,F.okX S (λvs H Q E h=>?_) (λcdv A outer s H vs Q E hr h=>?_),F.binds hb,F.kp,m⟩
 ·obtain⟨xs,Qp,Ep,r,q,_⟩:=h
  rw[r.length];exact len Ep xs Qp q
 ·obtain⟨xs,Qp,Ep,r,q,k,ke⟩:=h
  have hE:∀c d H',EX K H Ep c d H'->E c d H':=λc d H' z=>by
   obtain⟨rfl,s,n,C,rfl,h1,h2⟩:=z
   exact ke n C H' s h1 h2
  have ht:=body cdv A outer s H E Ep hr (F1 hE) (aO6 hE);refine⟨_,ht,λ_=>False,eQ N xs,_,pP r,rd Ep xs Qp q,?_,?_,?_,?_⟩
  ·exact λW' σ' H' ρ' e px q=>k _ _ _ px.same .non q
  ·exact λv H' x s r q=>k _ _ _ s r q
  ·exact λW' σ' H' ρ' e px q=>q
  ·exact λW' σ' H' ρ' e px q=>q
end PP
namespace Txs
open PySem
noncomputable abbrev nS (n:Nat):Str:=Str.ofString (toString (n:Int))
end Txs
namespace L2
open PySem PySem.Spec PyProof.Rows Txs
section
variable {X:Cx}
theorem aO9:cV X (.type "int") (λxs H Q=>∃n:Nat,xs = [.str (nS n)]/\n<61/\Q (.int (n:Int)) H):=by
 rintro af s σ H xs us Q I r ⟨n,rfl,hn,q⟩
 obtain⟨u,rfl,t,rfl⟩:=eW r
 exact PySem.W.KIN.call_num (n:=(n:Int)) (by omega) (by omega) ⟨.int n,H,I.tok _,⟨_,rfl⟩,q⟩
theorem R7:∀l:List (Str×Tok),aY ((l.map (·.1)).map V.str) (strValues l)
 |[]=>.nil
 |p::l=>.cons ⟨p.2,rfl⟩ (R7 l)
theorem aP0:sP X "str.split" (λx vs H Q=>∃a b:Str,x = .str a/\vs = [.str b]/\b.length≠0/\a.length<=100000/\∀p,H p=none->Q (.ref p) (upd H p (.lst ((Txt.split a b).map V.str)))):=by
 rintro af s σ H x xs v us Q I rx rv ⟨a,b,rfl,rfl,hb,ha,q⟩
 obtain⟨t,rfl⟩:=rx
 obtain⟨u,rfl,t2,rfl⟩:=eW rv
 have hb:(b.length==0)=false:=by simpa using hb
 have ol:=StrLaws.occ_length_le a b 0 a.length (a.length+1);have sz:a.length+2<=sizeLine:=by rw[bt1];omega
 have fin:∀(l:List (Str×Tok)) (k:Nat),l.map (·.1)=Txt.split a b->l.length<=a.length+2->EP X af σ Q (.ref s.heap.objs.size) { s with heap:=s.heap.push { cls:=.type "list",data:=.seq (strValues l).toArray },toks:=k }:=λl k e hl=>by
  refine⟨.ref s.heap.objs.size,_,I.laid (t':=k) (o:=.lst ((l.map (·.1)).map V.str)) (λb ob z=>be4 _ z) (be7 _) ⟨by rw[be9,be9];omega,strValues l,0,R7 l,bf0 _ rfl⟩,rfl,?_⟩;rw[e];exact q _ (I.hok.fresh (be7 _))
 cases h1:(decide (a.length<b.length)||decide (Builtin.Str.strKind a<Builtin.Str.strKind b)) with
 |true=>exact bq3 F.slot_str_split (typeIs_str _ _ _) F.entry_str_split (F.args_str_split_2 _ _) (meets_str_split_cannot_occur a b t t2 h1) (fin [(a,t)] s.toks (if_pos h1).symm (by show 1<=_;omega))
 |false=>
  have iO:=ne_true_of_eq_false h1;cases hf:(Builtin.Str.occurrences a b 0 a.length (a.length+1)).isEmpty with
  |true=>exact bq3 F.slot_str_split (typeIs_str _ _ _) F.entry_str_split (F.args_str_split_2 _ _) (meets_str_split_not_found a b t t2 h1 hb hf) (fin [(a,t)] s.toks ((if_neg iO).trans (if_pos hf)).symm (by show 1<=_;omega))
  |false=>
   refine bq3 F.slot_str_split (typeIs_str _ _ _) F.entry_str_split (F.args_str_split_2 _ _) (meets_str_split_sep a b t t2 h1 hb hf (by omega) (by rw[length_partsBetween];omega)) ?_;have e:Txt.split a b=Builtin.Str.partsBetween a (Builtin.Str.occurrences a b 0 a.length (a.length+1)) b.length:=(if_neg iO).trans (if_neg (ne_true_of_eq_false hf));have r:=λk=>fin (numbered s.toks (Builtin.Str.partsBetween a (Builtin.Str.occurrences a b 0 a.length (a.length+1)) b.length)) k ((numbered_texts _ _).trans e.symm) (by have:=congrArg List.length (numbered_texts s.toks (Builtin.Str.partsBetween a (Builtin.Str.occurrences a b 0 a.length (a.length+1)) b.length));rw[be9,length_partsBetween]at this;omega)
   rw[<- strsFrom_eq]at r;exact r _
end
end L2
namespace PP
open PySem L2 PyProof.Rows Txs
section
variable {X:Cx}{σ:L2.St}{H:Hp}{Q':VK}{a b e o:Expr}{ta tb te:aO}{tr:cA}{pos p1 p2 p3 ag ah:Pos}{c:Str}{kk:Nat}
noncomputable def wO:List PV->(PV->Prop)->Prop:=λxs Q=>∃n:Nat,xs = [.str (nS n)]/\n<61/\Q (.int n)
theorem aP1:eY X wO (λxs H Q=>∃n:Nat,xs = [.str (nS n)]/\n<61/\Q (.int (n:Int)) H):=by
 rintro H vs xs Q Q' r ⟨n,rfl,hn,q⟩ k
 obtain⟨v,rfl,r1⟩:=r.one
 cases r1
 exact⟨n,rfl,hn,k _ _ _ (aI.refl _) (.int _) q⟩
theorem aP2 (B:Bt X.mg)(ha:QA X [e] tr)(hg:Gl X "int":=by rfl)(he:starEach [e] X.env=(false,eval e X.env)::starEach [] X.env:=by rfl)(hpl:(backTo pos (starEach [] X.env)).any (·.1)=false:=by rfl):QE X (.Call (.Name "int" p2) [e] [] pos) (aK wO tr):=
 E2 aO9 aP1 hg B.int PyProof.Rows.boot_int ha (he:=he) (hpl:=hpl)
noncomputable def stxs (ws:List Str):List PV:=ws.map PV.str
theorem Reps.stxs {K:ac}{M:ar->Prop}{H:Hp}:∀ws:List Str,Reps K M H (ws.map V.str) (stxs ws)
 |[]=>.nil
 |_::l=>.cons (.str _) (Reps.stxs l)
noncomputable def qL (te:aO)(tr:cA):aO:=λρ Q=>te ρ λx _=>∃a:Str,x = .str a/\tr ρ λxs=>∃b:Str,xs.map (·.1) = [.str b]/\b.length≠0/\a.length<=100000/\Q (.lst (stxs (Txt.split a b))) .fr
theorem wP (ho:QE X o te)(ha:QA X [e] tr)(hbase:attributeBase o "split" X.env (eval o X.env)=eval o X.env:=by rfl)(hfew:((backTo ah (starEach [e] X.env)).all (λx=>!x.1)&&(backToKw ah (keywordEach [] X.env)).all (λx=>x.1.isSome)&&decide (([e]:List Expr).length+([]:List Keyword).length+(if ([]:List Keyword).isEmpty then 0 else 1)<30))=true:=by rfl)(hline:(ag.endLine==ah.line)=true:=by rfl)(hs:starEach [e] X.env=(false,eval e X.env)::starEach [] X.env:=by rfl)(am:(backTo ah (starEach [] X.env)).any (·.1)=false:=by rfl) :
  QE X (.Call (.Attribute o "split" ag) [e] [] ah) (qL te tr):=
 bS (mW PySem.F.plainAttrs_str PySem.F.slot_str_split PySem.F.type_str_split aP0 ho ha hbase hfew hline hs am) λσ H Q' h=>by
  obtain⟨W,ρ,Q,px,q,k⟩:=h
  refine⟨W,ρ,_,px,q,?_⟩;rintro v H1 x g s r ⟨a,rfl,q⟩;cases r;refine⟨rfl,W,ρ,_,px.mono s,q,λvs H2 xs s2 rs q2=>?_⟩
  obtain⟨b,e,hb,ha,q⟩:=q2
  have rs:=rs.any;rw[e]at rs
  obtain⟨w,rfl,rw'⟩:=rs.one
  cases rw';have S:=s.trans s2
  exact⟨a,b,rfl,rfl,hb,ha,λp hp=>k _ _ _ .fr (S.trans (bC hp _)) (.lst (S.free hp) bD (Reps.stxs _)) q⟩
noncomputable def o8:List PV->(PV->Prop)->Prop:=λxs Q=>∃z:Str,xs = [.str z]/\z.length<=100000/\Q (.int z.length)
theorem aP3:eY X o8 (λxs H Q=>∃z,xs = [.str z]/\z.length<=sizeLine/\Q (.int z.length) H):=by
 rintro H vs xs Q Q' r ⟨n,rfl,hn,q⟩ k
 obtain⟨v,rfl,r1⟩:=r.one
 cases r1
 exact⟨n,rfl,by rw[bt1];omega,k _ _ _ (aI.refl _) (.int _) q⟩
noncomputable def wQ:PV->Tg->PV->Tg->PK->Prop:=λx _ y _ Q=>∃(z:Str) (i:Int) (c:Nat),x = .str z/\y = .int i/\z.length<=100000/\L2.atI z.cps.toList i=some c/\Q (.str ⟨#[c]⟩) .fr
theorem aP4:dG X wQ sQ:=by
 rintro W Hs H u v x y g g' Q Q' s n r1 r2 ⟨z,i,c,rfl,rfl,hz,hc,q⟩ k;cases r1;cases r2
 exact⟨z,i,c,rfl,rfl,by rw[bt1];omega,hc,k _ _ _ .fr (aI.refl _) (.str _) q⟩
noncomputable def qM:PV->Tg->PV->Tg->PK->Prop:=λx _ y _ Q=>∃i j:Str,x = .str i/\y = .str j/\Q (.bl (!(Builtin.Str.occurrences j i 0 j.length 1).isEmpty)) .fr
theorem aP5:dG X qM (λx y H Q=>∃i j,x = .str i/\y = .str j/\Q (.bl (!(Builtin.Str.occurrences j i 0 j.length 1).isEmpty)) H):=by
 rintro W Hs H u v x y g g' Q Q' s n r1 r2 ⟨i,j,rfl,rfl,q⟩ k;cases r1;cases r2
 exact⟨i,j,rfl,rfl,k _ _ _ .fr (aI.refl _) (.bl _) q⟩
theorem aP6 (ha:QE X a ta)(hb:QE X b tb)(hm:behindInMarks .In b=false:=by rfl):QE X (.Compare a [.In] [b] pos) (q2 qM ta tb):=nP ae8 aP5 ha hb hm
end
end PP
namespace L2
open PySem PySem.Spec PyProof.Rows Txs
noncomputable def R8 (x:Str):It:=⟨λi _=>i<x.cps.size,λi H v H'=>H'=H/\∃c,x.cps[i]? = some c/\v = .str ⟨#[c]⟩,λi _=>x.cps.size<=i⟩
theorem aP7 {P:av}{w:ax}{K:ac}{tg:Expr}(x:Str)(t:Tok)(it:ar):fN P w K tg (R8 x) [it] it (λi h=>h.IsStrIter it "str_ascii_iterator" x t i) where
 mem:=by simp
 obj:=λi h st b hb=>by
  have e:b=it:=by simpa using hb
  subst e
  obtain⟨o,e,c,d⟩:=st
  exact⟨o,e,λv z=>by rw[d]at z;cases z⟩
 keep:=λi h h' st k=>by
  obtain⟨o,e,r⟩:=st
  exact⟨o,k it (by simp) o e,r⟩
 item:=by
  intro X hP hw hK hc i af s σ H E I hf st hg;subst hP hw hK
  obtain⟨f0,f1,f2,f3,f4,f5⟩:=hf it (by simp)
  have hx:x.cps[i]? = some x.cps[i]:=bo8 hg;refine wpAny_pyNext_ascii_item st hx λh' st' sb=>?_
  have I1:aE X af σ H { s with heap:=h',toks:=s.toks+1 }:=I.turned (t':=s.toks+1) (λb o hb e=>(sb.2 b hb).trans e) f0 f1 f3 f4 f5
  obtain⟨o,e,c,d⟩:=id st'
  exact⟨_,rfl,mU (s:={ s with heap:=h',toks:=s.toks+1 }) e c d (by decide) ⟨.str ⟨#[x.cps[i]]⟩,H,I1,⟨_,rfl⟩,⟨rfl,_,hx,rfl⟩,st',λb hb=>(hf b hb).1⟩⟩
 done:=by
  intro X hP hw hK hc i af s σ H E I hf st hg;subst hP hw hK
  obtain⟨f0,f1,f2,f3,f4,f5⟩:=hf it (by simp)
  exact wpAny_pyNext_ascii_end (I.ok.hd hc) st (bs9 hg) λh' eb=>⟨rfl,I.turned (t':=s.toks) (λb o hb e=>eb b o hb e) f0 f1 f3 f4 f5⟩
 self:=λ_ _ _ _ _ st h=>wpAny_pyIter_striter_ascii st h
section
variable {X:Cx}
noncomputable def aP8 (tl:TE):TI:=λσ H R=>tl σ H λv H1=>∃x:Str,v = .str x/\x.cps.all (·<128)=true/\R (R8 x) H1
theorem aP9 {tg l:Expr}{tl:TE}(hl:PE X l tl):PI X tg l (aP8 tl):=by
 intro af s σ H R I h;refine aT (hl af s σ H _ I h) λv s1 ⟨y,H1,I1,r1,q1⟩=>?_
 obtain⟨x,rfl,ha,q⟩:=q1
 obtain⟨t,rfl⟩:=r1
 refine wpAny_pyIter_ascii ha ?_;refine⟨s1.heap.objs.size,[s1.heap.objs.size],_,_,H1,rfl,I1.kept (t':=s1.toks) λb o e=>be4 _ e,aP7 x t _,⟨_,bf0 _ rfl,rfl,rfl⟩,λb hb=>?_,q⟩;have e:b=s1.heap.objs.size:=by simpa using hb
 subst e;exact I1.fpOk (be7 _) (I1.hok.fresh (be7 _))
end
end L2
namespace PP
open PySem L2 PyProof.Rows Txs
section
variable {X:Cx}{σ:L2.St}{H:Hp}{R:It→Hp→Prop}{a b e l tg:Expr}{ta tb te:aO}{tr:cA}{tl th:kG}{lo hi:Option Expr}{pos p2 px sp:Pos}
noncomputable def o9 (x:Str):List PV:=x.cps.toList.map λc=>PV.str ⟨#[c]⟩
noncomputable def wR (te:aO):e8:=λρ Q=>te ρ λv _=>∃x:Str,v = .str x/\x.cps.all (·<128)=true/\Q (o9 x) true
theorem aQ0 (hl:QE X l te):QI X tg l (wR te):=nN (aP9 hl) λσ H R h=>by
 obtain⟨W,ρ,Q,px,q,k⟩:=h
 refine⟨W,ρ,_,px,q,?_⟩;rintro v H1 y g s r ⟨x,rfl,ha,q⟩;cases r;refine⟨x,rfl,ha,k _ _ _ _ s ⟨λW' H' i _ hi=>?_,λW' H' i v H2 _ yl hi=>?_,λW' H' _=>?_⟩ q⟩
 ·unfold o9 at hi;rw[be9,bk9]at hi;exact hi
 ·obtain⟨rfl,c,hc,rfl⟩:=yl
  refine⟨aI.refl _,.str ⟨#[c]⟩,?_,.str _⟩;unfold o9;rw[bg9,bu0,hc];rfl
 ·show x.cps.size<=(o9 x).length
  unfold o9;rw[be9,bk9];exact be7 _
theorem wS (B:Bt X.mg)(ha:QA X [e] tr)(hg:Gl X "len":=by rfl)(he:starEach [e] X.env=(false,eval e X.env)::starEach [] X.env:=by rfl)(hpl:(backTo pos (starEach [] X.env)).any (·.1)=false:=by rfl):QE X (.Call (.Name "len" p2) [e] [] pos) (aK o8 tr):=
 i9 ai0 aP3 hg B.len PySem.boot_len ha (he:=he) (hpl:=hpl)
theorem aQ1 (ha:QE X a ta)(hb:QE X b tb)(hs:sO b:=by exact λ_ _=>rfl):QE X (.Subscript a b pos) (q2 wQ ta tb):=bS (lH yF ha hb hs) λ_ _ _=>nG aP4
theorem R9 {x c:Str}{t:Nat}(hg:Gl X x)(hm:X.mg x=some (.str c t))(hd:(x==("__debug__":Str))=false:=by decide):QE X (.Name x pos) (qC (.str c)):=
 bS (oH (v:=.str c) hg hm ⟨t,rfl⟩ hd) λ_ _ _=>lN λ_=>.str c
end
end PP
namespace Core
open PySem L2 PP Txs
theorem S0 (ws:List Str):(stxs ws).length=ws.length:=be9 ..
theorem aQ2 {α:Type}{f:α->Str}{l:List α}{i:Nat}{y:PV}(h:(stxs (l.map f))[i]? = some y):∃x,y = .str (f x)/\l[i]? = some x:=by
 unfold stxs at h;rw[bg9,bg9]at h;cases e:l[i]? with
 |none=>rw[e]at h;cases h
 |some x=>rw[e]at h;exact⟨x,(bh9 h).symm,rfl⟩
end Core
namespace Core
open PySem L2 PP
noncomputable abbrev W2:PV:=cP [1,1] [(0,1)]
noncomputable abbrev RN (m:Int):PV:=cP [m,m,m] [(0,1),(0,2),(1,2)]
theorem jS:Wb [1,1] [(0,1)]:=⟨by decide,by decide,by decide⟩
theorem S2 (m:Int):Wb [m,m,m] [(0,1),(0,2),(1,2)]:=⟨by show 3<=40;decide,by decide,λl hl=>by
 have:l=(0,1)∨l=(0,2)∨l=(1,2):=by simpa using hl
 rcases this with rfl|rfl|rfl<;>(show (0<=_/\_<(3:Int))/\0<=_/\_<(3:Int);decide)⟩
theorem mI {b:Bool}{x:PV}{P:Prop}(h:(Slot.sh b x).tag = .rd):P:=by cases b<;>cases h
theorem S3 {b:Bool}{x y:PV}(f:flat y=true):tZ (Slot.sh b x).tag y:=by cases b<;>first|exact f|trivial
noncomputable def qN:bM:=λEp xs Q=>∃k:Int,xs = [.lst [.int 0,.int k],.lst []]/\60<k/\Ep "BadWeb"
noncomputable def S4 (Ep:Str->Prop):aP:=(aM (bA (b5 (iX (aK dI (aB (aA 0) aF)) (qC (.int 40)))) (dF Ep "BadWeb" (aB (qC (.str "a web has at most 40 hearths")) aF)) bQ)
 (aM (e9 (cY (aA 0)) (bT 2)
  (bA (iQ (b5 (iW (aA 2) (qC (.int 0)))) (b5 (iX (aA 2) (qC (.int 60))))) (dF Ep "BadWeb" (aB (qC (.str "a hearth wants from 0 to 60 neighbours")) aF)) bQ))
 (aM bV
 (aM bV
 bV))))
theorem aQ3:cK S4 ["wants","links","want","pairs"] qN:=by
 rintro Ep xs Q ⟨k,rfl,hk,e⟩;refine⟨_,rfl,_,_,rfl,rfl,_,_,rfl,rfl,_,rfl,?_⟩;refine aQ ⟨_,rfl,[.int 0,.int k],rfl,mI,λi ρ=>i<=1/\∃y,ρ = [some (.sh false (.lst [.int 0,.int k])),some (.sh false (.lst [])),y,none],⟨by decide,none,rfl⟩,?_,?_⟩
 ·rintro i v ρ hv ⟨hi,y,rfl⟩
  rcases (show i=0∨i=1 by omega) with rfl|rfl
  ·cases hv
   refine⟨_,rfl,_,_,rfl,rfl,_,rfl,aQ ⟨_,rfl,_,_,rfl,rfl,_,rfl,aQ ⟨by decide,_,rfl⟩⟩⟩
  ·cases hv
   refine⟨_,rfl,_,_,rfl,rfl,_,rfl,?_⟩;show if decide (k<0)=true then _ else _
   rw[bg1 (by omega)];refine aQ ⟨_,rfl,_,_,rfl,rfl,_,rfl,?_⟩;show if decide (k>60)=true then _ else _
   rw[bj1 (by omega)];exact b4 ⟨by decide,e⟩
 ·rintro ρ ⟨hi,_⟩
  exact absurd hi (by show ¬(2<=1);decide)
noncomputable def S5 (Ep:Str->Prop):aP:=(aM (bE 3 (bZ Ep qF (aB (aA 1) (aB (aK cR (aB (aA 0) aF)) aF))))
 bV)
noncomputable def qO:bM:=λEp xs Q=>∃(k:Int),xs = [W2,.lst [.int k],.tup []]/\Ep "BadPrices"
theorem aQ4:cK S5 ["web","prices","seeds","known"] qO:=by
 rintro Ep xs Q ⟨k,rfl,e⟩
 exact⟨_,rfl,_,rfl,[1,1],[(0,1)],rfl,_,[k],2,rfl,.inr rfl,by show 1<=1000;decide,by decide,(λz=>by cases z.1),λ_=>e⟩
noncomputable abbrev dL (d:Int):PV:=.tup [.str "light",.int d]
noncomputable def qP:bH:=λxs Q=>∃d:Int,xs = [dL d]/\Q (dL d)
noncomputable def S6:aP:=(aM (bA (b5 (q2 wL (wK qK (cG (aA 0) (qC (.int 0)))) (jJ (aK dI (aB (aA 0) aF)) (qC (.int 1))))) bV bQ)
 (aM (bA (iQ (b5 (q2 (jR false) (cG (aA 0) (qC (.int 0))) (qC (.str "link")))) (b5 (q2 (jR false) (cG (aA 0) (qC (.int 0))) (qC (.str "cut"))))) bV bQ)
 (bG (aK gU (aB (aA 0) aF)))))
theorem aQ5:c9 S6 ["deed"] qP:=by
 rintro xs Q ⟨d,rfl,q⟩;refine⟨_,rfl,_,_,_,rfl,rfl,rfl,"light",rfl,_,rfl,_,_,rfl,rfl,_,_,rfl,rfl,1,some 1,rfl,rfl,_,rfl,aQ ?_⟩;refine⟨_,rfl,_,_,_,rfl,rfl,rfl,_,_,rfl,rfl,_,rfl,aQ ⟨_,rfl,_,_,_,rfl,rfl,rfl,_,_,rfl,rfl,_,rfl,aQ ?_⟩⟩
 exact⟨_,rfl,⟨_,_,rfl,rfl,rfl,trivial,q⟩,λns z=>by cases z⟩
noncomputable def qQ:bM:=λEp xs Q=>∃d:Int,xs = [W2,.tup [],dL d]/\d<0/\Ep "BadDeed"
noncomputable def S7 (Ep:Str->Prop):aP:=(aM (bE 3 (cG (aA 2) (qC (.int 1))))
 (aM (bA (i6 (b5 (aK m6 (aB (aA 0) (aB (aA 3) aF))))) (dF Ep "BadDeed" (aB (qC (.str "this is no hearth")) aF)) bQ)
 (aM bV
 (aM bV
 bV))))
theorem aQ6:cK S7 ["web","seeds","deed","hearth"] qQ:=by
 rintro Ep xs Q ⟨d,rfl,hd,e⟩;refine⟨_,rfl,_,_,_,rfl,rfl,rfl,trivial,?_⟩;refine⟨_,rfl,_,rfl,[1,1],[(0,1)],d,rfl,_,rfl,?_⟩;rw[show inB ([1,1]:ae).length d=false by unfold inB;rw[bg1 (by omega)];rfl];exact b4 ⟨by decide,e⟩
noncomputable def qR:bM:=λEp xs Q=>∃d:Int,xs = [W2,.tup [],dL d]/\d<0/\Ep "BadDeed"
noncomputable def S8 (Ep:Str->Prop):aP:=(aM (bE 3 (bZ Ep iF (aB (aA 0) (aB (aA 1) aF))))
 (aM (bE 4 (aK qP (aB (aA 2) aF)))
 (aM (bA (iQ (b5 (q2 (jR false) (cG (aA 4) (qC (.int 0))) (qC (.str "light")))) (b5 (q2 (jR false) (cG (aA 4) (qC (.int 0))) (qC (.str "douse"))))) (bG (bO (aB (aA 0) (aB (bZ Ep qQ (aB (aA 0) (aB (aA 3) (aB (aA 4) aF)))) aF)))) bQ)
 (aM bV
 bV))))
theorem aQ7:cK S8 ["web","seeds","deed","chosen","told"] qR:=by
 rintro Ep xs Q ⟨d,rfl,hd,e⟩;refine⟨_,rfl,_,rfl,[1,1],[(0,1)],_,[],rfl,.inl rfl,by decide,λ_=>⟨trivial,?_⟩,λz=>by cases z⟩;refine⟨_,rfl,d,rfl,trivial,?_⟩;refine⟨_,rfl,_,_,_,rfl,rfl,rfl,_,_,rfl,rfl,_,rfl,b4 (b4 ⟨_,rfl,_,rfl,_,rfl,_,rfl,d,rfl,hd,e⟩)⟩
theorem S9:∀m,bJ [1,1] [(0,1)] [] m = []
 |0=>rfl
 |m+1=>by
  show bJ [1,1] [(0,1)] [] m++nextOf [1,1] [(0,1)] (bJ [1,1] [(0,1)] [] m) = [];rw[S9 m];decide
noncomputable def qS:bM:=λEp xs Q=>∃bs:List PV,xs = [W2,.tup [.tup [],.tup bs]]/\flats bs=true/\Ep "NoPaper"
noncomputable def T0 (Ep:Str->Prop):aP:=(aM (bE 2 (cG (aA 1) (qC (.int 0))))
 (aM (bE 3 (cG (aA 1) (qC (.int 1))))
 (aM (bA (iQ (i6 (b5 (aK m7 (aB (aA 0) (aB (aA 2) aF))))) (i6 (b5 (bZ Ep mE (aB (aA 0) (aB (aA 2) aF)))))) (dF Ep "NoPaper" (aB (qC (.str "the seeds do not light the web")) aF)) bQ)
 (aM bV
 bV))))
theorem aQ8:cK T0 ["web","paper","seeds","blocks"] qS:=by
 rintro Ep xs Q ⟨bs,rfl,hb,e⟩;refine⟨_,rfl,_,_,_,rfl,rfl,rfl,S3 rfl,?_⟩;refine⟨_,rfl,_,_,_,rfl,rfl,rfl,S3 hb,?_⟩;refine⟨_,rfl,_,rfl,[1,1],[(0,1)],_,[],rfl,.inl rfl,by decide,_,rfl,aQ ?_⟩;refine⟨_,rfl,_,rfl,[1,1],[(0,1)],_,[],rfl,jS,.inl rfl,by decide,λ_ m hm=>⟨_,rfl,?_⟩,λz=>by cases z⟩;rw[S9];exact b4 ⟨by decide,e⟩
noncomputable def mJ:bM:=λEp xs Q=>∃(ws:ae),xs = [cP ws []]/\12<ws.length/\Ep "TooMany"
noncomputable def T1 (Ep:Str->Prop):aP:=(aM (bA (b5 (iX (aK cR (aB (aA 0) aF)) (qC (.int 12)))) (dF Ep "TooMany" (aB (qC (.str "webs of at most 12 hearths are searched through")) aF)) bQ)
 bV)
theorem aQ9:cK T1 ["web"] mJ:=by
 rintro Ep xs Q ⟨ws,rfl,h,e⟩;refine⟨_,rfl,ws,[],rfl,_,_,rfl,rfl,_,rfl,?_⟩;show if decide ((ws.length:Int)>12)=true then _ else _
 rw[bj1 (by omega)];exact b4 ⟨by decide,e⟩
noncomputable def qT:bM:=mJ
noncomputable def T2 (Ep:Str->Prop):aP:=(aM (bE 1 (bZ Ep mJ (aB (aA 0) aF)))
 (aM bV
 (aM bV
 bV)))
theorem aR0:cK T2 ["web","chosen","holds","last"] qT:=by
 rintro Ep xs Q ⟨ws,rfl,h,e⟩
 exact⟨_,rfl,ws,rfl,h,e⟩
noncomputable def qU:bM:=mJ
noncomputable def T3 (Ep:Str->Prop):aP:=(bG (aK wC (aB (cZ (cY (bZ Ep qT (aB (aA 0) aF))) [none] (bT 0) dC (aK dI (aB (aA 0) aF))) aF)))
theorem aR1:cK T3 ["web"] qU:=by
 rintro Ep xs Q ⟨ws,rfl,h,e⟩
 exact⟨_,rfl,ws,rfl,h,e⟩
noncomputable abbrev kY:aa:=[(0,1),(0,2),(1,2)]
noncomputable abbrev kZ:PV:=.lst [.lst [.int 1,.int 2],.lst [.int 0,.int 2],.lst [.int 0,.int 1]]
noncomputable abbrev fZ:PV:=.tup [.int 0,.int 1,.int 2]
noncomputable def qV:bH:=λxs Q=>xs = [kZ,fZ]/\Q fZ
noncomputable def T4:aP:=(aM (bE 2 (aK fW (aB (aA 1) aF)))
 (aM (eG 3 (wA (cG (aA 1) (qC (.int 0)))))
 (aM (eG 4 (dH (aB (cG (aA 1) (qC (.int 0))) aF)))
 (aM (jG (kC (aA 4))
  (aM (pG 4 5)
  (e9 (cY (cG (aA 0) (aA 5))) (bT 6)
   (bA (lO (b5 (fG false (aA 6) (aA 2))) (b5 (fG true (aA 6) (aA 3)))) (aM (iU 3 (aA 6) (qC (.bl true)))
    (i7 4 (aA 6))) bQ))))
 (bG (aK gU (aB (aK pX (aB (aA 3) aF)) aF)))))))
noncomputable abbrev aR2 (l:ae):PV:=.dK (l.map λi=>((Sum.inl i:aH),PV.bl true))
theorem aR3:c9 T4 ["around","hearths","inside","reached","waiting","hearth","other"] qV:=by
 rintro xs Q ⟨rfl,q⟩;refine⟨_,rfl,_,[0,1,2],rfl,.inl rfl,by decide,λpm dm=>⟨trivial,?_⟩⟩;refine⟨_,rfl,_,_,_,rfl,rfl,rfl,0,rfl,rfl,rfl,?_⟩;refine⟨_,rfl,_,_,_,rfl,rfl,rfl,by show 1<=1000;decide,rfl,rfl,rfl,?_⟩
 let st:ae->ae->Option Slot->Option Slot->bK:=λR W y5 y6=>[some (.sh false kZ),some (.sh true fZ),some (.sh true (.dK pm)),some (.own (aR2 R)),some (.own (.lst (intz W))),y5,y6]
 have inn:∀i∈([0,1,2]:ae),(bL pm (Sum.inl i:aH)).isSome=true:=λi hi=>by rw[dm.has i];exact bj1 hi
 have idle:∀{D:gF} (h a b:Int) (W:ae) (y6:Option Slot),L2.atI [PV.lst [.int 1,.int 2],.lst [.int 0,.int 2],.lst [.int 0,.int 1]] h=some (.lst [.int a,.int b])->a∈([0,1,2]:ae)->b∈([0,1,2]:ae)->D.nx (st [0,1,2] W (si h) (si b))->
   (e9 (cY (cG (aA 0) (aA 5))) (bT 6)
    (bA (lO (b5 (fG false (aA 6) (aA 2))) (b5 (fG true (aA 6) (aA 3)))) (aM (iU 3 (aA 6) (qC (.bl true))) (i7 4 (aA 6))) bQ)) D (st [0,1,2] W (si h) y6):=λ{D} h a b W y6 ha ma mb q=>by
  have r3:∀i∈([0,1,2]:ae),(bL ([0,1,2].map λi=>((Sum.inl i:aH),PV.bl true)) (Sum.inl i:aH)).isSome=true:=by decide
  refine⟨_,rfl,_,rfl,_,_,_,rfl,rfl,ha,[.int a,.int b],rfl,mI,λj ρ=>(j=0/\ρ=st [0,1,2] W (si h) y6)∨(j=1/\ρ=st [0,1,2] W (si h) (si a))∨(j=2/\ρ=st [0,1,2] W (si h) (si b)),.inl ⟨rfl,rfl⟩,?_,?_⟩
  ·rintro j v ρ hv (⟨rfl,rfl⟩|⟨rfl,rfl⟩|⟨rfl,rfl⟩)
   ·cases hv
    refine fY ?_;refine⟨_,rfl,_,rfl,_,.inl ⟨pm,Sum.inl a,rfl,rfl,rfl⟩,_,rfl,?_⟩;show if (bL pm (Sum.inl a:aH)).isSome=true then _ else _
    rw[inn a ma];refine b4 ⟨_,rfl,_,rfl,_,.inl ⟨_,Sum.inl a,rfl,rfl,rfl⟩,_,rfl,?_⟩;show if (!(bL ([0,1,2].map λi=>((Sum.inl i:aH),PV.bl true)) (Sum.inl a:aH)).isSome)=true then _ else _
    rw[r3 a ma];exact aQ (.inr (.inl ⟨rfl,rfl⟩))
   ·cases hv
    refine fY ?_;refine⟨_,rfl,_,rfl,_,.inl ⟨pm,Sum.inl b,rfl,rfl,rfl⟩,_,rfl,?_⟩;show if (bL pm (Sum.inl b:aH)).isSome=true then _ else _
    rw[inn b mb];refine b4 ⟨_,rfl,_,rfl,_,.inl ⟨_,Sum.inl b,rfl,rfl,rfl⟩,_,rfl,?_⟩;show if (!(bL ([0,1,2].map λi=>((Sum.inl i:aH),PV.bl true)) (Sum.inl b:aH)).isSome)=true then _ else _
    rw[r3 b mb];exact aQ (.inr (.inr ⟨rfl,rfl⟩))
   ·cases hv
  ·rintro ρ (⟨h,_⟩|⟨h,_⟩|⟨_,rfl⟩)
   ·cases h
   ·cases h
   ·exact q
 refine⟨λn ρ=>(n=3/\ρ=st [0] [0] none none)∨(n=2/\ρ=st [0,1,2] [1,2] (si 0) (si 2))∨(n=1/\ρ=st [0,1,2] [1] (si 2) (si 1))∨(n=0/\ρ=st [0,1,2] [] (si 1) (si 2)),⟨3,.inl ⟨rfl,rfl⟩⟩,?_⟩;rintro n ρ (⟨rfl,rfl⟩|⟨rfl,rfl⟩|⟨rfl,rfl⟩|⟨rfl,rfl⟩)
 ·refine⟨_,rfl,_,rfl,b4 ⟨[],.int 0,rfl,?_⟩⟩
  refine⟨_,rfl,_,rfl,_,_,_,rfl,rfl,rfl,[.int 1,.int 2],rfl,mI,λj ρ=>(j=0/\ρ=st [0] [] (si 0) none)∨(j=1/\ρ=st [0,1] [1] (si 0) (si 1))∨(j=2/\ρ=st [0,1,2] [1,2] (si 0) (si 2)),.inl ⟨rfl,rfl⟩,?_,?_⟩
  ·rintro j v ρ hv (⟨rfl,rfl⟩|⟨rfl,rfl⟩|⟨rfl,rfl⟩)
   ·cases hv
    refine fY ?_;refine⟨_,rfl,_,rfl,_,.inl ⟨pm,Sum.inl 1,rfl,rfl,rfl⟩,_,rfl,?_⟩;show if (bL pm (Sum.inl 1:aH)).isSome=true then _ else _
    rw[inn 1 (by decide)];refine b4 ⟨_,rfl,_,rfl,_,.inl ⟨_,Sum.inl 1,rfl,rfl,rfl⟩,_,rfl,b4 ?_⟩
    exact⟨_,rfl,_,rfl,Sum.inl 1,rfl,trivial,by decide,_,rfl,_,rfl,trivial,by decide,.inr (.inl ⟨rfl,rfl⟩)⟩
   ·cases hv
    refine fY ?_;refine⟨_,rfl,_,rfl,_,.inl ⟨pm,Sum.inl 2,rfl,rfl,rfl⟩,_,rfl,?_⟩;show if (bL pm (Sum.inl 2:aH)).isSome=true then _ else _
    rw[inn 2 (by decide)];refine b4 ⟨_,rfl,_,rfl,_,.inl ⟨_,Sum.inl 2,rfl,rfl,rfl⟩,_,rfl,b4 ?_⟩
    exact⟨_,rfl,_,rfl,Sum.inl 2,rfl,trivial,by decide,_,rfl,_,rfl,trivial,by decide,.inr (.inr ⟨rfl,rfl⟩)⟩
   ·cases hv
  ·rintro ρ (⟨h,_⟩|⟨h,_⟩|⟨_,rfl⟩)
   ·cases h
   ·cases h
   ·exact⟨2,by decide,.inr (.inl ⟨rfl,rfl⟩)⟩
 ·refine⟨_,rfl,_,rfl,b4 ⟨[.int 1],.int 2,rfl,?_⟩⟩
  exact idle 2 0 1 [1] (si 2) rfl (by decide) (by decide) ⟨1,by decide,.inr (.inr (.inl ⟨rfl,rfl⟩))⟩
 ·refine⟨_,rfl,_,rfl,b4 ⟨[],.int 1,rfl,?_⟩⟩
  exact idle 1 0 2 [] (si 1) rfl (by decide) (by decide) ⟨0,by decide,.inr (.inr (.inr ⟨rfl,rfl⟩))⟩
 ·refine⟨_,rfl,_,rfl,aQ ⟨_,rfl,_,[0,1,2],rfl,rfl,by decide,λms pm so=>?_⟩⟩
  have e:ms = [0,1,2]:=(pm.eq_of_pairwise (le:=λa b:Int=>a<=b) (λa b _ _ h1 h2=>Int.le_antisymm h1 h2) so (by decide));subst e
  exact⟨⟨_,_,rfl,rfl,rfl,trivial,q⟩,λns z=>by cases z⟩
noncomputable def qW:bH:=λxs Q=>∃m:Int,xs = [RN m,fZ]/\Q (.lst [fZ])
noncomputable def T5:aP:=(aM (bE 2 (aK gX (aB (aA 0) aF)))
 (aM (bE 3 (aK (iF λ_=>False) (aB (aA 0) (aB (aA 1) aF))))
 (aM (eG 4 (dH aF))
 (aM (jG (kC (aA 3))
  (aM (bE 5 (aK qV (aB (aA 2) (aB (aA 3) aF))))
  (aM (i7 4 (aA 5))
  (bE 3 (aK mD (aB (aA 3) (aB (aA 5) aF)))))))
 (fS 4)))))
theorem aR4:c9 T5 ["web","block","around","left","pieces","piece"] qW:=by
 rintro xs Q ⟨m,rfl,q⟩;refine⟨_,rfl,[m,m,m],kY,rfl,S2 m,trivial,?_⟩;refine⟨_,rfl,_,rfl,[m,m,m],kY,_,[0,1,2],rfl,.inl rfl,by decide,λ_=>⟨trivial,?_⟩,λz=>absurd (show fC 3 [0,1,2]=false from z) (by decide)⟩;refine⟨by decide,rfl,rfl,rfl,?_⟩;refine⟨λn ρ=>(n=1/\ρ = [some (.sh true (RN m)),some (.sh true fZ),some (.sh true kZ),some (.sh true fZ),some (.own (.lst [])),none])∨(n=0/\ρ = [some (.sh true (RN m)),some (.sh true fZ),some (.sh true kZ),some (.sh true (.tup [])),some (.own (.lst [fZ])),some (.sh true fZ)]),⟨1,.inl ⟨rfl,rfl⟩⟩,?_⟩;rintro n ρ (⟨rfl,rfl⟩|⟨rfl,rfl⟩)
 ·refine⟨_,rfl,_,rfl,b4 ⟨_,rfl,_,rfl,rfl,trivial,?_⟩⟩
  refine⟨_,rfl,_,rfl,trivial,by decide,?_⟩
  exact⟨_,rfl,_,rfl,_,[0,1,2],_,[0,1,2],rfl,.inl rfl,.inl rfl,by decide,by decide,trivial,0,by decide,.inr ⟨rfl,rfl⟩⟩
 ·exact⟨_,rfl,_,rfl,aQ ⟨_,rfl,trivial,q⟩⟩
noncomputable def qX:bH:=λxs Q=>∃m:Int,xs = [RN m]/\Q (.lst [fZ])
noncomputable def T6:aP:=(bG (aK qW (aB (aA 0) (aB (aK qD (aB (aA 0) (aB (bO aF) aF))) aF))))
theorem aR5:c9 T6 ["web"] qX:=by
 rintro xs Q ⟨m,rfl,q⟩
 exact⟨_,rfl,_,rfl,by show 0<=1000;decide,rfl,[m,m,m],kY,_,[],rfl,.inl rfl,by decide,by show 3<=1000;decide,m,rfl,trivial,q⟩
noncomputable def qY:bH:=λxs Q=>∃m:Int,xs = [RN m]/\Q (.bl false)
noncomputable def T7:aP:=(bG (eR (aK dI (aB (cG (aA 0) (qC (.int 1))) aF)) (jJ (aK cR (aB (aA 0) aF)) (aK dI (aB (aK qX (aB (aA 0) aF)) aF)))))
theorem aR6:c9 T7 ["web"] qY:=by
 rintro xs Q ⟨m,rfl,q⟩;refine⟨_,rfl,_,_,_,rfl,rfl,rfl,_,_,rfl,rfl,_,rfl,[m,m,m],kY,rfl,_,rfl,m,rfl,_,_,rfl,rfl,_,_,rfl,rfl,.inl ⟨_,_,rfl,rfl,trivial,q⟩⟩
noncomputable def oA:bM:=λEp xs Q=>∃m:Int,xs = [RN m]/\Ep "NotWood"
noncomputable def T8 (Ep:Str->Prop):aP:=(aM (bA (i6 (b5 (aK qY (aB (aA 0) aF)))) (dF Ep "NotWood" (aB (qC (.str "the web has a round")) aF)) bQ)
 (aM bV
 (aM bV
 (aM bV
 (aM bV
 bV)))))
theorem aR7:cK T8 ["web","around","pairs","turn","hearth"] oA:=by
 rintro Ep xs Q ⟨m,rfl,e⟩
 exact⟨_,rfl,m,rfl,_,rfl,b4 ⟨by decide,e⟩⟩
noncomputable def qZ:bM:=oA
noncomputable def T9 (Ep:Str->Prop):aP:=(aM (eG 1 (K9 (dH (aB (qC .non) aF)) (aK cR (aB (aA 0) aF))))
 (aM (e9 (cY (bZ Ep oA (aB (aA 0) aF))) (kE 2 3)
  bV)
 bV))
theorem aR8:cK T9 ["web","elders","hearth","elder"] qZ:=by
 rintro Ep xs Q ⟨m,rfl,e⟩;refine⟨by show 1<=1000;decide,rfl,_,rfl,[m,m,m],kY,rfl,?_⟩
 exact⟨_,_,rfl,rfl,rfl,by show (-1000000:Int)<=3;decide,by show (3:Int)<=1000000;decide,by show 1<=10;decide,rfl,rfl,_,rfl,m,rfl,e⟩
noncomputable abbrev cB:List (aH×PV):=[(Sum.inl 0,.tup [.int 0]),(Sum.inl 1,.tup [.int 0,.int 1]),(Sum.inl 2,.tup [.int 0,.int 2])]
noncomputable def r6:bH:=λxs Q=>∃m:Int,xs = [RN m]/\Q (.dK cB)
noncomputable def U0:aP:=(e9 (cY (cG (aA 1) (aA 5))) (bT 6)
    (bA (b5 (fG true (aA 6) (aA 2))) (aM (iU 2 (aA 6) (mC (iT (aA 2) (aA 5)) (bO (aB (aA 6) aF))))
     (i7 4 (aA 6))) bQ))
noncomputable def U1:aP:=(jG (kC (aA 4))
   (aM (pG 4 5)
   U0))
noncomputable def U2:aP:=(aM (bE 1 (aK gX (aB (aA 0) aF)))
 (aM (eG 2 (qC (.dK [])))
 (aM (e9 (lR (aK cR (aB (aA 0) aF))) (bT 3)
  (aM (eG 4 (dH aF))
  (aM (bA (b5 (fG true (aA 3) (aA 2))) (aM (iU 2 (aA 3) (bO (aB (aA 3) aF)))
   (i7 4 (aA 3))) bQ)
  U1)))
 (fS 2))))
theorem aR9:c9 U2 ["web","around","ways","root","waiting","hearth","other"] r6:=by
 rintro xs Q ⟨m,rfl,q⟩;refine⟨_,rfl,[m,m,m],kY,rfl,S2 m,trivial,?_⟩;refine⟨rfl,rfl,?_⟩
 let st:List (aH×PV)->Option Slot->ae->Option Slot->Option Slot->bK:=λD y3 W y5 y6=>[some (.sh true (RN m)),some (.sh true kZ),some (.own (.dK D)),y3,some (.own (.lst (intz W))),y5,y6]
 have idle:∀{D:gF} (h a b:Int) (y3:Option Slot) (W:ae) (y6:Option Slot),L2.atI [PV.lst [.int 1,.int 2],.lst [.int 0,.int 2],.lst [.int 0,.int 1]] h=some (.lst [.int a,.int b])->(bL cB (Sum.inl a:aH)).isSome=true->(bL cB (Sum.inl b:aH)).isSome=true->D.nx (st cB y3 W (si h) (si b))->
   U0 D (st cB y3 W (si h) y6):=λ{D} h a b y3 W y6 ha ma mb q=>by
  refine⟨_,rfl,_,rfl,_,_,_,rfl,rfl,ha,[.int a,.int b],rfl,mI,λj ρ=>(j=0/\ρ=st cB y3 W (si h) y6)∨(j=1/\ρ=st cB y3 W (si h) (si a))∨(j=2/\ρ=st cB y3 W (si h) (si b)),.inl ⟨rfl,rfl⟩,?_,?_⟩
  ·rintro j v ρ hv (⟨rfl,rfl⟩|⟨rfl,rfl⟩|⟨rfl,rfl⟩)
   ·cases hv
    refine fY ?_;refine⟨_,rfl,_,rfl,_,.inl ⟨cB,Sum.inl a,rfl,rfl,rfl⟩,_,rfl,?_⟩;show if (!(bL cB (Sum.inl a:aH)).isSome)=true then _ else _
    rw[ma];exact aQ (.inr (.inl ⟨rfl,rfl⟩))
   ·cases hv
    refine fY ?_;refine⟨_,rfl,_,rfl,_,.inl ⟨cB,Sum.inl b,rfl,rfl,rfl⟩,_,rfl,?_⟩;show if (!(bL cB (Sum.inl b:aH)).isSome)=true then _ else _
    rw[mb];exact aQ (.inr (.inr ⟨rfl,rfl⟩))
   ·cases hv
  ·rintro ρ (⟨h,_⟩|⟨h,_⟩|⟨_,rfl⟩)
   ·cases h
   ·cases h
   ·exact q
 refine⟨_,rfl,[m,m,m],kY,rfl,3,rfl,by decide,by decide,λi ρ=>(i=0/\ρ = [some (.sh true (RN m)),some (.sh true kZ),some (.own (.dK [])),none,none,none,none])∨(1<=i/\∃y3,ρ=st cB y3 [] (si 1) (si 2)),.inl ⟨rfl,rfl⟩,?_,?_⟩
 ·rintro i v ρ hv (⟨rfl,rfl⟩|⟨hi,y3,rfl⟩)
  ·cases hv
   refine fY ?_;refine⟨by decide,rfl,rfl,rfl,?_⟩;refine⟨_,rfl,_,rfl,_,.inl ⟨[],Sum.inl 0,rfl,rfl,rfl⟩,_,rfl,b4 ⟨_,rfl,by show 1<=1000;decide,rfl,_,rfl,_,rfl,Sum.inl 0,rfl,trivial,by decide,_,rfl,_,rfl,trivial,by decide,?_⟩⟩;refine⟨λn ρ=>(n=3/\ρ=st [(Sum.inl 0,.tup [.int 0])] (si 0) [0] none none)∨(n=2/\ρ=st cB (si 0) [1,2] (si 0) (si 2))∨(n=1/\ρ=st cB (si 0) [1] (si 2) (si 1))∨(n=0/\ρ=st cB (si 0) [] (si 1) (si 2)),⟨3,.inl ⟨rfl,rfl⟩⟩,?_⟩;rintro n ρ (⟨rfl,rfl⟩|⟨rfl,rfl⟩|⟨rfl,rfl⟩|⟨rfl,rfl⟩)
   ·refine⟨_,rfl,_,rfl,b4 ⟨[],.int 0,rfl,?_⟩⟩
    refine⟨_,rfl,_,rfl,_,_,_,rfl,rfl,rfl,[.int 1,.int 2],rfl,mI,λj ρ=>(j=0/\ρ=st [(Sum.inl 0,.tup [.int 0])] (si 0) [] (si 0) none)∨(j=1/\ρ=st [(Sum.inl 0,.tup [.int 0]),(Sum.inl 1,.tup [.int 0,.int 1])] (si 0) [1] (si 0) (si 1))∨(j=2/\ρ=st cB (si 0) [1,2] (si 0) (si 2)),.inl ⟨rfl,rfl⟩,?_,?_⟩
    ·rintro j v ρ hv (⟨rfl,rfl⟩|⟨rfl,rfl⟩|⟨rfl,rfl⟩)
     ·cases hv
      refine fY ?_;refine⟨_,rfl,_,rfl,_,.inl ⟨_,Sum.inl 1,rfl,rfl,rfl⟩,_,rfl,b4 ?_⟩
      exact⟨_,rfl,_,rfl,_,.inl ⟨_,Sum.inl 0,rfl,rfl,rfl⟩,_,rfl,by show 1<=1000;decide,rfl,[.int 0],[.int 1],rfl,rfl,rfl,rfl,by show 2<=16000000;decide,_,rfl,_,rfl,Sum.inl 1,rfl,trivial,by decide,_,rfl,_,rfl,trivial,by decide,.inr (.inl ⟨rfl,rfl⟩)⟩
     ·cases hv
      refine fY ?_;refine⟨_,rfl,_,rfl,_,.inl ⟨_,Sum.inl 2,rfl,rfl,rfl⟩,_,rfl,b4 ?_⟩
      exact⟨_,rfl,_,rfl,_,.inl ⟨_,Sum.inl 0,rfl,rfl,rfl⟩,_,rfl,by show 1<=1000;decide,rfl,[.int 0],[.int 2],rfl,rfl,rfl,rfl,by show 2<=16000000;decide,_,rfl,_,rfl,Sum.inl 2,rfl,trivial,by decide,_,rfl,_,rfl,trivial,by decide,.inr (.inr ⟨rfl,rfl⟩)⟩
     ·cases hv
    ·rintro ρ (⟨h,_⟩|⟨h,_⟩|⟨_,rfl⟩)
     ·cases h
     ·cases h
     ·exact⟨2,by decide,.inr (.inl ⟨rfl,rfl⟩)⟩
   ·refine⟨_,rfl,_,rfl,b4 ⟨[.int 1],.int 2,rfl,?_⟩⟩
    exact idle 2 0 1 (si 0) [1] (si 2) rfl rfl rfl ⟨1,by decide,.inr (.inr (.inl ⟨rfl,rfl⟩))⟩
   ·refine⟨_,rfl,_,rfl,b4 ⟨[],.int 1,rfl,?_⟩⟩
    exact idle 1 0 2 (si 0) [] (si 1) rfl rfl rfl ⟨0,by decide,.inr (.inr (.inr ⟨rfl,rfl⟩))⟩
   ·exact⟨_,rfl,_,rfl,aQ (.inr ⟨by decide,_,rfl⟩)⟩
  ·obtain⟨rfl,h3⟩:=pT hv
   have h3:i<3:=h3;have fin:U1 { nx:=λρ=>(i+1=0/\ρ = [some (.sh true (RN m)),some (.sh true kZ),some (.own (.dK [])),none,none,none,none])∨(1<=i+1/\∃y3,ρ=st cB y3 [] (si 1) (si 2)),rt:=Q } (st cB (si ((0:Int)+(i:Int))) [] (si 1) (si 2)):=by
    refine⟨λn ρ=>ρ=st cB (si ((0:Int)+(i:Int))) [] (si 1) (si 2),⟨0,rfl⟩,?_⟩;rintro n ρ rfl
    exact⟨_,rfl,_,rfl,aQ (.inr ⟨by omega,_,rfl⟩)⟩
   refine fY ?_;refine⟨by decide,rfl,rfl,rfl,?_⟩;rcases (show i=1∨i=2 by omega) with rfl|rfl
   ·exact⟨_,rfl,_,rfl,_,.inl ⟨cB,Sum.inl 1,rfl,rfl,rfl⟩,_,rfl,aQ fin⟩
   ·exact⟨_,rfl,_,rfl,_,.inl ⟨cB,Sum.inl 2,rfl,rfl,rfl⟩,_,rfl,aQ fin⟩
 ·rintro ρ (⟨h,_⟩|⟨_,y3,rfl⟩)
  ·cases h
  ·exact⟨_,rfl,trivial,q⟩
noncomputable def r9:bH:=λxs Q=>xs = [.tup [.int 0,.int 1],.tup [.int 0,.int 2]]/\Q fZ
noncomputable abbrev U3:aP:=aK7
theorem aS0:c9 U3 ["way","other","shared"] r9:=by
 rintro xs Q ⟨rfl,q⟩;refine⟨trivial,?_⟩;refine⟨λn ρ=>(n=1/\ρ = [some (.sh true (.tup [.int 0,.int 1])),some (.sh true (.tup [.int 0,.int 2])),si 0])∨(n=0/\ρ = [some (.sh true (.tup [.int 0,.int 1])),some (.sh true (.tup [.int 0,.int 2])),si 1]),⟨1,.inl ⟨rfl,rfl⟩⟩,?_⟩;rintro n ρ (⟨rfl,rfl⟩|⟨rfl,rfl⟩)
 ·refine⟨_,rfl,_,rfl,_,_,rfl,rfl,_,rfl,_,_,rfl,rfl,_,_,rfl,_,_,rfl,rfl,_,rfl,b4 ?_⟩
  refine⟨_,rfl,_,rfl,_,_,_,rfl,rfl,rfl,_,rfl,_,rfl,_,_,_,rfl,rfl,rfl,.inl ⟨_,_,rfl,rfl,_,rfl,b4 ?_⟩⟩
  exact⟨_,rfl,_,_,rfl,rfl,trivial,0,by decide,.inr ⟨rfl,rfl⟩⟩
 ·refine⟨_,rfl,_,rfl,_,_,rfl,rfl,_,rfl,_,_,rfl,rfl,_,_,rfl,_,_,rfl,rfl,_,rfl,b4 ?_⟩
  refine⟨_,rfl,_,rfl,_,_,_,rfl,rfl,rfl,_,rfl,_,rfl,_,_,_,rfl,rfl,rfl,.inl ⟨_,_,rfl,rfl,_,rfl,aQ ?_⟩⟩
  exact⟨_,rfl,_,rfl,1,1,rfl,rfl,_,rfl,[.int 0,.int 1],rfl,rfl,_,rfl,_,rfl,_,rfl,[.int 0,.int 2],rfl,rfl,[.int 2],rfl,rfl,[.int 0,.int 1],[.int 2],rfl,rfl,rfl,rfl,by show 3<=16000000;decide,trivial,q⟩
noncomputable def rA:bH:=λxs Q=>∃m:Int,xs = [RN m]/\Q fZ
noncomputable def U4:aP:=(aM (bE 1 (aK r6 (aB (aA 0) aF)))
 (aM (e9 (cY (cG (aA 0) (qC (.int 1)))) (kE 2 3)
  (bA (b5 (eR (aK o4 (aB (iT (aA 1) (aA 2)) aF)) (aK o4 (aB (iT (aA 1) (aA 3)) aF)))) (bG (aK r9 (aB (iT (aA 1) (aA 2)) (aB (iT (aA 1) (aA 3)) aF)))) bQ))
 (bG (qC .non))))
theorem aS1:c9 U4 ["web","ways","one","other"] rA:=by
 rintro xs Q ⟨m,rfl,q⟩;refine⟨_,rfl,m,rfl,trivial,?_⟩;refine⟨_,rfl,_,_,_,rfl,rfl,rfl,[.tup [.int 0,.int 1],.tup [.int 0,.int 2],.tup [.int 1,.int 2]],rfl,mI,λj ρ=>j<=2/\∃y2 y3,ρ = [some (.sh true (RN m)),some (.sh true (.dK cB)),y2,y3],⟨by decide,_,_,rfl⟩,?_,?_⟩
 ·rintro j v ρ hv ⟨hj,y2,y3,rfl⟩
  rcases (show j=0∨j=1∨j=2 by omega) with rfl|rfl|rfl
  ·cases hv
   refine⟨_,_,rfl,?_⟩
   exact⟨_,rfl,_,rfl,_,.inl ⟨cB,Sum.inl 0,rfl,rfl,rfl⟩,[0],rfl,_,rfl,_,rfl,_,.inl ⟨cB,Sum.inl 1,rfl,rfl,rfl⟩,[0,1],rfl,.inl ⟨_,_,rfl,rfl,_,rfl,aQ ⟨by decide,_,_,rfl⟩⟩⟩
  ·cases hv
   refine⟨_,_,rfl,?_⟩
   exact⟨_,rfl,_,rfl,_,.inl ⟨cB,Sum.inl 0,rfl,rfl,rfl⟩,[0],rfl,_,rfl,_,rfl,_,.inl ⟨cB,Sum.inl 2,rfl,rfl,rfl⟩,[0,2],rfl,.inl ⟨_,_,rfl,rfl,_,rfl,aQ ⟨by decide,_,_,rfl⟩⟩⟩
  ·cases hv
   refine⟨_,_,rfl,?_⟩;refine⟨_,rfl,_,rfl,_,.inl ⟨cB,Sum.inl 1,rfl,rfl,rfl⟩,[0,1],rfl,_,rfl,_,rfl,_,.inl ⟨cB,Sum.inl 2,rfl,rfl,rfl⟩,[0,2],rfl,.inl ⟨_,_,rfl,rfl,_,rfl,b4 ?_⟩⟩
   exact⟨_,rfl,_,rfl,_,.inl ⟨cB,Sum.inl 1,rfl,rfl,rfl⟩,_,rfl,_,rfl,_,.inl ⟨cB,Sum.inl 2,rfl,rfl,rfl⟩,rfl,trivial,q⟩
 ·rintro ρ ⟨h,_⟩
  exact absurd h (by show ¬(3<=2);decide)
noncomputable def rB:bM:=λEp xs Q=>∃m:Int,xs = [RN m]/\Ep "OddRound"
noncomputable def U5 (Ep:Str->Prop):aP:=(aM (bA (b5 (C3 (aK rA (aB (aA 0) aF)) (qC .non))) (dF Ep "OddRound" (aB (qC (.str "a round has an odd count of hearths")) aF)) bQ)
 (aM bV
 bV))
theorem aS2:cK U5 ["web","ways"] rB:=by
 rintro Ep xs Q ⟨m,rfl,e⟩
 exact⟨_,rfl,m,rfl,rfl,_,rfl,b4 ⟨by decide,e⟩⟩
noncomputable abbrev oB:PV:=.lst [.lst [.int 1],.lst [.int 0]]
noncomputable def mK:bM:=λEp xs Q=>∃x y:PV,xs = [W2,x,y]/\((∃a:Int,x = .tup []/\y = .lst [.int a,.int a]/\Ep "BadOrder")∨(x = .tup [.int 0]/\y = .lst [.int 0,.int 1]/\Q (.lst [.int 1])))
noncomputable def U6 (Ep:Str->Prop):aP:=(aM (eG 3 (aK fW (aB (bZ Ep iF (aB (aA 0) (aB (aA 1) aF))) aF)))
 (aM (bA (i6 (b5 (aK qH (aB (aA 0) (aB (aA 2) aF))))) (dF Ep "BadOrder" (aB (qC (.str "each hearth stands in an order once")) aF)) bQ)
 (aM (bE 4 (aK gX (aB (aA 0) aF)))
 (aM (eG 5 (dH aF))
 (aM (bE 6 (aK nY (aB (aA 0) (aB (aA 4) (aB (aA 3) (aB (aA 2) aF))))))
 (aM (jG (b5 (C3 (aA 6) (qC .non)))
  (aM (i7 5 (aA 6))
  (aM (iU 3 (aA 6) (qC (.bl true)))
  (bE 6 (aK nY (aB (aA 0) (aB (aA 4) (aB (aA 3) (aB (aA 2) aF)))))))))
 (fS 5)))))))
theorem aS3 (a:Int):¬([a,a]:ae).Perm (rng 2):=λp=>by
 have nd:(rng 2).Nodup:=by decide
 have:=p.nodup_iff.mpr nd
 simp at this
theorem aS4:cK U6 ["web","seeds","order","burning","around","kindled","hearth"] mK:=by
 rintro Ep xs Q ⟨x,y,rfl,⟨a,rfl,rfl,e⟩|⟨rfl,rfl,q⟩⟩
 ·refine⟨_,rfl,_,rfl,[1,1],[(0,1)],_,[],rfl,.inl rfl,by decide,λ_=>?_,λz=>by cases z⟩
  refine⟨_,[],rfl,.inl rfl,by decide,λps d=>⟨rfl,d.fl,?_⟩⟩
  exact⟨_,rfl,_,rfl,[1,1],[(0,1)],_,[a,a],rfl,by decide,.inr rfl,by show 2<64;decide,λp=>absurd p (aS3 a),λ_=>⟨_,rfl,b4 ⟨by decide,e⟩⟩⟩
 ·refine⟨_,rfl,_,rfl,[1,1],[(0,1)],_,[0],rfl,.inl rfl,by decide,λ_=>?_,λz=>absurd (show fC 2 [0]=false from z) (by decide)⟩
  refine⟨_,[0],rfl,.inl rfl,by decide,λps d=>⟨rfl,d.fl,?_⟩⟩;refine⟨_,rfl,_,rfl,[1,1],[(0,1)],_,[0,1],rfl,by decide,.inr rfl,by decide,λ_=>⟨_,rfl,aQ ?_⟩,λn=>absurd (List.Perm.refl _) n⟩;refine⟨_,rfl,[1,1],[(0,1)],rfl,jS,trivial,?_⟩;refine⟨by decide,rfl,rfl,rfl,?_⟩;have inn:∀h∈([0,1]:ae),h∈rng ([1,1]:ae).length:=by decide
  refine⟨_,rfl,_,rfl,_,rfl,_,rfl,[1,1],[(0,1)],ps,[0],_,[0,1],rfl,jS,d,.inr rfl,inn,trivial,?_⟩;refine⟨λn ρ=>(n=1/\ρ = [some (.sh true W2),some (.sh true (.tup [.int 0])),some (.sh false (.lst [.int 0,.int 1])),some (.own (.dK ps)),some (.sh true oB),some (.own (.lst [])),si 1])∨(n=0/\∃ps2,ρ = [some (.sh true W2),some (.sh true (.tup [.int 0])),some (.sh false (.lst [.int 0,.int 1])),some (.own (.dK ps2)),some (.sh true oB),some (.own (.lst [.int 1])),some (.sh true .non)]),⟨1,.inl ⟨rfl,rfl⟩⟩,?_⟩;rintro n ρ (⟨rfl,rfl⟩|⟨rfl,ps2,rfl⟩)
  ·have dl:=d.len
   refine⟨_,rfl,rfl,_,rfl,b4 ⟨_,rfl,_,rfl,trivial,by decide,?_⟩⟩;refine⟨ps,rfl,_,rfl,Sum.inl 1,rfl,trivial,by have:([0]:ae).length=1:=rfl;omega,?_⟩;have D7:DS (dD ps (Sum.inl 1:aH) (.bl true)) ([0]++[1]):=d.put 1 _ rfl
   exact⟨_,rfl,_,rfl,_,rfl,_,rfl,[1,1],[(0,1)],_,_,_,[0,1],rfl,jS,D7,.inr rfl,inn,trivial,0,by decide,.inr ⟨rfl,_,rfl⟩⟩
  ·exact⟨_,rfl,rfl,_,rfl,aQ ⟨_,rfl,trivial,q⟩⟩
noncomputable def rC:bH:=λxs Q=>xs = [W2,.tup [.int 0]]/\Q (.tup [.int 1])
noncomputable def U7:aP:=(bG (aK gU (aB (aK (mK λ_=>False) (aB (aA 0) (aB (aA 1) (aB (nU (aK cR (aB (aA 0) aF))) aF)))) aF)))
theorem aS5:c9 U7 ["web","seeds"] rC:=by
 rintro xs Q ⟨rfl,q⟩
 exact⟨_,rfl,_,rfl,_,rfl,[1,1],[(0,1)],rfl,_,rfl,by decide,by decide,_,_,rfl,.inr ⟨rfl,rfl,⟨_,_,rfl,rfl,rfl,trivial,q⟩,λns z=>by cases z⟩⟩
noncomputable abbrev wT:List (List aH×PV):=[([Sum.inl 1],.lst []),([],.lst [.tup [.int 1,.int 1]])]
noncomputable def rD:bH:=λxs Q=>xs = [W2,.tup [.int 0]]/\Q (.dT wT)
noncomputable def U8:aP:=(aM (bE 2 (aK mB (aB (aK rC (aB (aA 0) (aB (aA 1) aF))) aF)))
 (aM (bA (b5 (iX (aK dI (aB (aA 2) aF)) (qC (.int 12)))) bV bQ)
 (aM (bE 3 (aK gX (aB (aA 0) aF)))
 (aM (eG 4 (qC (.dT [])))
 (aM (e9 (wD (aK qE (aB (aA 2) aF))) (bT 5)
  aJ7)
 (fS 4))))))
theorem aS6:c9 U8 ["web","seeds","later","around","branches","lit","burning","able"] rD:=by
 rintro xs Q ⟨rfl,q⟩;refine⟨_,rfl,_,rfl,rfl,_,[1],rfl,rfl,by decide,λL pL sL=>⟨trivial,?_⟩⟩;obtain rfl:L = [1]:=List.perm_singleton.mp pL;refine⟨_,rfl,_,_,rfl,rfl,_,_,rfl,rfl,_,rfl,aQ ?_⟩;refine⟨_,rfl,[1,1],[(0,1)],rfl,jS,trivial,?_⟩;refine⟨rfl,rfl,?_⟩;refine⟨_,rfl,_,[1],rfl,.inr rfl,by decide,[.tup [],.tup [.int 1]],rfl,(by intro z;cases z),λi ρ=>(i=0/\ρ = [some (.sh true W2),some (.sh true (.tup [.int 0])),some (.sh true (.lst [.int 1])),some (.sh true oB),some (.own (.dT [])),none,none,none])∨(i=1/\∃y5 y6 y7,ρ = [some (.sh true W2),some (.sh true (.tup [.int 0])),some (.sh true (.lst [.int 1])),some (.sh true oB),some (.own (.dT [([Sum.inl 1],.lst [])])),y5,y6,y7])∨(i=2/\∃y5 y6 y7,ρ = [some (.sh true W2),some (.sh true (.tup [.int 0])),some (.sh true (.lst [.int 1])),some (.sh true oB),some (.own (.dT wT)),y5,y6,y7]),.inl ⟨rfl,rfl⟩,?_,?_⟩
 ·rintro i v ρ hv (⟨rfl,rfl⟩|⟨rfl,y5,y6,y7,rfl⟩|⟨rfl,y5,y6,y7,rfl⟩)
  ·cases hv
   refine⟨_,rfl,⟨_,_,rfl,rfl,rfl,_,rfl,[.int 0],[.int 1],rfl,rfl,rfl,rfl,by decide,_,[0,1],rfl,.inl rfl,by decide,λbs ds=>⟨trivial,?_⟩⟩,λns z=>by cases z⟩;refine⟨_,rfl,[.int 1],rfl,(λz=>by cases z),by decide,λj acc=>acc = [],rfl,?_,?_⟩
   ·rintro j z acc hz rfl
    rcases j with _|j
    ·cases hz
     exact⟨_,rfl,_,rfl,_,rfl,_,rfl,[1,1],[(0,1)],bs,[0,1],1,rfl,jS,ds,by decide,by decide,_,rfl,aQ rfl⟩
    ·cases hz
   rintro acc rfl;refine⟨trivial,?_⟩;refine⟨_,rfl,[],rfl,(λz=>by cases z),by decide,λj acc=>acc = [],rfl,(λj z acc hz _=>by cases hz),?_⟩;rintro acc rfl
   exact⟨_,rfl,_,rfl,[Sum.inl 1],rfl,trivial,by decide,.inr (.inl ⟨rfl,_,_,_,rfl⟩)⟩
  ·cases hv
   refine⟨_,rfl,⟨_,_,rfl,rfl,rfl,_,rfl,[.int 0],[],rfl,rfl,rfl,rfl,by decide,_,[0],rfl,.inl rfl,by decide,λbs ds=>⟨trivial,?_⟩⟩,λns z=>by cases z⟩;refine⟨_,rfl,[.int 1],rfl,(λz=>by cases z),by decide,λj acc=>acc=([.int 1]:List PV).take j,rfl,?_,?_⟩
   ·rintro j z acc hz rfl
    rcases j with _|j
    ·cases hz
     exact⟨_,rfl,_,rfl,_,rfl,_,rfl,[1,1],[(0,1)],bs,[0],1,rfl,jS,ds,by decide,by decide,_,rfl,b4 ⟨_,rfl,trivial,rfl⟩⟩
    ·cases hz
   rintro acc rfl;refine⟨trivial,?_⟩;refine⟨_,rfl,[.int 1],rfl,(λz=>by cases z),by decide,λj acc=>acc=([.tup [.int 1,.int 1]]:List PV).take j,rfl,?_,?_⟩
   ·rintro j z acc hz rfl
    rcases j with _|j
    ·cases hz
     refine⟨_,rfl,_,rfl,_,rfl,_,rfl,by show 1<=1000;decide,rfl,[],[.int 1],rfl,rfl,rfl,rfl,by decide,_,[1],rfl,.inl rfl,by decide,λms pm sm=>?_⟩;obtain rfl:ms = [1]:=List.perm_singleton.mp pm
     exact⟨_,.inr ⟨[([Sum.inl 1],.lst [])],[Sum.inl 1],rfl,rfl,rfl⟩,[],rfl,by decide,by show 2<=1000;decide,rfl,trivial,rfl⟩
    ·cases hz
   rintro acc rfl
   exact⟨_,rfl,_,rfl,[],rfl,trivial,by decide,.inr (.inr ⟨rfl,_,_,_,rfl⟩)⟩
  ·cases hv
 ·rintro ρ (⟨h,_⟩|⟨h,_⟩|⟨_,y5,y6,y7,rfl⟩)
  ·cases h
  ·cases h
  ·exact⟨_,rfl,trivial,q⟩
noncomputable def rE:bM:=λEp xs Q=>∃n:Int,xs = [W2,.tup [.int 0],.int n]/\1<=n/\Ep "NoSuch"
noncomputable def U9 (Ep:Str->Prop):aP:=(aM (bE 3 (aK rD (aB (aA 0) (aB (aA 1) aF))))
 (aM (bA (iQ (b5 (iW (aA 2) (qC (.int 0)))) (b5 (pM (aA 2) (aK mG (aB (iT (aA 3) (bO aF)) aF))))) (dF Ep "NoSuch" (aB (qC (.str "no order has this number")) aF)) bQ)
 (aM bV
 (aM bV
 (aM bV
 bV)))))
theorem aS7:cK U9 ["web","seeds","number","branches","order","left","hearth","many"] rE:=by
 rintro Ep xs Q ⟨n,rfl,hn,e⟩;refine⟨_,rfl,_,rfl,rfl,trivial,?_⟩;refine⟨_,rfl,_,_,rfl,rfl,_,rfl,?_⟩;show if decide (n<0)=true then _ else _
 rw[bg1 (by omega)];refine aQ ⟨_,rfl,_,rfl,by decide,rfl,_,.inr ⟨wT,[],rfl,rfl,rfl⟩,[(1,1)],rfl,by decide,_,_,rfl,rfl,_,rfl,?_⟩;show if decide (n >= nZ [(1,1)])=true then _ else _
 have w1:nZ [(1,1)]=1:=by decide
 rw[w1,bj1 (show n >= 1 from hn)];exact b4 ⟨by decide,e⟩
end Core
namespace Core
open PySem L2 PP Txs
noncomputable def rF:bH:=λxs Q=>∃(z:Str) (b:Bool),xs = [.str z]/\((z="01"/\b=false)∨(z="0"/\b=true)∨(z="1"/\b=true))/\Q (.bl b)
noncomputable def V0:aP:=(aM (bA (iQ (b5 (iW (aK o8 (aB (aA 0) aF)) (qC (.int 1)))) (b5 (iX (aK o8 (aB (aA 0) aF)) (qC (.int 60))))) (bG (qC (.bl false))) bQ)
 (aM (bA (lO (b5 (iX (aK o8 (aB (aA 0) aF)) (qC (.int 1)))) (b5 (q2 (jR false) (q2 wQ (aA 0) (qC (.int 0))) (qC (.str "0"))))) (bG (qC (.bl false))) bQ)
 (bG (aK nK (aB (cZ (wR (aA 0)) [none] (bT 0) dC (q2 qM (aA 0) (qC (.str "0123456789")))) aF)))))
theorem rG {i:Nat}{s:Str}{g:Bool}{ρ:bK}{Q:bK->Prop}(q:Q (ρ.set i (some (.sh true (.str s))))):bT i (.str s) g ρ Q:=by
 unfold bT;rw[show (g||flat (PV.str s))=true from Bool.or_true g];exact q
theorem V1 {c:Nat}{Q:PV->Prop}(h:(!(Builtin.Str.occurrences ("0123456789":Str) ⟨#[c]⟩ 0 ("0123456789":Str).length 1).isEmpty)=true)(hc:c<128)(h0:decide (c<128)=true)(q:Q (.bl true)) :
  (bG (aK nK (aB (cZ (wR (aA 0)) [none] (bT 0) dC (q2 qM (aA 0) (qC (.str "0123456789")))) aF))) { nx:=λ_=>Q .non,rt:=Q } [some (.sh true (.str ⟨#[c]⟩))]:=by
 refine⟨_,rfl,⟨#[c]⟩,rfl,by simp[hc],by show 1<=16000000;decide,λi acc=>acc=(List.replicate i true).map PV.bl,rfl,?_,?_⟩
 ·rintro i y acc hy rfl
  rcases i with _|i
  ·cases hy
   refine rG ?_;refine⟨_,rfl,_,_,rfl,rfl,trivial,?_⟩;rw[h];rfl
  ·cases hy
 ·rintro acc rfl
  exact⟨[true],rfl,trivial,q⟩
theorem aS8:c9 V0 ["word"] rF:=by
 rintro xs Q ⟨z,b,rfl,(⟨rfl,rfl⟩|⟨rfl,rfl⟩|⟨rfl,rfl⟩),q⟩
 ·refine⟨_,rfl,_,rfl,by decide,_,_,rfl,rfl,_,rfl,aQ ⟨_,rfl,_,rfl,by decide,_,_,rfl,rfl,_,rfl,aQ ?_⟩⟩
  exact⟨_,rfl,_,rfl,by decide,_,_,rfl,rfl,_,rfl,b4 ⟨_,rfl,_,_,48,rfl,rfl,by decide,rfl,_,_,rfl,rfl,_,rfl,b4 ⟨trivial,q⟩⟩⟩
 ·refine⟨_,rfl,_,rfl,by decide,_,_,rfl,rfl,_,rfl,aQ ⟨_,rfl,_,rfl,by decide,_,_,rfl,rfl,_,rfl,aQ ?_⟩⟩
  exact⟨_,rfl,_,rfl,by decide,_,_,rfl,rfl,_,rfl,aQ (V1 (c:=48) (by kernel_rfl) (by decide) rfl q)⟩
 ·refine⟨_,rfl,_,rfl,by decide,_,_,rfl,rfl,_,rfl,aQ ⟨_,rfl,_,rfl,by decide,_,_,rfl,rfl,_,rfl,aQ ?_⟩⟩
  exact⟨_,rfl,_,rfl,by decide,_,_,rfl,rfl,_,rfl,aQ (V1 (c:=49) (by kernel_rfl) (by decide) rfl q)⟩
noncomputable def rH:bM:=λEp xs Q=>∃z:Str,xs = [.str z]/\((z="01"/\Ep "NoText")∨∃k:Nat,(k=0∨k=1)/\z=nS k/\Q (.int k))
noncomputable def V2 (Ep:Str->Prop):aP:=(aM (bA (i6 (b5 (aK rF (aB (aA 0) aF)))) (dF Ep "NoText" (aB (qC (.str "a number is not written as one")) aF)) bQ)
 (bG (aK wO (aB (aA 0) aF))))
theorem nS0:nS 0="0":=by kernel_rfl
theorem nS1:nS 1="1":=by kernel_rfl
theorem aS9:cK V2 ["word"] rH:=by
 rintro Ep xs Q ⟨z,rfl,⟨rfl,e⟩|⟨k,hk,rfl,q⟩⟩
 ·exact⟨_,rfl,_,false,rfl,.inl ⟨rfl,rfl⟩,_,rfl,b4 ⟨by decide,e⟩⟩
 ·refine⟨_,rfl,_,true,rfl,.inr ?_,_,rfl,aQ ⟨_,rfl,k,rfl,by omega,trivial,q⟩⟩
  rcases hk with rfl|rfl
  ·exact .inl ⟨nS0,rfl⟩
  ·exact .inr ⟨nS1,rfl⟩
noncomputable def l0:bM:=λEp xs Q=>∃(z:Str) (m:Int),xs = [.str z,.int m]/\((z="01"/\Ep "NoText")∨∃k:Nat,(k=0∨k=1)/\z=nS k/\((k:Int)<=m->Q (.int k))/\(m<(k:Int)->Ep "NoText"))
noncomputable def V3 (Ep:Str->Prop):aP:=(aM (bE 2 (bZ Ep rH (aB (aA 0) aF)))
 (aM (bA (b5 (iX (aA 2) (aA 1))) (dF Ep "NoText" (aB (qC (.str "a number is too great")) aF)) bQ)
 (fS 2)))
theorem aT0:cK V3 ["word","most","number"] l0:=by
 rintro Ep xs Q ⟨z,m,rfl,⟨rfl,e⟩|⟨k,hk,rfl,q,e⟩⟩
 ·exact⟨_,rfl,_,rfl,.inl ⟨rfl,e⟩⟩
 ·refine⟨_,rfl,_,rfl,.inr ⟨k,hk,rfl,trivial,?_⟩⟩
  refine⟨_,rfl,_,rfl,_,_,rfl,rfl,_,rfl,?_⟩;show if decide ((k:Int)>m)=true then _ else _
  by_cases h:m<(k:Int)
  ·rw[bj1 (show (k:Int)>m from h)]
   exact b4 ⟨by decide,e h⟩
  ·rw[bg1 (show ¬(k:Int)>m from h)]
   exact aQ ⟨_,rfl,trivial,q (by omega)⟩
noncomputable def rJ:bM:=λEp xs Q=>∃(z:Str) (m:Int),xs = [.str z,.int m]/\((z="0-1"/\m=1)∨(z="1-0"/\m=2))/\Ep "NoText"
noncomputable def V4 (Ep:Str->Prop):aP:=(aM (bE 2 (qL (aA 0) (aB (qC (.str "-")) aF)))
 (aM (bA (b5 (uO (aK dI (aB (aA 2) aF)) (qC (.int 2)))) (dF Ep "NoText" (aB (qC (.str "a link is written as two hearths")) aF)) bQ)
 (aM (bE 3 (bZ Ep l0 (aB (cG (aA 2) (qC (.int 0))) (aB (jJ (aA 1) (qC (.int 1))) aF))))
 (aM (bE 4 (bZ Ep l0 (aB (cG (aA 2) (qC (.int 1))) (aB (jJ (aA 1) (qC (.int 1))) aF))))
 (aM (bA (b5 (pM (aA 3) (aA 4))) (dF Ep "NoText" (aB (qC (.str "the lesser hearth of a link stands first")) aF)) bQ)
 (bG (bO (aB (aA 3) (aB (aA 4) aF)))))))))
theorem aT1:cK V4 ["word","many","parts","one","other"] rJ:=by
 rintro Ep xs Q ⟨z,m,rfl,⟨rfl,rfl⟩|⟨rfl,rfl⟩,e⟩
 ·refine⟨_,rfl,_,rfl,"-",rfl,by decide,by decide,trivial,?_⟩
  rw[show Txt.split ("0-1":Str) ("-":Str)=([nS 0,nS 1]:List Str) by kernel_rfl];refine⟨_,rfl,_,_,rfl,rfl,.inl ⟨_,_,rfl,rfl,_,rfl,aQ ?_⟩⟩;refine⟨_,rfl,_,_,_,rfl,rfl,rfl,_,rfl,_,_,rfl,rfl,_,_,rfl,.inr ⟨0,.inl rfl,rfl,λ_=>⟨trivial,?_⟩,λz=>absurd z (by decide)⟩⟩
  exact⟨_,rfl,_,_,_,rfl,rfl,rfl,_,rfl,_,_,rfl,rfl,_,_,rfl,.inr ⟨1,.inr rfl,rfl,λz=>absurd z (by decide),λ_=>e⟩⟩
 ·refine⟨_,rfl,_,rfl,"-",rfl,by decide,by decide,trivial,?_⟩
  rw[show Txt.split ("1-0":Str) ("-":Str)=([nS 1,nS 0]:List Str) by kernel_rfl];refine⟨_,rfl,_,_,rfl,rfl,.inl ⟨_,_,rfl,rfl,_,rfl,aQ ?_⟩⟩;refine⟨_,rfl,_,_,_,rfl,rfl,rfl,_,rfl,_,_,rfl,rfl,_,_,rfl,.inr ⟨1,.inr rfl,rfl,λ_=>⟨trivial,?_⟩,λz=>absurd z (by decide)⟩⟩;refine⟨_,rfl,_,_,_,rfl,rfl,rfl,_,rfl,_,_,rfl,rfl,_,_,rfl,.inr ⟨0,.inl rfl,rfl,λ_=>⟨trivial,?_⟩,λz=>absurd z (by decide)⟩⟩
  exact⟨_,rfl,_,rfl,_,_,rfl,rfl,_,rfl,b4 ⟨by decide,e⟩⟩
noncomputable def oD:bH:=λxs Q=>∃(r:Str) (ws:List Str),xs = [.str r]/\decide (r=".")=false/\r.length<=100/\Txt.split r " " = ws/\Q (.lst (stxs ws))
noncomputable def V5:aP:=(aM (bA (b5 (q2 (jR false) (aA 0) (qC (.str ".")))) (bG (dH aF)) bQ)
 (bG (qL (aA 0) (aB (qC (.str " ")) aF))))
theorem aT2:c9 V5 ["row"] oD:=by
 rintro xs Q ⟨r,ws,rfl,nd,hl,hs,q⟩;refine⟨_,rfl,_,_,rfl,rfl,_,rfl,?_⟩;show if decide (r=".")=true then _ else _
 rw[nd];refine aQ ⟨_,rfl,_,rfl," ",rfl,by decide,by omega,trivial,?_⟩;rw[hs];exact q
noncomputable def jB:List Str:=["","1 1",". ","01\n.","1\n0-1","1 1\n1-0"]
noncomputable def oE:bM:=λEp xs Q=>∃z∈jB,xs = [.str z]/\Ep "NoText"
noncomputable def V6 (Ep:Str->Prop):aP:=(aM (bE 2 (cZ (cY (aK oD (aB (cG (aA 1) (qC (.int 0))) aF))) [none] (bT 0) dC (bZ Ep l0 (aB (aA 0) (aB (qC (.int 60)) aF)))))
 (aM (bA (b5 (iX (aK dI (aB (aA 2) aF)) (qC (.int 40)))) (dF Ep "NoText" (aB (qC (.str "a web has at most 40 hearths")) aF)) bQ)
 (aM (bE 3 (cZ (cY (aK oD (aB (cG (aA 1) (qC (.int 1))) aF))) [none,some 2] (bT 0) dC (bZ Ep rJ (aB (aA 0) (aB (aK dI (aB (aA 1) aF)) aF)))))
 (aM bV
 bV))))
noncomputable def wU (Ep:Str->Prop):aP:=(aM (bE 1 (qL (aA 0) (aB (qC (.str "\n")) aF)))
 (aM (bA (b5 (uO (aK dI (aB (aA 1) aF)) (qC (.int 2)))) (dF Ep "NoText" (aB (qC (.str "a web is written in two rows")) aF)) bQ)
 (V6 Ep)))
theorem V7 {Ep:Str->Prop}{Q:PV->Prop}{y:Option Slot}{a b w:Str}{ws:ae}(ha:decide (a=".")=false)(la:a.length<=100)(hb:decide (b=".")=false)(lb:b.length<=100)(sa:Txt.split a " " = ws.map λ_=>nS 1)(few:ws.length<=2)(ones:∀x∈ws,x=1)(sb:Txt.split b " " = [w])(lk:(w="0-1"/\(ws.length:Int)=1)∨(w="1-0"/\(ws.length:Int)=2))(e:Ep "NoText") :
  V6 Ep { nx:=λ_=>Q .non,rt:=Q } [y,some (.sh true (.lst [.str a,.str b])),none,none]:=by
 refine⟨_,rfl,_,_,_,rfl,rfl,rfl,a,_,rfl,ha,la,sa,_,rfl,(λz=>by cases z),by rw[S0,be9];omega,λi acc=>acc=intz (ws.take i),rfl,?_,?_⟩
 ·rintro i v acc hv rfl
  obtain⟨u,rfl,hu⟩:=aQ2 hv
  refine rG ?_;refine⟨_,rfl,_,_,rfl,.inr ⟨1,.inr rfl,rfl,λ_=>⟨trivial,?_⟩,λz=>absurd z (by decide)⟩⟩
  have:u=1:=ones u (bo2 hu)
  dsimp only;rw[bj7,hu,m5,this];rfl
 rintro acc rfl;rw[S0,be9,bj2];refine⟨trivial,?_⟩;refine⟨_,rfl,_,_,rfl,rfl,_,_,rfl,rfl,_,rfl,?_⟩;rw[dE,bg1 (by omega)];refine aQ ?_;refine⟨_,rfl,_,_,_,rfl,rfl,rfl,b,_,rfl,hb,lb,sb,_,rfl,(λz=>by cases z),by show 1<=16000000;decide,λi acc=>i=0,rfl,?_,?_⟩
 ·rintro i v acc hv rfl
  cases hv;refine rG ?_;refine⟨_,rfl,_,rfl,_,_,rfl,rfl,w,(ws.length:Int),by show [PV.str w,PV.int ((intz ws).length:Nat)]=_;rw[dE],lk,e⟩
 ·intro acc h
  cases h
theorem aT3:cK wU ["text","rows","wants","links"] oE:=by
 rintro Ep xs Q ⟨z,hz,rfl,e⟩
 have:z=""∨z="1 1"∨z=". "∨z="01\n."∨z="1\n0-1"∨z="1 1\n1-0":=by unfold jB at hz;simpa using hz
 have one:∀z:Str,z.length<=100->Txt.split z "\n" = [z]->wU Ep { nx:=λ_=>Q .non,rt:=Q } [some (.sh true (.str z)),none,none,none]:=λz hl hs=>by
  refine⟨_,rfl,_,rfl,"\n",rfl,by decide,by omega,trivial,?_⟩;rw[hs]
  exact⟨_,rfl,_,_,rfl,rfl,.inl ⟨_,_,rfl,rfl,_,rfl,b4 ⟨by decide,e⟩⟩⟩
 rcases this with rfl|rfl|rfl|rfl|rfl|rfl
 ·exact one _ (by decide) (by kernel_rfl)
 ·exact one _ (by decide) (by kernel_rfl)
 ·exact one _ (by decide) (by kernel_rfl)
 ·refine⟨_,rfl,_,rfl,"\n",rfl,by decide,by decide,trivial,?_⟩
  rw[show Txt.split ("01\n.":Str) ("\n":Str)=(["01","."]:List Str) by kernel_rfl];refine⟨_,rfl,_,_,rfl,rfl,.inl ⟨_,_,rfl,rfl,_,rfl,aQ ?_⟩⟩;refine⟨_,rfl,_,_,_,rfl,rfl,rfl,"01",["01"],rfl,by decide,by decide,by kernel_rfl,_,rfl,(λz=>by cases z),by show 1<=16000000;decide,λi acc=>i=0,rfl,?_,?_⟩
  ·rintro i v acc hv rfl
   cases hv;refine rG ?_
   exact⟨_,rfl,_,_,rfl,.inl ⟨rfl,e⟩⟩
  ·intro acc h
   cases h
 ·refine⟨_,rfl,_,rfl,"\n",rfl,by decide,by decide,trivial,?_⟩
  rw[show Txt.split ("1\n0-1":Str) ("\n":Str)=(["1","0-1"]:List Str) by kernel_rfl];refine⟨_,rfl,_,_,rfl,rfl,.inl ⟨_,_,rfl,rfl,_,rfl,aQ ?_⟩⟩;exact V7 (a:="1") (b:="0-1") (w:="0-1") (ws:=[1]) (by decide) (by decide) (by decide) (by decide) (by kernel_rfl) (by decide) (by decide) (by kernel_rfl) (.inl ⟨rfl,rfl⟩) e
 ·refine⟨_,rfl,_,rfl,"\n",rfl,by decide,by decide,trivial,?_⟩
  rw[show Txt.split ("1 1\n1-0":Str) ("\n":Str)=(["1 1","1-0"]:List Str) by kernel_rfl];refine⟨_,rfl,_,_,rfl,rfl,.inl ⟨_,_,rfl,rfl,_,rfl,aQ ?_⟩⟩;exact V7 (a:="1 1") (b:="1-0") (w:="1-0") (ws:=[1,1]) (by decide) (by decide) (by decide) (by decide) (by kernel_rfl) (by decide) (by decide) (by kernel_rfl) (.inr ⟨rfl,rfl⟩) e
end Core
set_option maxHeartbeats 1000000
namespace Core
open PySem L2 PP Txs
noncomputable def wV:bH:=K2
noncomputable def rK:bM:=λEp xs Q=>∃r c:Int,xs = [.int r,.int c]/\¬kX r c/\Ep "BadBoard"
noncomputable def V8 (Ep:Str->Prop):aP:=(aM (eZ (bZ Ep qI (aB (aA 0) (aB (aA 1) aF))))
 (bG (at8 (kH (kH (aA 0) (aA 1)) (qC (.int 1))) (qC (.int 2)))))
theorem aT4:cK V8 ["rows","columns"] rK:=by
 rintro Ep xs Q ⟨r,c,rfl,no,ex⟩
 exact⟨_,rfl,_,rfl,r,c,rfl,λok=>absurd ok no,λ_=>ex⟩
noncomputable def rL:bM:=λEp xs Q=>∃w n:Int,xs = [.int w,.int n]/\0<=n/\((w=0/\Ep "BadWeb")∨(w=1/\Ep "BadSet")∨(w=2/\Ep "BadOrder")∨(w=3/\Ep "BadPrices")∨(w=4/\Ep "BadBoard")∨(w=5/\Ep "BadDeed"))
noncomputable def V9 (Ep:Str->Prop):aP:=(aM (bE 2 (bO (aB (bO (aB (qC (.int 1)) (aB (qC (.int 1)) aF))) (aB (bO (aB (bO (aB (qC (.int 0)) (aB (qC (.int 1)) aF))) aF)) aF))))
 (bA (b5 (eR (aA 0) (qC (.int 0)))) (eZ (bZ Ep qN (aB (dH (aB (qC (.int 0)) (aB (kH (qC (.int 61)) (aA 1)) aF))) (aB (dH aF) aF)))) (bA (b5 (eR (aA 0) (qC (.int 1)))) (eZ (bZ Ep mE (aB (aA 2) (aB (bO (aB (qC (.int 0)) (aB (kH (qC (.int 2)) (aA 1)) aF))) aF)))) (bA (b5 (eR (aA 0) (qC (.int 2)))) (eZ (bZ Ep mK (aB (aA 2) (aB (bO aF) (aB (dH (aB (iV (aA 1) (qC (.int 2))) (aB (iV (aA 1) (qC (.int 2))) aF))) aF))))) (bA (b5 (eR (aA 0) (qC (.int 3)))) (eZ (bZ Ep qO (aB (aA 2) (aB (dH (aB (aA 1) aF)) (aB (bO aF) aF))))) (bA (b5 (eR (aA 0) (qC (.int 4)))) (eZ (bZ Ep rK (aB (jJ (qC (.int 0)) (aA 1)) (aB (qC (.int 3)) aF)))) (eZ (bZ Ep qR (aB (aA 2) (aB (bO aF) (aB (bO (aB (qC (.str "light")) (aB (jJ (C2 (qC (.int 1))) (aA 1)) aF))) aF)))))))))))
theorem aT5:cK V9 ["way","number","web"] rL:=by
 rintro Ep xs Q ⟨w,n,rfl,n0,h⟩;refine⟨by show 2<=1000;decide,rfl,by show 2<=1000;decide,rfl,by show 1<=1000;decide,rfl,by show 2<=1000;decide,rfl,trivial,?_⟩;rcases h with⟨rfl,e⟩|⟨rfl,e⟩|⟨rfl,e⟩|⟨rfl,e⟩|⟨rfl,e⟩|⟨rfl,e⟩
 ·refine⟨_,rfl,.inl ⟨_,_,rfl,rfl,_,rfl,b4 ?_⟩⟩
  exact⟨_,rfl,_,_,rfl,rfl,by show 2<=1000;decide,rfl,by show 0<=1000;decide,rfl,61+n,rfl,by omega,e⟩
 ·refine⟨_,rfl,.inl ⟨_,_,rfl,rfl,_,rfl,aQ ⟨_,rfl,.inl ⟨_,_,rfl,rfl,_,rfl,b4 ?_⟩⟩⟩⟩
  refine⟨_,rfl,_,rfl,_,_,rfl,rfl,by show 2<=1000;decide,rfl,[1,1],[(0,1)],_,[0,2+n],rfl,jS,.inl rfl,by show 2<=1000;decide,λz=>?_,λ_=>e⟩;have z:=(bm2 _ _▸z:j6 [0,2+n]=true/\(([0,2+n]:ae).map (inB ([1,1]:ae).length)).all id=true).2;rw[List.all_map,bq1]at z
  have:=z (2+n) (by simp)
  unfold inB at this;simp at this;omega
 ·refine⟨_,rfl,.inl ⟨_,_,rfl,rfl,_,rfl,aQ ⟨_,rfl,.inl ⟨_,_,rfl,rfl,_,rfl,aQ ⟨_,rfl,.inl ⟨_,_,rfl,rfl,_,rfl,b4 ?_⟩⟩⟩⟩⟩⟩
  exact⟨_,rfl,by show 0<=1000;decide,rfl,_,rfl,_,_,rfl,rfl,(by show (0:Int)<2;decide),_,rfl,_,_,rfl,rfl,(by show (0:Int)<2;decide),by show 2<=1000;decide,rfl,_,_,rfl,.inl ⟨n%2,rfl,rfl,e⟩⟩
 ·refine⟨_,rfl,.inl ⟨_,_,rfl,rfl,_,rfl,aQ ⟨_,rfl,.inl ⟨_,_,rfl,rfl,_,rfl,aQ ⟨_,rfl,.inl ⟨_,_,rfl,rfl,_,rfl,aQ ⟨_,rfl,.inl ⟨_,_,rfl,rfl,_,rfl,b4 ?_⟩⟩⟩⟩⟩⟩⟩⟩
  exact⟨_,rfl,_,rfl,by show 1<=1000;decide,rfl,by show 0<=1000;decide,rfl,n,rfl,e⟩
 ·refine⟨_,rfl,.inl ⟨_,_,rfl,rfl,_,rfl,aQ ⟨_,rfl,.inl ⟨_,_,rfl,rfl,_,rfl,aQ ⟨_,rfl,.inl ⟨_,_,rfl,rfl,_,rfl,aQ ⟨_,rfl,.inl ⟨_,_,rfl,rfl,_,rfl,aQ ⟨_,rfl,.inl ⟨_,_,rfl,rfl,_,rfl,b4 ?_⟩⟩⟩⟩⟩⟩⟩⟩⟩⟩
  exact⟨_,rfl,_,_,rfl,rfl,0-n,3,rfl,by unfold kX;omega,e⟩
 ·refine⟨_,rfl,.inl ⟨_,_,rfl,rfl,_,rfl,aQ ⟨_,rfl,.inl ⟨_,_,rfl,rfl,_,rfl,aQ ⟨_,rfl,.inl ⟨_,_,rfl,rfl,_,rfl,aQ ⟨_,rfl,.inl ⟨_,_,rfl,rfl,_,rfl,aQ ⟨_,rfl,.inl ⟨_,_,rfl,rfl,_,rfl,aQ ?_⟩⟩⟩⟩⟩⟩⟩⟩⟩⟩
  exact⟨_,rfl,by show 0<=1000;decide,rfl,1,rfl,_,rfl,_,_,rfl,rfl,by show 2<=1000;decide,rfl,-1-n,rfl,by omega,e⟩
noncomputable def rM:bM:=λEp xs Q=>∃w n:Int,xs = [.int w,.int n]/\0<=n/\((w=6/\Ep "NotWood")∨(w=7/\Ep "NoPaper")∨(w=8/\Ep "NoSuch")∨(w=9/\Ep "TooMany")∨(w=10/\Ep "NoText")∨(w=11/\Ep "OddRound"))
noncomputable def W0 (Ep:Str->Prop):aP:=(aM (bE 2 (bO (aB (bO (aB (qC (.int 1)) (aB (qC (.int 1)) aF))) (aB (bO (aB (bO (aB (qC (.int 0)) (aB (qC (.int 1)) aF))) aF)) aF))))
 (aM (bE 3 (bO (aB (q2 o0 (bO (aB (iV (aA 1) (qC (.int 60))) aF)) (qC (.int 3))) (aB (bO (aB (bO (aB (qC (.int 0)) (aB (qC (.int 1)) aF))) (aB (bO (aB (qC (.int 0)) (aB (qC (.int 2)) aF))) (aB (bO (aB (qC (.int 1)) (aB (qC (.int 2)) aF))) aF)))) aF))))
 (bA (b5 (eR (aA 0) (qC (.int 6)))) (eZ (bZ Ep qZ (aB (aA 3) aF))) (bA (b5 (eR (aA 0) (qC (.int 7)))) (eZ (bZ Ep qS (aB (aA 2) (aB (bO (aB (bO aF) (aB (q2 o0 (bO (aB (bO (aB (qC (.int 0)) (aB (qC (.int 1)) aF))) aF)) (iV (aA 1) (qC (.int 4)))) aF))) aF)))) (bA (b5 (eR (aA 0) (qC (.int 8)))) (eZ (bZ Ep rE (aB (aA 2) (aB (bO (aB (qC (.int 0)) aF)) (aB (kH (qC (.int 1)) (aA 1)) aF))))) (bA (b5 (eR (aA 0) (qC (.int 9)))) (eZ (bZ Ep qU (aB (bO (aB (q2 o0 (bO (aB (iV (aA 1) (qC (.int 60))) aF)) (kH (qC (.int 13)) (iV (aA 1) (qC (.int 28))))) (aB (bO aF) aF))) aF))) (bA (b5 (eR (aA 0) (qC (.int 10)))) (eZ (bZ Ep oE (aB (cG (dH (aB (qC (.str "")) (aB (qC (.str "1 1")) (aB (qC (.str ". ")) (aB (qC (.str "01\n.")) (aB (qC (.str "1\n0-1")) (aB (qC (.str "1 1\n1-0")) aF))))))) (iV (aA 1) (qC (.int 6)))) aF))) (eZ (bZ Ep rB (aB (aA 3) aF))))))))))
theorem rN:∀(k:Nat) (x:PV),flat x=true->flats (List.replicate k [x]).flatten=true
 |0,_,_=>rfl
 |k+1,x,h=>by
  rw[bl0,bn7];show (flat x&&flats (List.replicate k [x]).flatten)=true;rw[h,rN k x h];rfl
theorem aT6 (k:Nat)(m:Int):(List.replicate k [PV.int m]).flatten=intz (List.replicate k m):=by
 induction k with
 |zero=>rfl
 |succ k ih=>rw[bl0,bn7,ih,bl0];rfl
theorem aT7:cK W0 ["way","number","web","ring"] rM:=by
 rintro Ep xs Q ⟨w,n,rfl,n0,h⟩;refine⟨by show 2<=1000;decide,rfl,by show 2<=1000;decide,rfl,by show 1<=1000;decide,rfl,by show 2<=1000;decide,rfl,trivial,?_⟩;refine⟨_,rfl,_,_,rfl,rfl,(by show (0:Int)<60;decide),by show 1<=1000;decide,rfl,[.int (n%60)],3,rfl,rfl,rfl,(λz=>by cases z),by decide,by decide,by show 1<=10;decide,by show 2<=1000;decide,rfl,by show 2<=1000;decide,rfl,by show 2<=1000;decide,rfl,by show 3<=1000;decide,rfl,by show 2<=1000;decide,rfl,trivial,?_⟩;have step:∀{D:gF}{ρ:bK}{j:Int}{tt te:aP},ρ[0]? = some (some (.sh true (.int w)))->(if decide (w=j)=true then tt D ρ else te D ρ)->(bA (b5 (eR (aA 0) (qC (.int j)))) tt te) D ρ:=λ{D ρ j tt te} h0 h=>⟨_,h0,.inl ⟨_,_,rfl,rfl,_,rfl,h⟩⟩
 rcases h with⟨rfl,e⟩|⟨rfl,e⟩|⟨rfl,e⟩|⟨rfl,e⟩|⟨rfl,e⟩|⟨rfl,e⟩
 ·exact step rfl (b4 ⟨_,rfl,n%60,rfl,e⟩)
 ·refine step rfl (aQ (step rfl (b4 ?_)))
  exact⟨_,rfl,by show 0<=1000;decide,rfl,by show 2<=1000;decide,rfl,by show 1<=1000;decide,rfl,_,rfl,_,_,rfl,rfl,(by show (0:Int)<4;decide),[.tup [.int 0,.int 1]],n%4,rfl,rfl,rfl,(λz=>by cases z),by omega,by omega,by show 1<=10;decide,by show 2<=1000;decide,by show (flats _&&(flats _&&true))=true;rw[rN _ _ rfl];rfl,_,rfl,rN _ _ rfl,e⟩
 ·refine step rfl (aQ (step rfl (aQ (step rfl (b4 ?_)))))
  exact⟨_,rfl,by show 1<=1000;decide,rfl,_,rfl,_,_,rfl,rfl,1+n,rfl,by omega,e⟩
 ·refine step rfl (aQ (step rfl (aQ (step rfl (aQ (step rfl (b4 ?_)))))))
  refine⟨_,rfl,_,_,rfl,rfl,(by show (0:Int)<60;decide),by show 1<=1000;decide,rfl,_,rfl,_,_,rfl,rfl,(by show (0:Int)<28;decide),13,n%28,rfl,rfl,[.int (n%60)],13+n%28,rfl,rfl,rfl,(λz=>by cases z),by omega,by omega,by show 1<=10;decide,by show 0<=1000;decide,rfl,by show 2<=1000;decide,by show (flats _&&(flats _&&true))=true;rw[rN _ _ rfl];rfl,List.replicate (13+n%28).toNat (n%60),?_,by rw[List.length_replicate];omega,e⟩;show [PV.tup [.tup (List.replicate (13+n%28).toNat [PV.int (n%60)]).flatten,.tup []]]=_;rw[aT6];rfl
 ·refine step rfl (aQ (step rfl (aQ (step rfl (aQ (step rfl (aQ (step rfl (b4 ?_)))))))))
  refine⟨by show 6<=1000;decide,rfl,_,rfl,_,_,rfl,rfl,(by show (0:Int)<6;decide),?_⟩;have at6:∃z∈jB,L2.atI [PV.str "",.str "1 1",.str ". ",.str "01\n.",.str "1\n0-1",.str "1 1\n1-0"] (n%6)=some (.str z):=by
   have j0:0<=n%6:=Int.emod_nonneg _ (by decide);have j1:n%6<6:=Int.emod_lt_of_pos _ (by decide);generalize n%6=j at j0 j1;rcases (show j=0∨j=1∨j=2∨j=3∨j=4∨j=5 by omega) with rfl|rfl|rfl|rfl|rfl|rfl
   ·exact⟨"",by simp[jB],rfl⟩
   ·exact⟨"1 1",by simp[jB],rfl⟩
   ·exact⟨". ",by simp[jB],rfl⟩
   ·exact⟨"01\n.",by simp[jB],rfl⟩
   ·exact⟨"1\n0-1",by simp[jB],rfl⟩
   ·exact⟨"1 1\n1-0",by simp[jB],rfl⟩
  obtain⟨z,hz,hat⟩:=at6
  exact⟨_,_,_,rfl,rfl,hat,z,hz,rfl,e⟩
 ·exact step rfl (aQ (step rfl (aQ (step rfl (aQ (step rfl (aQ (step rfl (aQ ⟨_,rfl,n%60,rfl,e⟩)))))))))
noncomputable def l8 (w:Nat):List PV:=((List.range 12).map λk=>PV.bl (decide (w=k)))++[.bl true]
noncomputable def rO:bH:=λxs Q=>∃(w:Nat) (n:Int),xs = [.int w,.int n]/\w<12/\0<=n/\Q (.lst (l8 w))
noncomputable def W5:aP:=(aM (eG 2 (dH (aB (eT "BadWeb" (aA 3)) (aB (eT "BadSet" (aA 3)) (aB (eT "BadOrder" (aA 3)) (aB (eT "BadPrices" (aA 3)) aF))))))
  (aM (pF 2 (dH (aB (eT "BadBoard" (aA 3)) (aB (eT "BadDeed" (aA 3)) (aB (eT "NotWood" (aA 3)) (aB (eT "NoPaper" (aA 3)) aF))))))
  (aM (pF 2 (dH (aB (eT "NoSuch" (aA 3)) (aB (eT "TooMany" (aA 3)) (aB (eT "NoText" (aA 3)) (aB (eT "OddRound" (aA 3)) aF))))))
  (i7 2 (eT "ValueError" (aA 3))))))
noncomputable def W6:aP:=(aM (eG 2 (dH aF))
 (aM (vZ "HearthError" 3 (M9 (b5 (iW (aA 0) (qC (.int 6)))) (vY rL (aB (aA 0) (aB (aA 1) aF))) (vY rM (aB (aA 0) (aB (aA 1) aF)))) W5)
 (fS 2)))
theorem gN {y0 y1:Option Slot}{C:Str}{D:gF}{a1 a2 a3 a4 a5 a6 a7 a8 a9 a10 a11 a12:Bool}(h1:fH "BadWeb" (.exc C)=some a1)(h2:fH "BadSet" (.exc C)=some a2)(h3:fH "BadOrder" (.exc C)=some a3)(h4:fH "BadPrices" (.exc C)=some a4)(h5:fH "BadBoard" (.exc C)=some a5)(h6:fH "BadDeed" (.exc C)=some a6)(h7:fH "NotWood" (.exc C)=some a7)(h8:fH "NoPaper" (.exc C)=some a8)(h9:fH "NoSuch" (.exc C)=some a9)(h10:fH "TooMany" (.exc C)=some a10)(h11:fH "NoText" (.exc C)=some a11)(h12:fH "OddRound" (.exc C)=some a12)(h13:fH "ValueError" (.exc C)=some true)(q:D.nx [y0,y1,some (.own (.lst [.bl a1,.bl a2,.bl a3,.bl a4,.bl a5,.bl a6,.bl a7,.bl a8,.bl a9,.bl a10,.bl a11,.bl a12,.bl true])),some (.sh true (.exc C))]) :
  W5 D [y0,y1,some (.own (.lst [])),some (.sh true (.exc C))]:=by
 refine⟨_,rfl,a1,h1,_,rfl,a2,h2,_,rfl,a3,h3,_,rfl,a4,h4,by show 4<=1000;decide,rfl,rfl,rfl,?_⟩;refine⟨_,rfl,_,rfl,a5,h5,_,rfl,a6,h6,_,rfl,a7,h7,_,rfl,a8,h8,by show 4<=1000;decide,rfl,_,.inr rfl,.inr rfl,by show 8<=16000000;decide,?_⟩;refine⟨_,rfl,_,rfl,a9,h9,_,rfl,a10,h10,_,rfl,a11,h11,_,rfl,a12,h12,by show 4<=1000;decide,rfl,_,.inr rfl,.inr rfl,by show 12<=16000000;decide,?_⟩;refine⟨_,rfl,_,rfl,true,h13,trivial,by show 12<16000000;decide,?_⟩;exact q
theorem aT8:c9 W6 ["way","number","marks","e"] rO:=by
 rintro xs Q ⟨w,n,rfl,hw,n0,q⟩;refine⟨by decide,rfl,rfl,rfl,?_⟩;refine⟨_,rfl,_,_,rfl,rfl,_,rfl,?_⟩;have h:w=0∨w=1∨w=2∨w=3∨w=4∨w=5∨w=6∨w=7∨w=8∨w=9∨w=10∨w=11:=by omega
 rcases h with rfl|rfl|rfl|rfl|rfl|rfl|rfl|rfl|rfl|rfl|rfl|rfl
 ·exact b4 ⟨_,rfl,_,rfl,0,n,rfl,n0,.inl ⟨rfl,by decide,gN (by decide) (by decide) (by decide) (by decide) (by decide) (by decide) (by decide) (by decide) (by decide) (by decide) (by decide) (by decide) (by decide) ⟨_,rfl,trivial,q⟩⟩⟩
 ·exact b4 ⟨_,rfl,_,rfl,1,n,rfl,n0,.inr (.inl ⟨rfl,by decide,gN (by decide) (by decide) (by decide) (by decide) (by decide) (by decide) (by decide) (by decide) (by decide) (by decide) (by decide) (by decide) (by decide) ⟨_,rfl,trivial,q⟩⟩)⟩
 ·exact b4 ⟨_,rfl,_,rfl,2,n,rfl,n0,.inr (.inr (.inl ⟨rfl,by decide,gN (by decide) (by decide) (by decide) (by decide) (by decide) (by decide) (by decide) (by decide) (by decide) (by decide) (by decide) (by decide) (by decide) ⟨_,rfl,trivial,q⟩⟩))⟩
 ·exact b4 ⟨_,rfl,_,rfl,3,n,rfl,n0,.inr (.inr (.inr (.inl ⟨rfl,by decide,gN (by decide) (by decide) (by decide) (by decide) (by decide) (by decide) (by decide) (by decide) (by decide) (by decide) (by decide) (by decide) (by decide) ⟨_,rfl,trivial,q⟩⟩)))⟩
 ·exact b4 ⟨_,rfl,_,rfl,4,n,rfl,n0,.inr (.inr (.inr (.inr (.inl ⟨rfl,by decide,gN (by decide) (by decide) (by decide) (by decide) (by decide) (by decide) (by decide) (by decide) (by decide) (by decide) (by decide) (by decide) (by decide) ⟨_,rfl,trivial,q⟩⟩))))⟩
 ·exact b4 ⟨_,rfl,_,rfl,5,n,rfl,n0,.inr (.inr (.inr (.inr (.inr ⟨rfl,by decide,gN (by decide) (by decide) (by decide) (by decide) (by decide) (by decide) (by decide) (by decide) (by decide) (by decide) (by decide) (by decide) (by decide) ⟨_,rfl,trivial,q⟩⟩))))⟩
 ·exact aQ ⟨_,rfl,_,rfl,6,n,rfl,n0,.inl ⟨rfl,by decide,gN (by decide) (by decide) (by decide) (by decide) (by decide) (by decide) (by decide) (by decide) (by decide) (by decide) (by decide) (by decide) (by decide) ⟨_,rfl,trivial,q⟩⟩⟩
 ·exact aQ ⟨_,rfl,_,rfl,7,n,rfl,n0,.inr (.inl ⟨rfl,by decide,gN (by decide) (by decide) (by decide) (by decide) (by decide) (by decide) (by decide) (by decide) (by decide) (by decide) (by decide) (by decide) (by decide) ⟨_,rfl,trivial,q⟩⟩)⟩
 ·exact aQ ⟨_,rfl,_,rfl,8,n,rfl,n0,.inr (.inr (.inl ⟨rfl,by decide,gN (by decide) (by decide) (by decide) (by decide) (by decide) (by decide) (by decide) (by decide) (by decide) (by decide) (by decide) (by decide) (by decide) ⟨_,rfl,trivial,q⟩⟩))⟩
 ·exact aQ ⟨_,rfl,_,rfl,9,n,rfl,n0,.inr (.inr (.inr (.inl ⟨rfl,by decide,gN (by decide) (by decide) (by decide) (by decide) (by decide) (by decide) (by decide) (by decide) (by decide) (by decide) (by decide) (by decide) (by decide) ⟨_,rfl,trivial,q⟩⟩)))⟩
 ·exact aQ ⟨_,rfl,_,rfl,10,n,rfl,n0,.inr (.inr (.inr (.inr (.inl ⟨rfl,by decide,gN (by decide) (by decide) (by decide) (by decide) (by decide) (by decide) (by decide) (by decide) (by decide) (by decide) (by decide) (by decide) (by decide) ⟨_,rfl,trivial,q⟩⟩))))⟩
 ·exact aQ ⟨_,rfl,_,rfl,11,n,rfl,n0,.inr (.inr (.inr (.inr (.inr ⟨rfl,by decide,gN (by decide) (by decide) (by decide) (by decide) (by decide) (by decide) (by decide) (by decide) (by decide) (by decide) (by decide) (by decide) (by decide) ⟨_,rfl,trivial,q⟩⟩))))⟩
noncomputable def W7:aP:=(aM (e9 (lR (qC (.int 12))) (bT 1)
  (aM (bE 2 (iV (aK pV (aB (aA 0) (aB (aA 1) aF))) (at9 (qC (.int 10)) (qC (.int 30)))))
  (bA (b5 (q2 (lV 2 true) (aK rO (aB (aA 1) (aB (aA 2) aF))) (vO (cZ (lR (qC (.int 12))) [none,some 1] (bT 0) dC (eR (aA 1) (aA 0))) (dH (aB (qC (.bl true)) aF))))) (bG (qC (.bl false))) bQ)))
 (bG (qC (.bl true))))
theorem aT9:∀w:Nat,w<12->eI 3 (.lst (l8 w)) (.lst (l8 w))=true/\cF 3 (.lst (l8 w)) (.lst (l8 w))=true/\flats ((List.range 12).map λk=>PV.bl (decide (w=k)))=true:=by decide
theorem aU0:c9 W7 ["script","way","number"] wV:=by
 rintro xs Q ⟨ns,rfl,hl,q⟩;refine⟨12,rfl,by decide,by decide,λi ρ=>∃y1 y2,ρ = [some (.sh true (.scr ns)),y1,y2],⟨none,none,rfl⟩,?_,?_⟩
 ·rintro i v ρ hv ⟨y1,y2,rfl⟩
  obtain⟨rfl,hi⟩:=pT hv
  have hi:i<12:=hi;rw[show (0:Int)+(i:Int)=(i:Int) by omega];refine fY ?_;refine⟨_,rfl,_,rfl,_,ns,(i:Int),rfl,.inl rfl,by omega,_,_,rfl,rfl,⟨by decide,by decide,by decide⟩,_,_,rfl,rfl,(by show (0:Int)<10^(30:Int).toNat;decide),trivial,?_⟩;dsimp only;have n0:0<=ns.getD (i:Int).toNat 0%10^(30:Int).toNat:=Int.emod_nonneg _ (by decide);generalize ns.getD (i:Int).toNat 0%10^(30:Int).toNat=n at n0
  obtain⟨h1,h2,h3⟩:=aT9 i hi
  refine⟨_,rfl,_,rfl,i,n,rfl,hi,n0,?_⟩;refine⟨12,rfl,by decide,by decide,by show 12<=16000000;decide,λj acc=>acc=(List.range j).map λk=>PV.bl (decide (i=k)),rfl,?_,?_⟩
  ·rintro j v acc hv rfl
   obtain⟨rfl,hj⟩:=pT hv
   rw[show (0:Int)+(j:Int)=(j:Int) by omega];refine fY ?_;refine⟨_,rfl,_,rfl,.inl ⟨_,_,rfl,rfl,trivial,?_⟩⟩;dsimp only;rw[List.range_succ,bi9,show decide ((i:Int)=(j:Int))=decide (i=j) from decide_eq_decide.mpr Int.ofNat_inj];rfl
  ·rintro acc rfl
   rw[kD,show (12:Int).toNat=12 from rfl];refine⟨by show 1<=1000;decide,rfl,(List.range 12).map λk=>PV.bl (decide (i=k)),[.bl true],rfl,rfl,h3,rfl,by show 13<=16000000;decide,.inr ⟨_,_,rfl,rfl⟩,h1,_,rfl,?_⟩;show if (!cF 3 (.lst (l8 i)) (.lst (l8 i)))=true then _ else _
   rw[h2];exact aQ ⟨_,_,rfl⟩
 ·rintro ρ ⟨y1,y2,rfl⟩
  exact⟨trivial,q⟩
end Core
namespace PP
open PySem PySem.Spec L2 PyProof.Rows
section
variable {X:Cx}{N:List Str}{x:Str}{scope:Scope}{fr:List (Option Nat)}{iter elt tg:Expr}{ifs:List Expr}{tp p2 pos spos:Pos}{ti:e8}{te:aO}{Ep:Str→Prop}{gh:Hp→TG}{tch:Hp→TT}{teh:Hp→TE}{wi:TI}{px:Pos}
theorem aU1 {i:Nat}{z:Str}(pa:gY X (EX X.K X.H₀ Ep))(hst:X.stack=X.env::X.outer)(hfm:X.env.frame=some X.env.locals)(hc:X.calm=true)(S:cE X scope N fr)(hi:PI X tg iter wi)(B:∀(s:aq) (H:Hp),wM X scope N tg ifs elt s H (XC X scope N s H (EX X.K H Ep)) (gh H) (tch H) (teh H))(hN:X.N.Nodup)(hix:X.N[i]? = some z)(hx:X.env.scope.names.lookup z=some .local)(hsw:swapsWith (.ListComp elt [⟨tg,iter,ifs,0⟩] scope pos) (some (.Name z px)) spos.line X.env=pure true)(hs:∀x,foldedSetIterable iter X.env x=pure x:=by intro _;rfl) :
  PS X (.Assign [.Name z px] (.ListComp elt [⟨tg,iter,ifs,0⟩] scope pos) spos) (jU (wN X wi fr gh tch teh) (cO i)):=by
 intro af s σ H D I h;rw[exec_Assign_Name_used _ _ _ _ hsw];refine be2 (wpAny_standAt (be2 ?_));show wpAny _ _ (do let _ <- comprehension (.ListComp elt [⟨tg,iter,ifs,0⟩] scope pos) scope X.env _ (newList []) false (eval iter X.env) (some (assign (.Name z px) X.env))) _ _ s
 refine be2 (bk2 (bp4 (Q:=λ_ s'=>SP X af D .next s') (use:=some (assign (.Name z px) X.env)) rfl hs (lJ (S.cells I)) S.kind S.names (aT (hi af s σ H _ I h) λv s1 h1=>aT h1 λitv s2 h2=>?_))
  (λ_ s' hq=>be6 (be6 hq)) λ_ _ e=>e)
 obtain⟨it,fp,tn,J,H2,e,I2,T,st2,f2,sm,hW⟩:=h2
 subst e;have pa2:gY X (EX X.K H2 Ep):=R4 pa λc d H' z=>⟨z.1,sm.trans z.2.1,z.2.2⟩
 refine Q8 (Rr:=λacc C=>compPost (model X.prog X.w) X.A X.xe (some (assign (.Name z px) X.env)) (λ_ s'=>SP X af D .next s') acc C) hc S (B _ _) I2 T st2 f2 hW (λD C e s' hC hx=>R3 (Q:=λ_ _=>True) (acc:=e) pa2 hst hfm I2 f2 hC rfl hx) ?_;intro D' C s' H' m hC hD I' hns hHC q;refine wpAny_assign_Name (oG I' hN hix (.inl hx) (v:=.ref D') rfl (λs'' I'' sb=>?_) (.inr hx))
 obtain⟨a,sb,ha⟩:=sb
 have hCa:C≠a:=by
  rcases ha with z|z
  ·rw[z];exact bl4 (bf2 I2.lt hC)
  ·intro e;subst e
   obtain⟨v,q⟩:=I2.cell _ _ z
   exact absurd (bf2 q.lt hC) (bj9 _)
 exact⟨m,hns.sameBut sb hCa,λh' sb'=>⟨_,H',I2.drop hC I'' hHC sb',q⟩⟩
theorem aU2 {i:Nat}{z:Str}{zp:Pos}(nd:X.N.Nodup)(pa:gY X (EX X.K X.H₀ Ep))(hi:QI X (.Name x tp) iter ti)(he:∀(s:aq) (H:Hp) (C:ar) (fp:List ar),QE (bB X scope N s H C fp (XC X scope N s H (EX X.K H Ep) C fp)) elt te)(hz:X.N[i]? = some z:=by rfl)(hzl:X.env.scope.names.lookup z=some .local:=by rfl)(hsw:swapsWith (.ListComp elt [⟨.Name x tp,iter,[],0⟩] scope p2) (some (.Name z zp)) pos.line X.env=pure true:=by rfl)(hst:X.stack=X.env::X.outer:=by rfl)(hfm:X.env.frame=some X.env.locals:=by rfl)(hc:X.calm=true:=by rfl)(S:cE X scope N fr:=by exact cE.of rfl rfl)(hN:N.Nodup:=by decide +kernel)(h0:N[0]? = some x:=by rfl)(hl:∀(s:aq) (H:Hp) (C:ar) (fp:List ar),(bB X scope N s H C fp cW).env.scope.names.lookup x=some .local:=by intro _ _ _ _;rfl)(hf:fr[0]? = some none:=by rfl)(hs:∀x,foldedSetIterable iter X.env x=pure x:=by intro _;rfl):QS X (.Assign [.Name z zp] (.ListComp elt [⟨.Name x tp,iter,[],0⟩] scope p2) pos) (bE i (cZ ti fr (bT 0) dC te)):=
 dP (aU1 (gh:=λ_=>cO 0) (tch:=λH=>LT (X.frm H) dC) (teh:=λH=>LE (X.frm H) te) pa hst hfm hc S hi
  (λs H=>⟨λC fp=>eU (X:=bB X scope N s H C fp (XC X scope N s H (EX X.K H Ep) C fp)) hN h0 (.inl (hl s H C fp)) (.inr (hl s H C fp)),λC fp=>pQ (Y:=bB X scope N s H C fp (XC X scope N s H (EX X.K H Ep) C fp)),λC fp=>he s H C fp⟩) nd hz hzl hsw hs) λD σ H h=>R5 (lT _ 0) (λi e=>by subst e;exact hf) (u5 h)
end
end PP
namespace K_k98
open PySem PySem.W L2 PP Core
theorem _root_.L2.FnScope.au {N P:List Str}{s:Scope}(a:s.kind=.function:=by rfl)(b:s.isCoroutine=false:=by rfl)(c:s.isGenerator=false:=by rfl)(d:N.Nodup:=by decide +kernel)(e:N.take P.length=P:=by rfl)(f:∀x∈P,s.names.lookup x=some .local∨s.names.lookup x=some .cell:=by decide +kernel)(g:∀y∈s.names,y.2≠.free:=by decide +kernel):FnScope N P s:=⟨a,b,c,d,e,f,g⟩
noncomputable def aZ (i:Nat):Stmt:=PySem.Challenge.pw_kindleweb_k98_whole_refusals_apart.main.body.getD i (.Pass ⟨0,0,0,0⟩)
structure FK (K:Frag)(n:Str)(i:Nat)(f:ar)(d:FuncData):Prop where
 a:nsIn K mainGlobals n=some (some (.ref f))
 F:eF K n n (aZ i) f d
structure FM (K:Frag)(mg:Str->Option ao)(n:Str)(i:Nat)(f:ar)(d:FuncData):Prop where
 F:eF K n n (aZ i) f d
 m:mg n=some (.ref f)
theorem FK.M {K:Frag}{mg:Str->Option ao}{n:Str}{i:Nat}{f:ar}{d:FuncData}{h:Heap}(z:FK K n i f d)(X:K.In h)(G:h.Ns mainGlobals mg):FM K mg n i f d:=⟨z.F,mg_of X G z.a⟩
noncomputable abbrev Hb (x:Str)(ps:List Str)(i:Nat):Prop:=∀(kV doc pm:ao) (an:Option ar) (cdv ct:ao) (us:List ao),us.length=ps.length->bindArgs (fnOf x x (i3 (aZ i)) (dW (aZ i)) (aU (aZ i)) .none kV doc pm an cdv ct) ⟨us,[]⟩=pure (ps.zip us)
theorem W8 {A:aw}{k:Nat}(hr:c8 k A):A.units+3<cLine:=by have:=hr.units;omega
section
variable {P:av}{w:ax}{K:Frag}{mg:Str→Option ao}{base:Heap}{f:ar}{fd:FuncData}{k i:Nat}{x:Str}{ps N:List Str}
theorem Df.au {p:bH}(F:FM K mg x i f fd)(S:FnScope N ps (aU (aZ i)))(body:∀(cdv:ao) (A:aw) (outer:List Env) (s:aq) (H:Hp) (E:XK),c8 k (A.deeper (PyProof.Rows.envOfC x (aU (aZ i)) s.heap.objs.size f cdv))->∃t,eJ (cL dX P w K mg base N x (aU (aZ i)) f cdv A outer s H E).nox (dW (aZ i)) t/\∀xs Q,p xs Q->t { nx:=λ_=>Q .non,rt:=Q } (eQ N xs))(hb:Hb x ps i:=by intro _ _ _ _ _ _ us hl;first|(obtain⟨_,rfl⟩:=us1 hl;rfl)|(obtain⟨_,_,rfl⟩:=us2 hl;rfl)|(obtain⟨_,_,_,rfl⟩:=w9 hl;rfl)|(obtain⟨_,_,_,_,rfl⟩:=N4 hl;rfl)|(obtain⟨_,_,_,_,_,rfl⟩:=us5 hl;rfl))(len:∀xs Q,p xs Q->xs.length=ps.length:=by intro xs Q h;repeat (first|(obtain⟨rfl,_⟩:=h;rfl)|(obtain⟨_,h⟩:=h))):Df P w K mg base (k+1) x ps p:=
 Df.of F.F F.m S hb len body
theorem aS.au {p:bM}(F:FM K mg x i f fd)(S:FnScope N ps (aU (aZ i)))(t:(Str->Prop)->aP)(rd:∀Ep xs Q,p Ep xs Q->t Ep { nx:=λ_=>Q .non,rt:=Q } (eQ N xs))(body:∀(cdv:ao) (A:aw) (outer:List Env) (s:aq) (H:Hp) (E:XK) (Ep:Str->Prop),c8 k (A.deeper (PyProof.Rows.envOfC x (aU (aZ i)) s.heap.objs.size f cdv))->kS (cL (cM P w) P w K mg base N x (aU (aZ i)) f cdv A outer s H E) (EX K H Ep)->eJ (cL (cM P w) P w K mg base N x (aU (aZ i)) f cdv A outer s H E) (dW (aZ i)) (t Ep))(hb:Hb x ps i:=by intro _ _ _ _ _ _ us hl;first|(obtain⟨_,rfl⟩:=us1 hl;rfl)|(obtain⟨_,_,rfl⟩:=us2 hl;rfl)|(obtain⟨_,_,_,rfl⟩:=w9 hl;rfl)|(obtain⟨_,_,_,_,rfl⟩:=N4 hl;rfl)|(obtain⟨_,_,_,_,_,rfl⟩:=us5 hl;rfl))(len:∀Ep xs Q,p Ep xs Q->xs.length=ps.length:=by intro Ep xs Q h;repeat (first|(obtain⟨rfl,_⟩:=h;rfl)|(obtain⟨_,h⟩:=h))):aS P w K mg base (k+1) x ps p:=
 aS.of F.F F.m S hb t len rd body
end
section
variable {P:av}{w:ax}{K:Frag}{mg:Str→Option ao}{base:Heap}{f:ar}{fd:FuncData}
theorem nd2:(["ahead","behind"]:List Str).Nodup:=by decide +kernel
noncomputable abbrev W9:Stmt:=aZ 19
theorem scR:FnScope ["things"] ["things"] (aU W9):=.au
theorem wW {ns:ae}{i:Nat}{x y:V}(h1:(ns.map V.int)[i]? = some x)(h2:((ns.map V.int).drop 1)[i]? = some y):∃p q:Int,x = .int p/\y = .int q/\(ns.zip (ns.drop 1))[i]? = some (p,q):=by
 rw[bg9]at h1;rw[<- List.map_drop,bg9]at h2;cases e1:ns[i]? with
 |none=>rw[e1]at h1;cases h1
 |some p=>
  cases e2:(ns.drop 1)[i]? with
  |none=>rw[e2]at h2;cases h2
  |some q=>
   rw[e1]at h1;rw[e2]at h2
   exact⟨p,q,(bh9 h1).symm,(bh9 h2).symm,List.getElem?_zip_eq_some.mpr ⟨e1,e2⟩⟩
theorem aU3 (B:Bt mg)(F:eF K "rises" "rises" W9 f fd):cX P w K mg base dX 1 f fd ["things"] (J7 K):=by
 refine F.ok scR (λvs H Q E h=>?_) (λcdv A outer s H vs Q E hr h=>?_)
 ·obtain⟨a,ns,rfl,_⟩:=h
  rfl
 obtain⟨a,ns,rfl,hS,hn,q⟩:=h
 have lz:((ns.map V.int).drop 1).length<=sizeLine:=bm6 (iN (by rw[List.length_drop,be9];omega));have lz2:((ns.map V.int).drop 1).length<=(ns.map V.int).length:=by rw[List.length_drop];omega
 have lz3:(ns.zip (ns.drop 1)).length=((ns.map V.int).drop 1).length:=by rw[List.length_zip,List.length_drop,List.length_drop,be9];omega
 rcases hS with hS|hS
 ·refine⟨_,mP (mR (oP (tQ rfl) rfl B.all PyProof.Rows.boot_all (dS (zL (N:=["ahead","behind"]) (fr:=[none,none]) rfl (cE.of rfl rfl) (an3 rfl B.zip (dS (pv 0) (dS (sM zV (pv 0) (sK mM) sJ) eN)))
   ⟨λ_ _ _ _=>show PG _ _ (lC K 2 (gP (cO 0) (gP (cO 1) lB))) from mT rfl (hU (eU (i:=0) nd2 rfl (Or.inl rfl) (.inr rfl)) (hU (eU (i:=1) nd2 rfl (Or.inl rfl) (.inr rfl)) mS)),λ_ _ _ _=>oZ,λ_ _ _ _=>sE oM (pv 0) (pv 1) (eV _)⟩) eN))),?_⟩
  refine⟨_,rfl,_,rfl,1,rfl,a,_,rfl,hS,λp hp=>?_,λe=>?_⟩
  ·have s1:=bC hp (.tup (eD (ns.map V.int) (some 1) none))
   have hb:aW K (upd H p (.tup (eD (ns.map V.int) (some 1) none))) p ((ns.map V.int).drop 1):=aW.of (by rw[bD,tT]);refine⟨a,p,_,_,rfl,s1.tup hS,hb,tS (zU (s1.tup hS) hb lz2) (λi acc _=>acc=((ns.zip (ns.drop 1)).take i).map λ(p:Int×Int)=>V.bl (decide (p.1<p.2))) lz (λ_ _=>rfl) (λ_ _ _ _ _ h=>h) (λi x acc D H' hi hR c hP=>?_) (λD acc H' hD sm hDa ai hP=>?_)⟩
   ·obtain⟨T,x1,y1,rfl,hT,h1,h2⟩:=hR
    obtain⟨m,k,rfl,rfl,hz⟩:=wW h1 h2
    refine⟨T,_,rfl,aW.of hT,rfl,_,_,rfl,_,_,rfl,rfl,((Wk.refl _).set (i:=0) rfl).set (i:=1) rfl,pA ⟨_,rfl,_,rfl,_,_,rfl,rfl,c.yes (aI.refl _) ?_⟩⟩;rw[pS hz,hP]
   ·refine⟨D,(ns.zip (ns.drop 1)).map λ(p:Int×Int)=>decide (p.1<p.2),rfl,aV.of ?_,q _ (s1.trans sm)⟩
    rw[hDa,hP,<- lz3,bj2,List.map_map];rfl
  ·have hb:aW K H a ((ns.map V.int).drop 1):=by
    have:(ns.map V.int).drop 1=ns.map V.int:=by rw[<- tT];exact e
    rw[this];exact hS
   refine⟨a,a,_,_,rfl,hS,hb,tS (zU hS hb lz2) (λi acc _=>acc=((ns.zip (ns.drop 1)).take i).map λ(p:Int×Int)=>V.bl (decide (p.1<p.2))) lz (λ_ _=>rfl) (λ_ _ _ _ _ h=>h) (λi x acc D H' hi hR c hP=>?_) (λD acc H' hD sm hDa ai hP=>?_)⟩
   ·obtain⟨T,x1,y1,rfl,hT,h1,h2⟩:=hR
    obtain⟨m,k,rfl,rfl,hz⟩:=wW h1 h2
    refine⟨T,_,rfl,aW.of hT,rfl,_,_,rfl,_,_,rfl,rfl,((Wk.refl _).set (i:=0) rfl).set (i:=1) rfl,pA ⟨_,rfl,_,rfl,_,_,rfl,rfl,c.yes (aI.refl _) ?_⟩⟩;rw[pS hz,hP]
   ·refine⟨D,(ns.zip (ns.drop 1)).map λ(p:Int×Int)=>decide (p.1<p.2),rfl,aV.of ?_,q _ sm⟩
    rw[hDa,hP,<- lz3,bj2,List.map_map];rfl
 ·refine⟨_,mP (mR (oP (tQ rfl) rfl B.all PyProof.Rows.boot_all (dS (zL (N:=["ahead","behind"]) (fr:=[none,none]) rfl (cE.of rfl rfl) (an9 rfl B.zip (dS (pv 0) (dS (sM yH (pv 0) (sK mM) sJ) eN)))
   ⟨λ_ _ _ _=>show PG _ _ (lC K 2 (gP (cO 0) (gP (cO 1) lB))) from mT rfl (hU (eU (i:=0) nd2 rfl (Or.inl rfl) (.inr rfl)) (hU (eU (i:=1) nd2 rfl (Or.inl rfl) (.inr rfl)) mS)),λ_ _ _ _=>oZ,λ_ _ _ _=>sE oM (pv 0) (pv 1) (eV _)⟩) eN))),?_⟩
  refine⟨_,rfl,_,rfl,1,rfl,a,_,rfl,hS,λp hp=>?_⟩;have s1:=bC hp (.lst (eD (ns.map V.int) (some 1) none));have hb:aV K (upd H p (.lst (eD (ns.map V.int) (some 1) none))) p ((ns.map V.int).drop 1):=aV.of (by rw[bD,tT]);refine⟨a,p,_,_,rfl,s1.seq hS,hb,tS (ao0 (s1.seq hS) hb lz2) (λi acc _=>acc=((ns.zip (ns.drop 1)).take i).map λ(p:Int×Int)=>V.bl (decide (p.1<p.2))) lz (λ_ _=>rfl) (λ_ _ _ _ _ h=>h) (λi x acc D H' hi hR c hP=>?_) (λD acc H' hD sm hDa ai hP=>?_)⟩
  ·obtain⟨T,x1,y1,rfl,hT,h1,h2⟩:=hR
   obtain⟨m,k,rfl,rfl,hz⟩:=wW h1 h2
   refine⟨T,_,rfl,aW.of hT,rfl,_,_,rfl,_,_,rfl,rfl,((Wk.refl _).set (i:=0) rfl).set (i:=1) rfl,pA ⟨_,rfl,_,rfl,_,_,rfl,rfl,c.yes (aI.refl _) ?_⟩⟩;rw[pS hz,hP]
  ·refine⟨D,(ns.zip (ns.drop 1)).map λ(p:Int×Int)=>decide (p.1<p.2),rfl,aV.of ?_,q _ (s1.trans sm)⟩
   rw[hDa,hP,<- lz3,bj2,List.map_map];rfl
noncomputable abbrev X0:Stmt:=aZ 21
theorem rP:FnScope ["web","around","one","other"] ["web"] (aU X0):=.au
theorem aU4 (F:eF K "near_lists" "near_lists" X0 f fd):cX P w K mg base dX 1 f fd ["web"] J8:=by
 refine F.ok rP (λvs H Q E h=>?_) (λcdv A outer s H vs Q E hr h=>?_)
 ·obtain⟨v,ws,ls,rfl,_⟩:=h
  rfl
 obtain⟨v,ws,ls,rfl,W,hn,hm,hin,q⟩:=h
 refine⟨_,oI (al3 (i:=1) (N:=["want"]) (fr:=[none]) rfl (cE.of rfl rfl) (xF (lH sS (pv 0) mM (λ_ _=>rfl)))
   ⟨λ_ _ _ _=>eU (i:=0) (List.pairwise_singleton _ _) rfl (Or.inl rfl) (.inr rfl),λ_ _ _ _=>oZ,λ_ _ _ _=>xU eN⟩ rP.nd rfl rfl rfl)
  (oI (xI bu5 rfl (xF (lH sS (pv 0) mM (λ_ _=>rfl))) (mT (n:=2) rfl (hU (eU (i:=2) rP.nd rfl (Or.inl rfl) (.inr rfl)) (hU (eU (i:=3) rP.nd rfl (Or.inl rfl) (.inr rfl)) mS)) )
   (oI (lA (mW bs2 PySem.F.slot_list_append PySem.F.type_list_append mY (lH sR (pv 1) (pv 2) (λ_ _=>rfl)) (dS (pv 3) eN)))
   (mP (lA (mW bs2 PySem.F.slot_list_append PySem.F.type_list_append mY (lH sR (pv 1) (pv 3) (λ_ _=>rfl)) (dS (pv 2) eN))))))
  (mP (mR (pv 1)))),?_⟩
 obtain⟨a,p,q',ys,rfl,ha,hp,hq,hL⟩:=W.at_
 have lw:(ws.map V.int).length=ws.length:=be9 _
 refine⟨_,rfl,a,_,_,_,rfl,rfl,aW.of ha,rfl,p,rfl,⟨_,aW.of hp⟩,al6 (al5 (aW.of hp)) (λi acc H'=>∃bs:List ar,acc=bs.map V.ref/\bs.length=i/\bs.Nodup/\∀b∈bs,H b=none/\H' b=some (.lst [])) (by rw[lw];exact bm6 (nB hn))
  (λD hD=>⟨[],rfl,rfl,List.nodup_nil,λ_ z=>nomatch z⟩) (λi x acc D H' hx c hPv=>?_) (λD acc H' hD sm hDa ai hPv=>?_)⟩
 ·obtain⟨bs,rfl,hbl,nd,hb⟩:=hPv
  refine⟨wk0 (n:=none),pA ⟨bo1 _,λr hr'=>?_⟩⟩;have hrD:r≠D:=λz=>by rw[z,c.acc]at hr';cases hr'
  have hrH:H r=none:=c.same.free hr';refine c.yes (bC hr' _) ⟨bs++[r],by simp,by simp[hbl],?_,λb hm=>?_⟩
  ·refine List.nodup_append.mpr ⟨nd,List.pairwise_singleton _ _,λb hb1 b' hb2 e=>?_⟩
   rw[bh5.mp hb2]at e;rw[e]at hb1;rw[(hb r hb1).2]at hr';cases hr'
  ·rcases bs3.mp hm with hm|hm
   ·have hbD:b≠D:=λz=>by
     rw[z]at hm
     have:=(hb D hm).2
     rw[c.acc]at this
     have:bs.map V.ref = []:=by injection this with e1;injection e1
     have:bs = []:=List.map_eq_nil_iff.mp this
     rw[this]at hm;simp at hm
    refine⟨(hb b hm).1,?_⟩;rw[b6 hbD,b6 (cU (hb b hm).2 hr')];exact (hb b hm).2
   ·rw[bh5.mp hm]
    exact⟨hrH,by rw[b6 hrD,bD]⟩
 ·obtain⟨bs,rfl,hbl,nd,hb⟩:=hPv
  rw[lw]at hbl;have R0:iM H H' D bs (λk=>dB (ls.take 0) k):=by
   refine⟨hD,λb hm=>⟨(hb b hm).1,λz=>?_⟩,nd,hDa,λk b hk=>(hb b (bo2 hk)).2,sm⟩;rw[z]at hm
   have:=(hb D hm).2
   rw[hDa]at this
   have:bs.map V.ref = []:=by injection this with e1;injection e1
   have:bs = []:=List.map_eq_nil_iff.mp this
   rw[this]at hm;simp at hm
  have lL:=hL.length
  refine⟨_,rfl,a,_,_,_,rfl,rfl,aW.of (sm _ _ ha),rfl,q',rfl,⟨_,aW.of (sm _ _ hq)⟩,ad7 (K:=K) (a:=q') (xs:=ys) (λi σ H2=>∃x y:Option V,σ = [some (.ref a),some (.ref D),x,y]/\iM H H2 D bs (λk=>dB (ls.take i) k))
   ⟨none,none,rfl,R0⟩ (λi σ H2 _ ⟨_,_,_,R⟩=>aW.of (R.same _ _ hq)) ?_ ?_⟩
  ·rintro i y σ H2 hi ⟨x1,x2,rfl,R⟩
   obtain⟨l,b,hl,rfl,hbt⟩:=hL.get hi
   have hlm:l∈ls:=bo2 hl
   obtain⟨⟨h1,h2⟩,h3,h4⟩:=hin l hlm
   have k1:l.1.toNat<bs.length:=by omega
   have k2:l.2.toNat<bs.length:=by omega
   have e1:bs[l.1.toNat]? = some (bs[l.1.toNat]):=bf3 k1;have e2:bs[l.2.toNat]? = some (bs[l.2.toNat]):=bf3 k2;refine⟨b,_,rfl,aW.of (R.same _ _ hbt),rfl,_,_,rfl,_,_,rfl,rfl,?_⟩;refine⟨_,rfl,_,rfl,D,_,_,.ref bs[l.1.toNat],rfl,rfl,aV.of R.row,p9 h1 (by rw[bg9,e1];rfl),nF (aV.of (R.rows _ _ e1)),_,rfl,_,_,_,rfl,rfl,R.rows _ _ e1,?_,?_⟩
   ·rw[be9]
    have:=tM (ls.take i) (l.1.toNat:Nat)
    rw[bp9]at this;exact iN (by omega)
   ·have R1:=R.app e1 l.2
    refine⟨_,rfl,_,rfl,D,_,_,.ref bs[l.2.toNat],rfl,rfl,aV.of R1.row,p9 h3 (by rw[bg9,e2];rfl),nF (aV.of (R1.rows _ _ e2)),_,rfl,_,_,_,rfl,rfl,R1.rows _ _ e2,?_,?_⟩
    ·rw[be9]
     have:=tM (ls.take i) (l.2.toNat:Nat)
     rw[bp9]at this;split
     ·rw[bg8,bp0];exact iN (by omega)
     ·exact iN (by omega)
    ·have R2:=R1.app e2 l.1
     refine⟨_,_,rfl,R2.congr λk hk=>?_⟩;rw[am5 hl];have c1:(k=l.1.toNat)↔l.1=(k:Int):=by omega
     have c2:(k=l.2.toNat)↔l.2=(k:Int):=by omega
     by_cases d1:k=l.1.toNat
     ·by_cases d2:k=l.2.toNat
      ·rw[if_pos d2,if_pos d1,if_pos (c1.mp d1),if_pos (c2.mp d2)];simp
      ·rw[if_neg d2,if_pos d1,if_pos (c1.mp d1),if_neg (λz=>d2 (c2.mpr z))];simp
     ·by_cases d2:k=l.2.toNat
      ·rw[if_pos d2,if_neg d1,if_neg (λz=>d1 (c1.mpr z)),if_pos (c2.mp d2)];simp
      ·rw[if_neg d2,if_neg d1,if_neg (λz=>d1 (c1.mpr z)),if_neg (λz=>d2 (c2.mpr z))];simp
  ·
   rintro σ H2 ⟨x1,x2,rfl,R⟩;refine⟨_,rfl,q D bs H2 hbl ?_⟩;rw[lL,bj2]at R;exact R
theorem X1:FnScope ["wants","links","want","pairs"] ["wants","links"] (aU (aZ 17)):=.au
theorem aU5 (B:Bt mg)(F:FM K mg "made_web" 17 f fd)(x_BadWeb:Xc K mg base "BadWeb"){u_MOST_HEARTHS:Nat}(m_MOST_HEARTHS:mg "MOST_HEARTHS" = some (.int 40 u_MOST_HEARTHS)){u_MOST_WANTED:Nat}(m_MOST_WANTED:mg "MOST_WANTED" = some (.int 60 u_MOST_WANTED)):aS P w K mg base 1 "made_web" ["wants","links"] qN:=
 aS.au F X1 S4 aQ3 (λcdv A outer s H E Ep hr hX=>by
  have nd:=X1.nd
  exact (aN (bI (j4 (eC B (aD (qv 0) aG)) (jQ rfl m_MOST_HEARTHS)) (aL (dQ hX x_BadWeb (aD bW aG))) bX)
   (aN (iB 2 (hp:=hX.own) nd (dJ (qv 0))
    (aL (bI (i8 (kM (kJ (qv 2) aX) (kK (j4 (qv 2) (jQ rfl m_MOST_WANTED))))) (aL (dQ hX x_BadWeb (aD bW aG))) bX)))
   (aN bY
   (aN bY
   (aL bY))))))
theorem aU6:FnScope ["web"] ["web"] (aU (aZ 20)):=.au
theorem aU7 (B:Bt mg)(F:FM K mg "hearths_in" 20 f fd) :Df P w K mg base 1 "hearths_in" ["web"] cR:=
 Df.au F aU6 (λcdv A outer s H E hr=>by
  exact⟨(G0),(aL (bN (eC B (aD (cJ (qv 0) aX) aG)))),ax6⟩)
theorem X2:FnScope ["hearths","chosen","hearth"] ["hearths"] (aU (aZ 25)):=.au
theorem aU8 (B:Bt mg)(F:FM K mg "sets_among" 25 f fd) :Df P w K mg base 1 "sets_among" ["hearths"] qE:=
 Df.au F X2 (λcdv A outer s H E hr=>by
  have nd:=X2.nd
  exact⟨(O1),(aN (bP (i:=1) nd (eB (aD (bR aG) aG)))
   (aN (iB 2 nd (dJ (qv 0))
    (aL (bP (i:=1) nd (K4 (qv 1) (kQ (N:=["some","hearth"]) (fr:=[none,some 2]) (dJ (qv 1)) (λ_ _ _ _=>(nW (qv 0) (bR (aD (qv 1) aG)))))))))
   (aL (gW 1)))),aH5⟩)
theorem X3:FnScope ["hearths","inside","hearth"] ["hearths"] (aU (aZ 27)):=.au
theorem aU9 (B:Bt mg)(F:FM K mg "marked" 27 f fd) :Df P w K mg base 1 "marked" ["hearths"] fW:=
 Df.au F X3 (λcdv A outer s H E hr=>by
  have nd:=X3.nd;have hu:=gQ hr
  exact⟨(G9),(aN (fA (i:=1) nd uW)
   (aN (iB 2 nd (dJ (qv 0))
    (aL (lY hu (i:=1) (qv 2) jK)))
   (aL (gW 1)))),ay1⟩)
theorem aV0:FnScope ["hearths","inside"] ["hearths","inside"] (aU (aZ 28)):=.au
theorem aV1 (B:Bt mg)(F:FM K mg "count_inside" 28 f fd) :Df P w K mg base 1 "count_inside" ["hearths","inside"] pU:=
 Df.au F aV0 (λcdv A outer s H E hr=>by
  have hu:=gQ hr
  exact⟨(J0),(aL (bN (eC B (aD (v0 (N:=["hearth","inside"]) (fr:=[none,some 1]) (dJ (qv 0)) (λ_ _ _ _=>(E1 hu (qv 0) (qv 1))) (λ_ _ _ _=>(qv 0))) aG)))),ay2⟩)
theorem aV2:FnScope ["rows","columns"] ["rows","columns"] (aU (aZ 34)):=.au
theorem aV3 (B:Bt mg)(F:FM K mg "looked_through" 34 f fd)(x_BadBoard:Xc K mg base "BadBoard"){u_MOST_ROWS:Nat}(m_MOST_ROWS:mg "MOST_ROWS" = some (.int 40 u_MOST_ROWS)):aS P w K mg base 1 "looked_through" ["rows","columns"] qI:=
 aS.au F aV2 P3 aK2 (λcdv A outer s H E Ep hr hX=>by
  exact (aL (bI (i8 (kM (kJ (E5 B rfl (aD (qv 0) (aD (qv 1) aG))) aX) (kK (j4 (au7 B rfl (aD (qv 0) (aD (qv 1) aG))) (jQ rfl m_MOST_ROWS))))) (aL (dQ hX x_BadBoard (aD bW aG))) bX)))
theorem aV4:FnScope ["way"] ["way"] (aU (aZ 38)):=.au
theorem aV5 (B:Bt mg)(F:FM K mg "colour_behind" 38 f fd) :Df P w K mg base 1 "colour_behind" ["way"] o4:=
 Df.au F aV4 (λcdv A outer s H E hr=>by
  exact⟨(P8),(aL (bN (iZ (jL (eC B (aD (qv 0) aG)) aX) aX))),aK8⟩)
theorem X4:FnScope ["way","other","shared"] ["way","other"] (aU (aZ 41)):=.au
theorem aV6 (B:Bt mg)(F:FM K mg "closed_round" 41 f fd)(rv:mg "reversed" = none):Df P w K mg base 1 "closed_round" ["way","other"] r9:=
 Df.au F X4 (λcdv A outer s H E hr=>by
  have nd:=X4.nd
  exact⟨(U3),(aN (bP (i:=2) nd aX)
   (aN (lX bu5 (i8 (uT (kJ (qv 2) (E5 B rfl (aD (eC B (aD (qv 0) aG)) (aD (eC B (aD (qv 1) aG)) aG)))) (uS (gG (cJ (qv 0) (qv 2)) (cJ (qv 1) (qv 2))))))
    (aL (bP (i:=2) nd (kI (qv 2) aX))))
   (aL (bN (nW (E9 (qv 0) (E8 (jL (qv 2) aX)) E7) (aN3 B rv (aD (E9 (qv 1) (E8 (qv 2)) E7) aG))))))),aS0⟩)
theorem aV7:FnScope ["deed"] ["deed"] (aU (aZ 54)):=.au
theorem aV8 (B:Bt mg)(F:FM K mg "told_deed" 54 f fd)(kd_DEED_NUMBERS:KD P w K mg "DEED_NUMBERS" (mH qK)):Df P w K mg base 1 "told_deed" ["deed"] qP:=
 Df.au F aV7 (λcdv A outer s H E hr=>by
  exact⟨(S6),(aN (bI (aO0 (aN8 kd_DEED_NUMBERS (cJ (qv 0) aX)) (jL (eC B (aD (qv 0) aG)) aX)) (aL bY) bX)
   (aN (bI (i8 (kM (mF (cJ (qv 0) aX) bW) (kK (mF (cJ (qv 0) aX) bW)))) (aL bY) bX)
   (aL (bN (iA B (aD (qv 0) aG)))))),aQ5⟩)
theorem aV9:FnScope ["prices","many"] ["prices","many"] (aU (aZ 69)):=.au
theorem aW0 (B:Bt mg)(F:FM K mg "made_prices" 69 f fd)(x_BadPrices:Xc K mg base "BadPrices"):aS P w K mg base 1 "made_prices" ["prices","many"] qF:=
 aS.au F aV9 O6 aI9 (λcdv A outer s H E Ep hr hX=>by
  exact (aN (bI (uR (eC B (aD (qv 0) aG)) (qv 1)) (aL (dQ hX x_BadPrices (aD bW aG))) bX)
   (aN (bI (gV (aF7 B rfl (aD (kQ (N:=["price"]) (fr:=[none]) (dJ (qv 0)) (λ_ _ _ _=>(C6 (qv 0) aX))) aG))) (aL (dQ hX x_BadPrices (aD bW aG))) bX)
   (aL (bN (iA B (aD (qv 0) aG)))))))
theorem aW1:FnScope ["row"] ["row"] (aU (aZ 79)):=.au
theorem aW2 (B:Bt mg)(F:FM K mg "words_of" 79 f fd){u_NONE_AT_ALL:Nat}(m_NONE_AT_ALL:mg "NONE_AT_ALL" = some (.str "." u_NONE_AT_ALL)):Df P w K mg base 1 "words_of" ["row"] oD:=
 Df.au F aW1 (λcdv A outer s H E hr=>by
  exact⟨(V5),(aN (bI (mF (qv 0) (R9 rfl m_NONE_AT_ALL)) (aL (bN (eB aG))) bX)
   (aL (bN (wP (qv 0) (aD bW aG))))),aT2⟩)
theorem aW3:FnScope ["word"] ["word"] (aU (aZ 82)):=.au
theorem aW4 (B:Bt mg)(F:FM K mg "is_number" 82 f fd){u_FIGURES:Nat}(m_FIGURES:mg "FIGURES" = some (.str "0123456789" u_FIGURES)){u_MOST_FIGURES:Nat}(m_MOST_FIGURES:mg "MOST_FIGURES" = some (.int 60 u_MOST_FIGURES)):Df P w K mg base 1 "is_number" ["word"] rF:=
 Df.au F aW3 (λcdv A outer s H E hr=>by
  exact⟨(V0),(aN (bI (i8 (kM (kJ (wS B (aD (qv 0) aG)) aX) (kK (j4 (wS B (aD (qv 0) aG)) (jQ rfl m_MOST_FIGURES))))) (aL (bN jK)) bX)
   (aN (bI (i8 (uT (j4 (wS B (aD (qv 0) aG)) aX) (uS (mF (aQ1 (qv 0) aX) bW)))) (aL (bN jK)) bX)
   (aL (bN (E4 B rfl (aD (kQ (N:=["sign"]) (fr:=[none]) (aQ0 (qv 0)) (λ_ _ _ _=>(aP6 (qv 0) (R9 rfl m_FIGURES)))) aG)))))),aS8⟩)
theorem aW5:FnScope ["choices"] ["choices"] (aU (aZ 88)):=.au
theorem aW6 (B:Bt mg)(F:FM K mg "ways_on" 88 f fd) :Df P w K mg base 1 "ways_on" ["choices"] mG:=
 Df.au F aW5 (λcdv A outer s H E hr=>by
  exact⟨(O8),(aN (bI (jM (nQ (qv 0))) (aL (bN aX)) bX)
   (aL (bN (aF5 B rfl (aD (aC7 (N:=["hearth","many"]) (fr:=[none,none]) (dJ (qv 0)) (λ_ _ _ _=>(qv 1))) aG))))),aJ5⟩)
theorem aW7:FnScope ["row"] ["row"] (aU (aZ 89)):=.au
theorem aW8 (B:Bt mg)(F:FM K mg "set_of" 89 f fd) :Df P w K mg base 1 "set_of" ["row"] qG:=
 Df.au F aW7 (λcdv A outer s H E hr=>by
  exact⟨(O7),(aL (bN (iA B (aD (vN B (aD (qv 0) aG)) aG)))),aJ3⟩)
theorem aW9:FnScope ["script","k"] ["script","k"] (aU (aZ 102)):=.au
theorem aX0 (B:Bt mg)(F:FM K mg "_law_cell_at" 102 f fd) :Df P w K mg base 1 "_law_cell_at" ["script","k"] pV:=
 Df.au F aW9 (λcdv A outer s H E hr=>by
  exact⟨(J5),(aN (bI (kJ (qv 1) (eC B (aD (qv 0) aG))) (aL (bN (cJ (qv 0) (qv 1)))) bX)
   (aL (bN aX))),ay8⟩)
theorem aX1:FnScope ["web","number"] ["web","number"] (aU (aZ 22)):=.au
theorem aX2 (B:Bt mg)(F:FM K mg "is_hearth" 22 f fd)(d_hearths_in:Df P w K mg base 1 "hearths_in" ["web"] cR):Df P w K mg base 2 "is_hearth" ["web","number"] m6:=
 Df.au F aX1 (λcdv A outer s H E hr=>by
  exact⟨(G1),(aL (bN (uV (C7 (qv 1) aX) (uU (C6 (qv 1) (b9 d_hearths_in hr (aD (qv 0) aG))))))),ax7⟩)
theorem aX3:FnScope ["web","numbers"] ["web","numbers"] (aU (aZ 26)):=.au
theorem aX4 (B:Bt mg)(F:FM K mg "has_each_once" 26 f fd)(d_hearths_in:Df P w K mg base 1 "hearths_in" ["web"] cR):Df P w K mg base 2 "has_each_once" ["web","numbers"] qH:=
 Df.au F aX3 (λcdv A outer s H E hr=>by
  have hu3:=W8 hr
  exact⟨(P0),(aL (bN (av2 hu3 (vN B (aD (qv 1) aG)) (vL B (b9 d_hearths_in hr (aD (qv 0) aG)))))),aJ8⟩)
theorem X5:FnScope ["hearths","some","gone"] ["hearths","some"] (aU (aZ 30)):=.au
theorem aX5 (B:Bt mg)(F:FM K mg "without" 30 f fd)(d_marked:Df P w K mg base 1 "marked" ["hearths"] fW):Df P w K mg base 2 "without" ["hearths","some"] mD:=
 Df.au F X5 (λcdv A outer s H E hr=>by
  have nd:=X5.nd;have hu:=gQ hr
  exact⟨(L8),(aN (bP (i:=2) nd (b9 d_marked hr (aD (qv 1) aG)))
   (aL (bN (iA B (aD (v0 (N:=["hearth","gone"]) (fr:=[none,some 2]) (dJ (qv 0)) (λ_ _ _ _=>(pN hu (qv 0) (qv 1))) (λ_ _ _ _=>(qv 0))) aG))))),aE1⟩)
theorem aX6:FnScope ["rows","columns"] ["rows","columns"] (aU (aZ 35)):=.au
theorem aX7 (B:Bt mg)(F:FM K mg "fewest_on_board" 35 f fd)(d_looked_through:aS P w K mg base 1 "looked_through" ["rows","columns"] qI):aS P w K mg base 2 "fewest_on_board" ["rows","columns"] rK:=
 aS.au F aX6 V8 aT4 (λcdv A outer s H E Ep hr hX=>by
  exact (aN (fV (cH hX d_looked_through hr (aD (qv 0) (aD (qv 1) aG))))
   (aL (bN (au0 (kI (kI (qv 0) (qv 1)) aX) aX)))))
theorem X6:FnScope ["web","around","ways","root","waiting","hearth","other"] ["web"] (aU (aZ 37)):=.au
theorem aX8 (B:Bt mg)(F:FM K mg "ways_out" 37 f fd)(d_near_lists:Df P w K mg base 1 "near_lists" ["web"] gX)(d_hearths_in:Df P w K mg base 1 "hearths_in" ["web"] cR):Df P w K mg base 2 "ways_out" ["web"] r6:=
 Df.au F X6 (λcdv A outer s H E hr=>by
  have nd:=X6.nd;have hu:=gQ hr
  exact⟨(U2),(aN (bP (i:=1) nd (b9 d_near_lists hr (aD (qv 0) aG)))
   (aN (fA (i:=2) nd uW)
   (aN (iB 3 nd (pO rfl B.range (b9 d_hearths_in hr (aD (qv 0) aG)))
    (aN (fA (i:=4) nd (eB aG))
    (aN (bI (pN hu (qv 3) (qv 2)) (aN (lY hu (i:=2) (qv 3) (bR (aD (qv 3) aG)))
     (aL (kO 4 (qv 3)))) bX)
    (aL (lX bu5 (nQ (qv 4))
     (aN (O0 nd 4 5)
     (aL (iB 6 nd (dJ (cJ (qv 1) (qv 5)))
      (aL (bI (pN hu (qv 6) (qv 2)) (aN (lY hu (i:=2) (qv 6) (nW (kN hu (qv 2) (qv 5)) (bR (aD (qv 6) aG))))
       (aL (kO 4 (qv 6)))) bX))))))))))
   (aL (gW 2))))),aR9⟩)
theorem aX9:FnScope ["web","around","burning","hearth"] ["web","around","burning","hearth"] (aU (aZ 45)):=.au
theorem aY0 (B:Bt mg)(F:FM K mg "can_kindle" 45 f fd)(d_count_inside:Df P w K mg base 1 "count_inside" ["hearths","inside"] pU):Df P w K mg base 2 "can_kindle" ["web","around","burning","hearth"] jP:=
 Df.au F aX9 (λcdv A outer s H E hr=>by
  have hu:=gQ hr
  exact⟨(J1),(aL (bN (uV (au2 hu (qv 3) (qv 2)) (uU (C7 (b9 d_count_inside hr (aD (cJ (qv 1) (qv 3)) (aD (qv 2) aG))) (cJ (cJ (qv 0) aX) (qv 3))))))),ay4⟩)
theorem X7:FnScope ["around","hearths","inside","reached","waiting","hearth","other"] ["around","hearths"] (aU (aZ 62)):=.au
theorem aY1 (B:Bt mg)(F:FM K mg "first_piece" 62 f fd)(d_marked:Df P w K mg base 1 "marked" ["hearths"] fW):Df P w K mg base 2 "first_piece" ["around","hearths"] qV:=
 Df.au F X7 (λcdv A outer s H E hr=>by
  have nd:=X7.nd;have hu:=gQ hr
  exact⟨(T4),(aN (bP (i:=2) nd (b9 d_marked hr (aD (qv 1) aG)))
   (aN (fA (i:=3) nd (aH3 (cJ (qv 1) aX)))
   (aN (fA (i:=4) nd (eB (aD (cJ (qv 1) aX) aG)))
   (aN (lX bu5 (nQ (qv 4))
    (aN (O0 nd 4 5)
    (aL (iB 6 nd (dJ (cJ (qv 0) (qv 5)))
     (aL (bI (i8 (uT (E1 hu (qv 6) (qv 2)) (uS (pN hu (qv 6) (qv 3))))) (aN (lY hu (i:=3) (qv 6) jK)
      (aL (kO 4 (qv 6)))) bX))))))
   (aL (bN (iA B (aD (L9 B rfl (aD (qv 3) aG)) aG)))))))),aR3⟩)
theorem aY2:FnScope ["web"] ["web"] (aU (aZ 65)):=.au
theorem aY3 (B:Bt mg)(F:FM K mg "searched_sets" 65 f fd)(d_hearths_in:Df P w K mg base 1 "hearths_in" ["web"] cR)(x_TooMany:Xc K mg base "TooMany"){u_MOST_SEARCHED:Nat}(m_MOST_SEARCHED:mg "MOST_SEARCHED" = some (.int 12 u_MOST_SEARCHED)):aS P w K mg base 2 "searched_sets" ["web"] mJ:=
 aS.au F aY2 T1 aQ9 (λcdv A outer s H E Ep hr hX=>by
  exact (aN (bI (j4 (b9 d_hearths_in hr (aD (qv 0) aG)) (jQ rfl m_MOST_SEARCHED)) (aL (dQ hX x_TooMany (aD bW aG))) bX)
   (aL bY)))
theorem aY4:FnScope ["word"] ["word"] (aU (aZ 81)):=.au
theorem aY5 (B:Bt mg)(F:FM K mg "read_figures" 81 f fd)(d_is_number:Df P w K mg base 1 "is_number" ["word"] rF)(x_NoText:Xc K mg base "NoText"):aS P w K mg base 2 "read_figures" ["word"] rH:=
 aS.au F aY4 V2 aS9 (λcdv A outer s H E Ep hr hX=>by
  exact (aN (bI (jM (gV (b9 d_is_number hr (aD (qv 0) aG)))) (aL (dQ hX x_NoText (aD bW aG))) bX)
   (aL (bN (aP2 B (aD (qv 0) aG))))))
theorem X8:FnScope ["web","prices","seeds","known"] ["web","prices","seeds"] (aU (aZ 92)):=.au
theorem aY6 (B:Bt mg)(F:FM K mg "price_of" 92 f fd)(d_made_prices:aS P w K mg base 1 "made_prices" ["prices","many"] qF)(d_hearths_in:Df P w K mg base 1 "hearths_in" ["web"] cR):aS P w K mg base 2 "price_of" ["web","prices","seeds"] qO:=
 aS.au F X8 S5 aQ4 (λcdv A outer s H E Ep hr hX=>by
  have nd:=X8.nd
  exact (aN (bP (i:=3) nd (cH hX d_made_prices hr (aD (qv 1) (aD (b9 d_hearths_in hr (aD (qv 0) aG)) aG))))
   (aL bY)))
theorem aY7:FnScope ["web","numbers"] ["web","numbers"] (aU (aZ 23)):=.au
theorem aY8 (B:Bt mg)(F:FM K mg "is_set" 23 f fd)(d_rises:Df P w K mg base 1 "rises" ["things"] vE)(d_is_hearth:Df P w K mg base 2 "is_hearth" ["web","number"] m6):Df P w K mg base 3 "is_set" ["web","numbers"] m7:=
 Df.au F aY7 (λcdv A outer s H E hr=>by
  exact⟨(G2),(aL (bN (uV (b9 d_rises hr (aD (qv 1) aG)) (uU (E4 B rfl (aD (kQ (N:=["number","web"]) (fr:=[none,some 0]) (dJ (qv 1)) (λ_ _ _ _=>(b9 d_is_hearth hr (aD (qv 1) (aD (qv 0) aG))))) aG)))))),ax8⟩)
theorem aY9:FnScope ["web","some"] ["web","some"] (aU (aZ 31)):=.au
theorem aZ0 (B:Bt mg)(F:FM K mg "all_but" 31 f fd)(d_without:Df P w K mg base 2 "without" ["hearths","some"] mD)(d_hearths_in:Df P w K mg base 1 "hearths_in" ["web"] cR):Df P w K mg base 3 "all_but" ["web","some"] qD:=
 Df.au F aY9 (λcdv A outer s H E hr=>by
  exact⟨(N9),(aL (bN (b9 d_without hr (aD (vL B (b9 d_hearths_in hr (aD (qv 0) aG))) (aD (qv 1) aG))))),aH1⟩)
theorem X9:FnScope ["web","ways","one","other"] ["web"] (aU (aZ 40)):=.au
theorem aZ1 (B:Bt mg)(F:FM K mg "odd_round" 40 f fd)(d_ways_out:Df P w K mg base 2 "ways_out" ["web"] r6)(d_colour_behind:Df P w K mg base 1 "colour_behind" ["way"] o4)(d_closed_round:Df P w K mg base 1 "closed_round" ["way","other"] r9):Df P w K mg base 3 "odd_round" ["web"] rA:=
 Df.au F X9 (λcdv A outer s H E hr=>by
  have nd:=X9.nd;have hu:=gQ hr
  exact⟨(U4),(aN (bP (i:=1) nd (b9 d_ways_out hr (aD (qv 0) aG)))
   (aN (uY 2 3 nd (dJ (cJ (qv 0) aX))
    (aL (bI (gG (b9 d_colour_behind hr (aD (kN hu (qv 1) (qv 2)) aG)) (b9 d_colour_behind hr (aD (kN hu (qv 1) (qv 3)) aG))) (aL (bN (b9 d_closed_round hr (aD (kN hu (qv 1) (qv 2)) (aD (kN hu (qv 1) (qv 3)) aG))))) bX)))
   (aL (bN nO)))),aS1⟩)
theorem aZ2:FnScope ["web","around","burning"] ["web","around","burning"] (aU (aZ 44)):=.au
theorem aZ3 (B:Bt mg)(F:FM K mg "kindling" 44 f fd)(d_hearths_in:Df P w K mg base 1 "hearths_in" ["web"] cR)(d_can_kindle:Df P w K mg base 2 "can_kindle" ["web","around","burning","hearth"] jP):Df P w K mg base 3 "kindling" ["web","around","burning"] nT:=
 Df.au F aZ2 (λcdv A outer s H E hr=>by
  exact⟨(J3),(aL (bN (iA B (aD (v0 (N:=["hearth","web","around","burning"]) (fr:=[none,some 0,some 1,some 2]) (pO rfl B.range (b9 d_hearths_in hr (aD (qv 0) aG))) (λ_ _ _ _=>(gV (b9 d_can_kindle hr (aD (qv 1) (aD (qv 2) (aD (qv 3) (aD (qv 0) aG))))))) (λ_ _ _ _=>(qv 0))) aG)))),ay5⟩)
theorem Y0:FnScope ["web","around","burning","order","hearth"] ["web","around","burning","order"] (aU (aZ 50)):=.au
theorem aZ4 (B:Bt mg)(F:FM K mg "first_to_kindle" 50 f fd)(d_can_kindle:Df P w K mg base 2 "can_kindle" ["web","around","burning","hearth"] jP):Df P w K mg base 3 "first_to_kindle" ["web","around","burning","order"] nY:=
 Df.au F Y0 (λcdv A outer s H E hr=>by
  have nd:=Y0.nd
  exact⟨(L7),(aN (iB 4 nd (dJ (qv 3))
    (aL (bI (gV (b9 d_can_kindle hr (aD (qv 0) (aD (qv 1) (aD (qv 2) (aD (qv 4) aG)))))) (aL (gW 4)) bX)))
   (aL (bN nO))),aD9⟩)
theorem Y1:FnScope ["web","seeds","deed","hearth"] ["web","seeds","deed"] (aU (aZ 55)):=.au
theorem aZ5 (B:Bt mg)(F:FM K mg "seeds_behind" 55 f fd)(d_is_hearth:Df P w K mg base 2 "is_hearth" ["web","number"] m6)(x_BadDeed:Xc K mg base "BadDeed"):aS P w K mg base 3 "seeds_behind" ["web","seeds","deed"] qQ:=
 aS.au F Y1 S7 aQ6 (λcdv A outer s H E Ep hr hX=>by
  have nd:=Y1.nd
  exact (aN (bP (i:=3) nd (cJ (qv 2) aX))
   (aN (bI (jM (gV (b9 d_is_hearth hr (aD (qv 0) (aD (qv 3) aG))))) (aL (dQ hX x_BadDeed (aD bW aG))) bX)
   (aN bY
   (aN bY
   (aL bY))))))
theorem Y2:FnScope ["web","chosen","holds","last"] ["web"] (aU (aZ 73)):=.au
theorem aZ6 (B:Bt mg)(F:FM K mg "lighting_sets" 73 f fd)(d_searched_sets:aS P w K mg base 2 "searched_sets" ["web"] mJ):aS P w K mg base 3 "lighting_sets" ["web"] qT:=
 aS.au F Y2 T2 aR0 (λcdv A outer s H E Ep hr hX=>by
  have nd:=Y2.nd
  exact (aN (bP (i:=1) nd (cH hX d_searched_sets hr (aD (qv 0) aG)))
   (aN bY
   (aN bY
   (aL bY)))))
theorem Y3:FnScope ["word","most","number"] ["word","most"] (aU (aZ 80)):=.au
theorem aZ7 (B:Bt mg)(F:FM K mg "read_number" 80 f fd)(d_read_figures:aS P w K mg base 2 "read_figures" ["word"] rH)(x_NoText:Xc K mg base "NoText"):aS P w K mg base 3 "read_number" ["word","most"] l0:=
 aS.au F Y3 V3 aT0 (λcdv A outer s H E Ep hr hX=>by
  have nd:=Y3.nd
  exact (aN (bP (i:=2) nd (cH hX d_read_figures hr (aD (qv 0) aG)))
   (aN (bI (j4 (qv 2) (qv 1)) (aL (dQ hX x_NoText (aD bW aG))) bX)
   (aL (gW 2)))))
theorem aZ8:FnScope ["web","hearths"] ["web","hearths"] (aU (aZ 24)):=.au
theorem aZ9 (B:Bt mg)(F:FM K mg "made_set" 24 f fd)(d_is_set:Df P w K mg base 3 "is_set" ["web","numbers"] m7)(x_BadSet:Xc K mg base "BadSet"):aS P w K mg base 4 "made_set" ["web","hearths"] iF:=
 aS.au F aZ8 N3 aG6 (λcdv A outer s H E Ep hr hX=>by
  exact (aN (bI (jM (gV (b9 d_is_set hr (aD (qv 0) (aD (qv 1) aG))))) (aL (dQ hX x_BadSet (aD bW aG))) bX)
   (aL (bN (iA B (aD (qv 1) aG))))))
theorem ba0:FnScope ["web","ways"] ["web"] (aU (aZ 39)):=.au
theorem ba1 (B:Bt mg)(F:FM K mg "colours_of" 39 f fd)(d_odd_round:Df P w K mg base 3 "odd_round" ["web"] rA)(x_OddRound:Xc K mg base "OddRound"):aS P w K mg base 4 "colours_of" ["web"] rB:=
 aS.au F ba0 U5 aS2 (λcdv A outer s H E Ep hr hX=>by
  exact (aN (bI (C9 (b9 d_odd_round hr (aD (qv 0) aG)) nO) (aL (dQ hX x_OddRound (aD bW aG))) bX)
   (aN bY
   (aL bY))))
theorem ba2:FnScope ["web"] ["web"] (aU (aZ 72)):=.au
theorem ba3 (B:Bt mg)(F:FM K mg "least_many" 72 f fd)(d_lighting_sets:aS P w K mg base 3 "lighting_sets" ["web"] qT):aS P w K mg base 4 "least_many" ["web"] qU:=
 aS.au F ba2 T3 aR1 (λcdv A outer s H E Ep hr hX=>by
  exact (aL (bN (aI2 B rfl (aD (kQ (N:=["seeds"]) (fr:=[none]) (dJ (cH hX d_lighting_sets hr (aD (qv 0) aG))) (λ_ _ _ _=>(eC B (aD (qv 0) aG)))) aG)))))
theorem Y4:FnScope ["word","many","parts","one","other"] ["word","many"] (aU (aZ 83)):=.au
theorem ba4 (B:Bt mg)(F:FM K mg "read_link" 83 f fd)(d_read_number:aS P w K mg base 3 "read_number" ["word","most"] l0)(x_NoText:Xc K mg base "NoText"):aS P w K mg base 4 "read_link" ["word","many"] rJ:=
 aS.au F Y4 V4 aT1 (λcdv A outer s H E Ep hr hX=>by
  have nd:=Y4.nd
  exact (aN (bP (i:=2) nd (wP (qv 0) (aD bW aG)))
   (aN (bI (uR (eC B (aD (qv 2) aG)) aX) (aL (dQ hX x_NoText (aD bW aG))) bX)
   (aN (bP (i:=3) nd (cH hX d_read_number hr (aD (cJ (qv 2) aX) (aD (jL (qv 1) aX) aG))))
   (aN (bP (i:=4) nd (cH hX d_read_number hr (aD (cJ (qv 2) aX) (aD (jL (qv 1) aX) aG))))
   (aN (bI (C8 (qv 3) (qv 4)) (aL (dQ hX x_NoText (aD bW aG))) bX)
   (aL (bN (bR (aD (qv 3) (aD (qv 4) aG)))))))))))
theorem Y5:FnScope ["web","seeds","told","burning","around","lit"] ["web","seeds"] (aU (aZ 43)):=.au
theorem ba5 (B:Bt mg)(F:FM K mg "rounds" 43 f fd)(d_made_set:aS P w K mg base 4 "made_set" ["web","hearths"] iF)(d_marked:Df P w K mg base 1 "marked" ["hearths"] fW)(d_near_lists:Df P w K mg base 1 "near_lists" ["web"] gX)(d_kindling:Df P w K mg base 3 "kindling" ["web","around","burning"] nT):aS P w K mg base 5 "rounds" ["web","seeds"] pZ:=
 aS.au F Y5 N5 aG7 (λcdv A outer s H E Ep hr hX=>by
  have nd:=Y5.nd
  exact (aN (fA (i:=2) nd (eB (aD (cH hX d_made_set hr (aD (qv 0) (aD (qv 1) aG))) aG)))
   (aN (fA (i:=3) nd (b9 d_marked hr (aD (cJ (qv 2) aX) aG)))
   (aN (bP (i:=4) nd (b9 d_near_lists hr (aD (qv 0) aG)))
   (aN (bP (i:=5) nd (b9 d_kindling hr (aD (qv 0) (aD (qv 4) (aD (qv 3) aG)))))
   (aN (lX hX.own (nQ (qv 5))
    (aN (kO 2 (qv 5))
    (aN (av5 3 (b9 d_marked hr (aD (qv 5) aG)))
    (aL (bP (i:=5) nd (b9 d_kindling hr (aD (qv 0) (aD (qv 4) (aD (qv 3) aG)))))))))
   (aL (gW 2))))))))
theorem Y6:FnScope ["web","seeds","order","burning","around","kindled","hearth"] ["web","seeds","order"] (aU (aZ 49)):=.au
theorem ba6 (B:Bt mg)(F:FM K mg "kindled_by" 49 f fd)(d_marked:Df P w K mg base 1 "marked" ["hearths"] fW)(d_made_set:aS P w K mg base 4 "made_set" ["web","hearths"] iF)(d_has_each_once:Df P w K mg base 2 "has_each_once" ["web","numbers"] qH)(d_near_lists:Df P w K mg base 1 "near_lists" ["web"] gX)(d_first_to_kindle:Df P w K mg base 3 "first_to_kindle" ["web","around","burning","order"] nY)(x_BadOrder:Xc K mg base "BadOrder"):aS P w K mg base 5 "kindled_by" ["web","seeds","order"] mK:=
 aS.au F Y6 U6 aS4 (λcdv A outer s H E Ep hr hX=>by
  have nd:=Y6.nd;have hu:=gQ hr
  exact (aN (fA (i:=3) nd (b9 d_marked hr (aD (cH hX d_made_set hr (aD (qv 0) (aD (qv 1) aG))) aG)))
   (aN (bI (jM (gV (b9 d_has_each_once hr (aD (qv 0) (aD (qv 2) aG))))) (aL (dQ hX x_BadOrder (aD bW aG))) bX)
   (aN (bP (i:=4) nd (b9 d_near_lists hr (aD (qv 0) aG)))
   (aN (fA (i:=5) nd (eB aG))
   (aN (bP (i:=6) nd (b9 d_first_to_kindle hr (aD (qv 0) (aD (qv 4) (aD (qv 3) (aD (qv 2) aG))))))
   (aN (lX hX.own (C9 (qv 6) nO)
    (aN (kO 5 (qv 6))
    (aN (lY hu (i:=3) (qv 6) jK)
    (aL (bP (i:=6) nd (b9 d_first_to_kindle hr (aD (qv 0) (aD (qv 4) (aD (qv 3) (aD (qv 2) aG))))))))))
   (aL (gW 5)))))))))
theorem Y7:FnScope ["web","seeds","deed","chosen","told"] ["web","seeds","deed"] (aU (aZ 53)):=.au
theorem ba7 (B:Bt mg)(F:FM K mg "deed_done" 53 f fd)(d_made_set:aS P w K mg base 4 "made_set" ["web","hearths"] iF)(d_told_deed:Df P w K mg base 1 "told_deed" ["deed"] qP)(d_seeds_behind:aS P w K mg base 3 "seeds_behind" ["web","seeds","deed"] qQ):aS P w K mg base 5 "deed_done" ["web","seeds","deed"] qR:=
 aS.au F Y7 S8 aQ7 (λcdv A outer s H E Ep hr hX=>by
  have nd:=Y7.nd
  exact (aN (bP (i:=3) nd (cH hX d_made_set hr (aD (qv 0) (aD (qv 1) aG))))
   (aN (bP (i:=4) nd (b9 d_told_deed hr (aD (qv 2) aG)))
   (aN (bI (i8 (kM (mF (cJ (qv 4) aX) bW) (kK (mF (cJ (qv 4) aX) bW)))) (aL (bN (bR (aD (qv 0) (aD (cH hX d_seeds_behind hr (aD (qv 0) (aD (qv 3) (aD (qv 4) aG)))) aG))))) bX)
   (aN bY
   (aL bY))))))
theorem Y8:FnScope ["web","block","around","left","pieces","piece"] ["web","block"] (aU (aZ 61)):=.au
theorem ba8 (B:Bt mg)(F:FM K mg "cold_pieces" 61 f fd)(d_near_lists:Df P w K mg base 1 "near_lists" ["web"] gX)(d_made_set:aS P w K mg base 4 "made_set" ["web","hearths"] iF)(d_first_piece:Df P w K mg base 2 "first_piece" ["around","hearths"] qV)(d_without:Df P w K mg base 2 "without" ["hearths","some"] mD):Df P w K mg base 5 "cold_pieces" ["web","block"] qW:=
 Df.au F Y8 (λcdv A outer s H E hr=>by
  have nd:=Y8.nd
  exact⟨(T5),(aN (bP (i:=2) nd (b9 d_near_lists hr (aD (qv 0) aG)))
   (aN (bP (i:=3) nd (M7 d_made_set hr (aD (qv 0) (aD (qv 1) aG))))
   (aN (fA (i:=4) nd (eB aG))
   (aN (lX bu5 (nQ (qv 3))
    (aN (bP (i:=5) nd (b9 d_first_piece hr (aD (qv 2) (aD (qv 3) aG))))
    (aN (kO 4 (qv 5))
    (aL (bP (i:=3) nd (b9 d_without hr (aD (qv 3) (aD (qv 5) aG))))))))
   (aL (gW 4)))))),aR4⟩)
theorem Y9:FnScope ["text","rows","wants","links"] ["text"] (aU (aZ 78)):=.au
theorem ba9 (B:Bt mg)(F:eF K "read_web" "read_web" (aZ 78) f fd)(m:mg "read_web" = some (.ref f))(d_read_number:aS P w K mg base 3 "read_number" ["word","most"] l0)(d_words_of:Df P w K mg base 1 "words_of" ["row"] oD)(d_read_link:aS P w K mg base 4 "read_link" ["word","many"] rJ)(x_NoText:Xc K mg base "NoText"){u_MOST_HEARTHS:Nat}(m_MOST_HEARTHS:mg "MOST_HEARTHS" = some (.int 40 u_MOST_HEARTHS)){u_MOST_WANTED:Nat}(m_MOST_WANTED:mg "MOST_WANTED" = some (.int 60 u_MOST_WANTED)):aS P w K mg base 5 "read_web" ["text"] oE:=
 aS.ofA F m Y9 (λ_ _ _ _ _ _ us hl=>by obtain⟨_,rfl⟩:=us1 hl;rfl) wU (λEp xs Q h=>by unfold oE at h;repeat (first|(obtain⟨rfl,_⟩:=h;rfl)|(obtain⟨_,h⟩:=h))) aT3 (λcdv A outer s H E Ep hr hX pa=>by
  have nd:=Y9.nd
  exact (aN (bP (i:=1) nd (wP (qv 0) (aD bW aG)))
   (aN (bI (uR (eC B (aD (qv 1) aG)) aX) (aL (dQ hX x_NoText (aD bW aG))) bX)
   (aN (bP (i:=2) nd (aO8 pa (N:=["word"]) (fr:=[none]) (dJ (b9 d_words_of hr (aD (cJ (qv 1) aX) aG))) (λ_ _ _ _=>(R6 Q9 d_read_number hr (aD (qv 0) (aD (jQ rfl m_MOST_WANTED) aG))))))
   (aN (bI (j4 (eC B (aD (qv 2) aG)) (jQ rfl m_MOST_HEARTHS)) (aL (dQ hX x_NoText (aD bW aG))) bX)
   (aN (aU2 (i:=3) nd pa (N:=["word","wants"]) (fr:=[none,some 2]) (dJ (b9 d_words_of hr (aD (cJ (qv 1) aX) aG))) (λ_ _ _ _=>(R6 Q9 d_read_link hr (aD (qv 0) (aD (eC B (aD (qv 1) aG)) aG)))))
   (aN bY
   (aL bY))))))))
theorem Z0:FnScope ["web","seeds","ranks","rank","lit","hearth"] ["web","seeds"] (aU (aZ 46)):=.au
theorem bb0 (B:Bt mg)(F:FM K mg "ranks_of" 46 f fd)(d_rounds:aS P w K mg base 5 "rounds" ["web","seeds"] pZ):aS P w K mg base 6 "ranks_of" ["web","seeds"] qA:=
 aS.au F Z0 N6 aG8 (λcdv A outer s H E Ep hr hX=>by
  have nd:=Z0.nd;have hu:=gQ hr
  exact (aN (fA (i:=2) nd uW)
   (aN (uY 3 4 (hp:=hX.own) nd (aC5 rfl B.enum (cH hX d_rounds hr (aD (qv 0) (aD (qv 1) aG))))
    (aL (iB 5 (hp:=hX.own) nd (dJ (qv 4))
     (aL (lY hu (i:=2) (qv 5) (qv 3))))))
   (aL (gW 2)))))
theorem bb1:FnScope ["web","seeds"] ["web","seeds"] (aU (aZ 86)):=.au
theorem bb2 (B:Bt mg)(F:FM K mg "first_order" 86 f fd)(d_kindled_by:aS P w K mg base 5 "kindled_by" ["web","seeds","order"] mK)(d_hearths_in:Df P w K mg base 1 "hearths_in" ["web"] cR):Df P w K mg base 6 "first_order" ["web","seeds"] rC:=
 Df.au F bb1 (λcdv A outer s H E hr=>by
  exact⟨(U7),(aL (bN (iA B (aD (M7 d_kindled_by hr (aD (qv 0) (aD (qv 1) (aD (vL B (b9 d_hearths_in hr (aD (qv 0) aG))) aG)))) aG)))),aS5⟩)
theorem bb3:FnScope ["web"] ["web"] (aU (aZ 95)):=.au
theorem bb4 (B:Bt mg)(F:FM K mg "all_pieces" 95 f fd)(d_cold_pieces:Df P w K mg base 5 "cold_pieces" ["web","block"] qW)(d_all_but:Df P w K mg base 3 "all_but" ["web","some"] qD):Df P w K mg base 6 "all_pieces" ["web"] qX:=
 Df.au F bb3 (λcdv A outer s H E hr=>by
  exact⟨(T6),(aL (bN (b9 d_cold_pieces hr (aD (qv 0) (aD (b9 d_all_but hr (aD (qv 0) (aD (bR aG) aG))) aG))))),aR5⟩)
theorem bb5:FnScope ["web","seeds"] ["web","seeds"] (aU (aZ 47)):=.au
theorem bb6 (B:Bt mg)(F:FM K mg "burnt" 47 f fd)(d_ranks_of:aS P w K mg base 6 "ranks_of" ["web","seeds"] qA):aS P w K mg base 7 "burnt" ["web","seeds"] qB:=
 aS.au F bb5 N7 aG9 (λcdv A outer s H E Ep hr hX=>by
  exact (aL (bN (iA B (aD (L9 B rfl (aD (cH hX d_ranks_of hr (aD (qv 0) (aD (qv 1) aG))) aG)) aG)))))
theorem Z1:FnScope ["web","seeds","later","around","branches","lit","burning","able"] ["web","seeds"] (aU (aZ 87)):=.au
theorem bb7 (B:Bt mg)(F:FM K mg "branches_of" 87 f fd)(d_first_order:Df P w K mg base 6 "first_order" ["web","seeds"] rC)(d_near_lists:Df P w K mg base 1 "near_lists" ["web"] gX)(d_sets_among:Df P w K mg base 1 "sets_among" ["hearths"] qE)(d_marked:Df P w K mg base 1 "marked" ["hearths"] fW)(d_can_kindle:Df P w K mg base 2 "can_kindle" ["web","around","burning","hearth"] jP)(d_ways_on:Df P w K mg base 1 "ways_on" ["choices"] mG)(d_set_of:Df P w K mg base 1 "set_of" ["row"] qG)(rv:mg "reversed" = none){u_MOST_ORDERED:Nat}(m_MOST_ORDERED:mg "MOST_ORDERED" = some (.int 12 u_MOST_ORDERED)):Df P w K mg base 7 "branches_of" ["web","seeds"] rD:=
 Df.au F Z1 (λcdv A outer s H E hr=>by
  have nd:=Z1.nd;have hu:=gQ hr
  exact⟨(U8),(aN (bP (i:=2) nd (vN B (aD (b9 d_first_order hr (aD (qv 0) (aD (qv 1) aG))) aG)))
   (aN (bI (j4 (eC B (aD (qv 2) aG)) (jQ rfl m_MOST_ORDERED)) (aL bY) bX)
   (aN (bP (i:=3) nd (b9 d_near_lists hr (aD (qv 0) aG)))
   (aN (fA (i:=4) nd au3)
   (aN (iB 5 nd (aI8 rv (b9 d_sets_among hr (aD (qv 2) aG)))
    (aN (bP (i:=6) nd (b9 d_marked hr (aD (nW (iA B (aD (qv 1) aG)) (qv 5)) aG)))
    (aN (av3 (i:=7) nd (N:=["hearth","web","around","burning"]) (fr:=[none,some 0,some 3,some 6]) (dJ (qv 2)) (λ_ _ _ _=>(gV (b9 d_can_kindle hr (aD (qv 1) (aD (qv 2) (aD (qv 3) (aD (qv 0) aG))))))) (λ_ _ _ _=>(qv 0)))
    (aL (au4 hu (i:=4) (qv 5) (kQ (N:=["hearth","branches","lit"]) (fr:=[none,some 4,some 5]) (dJ (qv 7)) (λ_ _ _ _=>(bR (aD (qv 0) (aD (b9 d_ways_on hr (aD (kN hu (qv 1) (b9 d_set_of hr (aD (nW (qv 2) (bR (aD (qv 0) aG))) aG))) aG)) aG))))))))))
   (aL (gW 4))))))),aS6⟩)
theorem bb8:FnScope ["web"] ["web"] (aU (aZ 94)):=.au
theorem bb9 (B:Bt mg)(F:FM K mg "is_wood" 94 f fd)(d_hearths_in:Df P w K mg base 1 "hearths_in" ["web"] cR)(d_all_pieces:Df P w K mg base 6 "all_pieces" ["web"] qX):Df P w K mg base 7 "is_wood" ["web"] qY:=
 Df.au F bb8 (λcdv A outer s H E hr=>by
  exact⟨(T7),(aL (bN (uQ (eC B (aD (cJ (qv 0) aX) aG)) (jL (b9 d_hearths_in hr (aD (qv 0) aG)) (eC B (aD (b9 d_all_pieces hr (aD (qv 0) aG)) aG)))))),aR6⟩)
theorem bc0:FnScope ["web","seeds"] ["web","seeds"] (aU (aZ 48)):=.au
theorem bc1 (B:Bt mg)(F:FM K mg "lights_all" 48 f fd)(d_burnt:aS P w K mg base 7 "burnt" ["web","seeds"] qB)(d_hearths_in:Df P w K mg base 1 "hearths_in" ["web"] cR):aS P w K mg base 8 "lights_all" ["web","seeds"] mE:=
 aS.au F bc0 N8 aH0 (λcdv A outer s H E Ep hr hX=>by
  exact (aL (bN (uQ (eC B (aD (cH hX d_burnt hr (aD (qv 0) (aD (qv 1) aG))) aG)) (b9 d_hearths_in hr (aD (qv 0) aG))))))
theorem Z2:FnScope ["web","seeds","number","branches","order","left","hearth","many"] ["web","seeds","number"] (aU (aZ 90)):=.au
theorem bc2 (B:Bt mg)(F:FM K mg "order_numbered" 90 f fd)(d_branches_of:Df P w K mg base 7 "branches_of" ["web","seeds"] rD)(d_ways_on:Df P w K mg base 1 "ways_on" ["choices"] mG)(x_NoSuch:Xc K mg base "NoSuch"):aS P w K mg base 8 "order_numbered" ["web","seeds","number"] rE:=
 aS.au F Z2 U9 aS7 (λcdv A outer s H E Ep hr hX=>by
  have nd:=Z2.nd;have hu:=gQ hr
  exact (aN (bP (i:=3) nd (b9 d_branches_of hr (aD (qv 0) (aD (qv 1) aG))))
   (aN (bI (i8 (kM (kJ (qv 2) aX) (kK (C8 (qv 2) (b9 d_ways_on hr (aD (kN hu (qv 3) (bR aG)) aG)))))) (aL (dQ hX x_NoSuch (aD bW aG))) bX)
   (aN bY
   (aN bY
   (aN bY
   (aL bY)))))))
theorem bc3:FnScope ["web","around","pairs","turn","hearth"] ["web"] (aU (aZ 96)):=.au
theorem bc4 (B:Bt mg)(F:FM K mg "from_roots" 96 f fd)(d_is_wood:Df P w K mg base 7 "is_wood" ["web"] qY)(x_NotWood:Xc K mg base "NotWood"):aS P w K mg base 8 "from_roots" ["web"] oA:=
 aS.au F bc3 T8 aR7 (λcdv A outer s H E Ep hr hX=>by
  exact (aN (bI (jM (gV (b9 d_is_wood hr (aD (qv 0) aG)))) (aL (dQ hX x_NotWood (aD bW aG))) bX)
   (aN bY
   (aN bY
   (aN bY
   (aN bY
   (aL bY)))))))
theorem Z3:FnScope ["web","elders","hearth","elder"] ["web"] (aU (aZ 98)):=.au
theorem bc5 (B:Bt mg)(F:FM K mg "elders_of" 98 f fd)(d_hearths_in:Df P w K mg base 1 "hearths_in" ["web"] cR)(d_from_roots:aS P w K mg base 8 "from_roots" ["web"] oA):aS P w K mg base 9 "elders_of" ["web"] qZ:=
 aS.au F Z3 T9 aR8 (λcdv A outer s H E Ep hr hX=>by
  have nd:=Z3.nd
  exact (aN (fA (i:=1) nd (aC9 (eB (aD nO aG)) (b9 d_hearths_in hr (aD (qv 0) aG))))
   (aN (uY 2 3 (hp:=hX.own) nd (dJ (cH hX d_from_roots hr (aD (qv 0) aG)))
    (aL bY))
   (aL bY))))
theorem Z4:FnScope ["web","paper","seeds","blocks"] ["web","paper"] (aU (aZ 99)):=.au
theorem bc6 (B:Bt mg)(F:FM K mg "judged_apart" 99 f fd)(d_is_set:Df P w K mg base 3 "is_set" ["web","numbers"] m7)(d_lights_all:aS P w K mg base 8 "lights_all" ["web","seeds"] mE)(x_NoPaper:Xc K mg base "NoPaper"):aS P w K mg base 9 "judged_apart" ["web","paper"] qS:=
 aS.au F Z4 T0 aQ8 (λcdv A outer s H E Ep hr hX=>by
  have nd:=Z4.nd
  exact (aN (bP (i:=2) nd (cJ (qv 1) aX))
   (aN (bP (i:=3) nd (cJ (qv 1) aX))
   (aN (bI (i8 (kM (jM (gV (b9 d_is_set hr (aD (qv 0) (aD (qv 2) aG))))) (kK (jM (gV (cH hX d_lights_all hr (aD (qv 0) (aD (qv 2) aG)))))))) (aL (dQ hX x_NoPaper (aD bW aG))) bX)
   (aN bY
   (aL bY))))))
theorem Z5:FnScope ["way","number","web"] ["way","number"] (aU (aZ 103)):=.au
theorem bc7 (B:Bt mg)(F:FM K mg "_law_asked" 103 f fd)(d_made_web:aS P w K mg base 1 "made_web" ["wants","links"] qN)(d_lights_all:aS P w K mg base 8 "lights_all" ["web","seeds"] mE)(d_kindled_by:aS P w K mg base 5 "kindled_by" ["web","seeds","order"] mK)(d_price_of:aS P w K mg base 2 "price_of" ["web","prices","seeds"] qO)(d_fewest_on_board:aS P w K mg base 2 "fewest_on_board" ["rows","columns"] rK)(d_deed_done:aS P w K mg base 5 "deed_done" ["web","seeds","deed"] qR):aS P w K mg base 9 "_law_asked" ["way","number"] rL:=
 aS.au F Z5 V9 aT5 (λcdv A outer s H E Ep hr hX=>by
  have nd:=Z5.nd
  exact (aN (bP (i:=2) nd (bR (aD (bR (aD aX (aD aX aG))) (aD (bR (aD (bR (aD aX (aD aX aG))) aG)) aG))))
   (aL (bI (gG (qv 0) aX) (aL (fV (cH hX d_made_web hr (aD (eB (aD aX (aD (kI aX (qv 1)) aG))) (aD (eB aG) aG))))) (aL (bI (gG (qv 0) aX) (aL (fV (cH hX d_lights_all hr (aD (qv 2) (aD (bR (aD aX (aD (kI aX (qv 1)) aG))) aG))))) (aL (bI (gG (qv 0) aX) (aL (fV (cH hX d_kindled_by hr (aD (qv 2) (aD (bR aG) (aD (eB (aD (iZ (qv 1) aX) (aD (iZ (qv 1) aX) aG))) aG)))))) (aL (bI (gG (qv 0) aX) (aL (fV (cH hX d_price_of hr (aD (qv 2) (aD (eB (aD (qv 1) aG)) (aD (bR aG) aG)))))) (aL (bI (gG (qv 0) aX) (aL (fV (cH hX d_fewest_on_board hr (aD (jL aX (qv 1)) (aD aX aG))))) (aL (fV (cH hX d_deed_done hr (aD (qv 2) (aD (bR aG) (aD (bR (aD bW (aD (jL (au8 aX) (qv 1)) aG))) aG))))))))))))))))))
theorem Z6:FnScope ["way","number","web","ring"] ["way","number"] (aU (aZ 104)):=.au
theorem bc8 (B:Bt mg)(F:FM K mg "_law_asked_else" 104 f fd)(d_elders_of:aS P w K mg base 9 "elders_of" ["web"] qZ)(d_judged_apart:aS P w K mg base 9 "judged_apart" ["web","paper"] qS)(d_order_numbered:aS P w K mg base 8 "order_numbered" ["web","seeds","number"] rE)(d_least_many:aS P w K mg base 4 "least_many" ["web"] qU)(d_read_web:aS P w K mg base 5 "read_web" ["text"] oE)(d_colours_of:aS P w K mg base 4 "colours_of" ["web"] rB):aS P w K mg base 10 "_law_asked_else" ["way","number"] rM:=
 aS.au F Z6 W0 aT7 (λcdv A outer s H E Ep hr hX=>by
  have nd:=Z6.nd
  exact (aN (bP (i:=2) nd (bR (aD (bR (aD aX (aD aX aG))) (aD (bR (aD (bR (aD aX (aD aX aG))) aG)) aG))))
   (aN (bP (i:=3) nd (bR (aD (wG (bR (aD (iZ (qv 1) aX) aG)) aX) (aD (bR (aD (bR (aD aX (aD aX aG))) (aD (bR (aD aX (aD aX aG))) (aD (bR (aD aX (aD aX aG))) aG)))) aG))))
   (aL (bI (gG (qv 0) aX) (aL (fV (cH hX d_elders_of hr (aD (qv 3) aG)))) (aL (bI (gG (qv 0) aX) (aL (fV (cH hX d_judged_apart hr (aD (qv 2) (aD (bR (aD (bR aG) (aD (wG (bR (aD (bR (aD aX (aD aX aG))) aG)) (iZ (qv 1) aX)) aG))) aG))))) (aL (bI (gG (qv 0) aX) (aL (fV (cH hX d_order_numbered hr (aD (qv 2) (aD (bR (aD aX aG)) (aD (kI aX (qv 1)) aG)))))) (aL (bI (gG (qv 0) aX) (aL (fV (cH hX d_least_many hr (aD (bR (aD (wG (bR (aD (iZ (qv 1) aX) aG)) (kI aX (iZ (qv 1) aX))) (aD (bR aG) aG))) aG)))) (aL (bI (gG (qv 0) aX) (aL (fV (cH hX d_read_web hr (aD (cJ (eB (aD bW (aD bW (aD bW (aD bW (aD bW (aD bW aG))))))) (iZ (qv 1) aX)) aG)))) (aL (fV (cH hX d_colours_of hr (aD (qv 3) aG)))))))))))))))))
theorem Z7:FnScope ["way","number","marks","e"] ["way","number"] (aU (aZ 105)):=.au
theorem bc9 (B:Bt mg)(F:FM K mg "_law_marks" 105 f fd)(d__law_asked:aS P w K mg base 9 "_law_asked" ["way","number"] rL)(d__law_asked_else:aS P w K mg base 10 "_law_asked_else" ["way","number"] rM)(cat_HearthError:w4 K mg "HearthError")(is_BadWeb:cS K mg "BadWeb")(is_BadSet:cS K mg "BadSet")(is_BadOrder:cS K mg "BadOrder")(is_BadPrices:cS K mg "BadPrices")(is_BadBoard:cS K mg "BadBoard")(is_BadDeed:cS K mg "BadDeed")(is_NotWood:cS K mg "NotWood")(is_NoPaper:cS K mg "NoPaper")(is_NoSuch:cS K mg "NoSuch")(is_TooMany:cS K mg "TooMany")(is_NoText:cS K mg "NoText")(is_OddRound:cS K mg "OddRound")(is_ValueError:w6 K mg):Df P w K mg base 11 "_law_marks" ["way","number"] rO:=
 Df.au F Z7 (λcdv A outer s H E hr=>by
  have nd:=Z7.nd
  exact⟨(W6),(aN (fA (i:=2) nd (eB aG))
   (aN (aG1 3 cat_HearthError nd (aF9 (λ_=>(kJ (qv 0) aX)) (N0 d__law_asked hr (λ_=>(aD (qv 0) (aD (qv 1) aG)))) (N0 d__law_asked_else hr (λ_=>(aD (qv 0) (aD (qv 1) aG))))) (λ_=>(aN (fA (i:=2) nd (eB (aD (gI B is_BadWeb (qv 3)) (aD (gI B is_BadSet (qv 3)) (aD (gI B is_BadOrder (qv 3)) (aD (gI B is_BadPrices (qv 3)) aG))))))
    (aN (F0 2 (eB (aD (gI B is_BadBoard (qv 3)) (aD (gI B is_BadDeed (qv 3)) (aD (gI B is_NotWood (qv 3)) (aD (gI B is_NoPaper (qv 3)) aG))))))
    (aN (F0 2 (eB (aD (gI B is_NoSuch (qv 3)) (aD (gI B is_TooMany (qv 3)) (aD (gI B is_NoText (qv 3)) (aD (gI B is_OddRound (qv 3)) aG))))))
    (aL (kO 2 (aG4 B is_ValueError (qv 3)))))))))
   (aL (gW 2)))),aT8⟩)
theorem Z8:FnScope ["script","way","number"] ["script"] (aU (aZ 106)):=.au
theorem bd0 (B:Bt mg)(F:eF K "law" "law" (aZ 106) f fd)(d__law_cell_at:Df P w K mg base 1 "_law_cell_at" ["script","k"] pV)(d__law_marks:Df P w K mg base 11 "_law_marks" ["way","number"] rO):cX P w K mg base dX 12 f fd ["script"] (nL K wV):=
 aA1 F Z8 (λxs Q h=>by unfold wV at h;repeat (first|(obtain⟨rfl,_⟩:=h;rfl)|(obtain⟨_,h⟩:=h))) (λcdv A outer s H E hr=>by
  have nd:=Z8.nd;have hu3:=W8 hr
  exact⟨(W7),(aN (iB 1 nd (pO rfl B.range aX)
    (aN (bP (i:=2) nd (iZ (b9 d__law_cell_at hr (aD (qv 0) (aD (qv 1) aG))) (au1 aX aX)))
    (aL (bI (av1 hu3 (b9 d__law_marks hr (aD (qv 1) (aD (qv 2) aG))) (K4 (kQ (N:=["k","way"]) (fr:=[none,some 1]) (pO rfl B.range aX) (λ_ _ _ _=>(uQ (qv 1) (qv 0)))) (eB (aD jK aG)))) (aL (bN jK)) bX))))
   (aL (bN jK))),aU0⟩)
end
set_option autoImplicit true in
theorem bd1 {l:OpenLaw}{w:ax}{K:Frag}{h:Heap}{mg:Str->Option ao}(X:K.In h)(G:h.Ns mainGlobals mg)(hfa:mg "law" = some (.ref fa))(h0:FK K "made_web" 17 f0 d0)(h1:FK K "rises" 19 f1 d1)(h2:FK K "hearths_in" 20 f2 d2)(h3:FK K "near_lists" 21 f3 d3)(h4:FK K "sets_among" 25 f4 d4)(h5:FK K "marked" 27 f5 d5)(h6:FK K "count_inside" 28 f6 d6)(h7:FK K "looked_through" 34 f7 d7)(h8:FK K "colour_behind" 38 f8 d8)(h9:FK K "closed_round" 41 f9 d9)(h10:FK K "told_deed" 54 f10 d10)(h11:FK K "made_prices" 69 f11 d11)(h12:FK K "words_of" 79 f12 d12)(h13:FK K "is_number" 82 f13 d13)(h14:FK K "ways_on" 88 f14 d14)(h15:FK K "set_of" 89 f15 d15)(h16:FK K "_law_cell_at" 102 f16 d16)(h17:FK K "is_hearth" 22 f17 d17)(h18:FK K "has_each_once" 26 f18 d18)(h19:FK K "without" 30 f19 d19)(h20:FK K "fewest_on_board" 35 f20 d20)(h21:FK K "ways_out" 37 f21 d21)(h22:FK K "can_kindle" 45 f22 d22)(h23:FK K "first_piece" 62 f23 d23)(h24:FK K "searched_sets" 65 f24 d24)(h25:FK K "read_figures" 81 f25 d25)(h26:FK K "price_of" 92 f26 d26)(h27:FK K "is_set" 23 f27 d27)(h28:FK K "all_but" 31 f28 d28)(h29:FK K "odd_round" 40 f29 d29)(h30:FK K "kindling" 44 f30 d30)(h31:FK K "first_to_kindle" 50 f31 d31)(h32:FK K "seeds_behind" 55 f32 d32)(h33:FK K "lighting_sets" 73 f33 d33)(h34:FK K "read_number" 80 f34 d34)(h35:FK K "made_set" 24 f35 d35)(h36:FK K "colours_of" 39 f36 d36)(h37:FK K "least_many" 72 f37 d37)(h38:FK K "read_link" 83 f38 d38)(h39:FK K "rounds" 43 f39 d39)(h40:FK K "kindled_by" 49 f40 d40)(h41:FK K "deed_done" 53 f41 d41)(h42:FK K "cold_pieces" 61 f42 d42)(h43:FK K "read_web" 78 f43 d43)(h44:FK K "ranks_of" 46 f44 d44)(h45:FK K "first_order" 86 f45 d45)(h46:FK K "all_pieces" 95 f46 d46)(h47:FK K "burnt" 47 f47 d47)(h48:FK K "branches_of" 87 f48 d48)(h49:FK K "is_wood" 94 f49 d49)(h50:FK K "lights_all" 48 f50 d50)(h51:FK K "order_numbered" 90 f51 d51)(h52:FK K "from_roots" 96 f52 d52)(h53:FK K "elders_of" 98 f53 d53)(h54:FK K "judged_apart" 99 f54 d54)(h55:FK K "_law_asked" 103 f55 d55)(h56:FK K "_law_asked_else" 104 f56 d56)(h57:FK K "_law_marks" 105 f57 d57)(a58:nsIn K mainGlobals "law" = some (some (.ref f58)))(l58:K.lookup f58=some ⟨oc58,od58,.func (fnOf "law" "law" (i3 (aZ 106)) (dW (aZ 106)) (aU (aZ 106)) .none kV58 dc58 pm58 an58 cd58 ct58),sl58⟩)(c58:codeIn K cd58 "law" = true)(k58:keepIn K (.ref f58)=true)(z_len:nsIn K mainGlobals "len" = some none)(z_range:nsIn K mainGlobals "range" = some none)(z_tuple:nsIn K mainGlobals "tuple" = some none)(z_list:nsIn K mainGlobals "list" = some none)(z_sorted:nsIn K mainGlobals "sorted" = some none)(z_all:nsIn K mainGlobals "all" = some none)(z_any:nsIn K mainGlobals "any" = some none)(z_zip:nsIn K mainGlobals "zip" = some none)(z_min:nsIn K mainGlobals "min" = some none)(z_max:nsIn K mainGlobals "max" = some none)(z_sum:nsIn K mainGlobals "sum" = some none)(z_isinstance:nsIn K mainGlobals "isinstance" = some none)(z_int:nsIn K mainGlobals "int" = some none)(z_bool:nsIn K mainGlobals "bool" = some none)(z_enumerate:nsIn K mainGlobals "enumerate" = some none)(z_reversed:nsIn K mainGlobals "reversed" = some none){kA:ar}{epK:Nat}{hK0 hK1 hK2 hK3 hK4:Int}{tK0 uK0 tK1 uK1 tK2 uK2 tK3 uK3 tK4 uK4:Tok}(zk:nsIn K mainGlobals "DEED_NUMBERS" = some (some (.ref kA)))(lkd:K.lookup kA=some ⟨.type "dict",none,.dict #[⟨hK0,.str "light" tK0,.int 1 uK0⟩,⟨hK1,.str "douse" tK1,.int 1 uK1⟩,⟨hK2,.str "want" tK2,.int 2 uK2⟩,⟨hK3,.str "link" tK3,.int 2 uK3⟩,⟨hK4,.str "cut" tK4,.int 2 uK4⟩] epK,#[]⟩)(skd:(kA==sysModules)=false)(hkd0:hK0=hashStr w "light")(hkd1:hK1=hashStr w "douse")(hkd2:hK2=hashStr w "want")(hkd3:hK3=hashStr w "link")(hkd4:hK4=hashStr w "cut"){u_FIGURES:Nat}(z_FIGURESx:nsIn K mainGlobals "FIGURES" = some (some (.str "0123456789" u_FIGURES))){u_MOST_FIGURES:Nat}(z_MOST_FIGURESx:nsIn K mainGlobals "MOST_FIGURES" = some (some (.int 60 u_MOST_FIGURES))){u_MOST_HEARTHS:Nat}(z_MOST_HEARTHSx:nsIn K mainGlobals "MOST_HEARTHS" = some (some (.int 40 u_MOST_HEARTHS))){u_MOST_ORDERED:Nat}(z_MOST_ORDEREDx:nsIn K mainGlobals "MOST_ORDERED" = some (some (.int 12 u_MOST_ORDERED))){u_MOST_ROWS:Nat}(z_MOST_ROWSx:nsIn K mainGlobals "MOST_ROWS" = some (some (.int 40 u_MOST_ROWS))){u_MOST_SEARCHED:Nat}(z_MOST_SEARCHEDx:nsIn K mainGlobals "MOST_SEARCHED" = some (some (.int 12 u_MOST_SEARCHED))){u_MOST_WANTED:Nat}(z_MOST_WANTEDx:nsIn K mainGlobals "MOST_WANTED" = some (some (.int 60 u_MOST_WANTED))){u_NONE_AT_ALL:Nat}(z_NONE_AT_ALLx:nsIn K mainGlobals "NONE_AT_ALL" = some (some (.str "." u_NONE_AT_ALL))){C_HearthError C_BadWeb C_BadSet C_BadOrder C_BadPrices C_BadBoard C_BadDeed C_NotWood C_NoPaper C_NoSuch C_TooMany C_NoText C_OddRound:ar}(aX_HE:nsIn K mainGlobals "HearthError" = some (some (.ref C_HearthError)))(aX_BW:nsIn K mainGlobals "BadWeb" = some (some (.ref C_BadWeb)))(aX_BS:nsIn K mainGlobals "BadSet" = some (some (.ref C_BadSet)))(aX_BO:nsIn K mainGlobals "BadOrder" = some (some (.ref C_BadOrder)))(aX_BP:nsIn K mainGlobals "BadPrices" = some (some (.ref C_BadPrices)))(aX_BB:nsIn K mainGlobals "BadBoard" = some (some (.ref C_BadBoard)))(aX_BD:nsIn K mainGlobals "BadDeed" = some (some (.ref C_BadDeed)))(aX_NW:nsIn K mainGlobals "NotWood" = some (some (.ref C_NotWood)))(aX_NP:nsIn K mainGlobals "NoPaper" = some (some (.ref C_NoPaper)))(aX_NS:nsIn K mainGlobals "NoSuch" = some (some (.ref C_NoSuch)))(aX_TM:nsIn K mainGlobals "TooMany" = some (some (.ref C_TooMany)))(aX_NT:nsIn K mainGlobals "NoText" = some (some (.ref C_NoText)))(aX_OR:nsIn K mainGlobals "OddRound" = some (some (.ref C_OddRound)))(y_fg:specialIn K (.builtin "object.__class__") "__get__" = some (some (.builtin "getset_descriptor.__get__")))(y_ft:takesIn K (.builtin "object.__class__")=some true)(z_VE:nsIn K mainGlobals "ValueError" = some none)(y1_HE:isClsIn K C_HearthError=true)(y2_HE:typeIn K (.ref C_HearthError)=some (.type "type"))(y3_HE:findIn K (.ref C_HearthError) "__getattribute__" = some (some (.builtin "BaseException.__getattribute__")))(y4_HE:findIn K (.ref C_HearthError) "__getattr__" = some none)(y5_HE:findIn K (.ref C_HearthError) "__class__" = some (some (.builtin "object.__class__")))(y6_HE:mroIn K C_HearthError (.type "object")=some true)(y7_HE:mroIn K C_HearthError (.type "BaseException")=some true)(y1_BW:isClsIn K C_BadWeb=true)(y2_BW:typeIn K (.ref C_BadWeb)=some (.type "type"))(y3_BW:findIn K (.ref C_BadWeb) "__getattribute__" = some (some (.builtin "BaseException.__getattribute__")))(y4_BW:findIn K (.ref C_BadWeb) "__getattr__" = some none)(y5_BW:findIn K (.ref C_BadWeb) "__class__" = some (some (.builtin "object.__class__")))(y6_BW:mroIn K C_BadWeb (.type "object")=some true)(y7_BW:mroIn K C_BadWeb (.type "BaseException")=some true)(y1_BS:isClsIn K C_BadSet=true)(y2_BS:typeIn K (.ref C_BadSet)=some (.type "type"))(y3_BS:findIn K (.ref C_BadSet) "__getattribute__" = some (some (.builtin "BaseException.__getattribute__")))(y4_BS:findIn K (.ref C_BadSet) "__getattr__" = some none)(y5_BS:findIn K (.ref C_BadSet) "__class__" = some (some (.builtin "object.__class__")))(y6_BS:mroIn K C_BadSet (.type "object")=some true)(y7_BS:mroIn K C_BadSet (.type "BaseException")=some true)(y1_BO:isClsIn K C_BadOrder=true)(y2_BO:typeIn K (.ref C_BadOrder)=some (.type "type"))(y3_BO:findIn K (.ref C_BadOrder) "__getattribute__" = some (some (.builtin "BaseException.__getattribute__")))(y4_BO:findIn K (.ref C_BadOrder) "__getattr__" = some none)(y5_BO:findIn K (.ref C_BadOrder) "__class__" = some (some (.builtin "object.__class__")))(y6_BO:mroIn K C_BadOrder (.type "object")=some true)(y7_BO:mroIn K C_BadOrder (.type "BaseException")=some true)(y1_BP:isClsIn K C_BadPrices=true)(y2_BP:typeIn K (.ref C_BadPrices)=some (.type "type"))(y3_BP:findIn K (.ref C_BadPrices) "__getattribute__" = some (some (.builtin "BaseException.__getattribute__")))(y4_BP:findIn K (.ref C_BadPrices) "__getattr__" = some none)(y5_BP:findIn K (.ref C_BadPrices) "__class__" = some (some (.builtin "object.__class__")))(y6_BP:mroIn K C_BadPrices (.type "object")=some true)(y7_BP:mroIn K C_BadPrices (.type "BaseException")=some true)(y1_BB:isClsIn K C_BadBoard=true)(y2_BB:typeIn K (.ref C_BadBoard)=some (.type "type"))(y3_BB:findIn K (.ref C_BadBoard) "__getattribute__" = some (some (.builtin "BaseException.__getattribute__")))(y4_BB:findIn K (.ref C_BadBoard) "__getattr__" = some none)(y5_BB:findIn K (.ref C_BadBoard) "__class__" = some (some (.builtin "object.__class__")))(y6_BB:mroIn K C_BadBoard (.type "object")=some true)(y7_BB:mroIn K C_BadBoard (.type "BaseException")=some true)(y1_BD:isClsIn K C_BadDeed=true)(y2_BD:typeIn K (.ref C_BadDeed)=some (.type "type"))(y3_BD:findIn K (.ref C_BadDeed) "__getattribute__" = some (some (.builtin "BaseException.__getattribute__")))(y4_BD:findIn K (.ref C_BadDeed) "__getattr__" = some none)(y5_BD:findIn K (.ref C_BadDeed) "__class__" = some (some (.builtin "object.__class__")))(y6_BD:mroIn K C_BadDeed (.type "object")=some true)(y7_BD:mroIn K C_BadDeed (.type "BaseException")=some true)(y1_NW:isClsIn K C_NotWood=true)(y2_NW:typeIn K (.ref C_NotWood)=some (.type "type"))(y3_NW:findIn K (.ref C_NotWood) "__getattribute__" = some (some (.builtin "BaseException.__getattribute__")))(y4_NW:findIn K (.ref C_NotWood) "__getattr__" = some none)(y5_NW:findIn K (.ref C_NotWood) "__class__" = some (some (.builtin "object.__class__")))(y6_NW:mroIn K C_NotWood (.type "object")=some true)(y7_NW:mroIn K C_NotWood (.type "BaseException")=some true)(y1_NP:isClsIn K C_NoPaper=true)(y2_NP:typeIn K (.ref C_NoPaper)=some (.type "type"))(y3_NP:findIn K (.ref C_NoPaper) "__getattribute__" = some (some (.builtin "BaseException.__getattribute__")))(y4_NP:findIn K (.ref C_NoPaper) "__getattr__" = some none)(y5_NP:findIn K (.ref C_NoPaper) "__class__" = some (some (.builtin "object.__class__")))(y6_NP:mroIn K C_NoPaper (.type "object")=some true)(y7_NP:mroIn K C_NoPaper (.type "BaseException")=some true)(y1_NS:isClsIn K C_NoSuch=true)(y2_NS:typeIn K (.ref C_NoSuch)=some (.type "type"))(y3_NS:findIn K (.ref C_NoSuch) "__getattribute__" = some (some (.builtin "BaseException.__getattribute__")))(y4_NS:findIn K (.ref C_NoSuch) "__getattr__" = some none)(y5_NS:findIn K (.ref C_NoSuch) "__class__" = some (some (.builtin "object.__class__")))(y6_NS:mroIn K C_NoSuch (.type "object")=some true)(y7_NS:mroIn K C_NoSuch (.type "BaseException")=some true)(y1_TM:isClsIn K C_TooMany=true)(y2_TM:typeIn K (.ref C_TooMany)=some (.type "type"))(y3_TM:findIn K (.ref C_TooMany) "__getattribute__" = some (some (.builtin "BaseException.__getattribute__")))(y4_TM:findIn K (.ref C_TooMany) "__getattr__" = some none)(y5_TM:findIn K (.ref C_TooMany) "__class__" = some (some (.builtin "object.__class__")))(y6_TM:mroIn K C_TooMany (.type "object")=some true)(y7_TM:mroIn K C_TooMany (.type "BaseException")=some true)(y1_NT:isClsIn K C_NoText=true)(y2_NT:typeIn K (.ref C_NoText)=some (.type "type"))(y3_NT:findIn K (.ref C_NoText) "__getattribute__" = some (some (.builtin "BaseException.__getattribute__")))(y4_NT:findIn K (.ref C_NoText) "__getattr__" = some none)(y5_NT:findIn K (.ref C_NoText) "__class__" = some (some (.builtin "object.__class__")))(y6_NT:mroIn K C_NoText (.type "object")=some true)(y7_NT:mroIn K C_NoText (.type "BaseException")=some true)(y1_OR:isClsIn K C_OddRound=true)(y2_OR:typeIn K (.ref C_OddRound)=some (.type "type"))(y3_OR:findIn K (.ref C_OddRound) "__getattribute__" = some (some (.builtin "BaseException.__getattribute__")))(y4_OR:findIn K (.ref C_OddRound) "__getattr__" = some none)(y5_OR:findIn K (.ref C_OddRound) "__class__" = some (some (.builtin "object.__class__")))(y6_OR:mroIn K C_OddRound (.type "object")=some true)(y7_OR:mroIn K C_OddRound (.type "BaseException")=some true)(sB_HE:subIn K (.ref C_HearthError) (.type "BaseException")=some true)(s_BW_HE:subIn K (.ref C_BadWeb) (.ref C_HearthError)=some true)(s_BS_HE:subIn K (.ref C_BadSet) (.ref C_HearthError)=some true)(s_BO_HE:subIn K (.ref C_BadOrder) (.ref C_HearthError)=some true)(s_BP_HE:subIn K (.ref C_BadPrices) (.ref C_HearthError)=some true)(s_BB_HE:subIn K (.ref C_BadBoard) (.ref C_HearthError)=some true)(s_BD_HE:subIn K (.ref C_BadDeed) (.ref C_HearthError)=some true)(s_NW_HE:subIn K (.ref C_NotWood) (.ref C_HearthError)=some true)(s_NP_HE:subIn K (.ref C_NoPaper) (.ref C_HearthError)=some true)(s_NS_HE:subIn K (.ref C_NoSuch) (.ref C_HearthError)=some true)(s_TM_HE:subIn K (.ref C_TooMany) (.ref C_HearthError)=some true)(s_NT_HE:subIn K (.ref C_NoText) (.ref C_HearthError)=some true)(s_OR_HE:subIn K (.ref C_OddRound) (.ref C_HearthError)=some true)(sN_BB:subIn K (.type "NoneType") (.ref C_BadBoard)=some false)(s_BW_BB:subIn K (.ref C_BadWeb) (.ref C_BadBoard)=some false)(n_BW_BB:(C_BadWeb==C_BadBoard)=false)(s_BS_BB:subIn K (.ref C_BadSet) (.ref C_BadBoard)=some false)(n_BS_BB:(C_BadSet==C_BadBoard)=false)(s_BO_BB:subIn K (.ref C_BadOrder) (.ref C_BadBoard)=some false)(n_BO_BB:(C_BadOrder==C_BadBoard)=false)(s_BP_BB:subIn K (.ref C_BadPrices) (.ref C_BadBoard)=some false)(n_BP_BB:(C_BadPrices==C_BadBoard)=false)(s_BD_BB:subIn K (.ref C_BadDeed) (.ref C_BadBoard)=some false)(n_BD_BB:(C_BadDeed==C_BadBoard)=false)(s_NW_BB:subIn K (.ref C_NotWood) (.ref C_BadBoard)=some false)(n_NW_BB:(C_NotWood==C_BadBoard)=false)(s_NP_BB:subIn K (.ref C_NoPaper) (.ref C_BadBoard)=some false)(n_NP_BB:(C_NoPaper==C_BadBoard)=false)(s_NS_BB:subIn K (.ref C_NoSuch) (.ref C_BadBoard)=some false)(n_NS_BB:(C_NoSuch==C_BadBoard)=false)(s_TM_BB:subIn K (.ref C_TooMany) (.ref C_BadBoard)=some false)(n_TM_BB:(C_TooMany==C_BadBoard)=false)(s_NT_BB:subIn K (.ref C_NoText) (.ref C_BadBoard)=some false)(n_NT_BB:(C_NoText==C_BadBoard)=false)(s_OR_BB:subIn K (.ref C_OddRound) (.ref C_BadBoard)=some false)(n_OR_BB:(C_OddRound==C_BadBoard)=false)(sN_BD:subIn K (.type "NoneType") (.ref C_BadDeed)=some false)(s_BW_BD:subIn K (.ref C_BadWeb) (.ref C_BadDeed)=some false)(n_BW_BD:(C_BadWeb==C_BadDeed)=false)(s_BS_BD:subIn K (.ref C_BadSet) (.ref C_BadDeed)=some false)(n_BS_BD:(C_BadSet==C_BadDeed)=false)(s_BO_BD:subIn K (.ref C_BadOrder) (.ref C_BadDeed)=some false)(n_BO_BD:(C_BadOrder==C_BadDeed)=false)(s_BP_BD:subIn K (.ref C_BadPrices) (.ref C_BadDeed)=some false)(n_BP_BD:(C_BadPrices==C_BadDeed)=false)(s_BB_BD:subIn K (.ref C_BadBoard) (.ref C_BadDeed)=some false)(n_BB_BD:(C_BadBoard==C_BadDeed)=false)(s_NW_BD:subIn K (.ref C_NotWood) (.ref C_BadDeed)=some false)(n_NW_BD:(C_NotWood==C_BadDeed)=false)(s_NP_BD:subIn K (.ref C_NoPaper) (.ref C_BadDeed)=some false)(n_NP_BD:(C_NoPaper==C_BadDeed)=false)(s_NS_BD:subIn K (.ref C_NoSuch) (.ref C_BadDeed)=some false)(n_NS_BD:(C_NoSuch==C_BadDeed)=false)(s_TM_BD:subIn K (.ref C_TooMany) (.ref C_BadDeed)=some false)(n_TM_BD:(C_TooMany==C_BadDeed)=false)(s_NT_BD:subIn K (.ref C_NoText) (.ref C_BadDeed)=some false)(n_NT_BD:(C_NoText==C_BadDeed)=false)(s_OR_BD:subIn K (.ref C_OddRound) (.ref C_BadDeed)=some false)(n_OR_BD:(C_OddRound==C_BadDeed)=false)(sN_BO:subIn K (.type "NoneType") (.ref C_BadOrder)=some false)(s_BW_BO:subIn K (.ref C_BadWeb) (.ref C_BadOrder)=some false)(n_BW_BO:(C_BadWeb==C_BadOrder)=false)(s_BS_BO:subIn K (.ref C_BadSet) (.ref C_BadOrder)=some false)(n_BS_BO:(C_BadSet==C_BadOrder)=false)(s_BP_BO:subIn K (.ref C_BadPrices) (.ref C_BadOrder)=some false)(n_BP_BO:(C_BadPrices==C_BadOrder)=false)(s_BB_BO:subIn K (.ref C_BadBoard) (.ref C_BadOrder)=some false)(n_BB_BO:(C_BadBoard==C_BadOrder)=false)(s_BD_BO:subIn K (.ref C_BadDeed) (.ref C_BadOrder)=some false)(n_BD_BO:(C_BadDeed==C_BadOrder)=false)(s_NW_BO:subIn K (.ref C_NotWood) (.ref C_BadOrder)=some false)(n_NW_BO:(C_NotWood==C_BadOrder)=false)(s_NP_BO:subIn K (.ref C_NoPaper) (.ref C_BadOrder)=some false)(n_NP_BO:(C_NoPaper==C_BadOrder)=false)(s_NS_BO:subIn K (.ref C_NoSuch) (.ref C_BadOrder)=some false)(n_NS_BO:(C_NoSuch==C_BadOrder)=false)(s_TM_BO:subIn K (.ref C_TooMany) (.ref C_BadOrder)=some false)(n_TM_BO:(C_TooMany==C_BadOrder)=false)(s_NT_BO:subIn K (.ref C_NoText) (.ref C_BadOrder)=some false)(n_NT_BO:(C_NoText==C_BadOrder)=false)(s_OR_BO:subIn K (.ref C_OddRound) (.ref C_BadOrder)=some false)(n_OR_BO:(C_OddRound==C_BadOrder)=false)(sN_BP:subIn K (.type "NoneType") (.ref C_BadPrices)=some false)(s_BW_BP:subIn K (.ref C_BadWeb) (.ref C_BadPrices)=some false)(n_BW_BP:(C_BadWeb==C_BadPrices)=false)(s_BS_BP:subIn K (.ref C_BadSet) (.ref C_BadPrices)=some false)(n_BS_BP:(C_BadSet==C_BadPrices)=false)(s_BO_BP:subIn K (.ref C_BadOrder) (.ref C_BadPrices)=some false)(n_BO_BP:(C_BadOrder==C_BadPrices)=false)(s_BB_BP:subIn K (.ref C_BadBoard) (.ref C_BadPrices)=some false)(n_BB_BP:(C_BadBoard==C_BadPrices)=false)(s_BD_BP:subIn K (.ref C_BadDeed) (.ref C_BadPrices)=some false)(n_BD_BP:(C_BadDeed==C_BadPrices)=false)(s_NW_BP:subIn K (.ref C_NotWood) (.ref C_BadPrices)=some false)(n_NW_BP:(C_NotWood==C_BadPrices)=false)(s_NP_BP:subIn K (.ref C_NoPaper) (.ref C_BadPrices)=some false)(n_NP_BP:(C_NoPaper==C_BadPrices)=false)(s_NS_BP:subIn K (.ref C_NoSuch) (.ref C_BadPrices)=some false)(n_NS_BP:(C_NoSuch==C_BadPrices)=false)(s_TM_BP:subIn K (.ref C_TooMany) (.ref C_BadPrices)=some false)(n_TM_BP:(C_TooMany==C_BadPrices)=false)(s_NT_BP:subIn K (.ref C_NoText) (.ref C_BadPrices)=some false)(n_NT_BP:(C_NoText==C_BadPrices)=false)(s_OR_BP:subIn K (.ref C_OddRound) (.ref C_BadPrices)=some false)(n_OR_BP:(C_OddRound==C_BadPrices)=false)(sN_BS:subIn K (.type "NoneType") (.ref C_BadSet)=some false)(s_BW_BS:subIn K (.ref C_BadWeb) (.ref C_BadSet)=some false)(n_BW_BS:(C_BadWeb==C_BadSet)=false)(s_BO_BS:subIn K (.ref C_BadOrder) (.ref C_BadSet)=some false)(n_BO_BS:(C_BadOrder==C_BadSet)=false)(s_BP_BS:subIn K (.ref C_BadPrices) (.ref C_BadSet)=some false)(n_BP_BS:(C_BadPrices==C_BadSet)=false)(s_BB_BS:subIn K (.ref C_BadBoard) (.ref C_BadSet)=some false)(n_BB_BS:(C_BadBoard==C_BadSet)=false)(s_BD_BS:subIn K (.ref C_BadDeed) (.ref C_BadSet)=some false)(n_BD_BS:(C_BadDeed==C_BadSet)=false)(s_NW_BS:subIn K (.ref C_NotWood) (.ref C_BadSet)=some false)(n_NW_BS:(C_NotWood==C_BadSet)=false)(s_NP_BS:subIn K (.ref C_NoPaper) (.ref C_BadSet)=some false)(n_NP_BS:(C_NoPaper==C_BadSet)=false)(s_NS_BS:subIn K (.ref C_NoSuch) (.ref C_BadSet)=some false)(n_NS_BS:(C_NoSuch==C_BadSet)=false)(s_TM_BS:subIn K (.ref C_TooMany) (.ref C_BadSet)=some false)(n_TM_BS:(C_TooMany==C_BadSet)=false)(s_NT_BS:subIn K (.ref C_NoText) (.ref C_BadSet)=some false)(n_NT_BS:(C_NoText==C_BadSet)=false)(s_OR_BS:subIn K (.ref C_OddRound) (.ref C_BadSet)=some false)(n_OR_BS:(C_OddRound==C_BadSet)=false)(sN_BW:subIn K (.type "NoneType") (.ref C_BadWeb)=some false)(s_BS_BW:subIn K (.ref C_BadSet) (.ref C_BadWeb)=some false)(n_BS_BW:(C_BadSet==C_BadWeb)=false)(s_BO_BW:subIn K (.ref C_BadOrder) (.ref C_BadWeb)=some false)(n_BO_BW:(C_BadOrder==C_BadWeb)=false)(s_BP_BW:subIn K (.ref C_BadPrices) (.ref C_BadWeb)=some false)(n_BP_BW:(C_BadPrices==C_BadWeb)=false)(s_BB_BW:subIn K (.ref C_BadBoard) (.ref C_BadWeb)=some false)(n_BB_BW:(C_BadBoard==C_BadWeb)=false)(s_BD_BW:subIn K (.ref C_BadDeed) (.ref C_BadWeb)=some false)(n_BD_BW:(C_BadDeed==C_BadWeb)=false)(s_NW_BW:subIn K (.ref C_NotWood) (.ref C_BadWeb)=some false)(n_NW_BW:(C_NotWood==C_BadWeb)=false)(s_NP_BW:subIn K (.ref C_NoPaper) (.ref C_BadWeb)=some false)(n_NP_BW:(C_NoPaper==C_BadWeb)=false)(s_NS_BW:subIn K (.ref C_NoSuch) (.ref C_BadWeb)=some false)(n_NS_BW:(C_NoSuch==C_BadWeb)=false)(s_TM_BW:subIn K (.ref C_TooMany) (.ref C_BadWeb)=some false)(n_TM_BW:(C_TooMany==C_BadWeb)=false)(s_NT_BW:subIn K (.ref C_NoText) (.ref C_BadWeb)=some false)(n_NT_BW:(C_NoText==C_BadWeb)=false)(s_OR_BW:subIn K (.ref C_OddRound) (.ref C_BadWeb)=some false)(n_OR_BW:(C_OddRound==C_BadWeb)=false)(sN_NP:subIn K (.type "NoneType") (.ref C_NoPaper)=some false)(s_BW_NP:subIn K (.ref C_BadWeb) (.ref C_NoPaper)=some false)(n_BW_NP:(C_BadWeb==C_NoPaper)=false)(s_BS_NP:subIn K (.ref C_BadSet) (.ref C_NoPaper)=some false)(n_BS_NP:(C_BadSet==C_NoPaper)=false)(s_BO_NP:subIn K (.ref C_BadOrder) (.ref C_NoPaper)=some false)(n_BO_NP:(C_BadOrder==C_NoPaper)=false)(s_BP_NP:subIn K (.ref C_BadPrices) (.ref C_NoPaper)=some false)(n_BP_NP:(C_BadPrices==C_NoPaper)=false)(s_BB_NP:subIn K (.ref C_BadBoard) (.ref C_NoPaper)=some false)(n_BB_NP:(C_BadBoard==C_NoPaper)=false)(s_BD_NP:subIn K (.ref C_BadDeed) (.ref C_NoPaper)=some false)(n_BD_NP:(C_BadDeed==C_NoPaper)=false)(s_NW_NP:subIn K (.ref C_NotWood) (.ref C_NoPaper)=some false)(n_NW_NP:(C_NotWood==C_NoPaper)=false)(s_NS_NP:subIn K (.ref C_NoSuch) (.ref C_NoPaper)=some false)(n_NS_NP:(C_NoSuch==C_NoPaper)=false)(s_TM_NP:subIn K (.ref C_TooMany) (.ref C_NoPaper)=some false)(n_TM_NP:(C_TooMany==C_NoPaper)=false)(s_NT_NP:subIn K (.ref C_NoText) (.ref C_NoPaper)=some false)(n_NT_NP:(C_NoText==C_NoPaper)=false)(s_OR_NP:subIn K (.ref C_OddRound) (.ref C_NoPaper)=some false)(n_OR_NP:(C_OddRound==C_NoPaper)=false)(sN_NS:subIn K (.type "NoneType") (.ref C_NoSuch)=some false)(s_BW_NS:subIn K (.ref C_BadWeb) (.ref C_NoSuch)=some false)(n_BW_NS:(C_BadWeb==C_NoSuch)=false)(s_BS_NS:subIn K (.ref C_BadSet) (.ref C_NoSuch)=some false)(n_BS_NS:(C_BadSet==C_NoSuch)=false)(s_BO_NS:subIn K (.ref C_BadOrder) (.ref C_NoSuch)=some false)(n_BO_NS:(C_BadOrder==C_NoSuch)=false)(s_BP_NS:subIn K (.ref C_BadPrices) (.ref C_NoSuch)=some false)(n_BP_NS:(C_BadPrices==C_NoSuch)=false)(s_BB_NS:subIn K (.ref C_BadBoard) (.ref C_NoSuch)=some false)(n_BB_NS:(C_BadBoard==C_NoSuch)=false)(s_BD_NS:subIn K (.ref C_BadDeed) (.ref C_NoSuch)=some false)(n_BD_NS:(C_BadDeed==C_NoSuch)=false)(s_NW_NS:subIn K (.ref C_NotWood) (.ref C_NoSuch)=some false)(n_NW_NS:(C_NotWood==C_NoSuch)=false)(s_NP_NS:subIn K (.ref C_NoPaper) (.ref C_NoSuch)=some false)(n_NP_NS:(C_NoPaper==C_NoSuch)=false)(s_TM_NS:subIn K (.ref C_TooMany) (.ref C_NoSuch)=some false)(n_TM_NS:(C_TooMany==C_NoSuch)=false)(s_NT_NS:subIn K (.ref C_NoText) (.ref C_NoSuch)=some false)(n_NT_NS:(C_NoText==C_NoSuch)=false)(s_OR_NS:subIn K (.ref C_OddRound) (.ref C_NoSuch)=some false)(n_OR_NS:(C_OddRound==C_NoSuch)=false)(sN_NT:subIn K (.type "NoneType") (.ref C_NoText)=some false)(s_BW_NT:subIn K (.ref C_BadWeb) (.ref C_NoText)=some false)(n_BW_NT:(C_BadWeb==C_NoText)=false)(s_BS_NT:subIn K (.ref C_BadSet) (.ref C_NoText)=some false)(n_BS_NT:(C_BadSet==C_NoText)=false)(s_BO_NT:subIn K (.ref C_BadOrder) (.ref C_NoText)=some false)(n_BO_NT:(C_BadOrder==C_NoText)=false)(s_BP_NT:subIn K (.ref C_BadPrices) (.ref C_NoText)=some false)(n_BP_NT:(C_BadPrices==C_NoText)=false)(s_BB_NT:subIn K (.ref C_BadBoard) (.ref C_NoText)=some false)(n_BB_NT:(C_BadBoard==C_NoText)=false)(s_BD_NT:subIn K (.ref C_BadDeed) (.ref C_NoText)=some false)(n_BD_NT:(C_BadDeed==C_NoText)=false)(s_NW_NT:subIn K (.ref C_NotWood) (.ref C_NoText)=some false)(n_NW_NT:(C_NotWood==C_NoText)=false)(s_NP_NT:subIn K (.ref C_NoPaper) (.ref C_NoText)=some false)(n_NP_NT:(C_NoPaper==C_NoText)=false)(s_NS_NT:subIn K (.ref C_NoSuch) (.ref C_NoText)=some false)(n_NS_NT:(C_NoSuch==C_NoText)=false)(s_TM_NT:subIn K (.ref C_TooMany) (.ref C_NoText)=some false)(n_TM_NT:(C_TooMany==C_NoText)=false)(s_OR_NT:subIn K (.ref C_OddRound) (.ref C_NoText)=some false)(n_OR_NT:(C_OddRound==C_NoText)=false)(sN_NW:subIn K (.type "NoneType") (.ref C_NotWood)=some false)(s_BW_NW:subIn K (.ref C_BadWeb) (.ref C_NotWood)=some false)(n_BW_NW:(C_BadWeb==C_NotWood)=false)(s_BS_NW:subIn K (.ref C_BadSet) (.ref C_NotWood)=some false)(n_BS_NW:(C_BadSet==C_NotWood)=false)(s_BO_NW:subIn K (.ref C_BadOrder) (.ref C_NotWood)=some false)(n_BO_NW:(C_BadOrder==C_NotWood)=false)(s_BP_NW:subIn K (.ref C_BadPrices) (.ref C_NotWood)=some false)(n_BP_NW:(C_BadPrices==C_NotWood)=false)(s_BB_NW:subIn K (.ref C_BadBoard) (.ref C_NotWood)=some false)(n_BB_NW:(C_BadBoard==C_NotWood)=false)(s_BD_NW:subIn K (.ref C_BadDeed) (.ref C_NotWood)=some false)(n_BD_NW:(C_BadDeed==C_NotWood)=false)(s_NP_NW:subIn K (.ref C_NoPaper) (.ref C_NotWood)=some false)(n_NP_NW:(C_NoPaper==C_NotWood)=false)(s_NS_NW:subIn K (.ref C_NoSuch) (.ref C_NotWood)=some false)(n_NS_NW:(C_NoSuch==C_NotWood)=false)(s_TM_NW:subIn K (.ref C_TooMany) (.ref C_NotWood)=some false)(n_TM_NW:(C_TooMany==C_NotWood)=false)(s_NT_NW:subIn K (.ref C_NoText) (.ref C_NotWood)=some false)(n_NT_NW:(C_NoText==C_NotWood)=false)(s_OR_NW:subIn K (.ref C_OddRound) (.ref C_NotWood)=some false)(n_OR_NW:(C_OddRound==C_NotWood)=false)(sN_OR:subIn K (.type "NoneType") (.ref C_OddRound)=some false)(s_BW_OR:subIn K (.ref C_BadWeb) (.ref C_OddRound)=some false)(n_BW_OR:(C_BadWeb==C_OddRound)=false)(s_BS_OR:subIn K (.ref C_BadSet) (.ref C_OddRound)=some false)(n_BS_OR:(C_BadSet==C_OddRound)=false)(s_BO_OR:subIn K (.ref C_BadOrder) (.ref C_OddRound)=some false)(n_BO_OR:(C_BadOrder==C_OddRound)=false)(s_BP_OR:subIn K (.ref C_BadPrices) (.ref C_OddRound)=some false)(n_BP_OR:(C_BadPrices==C_OddRound)=false)(s_BB_OR:subIn K (.ref C_BadBoard) (.ref C_OddRound)=some false)(n_BB_OR:(C_BadBoard==C_OddRound)=false)(s_BD_OR:subIn K (.ref C_BadDeed) (.ref C_OddRound)=some false)(n_BD_OR:(C_BadDeed==C_OddRound)=false)(s_NW_OR:subIn K (.ref C_NotWood) (.ref C_OddRound)=some false)(n_NW_OR:(C_NotWood==C_OddRound)=false)(s_NP_OR:subIn K (.ref C_NoPaper) (.ref C_OddRound)=some false)(n_NP_OR:(C_NoPaper==C_OddRound)=false)(s_NS_OR:subIn K (.ref C_NoSuch) (.ref C_OddRound)=some false)(n_NS_OR:(C_NoSuch==C_OddRound)=false)(s_TM_OR:subIn K (.ref C_TooMany) (.ref C_OddRound)=some false)(n_TM_OR:(C_TooMany==C_OddRound)=false)(s_NT_OR:subIn K (.ref C_NoText) (.ref C_OddRound)=some false)(n_NT_OR:(C_NoText==C_OddRound)=false)(sN_TM:subIn K (.type "NoneType") (.ref C_TooMany)=some false)(s_BW_TM:subIn K (.ref C_BadWeb) (.ref C_TooMany)=some false)(n_BW_TM:(C_BadWeb==C_TooMany)=false)(s_BS_TM:subIn K (.ref C_BadSet) (.ref C_TooMany)=some false)(n_BS_TM:(C_BadSet==C_TooMany)=false)(s_BO_TM:subIn K (.ref C_BadOrder) (.ref C_TooMany)=some false)(n_BO_TM:(C_BadOrder==C_TooMany)=false)(s_BP_TM:subIn K (.ref C_BadPrices) (.ref C_TooMany)=some false)(n_BP_TM:(C_BadPrices==C_TooMany)=false)(s_BB_TM:subIn K (.ref C_BadBoard) (.ref C_TooMany)=some false)(n_BB_TM:(C_BadBoard==C_TooMany)=false)(s_BD_TM:subIn K (.ref C_BadDeed) (.ref C_TooMany)=some false)(n_BD_TM:(C_BadDeed==C_TooMany)=false)(s_NW_TM:subIn K (.ref C_NotWood) (.ref C_TooMany)=some false)(n_NW_TM:(C_NotWood==C_TooMany)=false)(s_NP_TM:subIn K (.ref C_NoPaper) (.ref C_TooMany)=some false)(n_NP_TM:(C_NoPaper==C_TooMany)=false)(s_NS_TM:subIn K (.ref C_NoSuch) (.ref C_TooMany)=some false)(n_NS_TM:(C_NoSuch==C_TooMany)=false)(s_NT_TM:subIn K (.ref C_NoText) (.ref C_TooMany)=some false)(n_NT_TM:(C_NoText==C_TooMany)=false)(s_OR_TM:subIn K (.ref C_OddRound) (.ref C_TooMany)=some false)(n_OR_TM:(C_OddRound==C_TooMany)=false)(sV_BW:subIn K (.ref C_BadWeb) (.type "ValueError")=some true)(sV_BS:subIn K (.ref C_BadSet) (.type "ValueError")=some true)(sV_BO:subIn K (.ref C_BadOrder) (.type "ValueError")=some true)(sV_BP:subIn K (.ref C_BadPrices) (.type "ValueError")=some true)(sV_BB:subIn K (.ref C_BadBoard) (.type "ValueError")=some true)(sV_BD:subIn K (.ref C_BadDeed) (.type "ValueError")=some true)(sV_NW:subIn K (.ref C_NotWood) (.type "ValueError")=some true)(sV_NP:subIn K (.ref C_NoPaper) (.type "ValueError")=some true)(sV_NS:subIn K (.ref C_NoSuch) (.type "ValueError")=some true)(sV_TM:subIn K (.ref C_TooMany) (.type "ValueError")=some true)(sV_NT:subIn K (.ref C_NoText) (.type "ValueError")=some true)(sV_OR:subIn K (.ref C_OddRound) (.type "ValueError")=some true)(q_BB:excIn K C_BadBoard [.type "ValueError",.type "Exception",.type "BaseException",.type "object"] "ValueError.__new__" = true)(q_BD:excIn K C_BadDeed [.type "ValueError",.type "Exception",.type "BaseException",.type "object"] "ValueError.__new__" = true)(q_BO:excIn K C_BadOrder [.type "ValueError",.type "Exception",.type "BaseException",.type "object"] "ValueError.__new__" = true)(q_BP:excIn K C_BadPrices [.type "ValueError",.type "Exception",.type "BaseException",.type "object"] "ValueError.__new__" = true)(q_BS:excIn K C_BadSet [.type "ValueError",.type "Exception",.type "BaseException",.type "object"] "ValueError.__new__" = true)(q_BW:excIn K C_BadWeb [.type "ValueError",.type "Exception",.type "BaseException",.type "object"] "ValueError.__new__" = true)(q_NP:excIn K C_NoPaper [.type "ValueError",.type "Exception",.type "BaseException",.type "object"] "ValueError.__new__" = true)(q_NS:excIn K C_NoSuch [.type "ValueError",.type "Exception",.type "BaseException",.type "object"] "ValueError.__new__" = true)(q_NT:excIn K C_NoText [.type "ValueError",.type "Exception",.type "BaseException",.type "object"] "ValueError.__new__" = true)(q_NW:excIn K C_NotWood [.type "ValueError",.type "Exception",.type "BaseException",.type "object"] "ValueError.__new__" = true)(q_OR:excIn K C_OddRound [.type "ValueError",.type "Exception",.type "BaseException",.type "object"] "ValueError.__new__" = true)(q_TM:excIn K C_TooMany [.type "ValueError",.type "Exception",.type "BaseException",.type "object"] "ValueError.__new__" = true)
 :∃fd:FuncData,(∀(s:aq) (v:ao),BindsTo s fd ⟨[v],[]⟩ [("script",v)])/\∀base:Heap,K.In base->base.Ns mainGlobals mg->cX l.prog w K mg base dX 12 fa fd ["script"] (pW K):=by
 have e:=hfa.symm.trans (mg_of X G a58);cases e;have F58:=al0 (st:=aZ 106) l58 c58 k58;have m58:=mg_of X G a58;have B:Bt mg:=⟨mg_none_of X G z_len,mg_none_of X G z_range,mg_none_of X G z_tuple,mg_none_of X G z_list,mg_none_of X G z_sorted,mg_none_of X G z_all,mg_none_of X G z_any,mg_none_of X G z_zip,mg_none_of X G z_min,mg_none_of X G z_max,mg_none_of X G z_sum,mg_none_of X G z_isinstance,mg_none_of X G z_int,mg_none_of X G z_bool,mg_none_of X G z_enumerate⟩;have rv:=mg_none_of X G z_reversed
 have kd_DEED_NUMBERS:KD l.prog w K mg "DEED_NUMBERS" (mH qK):=aN5 (mg_of X G zk) lkd ⟨rfl,rfl,rfl⟩ rfl skd (by
  subst hkd0 hkd1 hkd2 hkd3 hkd4
  exact aO1)
 have m_FIGURES:=mg_of X G z_FIGURESx;have m_MOST_FIGURES:=mg_of X G z_MOST_FIGURESx;have m_MOST_HEARTHS:=mg_of X G z_MOST_HEARTHSx;have m_MOST_ORDERED:=mg_of X G z_MOST_ORDEREDx;have m_MOST_ROWS:=mg_of X G z_MOST_ROWSx;have m_MOST_SEARCHED:=mg_of X G z_MOST_SEARCHEDx;have m_MOST_WANTED:=mg_of X G z_MOST_WANTEDx;have m_NONE_AT_ALL:=mg_of X G z_NONE_AT_ALLx;refine⟨fnOf "law" "law" (i3 (aZ 106)) (dW (aZ 106)) (aU (aZ 106)) .none kV58 dc58 pm58 an58 cd58 ct58,λs v=>.of_eq rfl,λbase KB _=>?_⟩;have XK_HearthError:eL K C_HearthError:=⟨y1_HE,y2_HE,y3_HE,y4_HE,y5_HE,y_fg,y_ft,y6_HE,y7_HE⟩;have XK_BadWeb:eL K C_BadWeb:=⟨y1_BW,y2_BW,y3_BW,y4_BW,y5_BW,y_fg,y_ft,y6_BW,y7_BW⟩;have XK_BadSet:eL K C_BadSet:=⟨y1_BS,y2_BS,y3_BS,y4_BS,y5_BS,y_fg,y_ft,y6_BS,y7_BS⟩;have XK_BadOrder:eL K C_BadOrder:=⟨y1_BO,y2_BO,y3_BO,y4_BO,y5_BO,y_fg,y_ft,y6_BO,y7_BO⟩;have XK_BadPrices:eL K C_BadPrices:=⟨y1_BP,y2_BP,y3_BP,y4_BP,y5_BP,y_fg,y_ft,y6_BP,y7_BP⟩;have XK_BadBoard:eL K C_BadBoard:=⟨y1_BB,y2_BB,y3_BB,y4_BB,y5_BB,y_fg,y_ft,y6_BB,y7_BB⟩;have XK_BadDeed:eL K C_BadDeed:=⟨y1_BD,y2_BD,y3_BD,y4_BD,y5_BD,y_fg,y_ft,y6_BD,y7_BD⟩;have XK_NotWood:eL K C_NotWood:=⟨y1_NW,y2_NW,y3_NW,y4_NW,y5_NW,y_fg,y_ft,y6_NW,y7_NW⟩;have XK_NoPaper:eL K C_NoPaper:=⟨y1_NP,y2_NP,y3_NP,y4_NP,y5_NP,y_fg,y_ft,y6_NP,y7_NP⟩;have XK_NoSuch:eL K C_NoSuch:=⟨y1_NS,y2_NS,y3_NS,y4_NS,y5_NS,y_fg,y_ft,y6_NS,y7_NS⟩;have XK_TooMany:eL K C_TooMany:=⟨y1_TM,y2_TM,y3_TM,y4_TM,y5_TM,y_fg,y_ft,y6_TM,y7_TM⟩;have XK_NoText:eL K C_NoText:=⟨y1_NT,y2_NT,y3_NT,y4_NT,y5_NT,y_fg,y_ft,y6_NT,y7_NT⟩;have XK_OddRound:eL K C_OddRound:=⟨y1_OR,y2_OR,y3_OR,y4_OR,y5_OR,y_fg,y_ft,y6_OR,y7_OR⟩
 have cat_HearthError:w4 K mg "HearthError":=⟨C_HearthError,mg_of X G aX_HE,⟨y1_HE,y2_HE,sB_HE⟩,λn C h2 h1=>by
  obtain⟨hm,hb⟩:=fI h2
  simp only[eS,be8,bf1,bi2]at hm;rcases hm with rfl|rfl|rfl|rfl|rfl|rfl|rfl|rfl|rfl|rfl|rfl|rfl
  ·rw[aX_BW]at h1;cases h1;exact s_BW_HE
  ·rw[aX_BS]at h1;cases h1;exact s_BS_HE
  ·rw[aX_BO]at h1;cases h1;exact s_BO_HE
  ·rw[aX_BP]at h1;cases h1;exact s_BP_HE
  ·rw[aX_BB]at h1;cases h1;exact s_BB_HE
  ·rw[aX_BD]at h1;cases h1;exact s_BD_HE
  ·rw[aX_NW]at h1;cases h1;exact s_NW_HE
  ·rw[aX_NP]at h1;cases h1;exact s_NP_HE
  ·rw[aX_NS]at h1;cases h1;exact s_NS_HE
  ·rw[aX_TM]at h1;cases h1;exact s_TM_HE
  ·rw[aX_NT]at h1;cases h1;exact s_NT_HE
  ·rw[aX_OR]at h1;cases h1;exact s_OR_HE⟩
 have is_BadBoard:cS K mg "BadBoard":=⟨C_BadBoard,mg_of X G aX_BB,λz=>(by cases z),(λn C b h1 h2=>by
  obtain⟨hm,hb⟩:=fI h2
  simp only[eS,be8,bf1,bi2]at hm;rcases hm with rfl|rfl|rfl|rfl|rfl|rfl|rfl|rfl|rfl|rfl|rfl|rfl
  ·rw[aX_BW]at h1;cases h1;rw[hb,show (("BadWeb":Str)=="BadBoard"||("BadBoard":Str)=="HearthError"||("BadBoard":Str)=="ValueError")=false by decide];exact⟨XK_BadWeb.exc,aJ XK_BadBoard n_BW_BB s_BW_BB⟩
  ·rw[aX_BS]at h1;cases h1;rw[hb,show (("BadSet":Str)=="BadBoard"||("BadBoard":Str)=="HearthError"||("BadBoard":Str)=="ValueError")=false by decide];exact⟨XK_BadSet.exc,aJ XK_BadBoard n_BS_BB s_BS_BB⟩
  ·rw[aX_BO]at h1;cases h1;rw[hb,show (("BadOrder":Str)=="BadBoard"||("BadBoard":Str)=="HearthError"||("BadBoard":Str)=="ValueError")=false by decide];exact⟨XK_BadOrder.exc,aJ XK_BadBoard n_BO_BB s_BO_BB⟩
  ·rw[aX_BP]at h1;cases h1;rw[hb,show (("BadPrices":Str)=="BadBoard"||("BadBoard":Str)=="HearthError"||("BadBoard":Str)=="ValueError")=false by decide];exact⟨XK_BadPrices.exc,aJ XK_BadBoard n_BP_BB s_BP_BB⟩
  ·rw[aX_BB]at h1;cases h1;rw[hb,show (("BadBoard":Str)=="BadBoard"||("BadBoard":Str)=="HearthError"||("BadBoard":Str)=="ValueError")=true by decide];exact⟨XK_BadBoard.exc,gK⟩
  ·rw[aX_BD]at h1;cases h1;rw[hb,show (("BadDeed":Str)=="BadBoard"||("BadBoard":Str)=="HearthError"||("BadBoard":Str)=="ValueError")=false by decide];exact⟨XK_BadDeed.exc,aJ XK_BadBoard n_BD_BB s_BD_BB⟩
  ·rw[aX_NW]at h1;cases h1;rw[hb,show (("NotWood":Str)=="BadBoard"||("BadBoard":Str)=="HearthError"||("BadBoard":Str)=="ValueError")=false by decide];exact⟨XK_NotWood.exc,aJ XK_BadBoard n_NW_BB s_NW_BB⟩
  ·rw[aX_NP]at h1;cases h1;rw[hb,show (("NoPaper":Str)=="BadBoard"||("BadBoard":Str)=="HearthError"||("BadBoard":Str)=="ValueError")=false by decide];exact⟨XK_NoPaper.exc,aJ XK_BadBoard n_NP_BB s_NP_BB⟩
  ·rw[aX_NS]at h1;cases h1;rw[hb,show (("NoSuch":Str)=="BadBoard"||("BadBoard":Str)=="HearthError"||("BadBoard":Str)=="ValueError")=false by decide];exact⟨XK_NoSuch.exc,aJ XK_BadBoard n_NS_BB s_NS_BB⟩
  ·rw[aX_TM]at h1;cases h1;rw[hb,show (("TooMany":Str)=="BadBoard"||("BadBoard":Str)=="HearthError"||("BadBoard":Str)=="ValueError")=false by decide];exact⟨XK_TooMany.exc,aJ XK_BadBoard n_TM_BB s_TM_BB⟩
  ·rw[aX_NT]at h1;cases h1;rw[hb,show (("NoText":Str)=="BadBoard"||("BadBoard":Str)=="HearthError"||("BadBoard":Str)=="ValueError")=false by decide];exact⟨XK_NoText.exc,aJ XK_BadBoard n_NT_BB s_NT_BB⟩
  ·rw[aX_OR]at h1;cases h1;rw[hb,show (("OddRound":Str)=="BadBoard"||("BadBoard":Str)=="HearthError"||("BadBoard":Str)=="ValueError")=false by decide];exact⟨XK_OddRound.exc,aJ XK_BadBoard n_OR_BB s_OR_BB⟩),gM XK_BadBoard sN_BB⟩
 have is_BadDeed:cS K mg "BadDeed":=⟨C_BadDeed,mg_of X G aX_BD,λz=>(by cases z),(λn C b h1 h2=>by
  obtain⟨hm,hb⟩:=fI h2
  simp only[eS,be8,bf1,bi2]at hm;rcases hm with rfl|rfl|rfl|rfl|rfl|rfl|rfl|rfl|rfl|rfl|rfl|rfl
  ·rw[aX_BW]at h1;cases h1;rw[hb,show (("BadWeb":Str)=="BadDeed"||("BadDeed":Str)=="HearthError"||("BadDeed":Str)=="ValueError")=false by decide];exact⟨XK_BadWeb.exc,aJ XK_BadDeed n_BW_BD s_BW_BD⟩
  ·rw[aX_BS]at h1;cases h1;rw[hb,show (("BadSet":Str)=="BadDeed"||("BadDeed":Str)=="HearthError"||("BadDeed":Str)=="ValueError")=false by decide];exact⟨XK_BadSet.exc,aJ XK_BadDeed n_BS_BD s_BS_BD⟩
  ·rw[aX_BO]at h1;cases h1;rw[hb,show (("BadOrder":Str)=="BadDeed"||("BadDeed":Str)=="HearthError"||("BadDeed":Str)=="ValueError")=false by decide];exact⟨XK_BadOrder.exc,aJ XK_BadDeed n_BO_BD s_BO_BD⟩
  ·rw[aX_BP]at h1;cases h1;rw[hb,show (("BadPrices":Str)=="BadDeed"||("BadDeed":Str)=="HearthError"||("BadDeed":Str)=="ValueError")=false by decide];exact⟨XK_BadPrices.exc,aJ XK_BadDeed n_BP_BD s_BP_BD⟩
  ·rw[aX_BB]at h1;cases h1;rw[hb,show (("BadBoard":Str)=="BadDeed"||("BadDeed":Str)=="HearthError"||("BadDeed":Str)=="ValueError")=false by decide];exact⟨XK_BadBoard.exc,aJ XK_BadDeed n_BB_BD s_BB_BD⟩
  ·rw[aX_BD]at h1;cases h1;rw[hb,show (("BadDeed":Str)=="BadDeed"||("BadDeed":Str)=="HearthError"||("BadDeed":Str)=="ValueError")=true by decide];exact⟨XK_BadDeed.exc,gK⟩
  ·rw[aX_NW]at h1;cases h1;rw[hb,show (("NotWood":Str)=="BadDeed"||("BadDeed":Str)=="HearthError"||("BadDeed":Str)=="ValueError")=false by decide];exact⟨XK_NotWood.exc,aJ XK_BadDeed n_NW_BD s_NW_BD⟩
  ·rw[aX_NP]at h1;cases h1;rw[hb,show (("NoPaper":Str)=="BadDeed"||("BadDeed":Str)=="HearthError"||("BadDeed":Str)=="ValueError")=false by decide];exact⟨XK_NoPaper.exc,aJ XK_BadDeed n_NP_BD s_NP_BD⟩
  ·rw[aX_NS]at h1;cases h1;rw[hb,show (("NoSuch":Str)=="BadDeed"||("BadDeed":Str)=="HearthError"||("BadDeed":Str)=="ValueError")=false by decide];exact⟨XK_NoSuch.exc,aJ XK_BadDeed n_NS_BD s_NS_BD⟩
  ·rw[aX_TM]at h1;cases h1;rw[hb,show (("TooMany":Str)=="BadDeed"||("BadDeed":Str)=="HearthError"||("BadDeed":Str)=="ValueError")=false by decide];exact⟨XK_TooMany.exc,aJ XK_BadDeed n_TM_BD s_TM_BD⟩
  ·rw[aX_NT]at h1;cases h1;rw[hb,show (("NoText":Str)=="BadDeed"||("BadDeed":Str)=="HearthError"||("BadDeed":Str)=="ValueError")=false by decide];exact⟨XK_NoText.exc,aJ XK_BadDeed n_NT_BD s_NT_BD⟩
  ·rw[aX_OR]at h1;cases h1;rw[hb,show (("OddRound":Str)=="BadDeed"||("BadDeed":Str)=="HearthError"||("BadDeed":Str)=="ValueError")=false by decide];exact⟨XK_OddRound.exc,aJ XK_BadDeed n_OR_BD s_OR_BD⟩),gM XK_BadDeed sN_BD⟩
 have is_BadOrder:cS K mg "BadOrder":=⟨C_BadOrder,mg_of X G aX_BO,λz=>(by cases z),(λn C b h1 h2=>by
  obtain⟨hm,hb⟩:=fI h2
  simp only[eS,be8,bf1,bi2]at hm;rcases hm with rfl|rfl|rfl|rfl|rfl|rfl|rfl|rfl|rfl|rfl|rfl|rfl
  ·rw[aX_BW]at h1;cases h1;rw[hb,show (("BadWeb":Str)=="BadOrder"||("BadOrder":Str)=="HearthError"||("BadOrder":Str)=="ValueError")=false by decide];exact⟨XK_BadWeb.exc,aJ XK_BadOrder n_BW_BO s_BW_BO⟩
  ·rw[aX_BS]at h1;cases h1;rw[hb,show (("BadSet":Str)=="BadOrder"||("BadOrder":Str)=="HearthError"||("BadOrder":Str)=="ValueError")=false by decide];exact⟨XK_BadSet.exc,aJ XK_BadOrder n_BS_BO s_BS_BO⟩
  ·rw[aX_BO]at h1;cases h1;rw[hb,show (("BadOrder":Str)=="BadOrder"||("BadOrder":Str)=="HearthError"||("BadOrder":Str)=="ValueError")=true by decide];exact⟨XK_BadOrder.exc,gK⟩
  ·rw[aX_BP]at h1;cases h1;rw[hb,show (("BadPrices":Str)=="BadOrder"||("BadOrder":Str)=="HearthError"||("BadOrder":Str)=="ValueError")=false by decide];exact⟨XK_BadPrices.exc,aJ XK_BadOrder n_BP_BO s_BP_BO⟩
  ·rw[aX_BB]at h1;cases h1;rw[hb,show (("BadBoard":Str)=="BadOrder"||("BadOrder":Str)=="HearthError"||("BadOrder":Str)=="ValueError")=false by decide];exact⟨XK_BadBoard.exc,aJ XK_BadOrder n_BB_BO s_BB_BO⟩
  ·rw[aX_BD]at h1;cases h1;rw[hb,show (("BadDeed":Str)=="BadOrder"||("BadOrder":Str)=="HearthError"||("BadOrder":Str)=="ValueError")=false by decide];exact⟨XK_BadDeed.exc,aJ XK_BadOrder n_BD_BO s_BD_BO⟩
  ·rw[aX_NW]at h1;cases h1;rw[hb,show (("NotWood":Str)=="BadOrder"||("BadOrder":Str)=="HearthError"||("BadOrder":Str)=="ValueError")=false by decide];exact⟨XK_NotWood.exc,aJ XK_BadOrder n_NW_BO s_NW_BO⟩
  ·rw[aX_NP]at h1;cases h1;rw[hb,show (("NoPaper":Str)=="BadOrder"||("BadOrder":Str)=="HearthError"||("BadOrder":Str)=="ValueError")=false by decide];exact⟨XK_NoPaper.exc,aJ XK_BadOrder n_NP_BO s_NP_BO⟩
  ·rw[aX_NS]at h1;cases h1;rw[hb,show (("NoSuch":Str)=="BadOrder"||("BadOrder":Str)=="HearthError"||("BadOrder":Str)=="ValueError")=false by decide];exact⟨XK_NoSuch.exc,aJ XK_BadOrder n_NS_BO s_NS_BO⟩
  ·rw[aX_TM]at h1;cases h1;rw[hb,show (("TooMany":Str)=="BadOrder"||("BadOrder":Str)=="HearthError"||("BadOrder":Str)=="ValueError")=false by decide];exact⟨XK_TooMany.exc,aJ XK_BadOrder n_TM_BO s_TM_BO⟩
  ·rw[aX_NT]at h1;cases h1;rw[hb,show (("NoText":Str)=="BadOrder"||("BadOrder":Str)=="HearthError"||("BadOrder":Str)=="ValueError")=false by decide];exact⟨XK_NoText.exc,aJ XK_BadOrder n_NT_BO s_NT_BO⟩
  ·rw[aX_OR]at h1;cases h1;rw[hb,show (("OddRound":Str)=="BadOrder"||("BadOrder":Str)=="HearthError"||("BadOrder":Str)=="ValueError")=false by decide];exact⟨XK_OddRound.exc,aJ XK_BadOrder n_OR_BO s_OR_BO⟩),gM XK_BadOrder sN_BO⟩
 have is_BadPrices:cS K mg "BadPrices":=⟨C_BadPrices,mg_of X G aX_BP,λz=>(by cases z),(λn C b h1 h2=>by
  obtain⟨hm,hb⟩:=fI h2
  simp only[eS,be8,bf1,bi2]at hm;rcases hm with rfl|rfl|rfl|rfl|rfl|rfl|rfl|rfl|rfl|rfl|rfl|rfl
  ·rw[aX_BW]at h1;cases h1;rw[hb,show (("BadWeb":Str)=="BadPrices"||("BadPrices":Str)=="HearthError"||("BadPrices":Str)=="ValueError")=false by decide];exact⟨XK_BadWeb.exc,aJ XK_BadPrices n_BW_BP s_BW_BP⟩
  ·rw[aX_BS]at h1;cases h1;rw[hb,show (("BadSet":Str)=="BadPrices"||("BadPrices":Str)=="HearthError"||("BadPrices":Str)=="ValueError")=false by decide];exact⟨XK_BadSet.exc,aJ XK_BadPrices n_BS_BP s_BS_BP⟩
  ·rw[aX_BO]at h1;cases h1;rw[hb,show (("BadOrder":Str)=="BadPrices"||("BadPrices":Str)=="HearthError"||("BadPrices":Str)=="ValueError")=false by decide];exact⟨XK_BadOrder.exc,aJ XK_BadPrices n_BO_BP s_BO_BP⟩
  ·rw[aX_BP]at h1;cases h1;rw[hb,show (("BadPrices":Str)=="BadPrices"||("BadPrices":Str)=="HearthError"||("BadPrices":Str)=="ValueError")=true by decide];exact⟨XK_BadPrices.exc,gK⟩
  ·rw[aX_BB]at h1;cases h1;rw[hb,show (("BadBoard":Str)=="BadPrices"||("BadPrices":Str)=="HearthError"||("BadPrices":Str)=="ValueError")=false by decide];exact⟨XK_BadBoard.exc,aJ XK_BadPrices n_BB_BP s_BB_BP⟩
  ·rw[aX_BD]at h1;cases h1;rw[hb,show (("BadDeed":Str)=="BadPrices"||("BadPrices":Str)=="HearthError"||("BadPrices":Str)=="ValueError")=false by decide];exact⟨XK_BadDeed.exc,aJ XK_BadPrices n_BD_BP s_BD_BP⟩
  ·rw[aX_NW]at h1;cases h1;rw[hb,show (("NotWood":Str)=="BadPrices"||("BadPrices":Str)=="HearthError"||("BadPrices":Str)=="ValueError")=false by decide];exact⟨XK_NotWood.exc,aJ XK_BadPrices n_NW_BP s_NW_BP⟩
  ·rw[aX_NP]at h1;cases h1;rw[hb,show (("NoPaper":Str)=="BadPrices"||("BadPrices":Str)=="HearthError"||("BadPrices":Str)=="ValueError")=false by decide];exact⟨XK_NoPaper.exc,aJ XK_BadPrices n_NP_BP s_NP_BP⟩
  ·rw[aX_NS]at h1;cases h1;rw[hb,show (("NoSuch":Str)=="BadPrices"||("BadPrices":Str)=="HearthError"||("BadPrices":Str)=="ValueError")=false by decide];exact⟨XK_NoSuch.exc,aJ XK_BadPrices n_NS_BP s_NS_BP⟩
  ·rw[aX_TM]at h1;cases h1;rw[hb,show (("TooMany":Str)=="BadPrices"||("BadPrices":Str)=="HearthError"||("BadPrices":Str)=="ValueError")=false by decide];exact⟨XK_TooMany.exc,aJ XK_BadPrices n_TM_BP s_TM_BP⟩
  ·rw[aX_NT]at h1;cases h1;rw[hb,show (("NoText":Str)=="BadPrices"||("BadPrices":Str)=="HearthError"||("BadPrices":Str)=="ValueError")=false by decide];exact⟨XK_NoText.exc,aJ XK_BadPrices n_NT_BP s_NT_BP⟩
  ·rw[aX_OR]at h1;cases h1;rw[hb,show (("OddRound":Str)=="BadPrices"||("BadPrices":Str)=="HearthError"||("BadPrices":Str)=="ValueError")=false by decide];exact⟨XK_OddRound.exc,aJ XK_BadPrices n_OR_BP s_OR_BP⟩),gM XK_BadPrices sN_BP⟩
 have is_BadSet:cS K mg "BadSet":=⟨C_BadSet,mg_of X G aX_BS,λz=>(by cases z),(λn C b h1 h2=>by
  obtain⟨hm,hb⟩:=fI h2
  simp only[eS,be8,bf1,bi2]at hm;rcases hm with rfl|rfl|rfl|rfl|rfl|rfl|rfl|rfl|rfl|rfl|rfl|rfl
  ·rw[aX_BW]at h1;cases h1;rw[hb,show (("BadWeb":Str)=="BadSet"||("BadSet":Str)=="HearthError"||("BadSet":Str)=="ValueError")=false by decide];exact⟨XK_BadWeb.exc,aJ XK_BadSet n_BW_BS s_BW_BS⟩
  ·rw[aX_BS]at h1;cases h1;rw[hb,show (("BadSet":Str)=="BadSet"||("BadSet":Str)=="HearthError"||("BadSet":Str)=="ValueError")=true by decide];exact⟨XK_BadSet.exc,gK⟩
  ·rw[aX_BO]at h1;cases h1;rw[hb,show (("BadOrder":Str)=="BadSet"||("BadSet":Str)=="HearthError"||("BadSet":Str)=="ValueError")=false by decide];exact⟨XK_BadOrder.exc,aJ XK_BadSet n_BO_BS s_BO_BS⟩
  ·rw[aX_BP]at h1;cases h1;rw[hb,show (("BadPrices":Str)=="BadSet"||("BadSet":Str)=="HearthError"||("BadSet":Str)=="ValueError")=false by decide];exact⟨XK_BadPrices.exc,aJ XK_BadSet n_BP_BS s_BP_BS⟩
  ·rw[aX_BB]at h1;cases h1;rw[hb,show (("BadBoard":Str)=="BadSet"||("BadSet":Str)=="HearthError"||("BadSet":Str)=="ValueError")=false by decide];exact⟨XK_BadBoard.exc,aJ XK_BadSet n_BB_BS s_BB_BS⟩
  ·rw[aX_BD]at h1;cases h1;rw[hb,show (("BadDeed":Str)=="BadSet"||("BadSet":Str)=="HearthError"||("BadSet":Str)=="ValueError")=false by decide];exact⟨XK_BadDeed.exc,aJ XK_BadSet n_BD_BS s_BD_BS⟩
  ·rw[aX_NW]at h1;cases h1;rw[hb,show (("NotWood":Str)=="BadSet"||("BadSet":Str)=="HearthError"||("BadSet":Str)=="ValueError")=false by decide];exact⟨XK_NotWood.exc,aJ XK_BadSet n_NW_BS s_NW_BS⟩
  ·rw[aX_NP]at h1;cases h1;rw[hb,show (("NoPaper":Str)=="BadSet"||("BadSet":Str)=="HearthError"||("BadSet":Str)=="ValueError")=false by decide];exact⟨XK_NoPaper.exc,aJ XK_BadSet n_NP_BS s_NP_BS⟩
  ·rw[aX_NS]at h1;cases h1;rw[hb,show (("NoSuch":Str)=="BadSet"||("BadSet":Str)=="HearthError"||("BadSet":Str)=="ValueError")=false by decide];exact⟨XK_NoSuch.exc,aJ XK_BadSet n_NS_BS s_NS_BS⟩
  ·rw[aX_TM]at h1;cases h1;rw[hb,show (("TooMany":Str)=="BadSet"||("BadSet":Str)=="HearthError"||("BadSet":Str)=="ValueError")=false by decide];exact⟨XK_TooMany.exc,aJ XK_BadSet n_TM_BS s_TM_BS⟩
  ·rw[aX_NT]at h1;cases h1;rw[hb,show (("NoText":Str)=="BadSet"||("BadSet":Str)=="HearthError"||("BadSet":Str)=="ValueError")=false by decide];exact⟨XK_NoText.exc,aJ XK_BadSet n_NT_BS s_NT_BS⟩
  ·rw[aX_OR]at h1;cases h1;rw[hb,show (("OddRound":Str)=="BadSet"||("BadSet":Str)=="HearthError"||("BadSet":Str)=="ValueError")=false by decide];exact⟨XK_OddRound.exc,aJ XK_BadSet n_OR_BS s_OR_BS⟩),gM XK_BadSet sN_BS⟩
 have is_BadWeb:cS K mg "BadWeb":=⟨C_BadWeb,mg_of X G aX_BW,λz=>(by cases z),(λn C b h1 h2=>by
  obtain⟨hm,hb⟩:=fI h2
  simp only[eS,be8,bf1,bi2]at hm;rcases hm with rfl|rfl|rfl|rfl|rfl|rfl|rfl|rfl|rfl|rfl|rfl|rfl
  ·rw[aX_BW]at h1;cases h1;rw[hb,show (("BadWeb":Str)=="BadWeb"||("BadWeb":Str)=="HearthError"||("BadWeb":Str)=="ValueError")=true by decide];exact⟨XK_BadWeb.exc,gK⟩
  ·rw[aX_BS]at h1;cases h1;rw[hb,show (("BadSet":Str)=="BadWeb"||("BadWeb":Str)=="HearthError"||("BadWeb":Str)=="ValueError")=false by decide];exact⟨XK_BadSet.exc,aJ XK_BadWeb n_BS_BW s_BS_BW⟩
  ·rw[aX_BO]at h1;cases h1;rw[hb,show (("BadOrder":Str)=="BadWeb"||("BadWeb":Str)=="HearthError"||("BadWeb":Str)=="ValueError")=false by decide];exact⟨XK_BadOrder.exc,aJ XK_BadWeb n_BO_BW s_BO_BW⟩
  ·rw[aX_BP]at h1;cases h1;rw[hb,show (("BadPrices":Str)=="BadWeb"||("BadWeb":Str)=="HearthError"||("BadWeb":Str)=="ValueError")=false by decide];exact⟨XK_BadPrices.exc,aJ XK_BadWeb n_BP_BW s_BP_BW⟩
  ·rw[aX_BB]at h1;cases h1;rw[hb,show (("BadBoard":Str)=="BadWeb"||("BadWeb":Str)=="HearthError"||("BadWeb":Str)=="ValueError")=false by decide];exact⟨XK_BadBoard.exc,aJ XK_BadWeb n_BB_BW s_BB_BW⟩
  ·rw[aX_BD]at h1;cases h1;rw[hb,show (("BadDeed":Str)=="BadWeb"||("BadWeb":Str)=="HearthError"||("BadWeb":Str)=="ValueError")=false by decide];exact⟨XK_BadDeed.exc,aJ XK_BadWeb n_BD_BW s_BD_BW⟩
  ·rw[aX_NW]at h1;cases h1;rw[hb,show (("NotWood":Str)=="BadWeb"||("BadWeb":Str)=="HearthError"||("BadWeb":Str)=="ValueError")=false by decide];exact⟨XK_NotWood.exc,aJ XK_BadWeb n_NW_BW s_NW_BW⟩
  ·rw[aX_NP]at h1;cases h1;rw[hb,show (("NoPaper":Str)=="BadWeb"||("BadWeb":Str)=="HearthError"||("BadWeb":Str)=="ValueError")=false by decide];exact⟨XK_NoPaper.exc,aJ XK_BadWeb n_NP_BW s_NP_BW⟩
  ·rw[aX_NS]at h1;cases h1;rw[hb,show (("NoSuch":Str)=="BadWeb"||("BadWeb":Str)=="HearthError"||("BadWeb":Str)=="ValueError")=false by decide];exact⟨XK_NoSuch.exc,aJ XK_BadWeb n_NS_BW s_NS_BW⟩
  ·rw[aX_TM]at h1;cases h1;rw[hb,show (("TooMany":Str)=="BadWeb"||("BadWeb":Str)=="HearthError"||("BadWeb":Str)=="ValueError")=false by decide];exact⟨XK_TooMany.exc,aJ XK_BadWeb n_TM_BW s_TM_BW⟩
  ·rw[aX_NT]at h1;cases h1;rw[hb,show (("NoText":Str)=="BadWeb"||("BadWeb":Str)=="HearthError"||("BadWeb":Str)=="ValueError")=false by decide];exact⟨XK_NoText.exc,aJ XK_BadWeb n_NT_BW s_NT_BW⟩
  ·rw[aX_OR]at h1;cases h1;rw[hb,show (("OddRound":Str)=="BadWeb"||("BadWeb":Str)=="HearthError"||("BadWeb":Str)=="ValueError")=false by decide];exact⟨XK_OddRound.exc,aJ XK_BadWeb n_OR_BW s_OR_BW⟩),gM XK_BadWeb sN_BW⟩
 have is_NoPaper:cS K mg "NoPaper":=⟨C_NoPaper,mg_of X G aX_NP,λz=>(by cases z),(λn C b h1 h2=>by
  obtain⟨hm,hb⟩:=fI h2
  simp only[eS,be8,bf1,bi2]at hm;rcases hm with rfl|rfl|rfl|rfl|rfl|rfl|rfl|rfl|rfl|rfl|rfl|rfl
  ·rw[aX_BW]at h1;cases h1;rw[hb,show (("BadWeb":Str)=="NoPaper"||("NoPaper":Str)=="HearthError"||("NoPaper":Str)=="ValueError")=false by decide];exact⟨XK_BadWeb.exc,aJ XK_NoPaper n_BW_NP s_BW_NP⟩
  ·rw[aX_BS]at h1;cases h1;rw[hb,show (("BadSet":Str)=="NoPaper"||("NoPaper":Str)=="HearthError"||("NoPaper":Str)=="ValueError")=false by decide];exact⟨XK_BadSet.exc,aJ XK_NoPaper n_BS_NP s_BS_NP⟩
  ·rw[aX_BO]at h1;cases h1;rw[hb,show (("BadOrder":Str)=="NoPaper"||("NoPaper":Str)=="HearthError"||("NoPaper":Str)=="ValueError")=false by decide];exact⟨XK_BadOrder.exc,aJ XK_NoPaper n_BO_NP s_BO_NP⟩
  ·rw[aX_BP]at h1;cases h1;rw[hb,show (("BadPrices":Str)=="NoPaper"||("NoPaper":Str)=="HearthError"||("NoPaper":Str)=="ValueError")=false by decide];exact⟨XK_BadPrices.exc,aJ XK_NoPaper n_BP_NP s_BP_NP⟩
  ·rw[aX_BB]at h1;cases h1;rw[hb,show (("BadBoard":Str)=="NoPaper"||("NoPaper":Str)=="HearthError"||("NoPaper":Str)=="ValueError")=false by decide];exact⟨XK_BadBoard.exc,aJ XK_NoPaper n_BB_NP s_BB_NP⟩
  ·rw[aX_BD]at h1;cases h1;rw[hb,show (("BadDeed":Str)=="NoPaper"||("NoPaper":Str)=="HearthError"||("NoPaper":Str)=="ValueError")=false by decide];exact⟨XK_BadDeed.exc,aJ XK_NoPaper n_BD_NP s_BD_NP⟩
  ·rw[aX_NW]at h1;cases h1;rw[hb,show (("NotWood":Str)=="NoPaper"||("NoPaper":Str)=="HearthError"||("NoPaper":Str)=="ValueError")=false by decide];exact⟨XK_NotWood.exc,aJ XK_NoPaper n_NW_NP s_NW_NP⟩
  ·rw[aX_NP]at h1;cases h1;rw[hb,show (("NoPaper":Str)=="NoPaper"||("NoPaper":Str)=="HearthError"||("NoPaper":Str)=="ValueError")=true by decide];exact⟨XK_NoPaper.exc,gK⟩
  ·rw[aX_NS]at h1;cases h1;rw[hb,show (("NoSuch":Str)=="NoPaper"||("NoPaper":Str)=="HearthError"||("NoPaper":Str)=="ValueError")=false by decide];exact⟨XK_NoSuch.exc,aJ XK_NoPaper n_NS_NP s_NS_NP⟩
  ·rw[aX_TM]at h1;cases h1;rw[hb,show (("TooMany":Str)=="NoPaper"||("NoPaper":Str)=="HearthError"||("NoPaper":Str)=="ValueError")=false by decide];exact⟨XK_TooMany.exc,aJ XK_NoPaper n_TM_NP s_TM_NP⟩
  ·rw[aX_NT]at h1;cases h1;rw[hb,show (("NoText":Str)=="NoPaper"||("NoPaper":Str)=="HearthError"||("NoPaper":Str)=="ValueError")=false by decide];exact⟨XK_NoText.exc,aJ XK_NoPaper n_NT_NP s_NT_NP⟩
  ·rw[aX_OR]at h1;cases h1;rw[hb,show (("OddRound":Str)=="NoPaper"||("NoPaper":Str)=="HearthError"||("NoPaper":Str)=="ValueError")=false by decide];exact⟨XK_OddRound.exc,aJ XK_NoPaper n_OR_NP s_OR_NP⟩),gM XK_NoPaper sN_NP⟩
 have is_NoSuch:cS K mg "NoSuch":=⟨C_NoSuch,mg_of X G aX_NS,λz=>(by cases z),(λn C b h1 h2=>by
  obtain⟨hm,hb⟩:=fI h2
  simp only[eS,be8,bf1,bi2]at hm;rcases hm with rfl|rfl|rfl|rfl|rfl|rfl|rfl|rfl|rfl|rfl|rfl|rfl
  ·rw[aX_BW]at h1;cases h1;rw[hb,show (("BadWeb":Str)=="NoSuch"||("NoSuch":Str)=="HearthError"||("NoSuch":Str)=="ValueError")=false by decide];exact⟨XK_BadWeb.exc,aJ XK_NoSuch n_BW_NS s_BW_NS⟩
  ·rw[aX_BS]at h1;cases h1;rw[hb,show (("BadSet":Str)=="NoSuch"||("NoSuch":Str)=="HearthError"||("NoSuch":Str)=="ValueError")=false by decide];exact⟨XK_BadSet.exc,aJ XK_NoSuch n_BS_NS s_BS_NS⟩
  ·rw[aX_BO]at h1;cases h1;rw[hb,show (("BadOrder":Str)=="NoSuch"||("NoSuch":Str)=="HearthError"||("NoSuch":Str)=="ValueError")=false by decide];exact⟨XK_BadOrder.exc,aJ XK_NoSuch n_BO_NS s_BO_NS⟩
  ·rw[aX_BP]at h1;cases h1;rw[hb,show (("BadPrices":Str)=="NoSuch"||("NoSuch":Str)=="HearthError"||("NoSuch":Str)=="ValueError")=false by decide];exact⟨XK_BadPrices.exc,aJ XK_NoSuch n_BP_NS s_BP_NS⟩
  ·rw[aX_BB]at h1;cases h1;rw[hb,show (("BadBoard":Str)=="NoSuch"||("NoSuch":Str)=="HearthError"||("NoSuch":Str)=="ValueError")=false by decide];exact⟨XK_BadBoard.exc,aJ XK_NoSuch n_BB_NS s_BB_NS⟩
  ·rw[aX_BD]at h1;cases h1;rw[hb,show (("BadDeed":Str)=="NoSuch"||("NoSuch":Str)=="HearthError"||("NoSuch":Str)=="ValueError")=false by decide];exact⟨XK_BadDeed.exc,aJ XK_NoSuch n_BD_NS s_BD_NS⟩
  ·rw[aX_NW]at h1;cases h1;rw[hb,show (("NotWood":Str)=="NoSuch"||("NoSuch":Str)=="HearthError"||("NoSuch":Str)=="ValueError")=false by decide];exact⟨XK_NotWood.exc,aJ XK_NoSuch n_NW_NS s_NW_NS⟩
  ·rw[aX_NP]at h1;cases h1;rw[hb,show (("NoPaper":Str)=="NoSuch"||("NoSuch":Str)=="HearthError"||("NoSuch":Str)=="ValueError")=false by decide];exact⟨XK_NoPaper.exc,aJ XK_NoSuch n_NP_NS s_NP_NS⟩
  ·rw[aX_NS]at h1;cases h1;rw[hb,show (("NoSuch":Str)=="NoSuch"||("NoSuch":Str)=="HearthError"||("NoSuch":Str)=="ValueError")=true by decide];exact⟨XK_NoSuch.exc,gK⟩
  ·rw[aX_TM]at h1;cases h1;rw[hb,show (("TooMany":Str)=="NoSuch"||("NoSuch":Str)=="HearthError"||("NoSuch":Str)=="ValueError")=false by decide];exact⟨XK_TooMany.exc,aJ XK_NoSuch n_TM_NS s_TM_NS⟩
  ·rw[aX_NT]at h1;cases h1;rw[hb,show (("NoText":Str)=="NoSuch"||("NoSuch":Str)=="HearthError"||("NoSuch":Str)=="ValueError")=false by decide];exact⟨XK_NoText.exc,aJ XK_NoSuch n_NT_NS s_NT_NS⟩
  ·rw[aX_OR]at h1;cases h1;rw[hb,show (("OddRound":Str)=="NoSuch"||("NoSuch":Str)=="HearthError"||("NoSuch":Str)=="ValueError")=false by decide];exact⟨XK_OddRound.exc,aJ XK_NoSuch n_OR_NS s_OR_NS⟩),gM XK_NoSuch sN_NS⟩
 have is_NoText:cS K mg "NoText":=⟨C_NoText,mg_of X G aX_NT,λz=>(by cases z),(λn C b h1 h2=>by
  obtain⟨hm,hb⟩:=fI h2
  simp only[eS,be8,bf1,bi2]at hm;rcases hm with rfl|rfl|rfl|rfl|rfl|rfl|rfl|rfl|rfl|rfl|rfl|rfl
  ·rw[aX_BW]at h1;cases h1;rw[hb,show (("BadWeb":Str)=="NoText"||("NoText":Str)=="HearthError"||("NoText":Str)=="ValueError")=false by decide];exact⟨XK_BadWeb.exc,aJ XK_NoText n_BW_NT s_BW_NT⟩
  ·rw[aX_BS]at h1;cases h1;rw[hb,show (("BadSet":Str)=="NoText"||("NoText":Str)=="HearthError"||("NoText":Str)=="ValueError")=false by decide];exact⟨XK_BadSet.exc,aJ XK_NoText n_BS_NT s_BS_NT⟩
  ·rw[aX_BO]at h1;cases h1;rw[hb,show (("BadOrder":Str)=="NoText"||("NoText":Str)=="HearthError"||("NoText":Str)=="ValueError")=false by decide];exact⟨XK_BadOrder.exc,aJ XK_NoText n_BO_NT s_BO_NT⟩
  ·rw[aX_BP]at h1;cases h1;rw[hb,show (("BadPrices":Str)=="NoText"||("NoText":Str)=="HearthError"||("NoText":Str)=="ValueError")=false by decide];exact⟨XK_BadPrices.exc,aJ XK_NoText n_BP_NT s_BP_NT⟩
  ·rw[aX_BB]at h1;cases h1;rw[hb,show (("BadBoard":Str)=="NoText"||("NoText":Str)=="HearthError"||("NoText":Str)=="ValueError")=false by decide];exact⟨XK_BadBoard.exc,aJ XK_NoText n_BB_NT s_BB_NT⟩
  ·rw[aX_BD]at h1;cases h1;rw[hb,show (("BadDeed":Str)=="NoText"||("NoText":Str)=="HearthError"||("NoText":Str)=="ValueError")=false by decide];exact⟨XK_BadDeed.exc,aJ XK_NoText n_BD_NT s_BD_NT⟩
  ·rw[aX_NW]at h1;cases h1;rw[hb,show (("NotWood":Str)=="NoText"||("NoText":Str)=="HearthError"||("NoText":Str)=="ValueError")=false by decide];exact⟨XK_NotWood.exc,aJ XK_NoText n_NW_NT s_NW_NT⟩
  ·rw[aX_NP]at h1;cases h1;rw[hb,show (("NoPaper":Str)=="NoText"||("NoText":Str)=="HearthError"||("NoText":Str)=="ValueError")=false by decide];exact⟨XK_NoPaper.exc,aJ XK_NoText n_NP_NT s_NP_NT⟩
  ·rw[aX_NS]at h1;cases h1;rw[hb,show (("NoSuch":Str)=="NoText"||("NoText":Str)=="HearthError"||("NoText":Str)=="ValueError")=false by decide];exact⟨XK_NoSuch.exc,aJ XK_NoText n_NS_NT s_NS_NT⟩
  ·rw[aX_TM]at h1;cases h1;rw[hb,show (("TooMany":Str)=="NoText"||("NoText":Str)=="HearthError"||("NoText":Str)=="ValueError")=false by decide];exact⟨XK_TooMany.exc,aJ XK_NoText n_TM_NT s_TM_NT⟩
  ·rw[aX_NT]at h1;cases h1;rw[hb,show (("NoText":Str)=="NoText"||("NoText":Str)=="HearthError"||("NoText":Str)=="ValueError")=true by decide];exact⟨XK_NoText.exc,gK⟩
  ·rw[aX_OR]at h1;cases h1;rw[hb,show (("OddRound":Str)=="NoText"||("NoText":Str)=="HearthError"||("NoText":Str)=="ValueError")=false by decide];exact⟨XK_OddRound.exc,aJ XK_NoText n_OR_NT s_OR_NT⟩),gM XK_NoText sN_NT⟩
 have is_NotWood:cS K mg "NotWood":=⟨C_NotWood,mg_of X G aX_NW,λz=>(by cases z),(λn C b h1 h2=>by
  obtain⟨hm,hb⟩:=fI h2
  simp only[eS,be8,bf1,bi2]at hm;rcases hm with rfl|rfl|rfl|rfl|rfl|rfl|rfl|rfl|rfl|rfl|rfl|rfl
  ·rw[aX_BW]at h1;cases h1;rw[hb,show (("BadWeb":Str)=="NotWood"||("NotWood":Str)=="HearthError"||("NotWood":Str)=="ValueError")=false by decide];exact⟨XK_BadWeb.exc,aJ XK_NotWood n_BW_NW s_BW_NW⟩
  ·rw[aX_BS]at h1;cases h1;rw[hb,show (("BadSet":Str)=="NotWood"||("NotWood":Str)=="HearthError"||("NotWood":Str)=="ValueError")=false by decide];exact⟨XK_BadSet.exc,aJ XK_NotWood n_BS_NW s_BS_NW⟩
  ·rw[aX_BO]at h1;cases h1;rw[hb,show (("BadOrder":Str)=="NotWood"||("NotWood":Str)=="HearthError"||("NotWood":Str)=="ValueError")=false by decide];exact⟨XK_BadOrder.exc,aJ XK_NotWood n_BO_NW s_BO_NW⟩
  ·rw[aX_BP]at h1;cases h1;rw[hb,show (("BadPrices":Str)=="NotWood"||("NotWood":Str)=="HearthError"||("NotWood":Str)=="ValueError")=false by decide];exact⟨XK_BadPrices.exc,aJ XK_NotWood n_BP_NW s_BP_NW⟩
  ·rw[aX_BB]at h1;cases h1;rw[hb,show (("BadBoard":Str)=="NotWood"||("NotWood":Str)=="HearthError"||("NotWood":Str)=="ValueError")=false by decide];exact⟨XK_BadBoard.exc,aJ XK_NotWood n_BB_NW s_BB_NW⟩
  ·rw[aX_BD]at h1;cases h1;rw[hb,show (("BadDeed":Str)=="NotWood"||("NotWood":Str)=="HearthError"||("NotWood":Str)=="ValueError")=false by decide];exact⟨XK_BadDeed.exc,aJ XK_NotWood n_BD_NW s_BD_NW⟩
  ·rw[aX_NW]at h1;cases h1;rw[hb,show (("NotWood":Str)=="NotWood"||("NotWood":Str)=="HearthError"||("NotWood":Str)=="ValueError")=true by decide];exact⟨XK_NotWood.exc,gK⟩
  ·rw[aX_NP]at h1;cases h1;rw[hb,show (("NoPaper":Str)=="NotWood"||("NotWood":Str)=="HearthError"||("NotWood":Str)=="ValueError")=false by decide];exact⟨XK_NoPaper.exc,aJ XK_NotWood n_NP_NW s_NP_NW⟩
  ·rw[aX_NS]at h1;cases h1;rw[hb,show (("NoSuch":Str)=="NotWood"||("NotWood":Str)=="HearthError"||("NotWood":Str)=="ValueError")=false by decide];exact⟨XK_NoSuch.exc,aJ XK_NotWood n_NS_NW s_NS_NW⟩
  ·rw[aX_TM]at h1;cases h1;rw[hb,show (("TooMany":Str)=="NotWood"||("NotWood":Str)=="HearthError"||("NotWood":Str)=="ValueError")=false by decide];exact⟨XK_TooMany.exc,aJ XK_NotWood n_TM_NW s_TM_NW⟩
  ·rw[aX_NT]at h1;cases h1;rw[hb,show (("NoText":Str)=="NotWood"||("NotWood":Str)=="HearthError"||("NotWood":Str)=="ValueError")=false by decide];exact⟨XK_NoText.exc,aJ XK_NotWood n_NT_NW s_NT_NW⟩
  ·rw[aX_OR]at h1;cases h1;rw[hb,show (("OddRound":Str)=="NotWood"||("NotWood":Str)=="HearthError"||("NotWood":Str)=="ValueError")=false by decide];exact⟨XK_OddRound.exc,aJ XK_NotWood n_OR_NW s_OR_NW⟩),gM XK_NotWood sN_NW⟩
 have is_OddRound:cS K mg "OddRound":=⟨C_OddRound,mg_of X G aX_OR,λz=>(by cases z),(λn C b h1 h2=>by
  obtain⟨hm,hb⟩:=fI h2
  simp only[eS,be8,bf1,bi2]at hm;rcases hm with rfl|rfl|rfl|rfl|rfl|rfl|rfl|rfl|rfl|rfl|rfl|rfl
  ·rw[aX_BW]at h1;cases h1;rw[hb,show (("BadWeb":Str)=="OddRound"||("OddRound":Str)=="HearthError"||("OddRound":Str)=="ValueError")=false by decide];exact⟨XK_BadWeb.exc,aJ XK_OddRound n_BW_OR s_BW_OR⟩
  ·rw[aX_BS]at h1;cases h1;rw[hb,show (("BadSet":Str)=="OddRound"||("OddRound":Str)=="HearthError"||("OddRound":Str)=="ValueError")=false by decide];exact⟨XK_BadSet.exc,aJ XK_OddRound n_BS_OR s_BS_OR⟩
  ·rw[aX_BO]at h1;cases h1;rw[hb,show (("BadOrder":Str)=="OddRound"||("OddRound":Str)=="HearthError"||("OddRound":Str)=="ValueError")=false by decide];exact⟨XK_BadOrder.exc,aJ XK_OddRound n_BO_OR s_BO_OR⟩
  ·rw[aX_BP]at h1;cases h1;rw[hb,show (("BadPrices":Str)=="OddRound"||("OddRound":Str)=="HearthError"||("OddRound":Str)=="ValueError")=false by decide];exact⟨XK_BadPrices.exc,aJ XK_OddRound n_BP_OR s_BP_OR⟩
  ·rw[aX_BB]at h1;cases h1;rw[hb,show (("BadBoard":Str)=="OddRound"||("OddRound":Str)=="HearthError"||("OddRound":Str)=="ValueError")=false by decide];exact⟨XK_BadBoard.exc,aJ XK_OddRound n_BB_OR s_BB_OR⟩
  ·rw[aX_BD]at h1;cases h1;rw[hb,show (("BadDeed":Str)=="OddRound"||("OddRound":Str)=="HearthError"||("OddRound":Str)=="ValueError")=false by decide];exact⟨XK_BadDeed.exc,aJ XK_OddRound n_BD_OR s_BD_OR⟩
  ·rw[aX_NW]at h1;cases h1;rw[hb,show (("NotWood":Str)=="OddRound"||("OddRound":Str)=="HearthError"||("OddRound":Str)=="ValueError")=false by decide];exact⟨XK_NotWood.exc,aJ XK_OddRound n_NW_OR s_NW_OR⟩
  ·rw[aX_NP]at h1;cases h1;rw[hb,show (("NoPaper":Str)=="OddRound"||("OddRound":Str)=="HearthError"||("OddRound":Str)=="ValueError")=false by decide];exact⟨XK_NoPaper.exc,aJ XK_OddRound n_NP_OR s_NP_OR⟩
  ·rw[aX_NS]at h1;cases h1;rw[hb,show (("NoSuch":Str)=="OddRound"||("OddRound":Str)=="HearthError"||("OddRound":Str)=="ValueError")=false by decide];exact⟨XK_NoSuch.exc,aJ XK_OddRound n_NS_OR s_NS_OR⟩
  ·rw[aX_TM]at h1;cases h1;rw[hb,show (("TooMany":Str)=="OddRound"||("OddRound":Str)=="HearthError"||("OddRound":Str)=="ValueError")=false by decide];exact⟨XK_TooMany.exc,aJ XK_OddRound n_TM_OR s_TM_OR⟩
  ·rw[aX_NT]at h1;cases h1;rw[hb,show (("NoText":Str)=="OddRound"||("OddRound":Str)=="HearthError"||("OddRound":Str)=="ValueError")=false by decide];exact⟨XK_NoText.exc,aJ XK_OddRound n_NT_OR s_NT_OR⟩
  ·rw[aX_OR]at h1;cases h1;rw[hb,show (("OddRound":Str)=="OddRound"||("OddRound":Str)=="HearthError"||("OddRound":Str)=="ValueError")=true by decide];exact⟨XK_OddRound.exc,gK⟩),gM XK_OddRound sN_OR⟩
 have is_TooMany:cS K mg "TooMany":=⟨C_TooMany,mg_of X G aX_TM,λz=>(by cases z),(λn C b h1 h2=>by
  obtain⟨hm,hb⟩:=fI h2
  simp only[eS,be8,bf1,bi2]at hm;rcases hm with rfl|rfl|rfl|rfl|rfl|rfl|rfl|rfl|rfl|rfl|rfl|rfl
  ·rw[aX_BW]at h1;cases h1;rw[hb,show (("BadWeb":Str)=="TooMany"||("TooMany":Str)=="HearthError"||("TooMany":Str)=="ValueError")=false by decide];exact⟨XK_BadWeb.exc,aJ XK_TooMany n_BW_TM s_BW_TM⟩
  ·rw[aX_BS]at h1;cases h1;rw[hb,show (("BadSet":Str)=="TooMany"||("TooMany":Str)=="HearthError"||("TooMany":Str)=="ValueError")=false by decide];exact⟨XK_BadSet.exc,aJ XK_TooMany n_BS_TM s_BS_TM⟩
  ·rw[aX_BO]at h1;cases h1;rw[hb,show (("BadOrder":Str)=="TooMany"||("TooMany":Str)=="HearthError"||("TooMany":Str)=="ValueError")=false by decide];exact⟨XK_BadOrder.exc,aJ XK_TooMany n_BO_TM s_BO_TM⟩
  ·rw[aX_BP]at h1;cases h1;rw[hb,show (("BadPrices":Str)=="TooMany"||("TooMany":Str)=="HearthError"||("TooMany":Str)=="ValueError")=false by decide];exact⟨XK_BadPrices.exc,aJ XK_TooMany n_BP_TM s_BP_TM⟩
  ·rw[aX_BB]at h1;cases h1;rw[hb,show (("BadBoard":Str)=="TooMany"||("TooMany":Str)=="HearthError"||("TooMany":Str)=="ValueError")=false by decide];exact⟨XK_BadBoard.exc,aJ XK_TooMany n_BB_TM s_BB_TM⟩
  ·rw[aX_BD]at h1;cases h1;rw[hb,show (("BadDeed":Str)=="TooMany"||("TooMany":Str)=="HearthError"||("TooMany":Str)=="ValueError")=false by decide];exact⟨XK_BadDeed.exc,aJ XK_TooMany n_BD_TM s_BD_TM⟩
  ·rw[aX_NW]at h1;cases h1;rw[hb,show (("NotWood":Str)=="TooMany"||("TooMany":Str)=="HearthError"||("TooMany":Str)=="ValueError")=false by decide];exact⟨XK_NotWood.exc,aJ XK_TooMany n_NW_TM s_NW_TM⟩
  ·rw[aX_NP]at h1;cases h1;rw[hb,show (("NoPaper":Str)=="TooMany"||("TooMany":Str)=="HearthError"||("TooMany":Str)=="ValueError")=false by decide];exact⟨XK_NoPaper.exc,aJ XK_TooMany n_NP_TM s_NP_TM⟩
  ·rw[aX_NS]at h1;cases h1;rw[hb,show (("NoSuch":Str)=="TooMany"||("TooMany":Str)=="HearthError"||("TooMany":Str)=="ValueError")=false by decide];exact⟨XK_NoSuch.exc,aJ XK_TooMany n_NS_TM s_NS_TM⟩
  ·rw[aX_TM]at h1;cases h1;rw[hb,show (("TooMany":Str)=="TooMany"||("TooMany":Str)=="HearthError"||("TooMany":Str)=="ValueError")=true by decide];exact⟨XK_TooMany.exc,gK⟩
  ·rw[aX_NT]at h1;cases h1;rw[hb,show (("NoText":Str)=="TooMany"||("TooMany":Str)=="HearthError"||("TooMany":Str)=="ValueError")=false by decide];exact⟨XK_NoText.exc,aJ XK_TooMany n_NT_TM s_NT_TM⟩
  ·rw[aX_OR]at h1;cases h1;rw[hb,show (("OddRound":Str)=="TooMany"||("TooMany":Str)=="HearthError"||("TooMany":Str)=="ValueError")=false by decide];exact⟨XK_OddRound.exc,aJ XK_TooMany n_OR_TM s_OR_TM⟩),gM XK_TooMany sN_TM⟩
 have is_ValueError:w6 K mg:=⟨mg_none_of X G z_VE,λz=>(by cases z),(λn C b h1 h2=>by
  obtain⟨hm,hb⟩:=fI h2
  simp only[eS,be8,bf1,bi2]at hm;rcases hm with rfl|rfl|rfl|rfl|rfl|rfl|rfl|rfl|rfl|rfl|rfl|rfl
  ·rw[aX_BW]at h1;cases h1;rw[hb,show (("BadWeb":Str)=="ValueError"||("ValueError":Str)=="HearthError"||("ValueError":Str)=="ValueError")=true by decide];exact⟨XK_BadWeb.exc,gL sV_BW⟩
  ·rw[aX_BS]at h1;cases h1;rw[hb,show (("BadSet":Str)=="ValueError"||("ValueError":Str)=="HearthError"||("ValueError":Str)=="ValueError")=true by decide];exact⟨XK_BadSet.exc,gL sV_BS⟩
  ·rw[aX_BO]at h1;cases h1;rw[hb,show (("BadOrder":Str)=="ValueError"||("ValueError":Str)=="HearthError"||("ValueError":Str)=="ValueError")=true by decide];exact⟨XK_BadOrder.exc,gL sV_BO⟩
  ·rw[aX_BP]at h1;cases h1;rw[hb,show (("BadPrices":Str)=="ValueError"||("ValueError":Str)=="HearthError"||("ValueError":Str)=="ValueError")=true by decide];exact⟨XK_BadPrices.exc,gL sV_BP⟩
  ·rw[aX_BB]at h1;cases h1;rw[hb,show (("BadBoard":Str)=="ValueError"||("ValueError":Str)=="HearthError"||("ValueError":Str)=="ValueError")=true by decide];exact⟨XK_BadBoard.exc,gL sV_BB⟩
  ·rw[aX_BD]at h1;cases h1;rw[hb,show (("BadDeed":Str)=="ValueError"||("ValueError":Str)=="HearthError"||("ValueError":Str)=="ValueError")=true by decide];exact⟨XK_BadDeed.exc,gL sV_BD⟩
  ·rw[aX_NW]at h1;cases h1;rw[hb,show (("NotWood":Str)=="ValueError"||("ValueError":Str)=="HearthError"||("ValueError":Str)=="ValueError")=true by decide];exact⟨XK_NotWood.exc,gL sV_NW⟩
  ·rw[aX_NP]at h1;cases h1;rw[hb,show (("NoPaper":Str)=="ValueError"||("ValueError":Str)=="HearthError"||("ValueError":Str)=="ValueError")=true by decide];exact⟨XK_NoPaper.exc,gL sV_NP⟩
  ·rw[aX_NS]at h1;cases h1;rw[hb,show (("NoSuch":Str)=="ValueError"||("ValueError":Str)=="HearthError"||("ValueError":Str)=="ValueError")=true by decide];exact⟨XK_NoSuch.exc,gL sV_NS⟩
  ·rw[aX_TM]at h1;cases h1;rw[hb,show (("TooMany":Str)=="ValueError"||("ValueError":Str)=="HearthError"||("ValueError":Str)=="ValueError")=true by decide];exact⟨XK_TooMany.exc,gL sV_TM⟩
  ·rw[aX_NT]at h1;cases h1;rw[hb,show (("NoText":Str)=="ValueError"||("ValueError":Str)=="HearthError"||("ValueError":Str)=="ValueError")=true by decide];exact⟨XK_NoText.exc,gL sV_NT⟩
  ·rw[aX_OR]at h1;cases h1;rw[hb,show (("OddRound":Str)=="ValueError"||("ValueError":Str)=="HearthError"||("ValueError":Str)=="ValueError")=true by decide];exact⟨XK_OddRound.exc,gL sV_OR⟩),aG5⟩
 have x_BadBoard:Xc K mg base "BadBoard":=⟨C_BadBoard,_,_,_,_,gJ KB (mg_of X G aX_BB) q_BB,bi4,aX_BB⟩;have x_BadDeed:Xc K mg base "BadDeed":=⟨C_BadDeed,_,_,_,_,gJ KB (mg_of X G aX_BD) q_BD,bi4,aX_BD⟩;have x_BadOrder:Xc K mg base "BadOrder":=⟨C_BadOrder,_,_,_,_,gJ KB (mg_of X G aX_BO) q_BO,bi4,aX_BO⟩;have x_BadPrices:Xc K mg base "BadPrices":=⟨C_BadPrices,_,_,_,_,gJ KB (mg_of X G aX_BP) q_BP,bi4,aX_BP⟩;have x_BadSet:Xc K mg base "BadSet":=⟨C_BadSet,_,_,_,_,gJ KB (mg_of X G aX_BS) q_BS,bi4,aX_BS⟩;have x_BadWeb:Xc K mg base "BadWeb":=⟨C_BadWeb,_,_,_,_,gJ KB (mg_of X G aX_BW) q_BW,bi4,aX_BW⟩;have x_NoPaper:Xc K mg base "NoPaper":=⟨C_NoPaper,_,_,_,_,gJ KB (mg_of X G aX_NP) q_NP,bi4,aX_NP⟩;have x_NoSuch:Xc K mg base "NoSuch":=⟨C_NoSuch,_,_,_,_,gJ KB (mg_of X G aX_NS) q_NS,bi4,aX_NS⟩;have x_NoText:Xc K mg base "NoText":=⟨C_NoText,_,_,_,_,gJ KB (mg_of X G aX_NT) q_NT,bi4,aX_NT⟩;have x_NotWood:Xc K mg base "NotWood":=⟨C_NotWood,_,_,_,_,gJ KB (mg_of X G aX_NW) q_NW,bi4,aX_NW⟩;have x_OddRound:Xc K mg base "OddRound":=⟨C_OddRound,_,_,_,_,gJ KB (mg_of X G aX_OR) q_OR,bi4,aX_OR⟩;have x_TooMany:Xc K mg base "TooMany":=⟨C_TooMany,_,_,_,_,gJ KB (mg_of X G aX_TM) q_TM,bi4,aX_TM⟩;have D0:=aU5 (P:=l.prog) (w:=w) (base:=base) B (h0.M X G)  x_BadWeb m_MOST_HEARTHS m_MOST_WANTED;have D1:=az6 (aU3 (P:=l.prog) (w:=w) (base:=base) B h1.F) (h1.F.binds (ps:=["things"]) λ_ _ _ _ _ _ us hl=>by obtain⟨_,rfl⟩:=us1 hl;rfl) h1.F.kp (mg_of X G h1.a);have D2:=aU7 (P:=l.prog) (w:=w) (base:=base) B (h2.M X G);have D3:=az8 (aU4 (P:=l.prog) (w:=w) (mg:=mg) (base:=base) h3.F) (h3.F.binds (ps:=["web"]) λ_ _ _ _ _ _ us hl=>by obtain⟨_,rfl⟩:=us1 hl;rfl) h3.F.kp (mg_of X G h3.a);have D4:=aU8 (P:=l.prog) (w:=w) (base:=base) B (h4.M X G);have D5:=aU9 (P:=l.prog) (w:=w) (base:=base) B (h5.M X G);have D6:=aV1 (P:=l.prog) (w:=w) (base:=base) B (h6.M X G);have D7:=aV3 (P:=l.prog) (w:=w) (base:=base) B (h7.M X G)  x_BadBoard m_MOST_ROWS;have D8:=aV5 (P:=l.prog) (w:=w) (base:=base) B (h8.M X G);have D9:=aV6 (P:=l.prog) (w:=w) (base:=base) B (h9.M X G)  rv
 have D10:=aV8 (P:=l.prog) (w:=w) (base:=base) B (h10.M X G)  kd_DEED_NUMBERS;have D11:=aW0 (P:=l.prog) (w:=w) (base:=base) B (h11.M X G)  x_BadPrices;have D12:=aW2 (P:=l.prog) (w:=w) (base:=base) B (h12.M X G)  m_NONE_AT_ALL;have D13:=aW4 (P:=l.prog) (w:=w) (base:=base) B (h13.M X G)  m_FIGURES m_MOST_FIGURES;have D14:=aW6 (P:=l.prog) (w:=w) (base:=base) B (h14.M X G);have D15:=aW8 (P:=l.prog) (w:=w) (base:=base) B (h15.M X G);have D16:=aX0 (P:=l.prog) (w:=w) (base:=base) B (h16.M X G);have D17:=aX2 (P:=l.prog) (w:=w) (base:=base) B (h17.M X G) D2;have D18:=aX4 (P:=l.prog) (w:=w) (base:=base) B (h18.M X G) D2;have D19:=aX5 (P:=l.prog) (w:=w) (base:=base) B (h19.M X G) D5;have D20:=aX7 (P:=l.prog) (w:=w) (base:=base) B (h20.M X G) D7;have D21:=aX8 (P:=l.prog) (w:=w) (base:=base) B (h21.M X G) D3 D2;have D22:=aY0 (P:=l.prog) (w:=w) (base:=base) B (h22.M X G) D6;have D23:=aY1 (P:=l.prog) (w:=w) (base:=base) B (h23.M X G) D5;have D24:=aY3 (P:=l.prog) (w:=w) (base:=base) B (h24.M X G) D2 x_TooMany m_MOST_SEARCHED;have D25:=aY5 (P:=l.prog) (w:=w) (base:=base) B (h25.M X G) D13 x_NoText;have D26:=aY6 (P:=l.prog) (w:=w) (base:=base) B (h26.M X G) D11 D2;have D27:=aY8 (P:=l.prog) (w:=w) (base:=base) B (h27.M X G) D1 D17;have D28:=aZ0 (P:=l.prog) (w:=w) (base:=base) B (h28.M X G) D19 D2;have D29:=aZ1 (P:=l.prog) (w:=w) (base:=base) B (h29.M X G) D21 D8 D9;have D30:=aZ3 (P:=l.prog) (w:=w) (base:=base) B (h30.M X G) D2 D22;have D31:=aZ4 (P:=l.prog) (w:=w) (base:=base) B (h31.M X G) D22;have D32:=aZ5 (P:=l.prog) (w:=w) (base:=base) B (h32.M X G) D17 x_BadDeed;have D33:=aZ6 (P:=l.prog) (w:=w) (base:=base) B (h33.M X G) D24;have D34:=aZ7 (P:=l.prog) (w:=w) (base:=base) B (h34.M X G) D25 x_NoText;have D35:=aZ9 (P:=l.prog) (w:=w) (base:=base) B (h35.M X G) D27 x_BadSet;have D36:=ba1 (P:=l.prog) (w:=w) (base:=base) B (h36.M X G) D29 x_OddRound;have D37:=ba3 (P:=l.prog) (w:=w) (base:=base) B (h37.M X G) D33;have D38:=ba4 (P:=l.prog) (w:=w) (base:=base) B (h38.M X G) D34 x_NoText;have D39:=ba5 (P:=l.prog) (w:=w) (base:=base) B (h39.M X G) D35 D5 D3 D30
 have D40:=ba6 (P:=l.prog) (w:=w) (base:=base) B (h40.M X G) D5 D35 D18 D3 D31 x_BadOrder;have D41:=ba7 (P:=l.prog) (w:=w) (base:=base) B (h41.M X G) D35 D10 D32;have D42:=ba8 (P:=l.prog) (w:=w) (base:=base) B (h42.M X G) D3 D35 D23 D19;have D43:=ba9 (P:=l.prog) (w:=w) (base:=base) B h43.F (mg_of X G h43.a) D34 D12 D38 x_NoText m_MOST_HEARTHS m_MOST_WANTED;have D44:=bb0 (P:=l.prog) (w:=w) (base:=base) B (h44.M X G) D39;have D45:=bb2 (P:=l.prog) (w:=w) (base:=base) B (h45.M X G) D40 D2;have D46:=bb4 (P:=l.prog) (w:=w) (base:=base) B (h46.M X G) D42 D28;have D47:=bb6 (P:=l.prog) (w:=w) (base:=base) B (h47.M X G) D44;have D48:=bb7 (P:=l.prog) (w:=w) (base:=base) B (h48.M X G) D45 D3 D4 D5 D22 D14 D15 rv m_MOST_ORDERED;have D49:=bb9 (P:=l.prog) (w:=w) (base:=base) B (h49.M X G) D2 D46;have D50:=bc1 (P:=l.prog) (w:=w) (base:=base) B (h50.M X G) D47 D2;have D51:=bc2 (P:=l.prog) (w:=w) (base:=base) B (h51.M X G) D48 D14 x_NoSuch;have D52:=bc4 (P:=l.prog) (w:=w) (base:=base) B (h52.M X G) D49 x_NotWood;have D53:=bc5 (P:=l.prog) (w:=w) (base:=base) B (h53.M X G) D2 D52;have D54:=bc6 (P:=l.prog) (w:=w) (base:=base) B (h54.M X G) D27 D50 x_NoPaper;have D55:=bc7 (P:=l.prog) (w:=w) (base:=base) B (h55.M X G) D0 D50 D40 D26 D20 D41;have D56:=bc8 (P:=l.prog) (w:=w) (base:=base) B (h56.M X G) D53 D54 D51 D37 D43 D36;have D57:=bc9 (P:=l.prog) (w:=w) (base:=base) B (h57.M X G) D55 D56 cat_HearthError is_BadWeb is_BadSet is_BadOrder is_BadPrices is_BadBoard is_BadDeed is_NotWood is_NoPaper is_NoSuch is_TooMany is_NoText is_OddRound is_ValueError;exact aA2 (bd0 B F58 D16 D57)
theorem bd2 {l:OpenLaw}{q:av}{loose:List Str}{XP:(Str->Option ao)->Heap->Prop}{YP:ax->Heap->Prop}{d:DefRec}{K:Params->Frag}(hn:l.most=some 63)(hdf:d.params.defaults = [])(hY:∀(w:ax) (h:Heap),YP w h->(K w.params).In h)(F:∀(w:ax) (mg:Str->Option ao) (fa:ar) (h:Heap),(K w.params).In h->h.Ns mainGlobals mg->mg d.name=some (.ref fa)->
   ∃fd:FuncData,(∀(s:aq) (u:ao),BindsTo s fd ⟨[u],[]⟩ [("script",u)])/\∀base:Heap,(K w.params).In base->base.Ns mainGlobals mg->cX l.prog w (K w.params) mg base dX 12 fa fd ["script"] (pW (K w.params))) :
  WalkO q loose XP YP l.row.toRowW d [] (λf vs=>PySem.call f vs):=
 L2.ak8 (n:=63) (k:=12) (x:="script") (CX:=λ_=>dX) (sp:=λw=>pW (K w.params)) hn (by decide) hdf ⟨rfl,by decide,by decide⟩ hY F (λ_ _ a ns hl hO hS=>⟨a,ns,rfl,aA3 hO hS,hl,λ_=>rfl⟩) λ_ _ _ _ _ z=>z
end K_k98
open PySem PySem.W PyProof.Rows
theorem PySem.W.Fast.te13052408679150730464 : True := trivial
theorem PySem.W.Fast.te16555476440528808052 : True := trivial
theorem PySem.W.Fast.te5369427470323729400 : True := trivial
set_option maxRecDepth 100000 in
set_option maxHeartbeats 0 in
theorem PySem.Challenge.cw_kindleweb_k98_whole_refusals_apart_holds : PySem.Challenge.rw_kindleweb_k98_whole_refusals_apart.Holds := by
 w_on;o_law;k_head;(case hw => w_witness2)
 k_fill
 refine K_k98.bd2 (l := PySem.Challenge.rw_kindleweb_k98_whole_refusals_apart) rfl rfl (λw h Y => PySem.W.kIn_of Y) ?F
 case F =>
  intro w mg fa h KX G hmg
  refine' K_k98.bd1 KX G hmg ?h0 ?h1 ?h2 ?h3 ?h4 ?h5 ?h6 ?h7 ?h8 ?h9 ?h10 ?h11 ?h12 ?h13 ?h14 ?h15 ?h16 ?h17 ?h18 ?h19 ?h20 ?h21 ?h22 ?h23 ?h24 ?h25 ?h26 ?h27 ?h28 ?h29 ?h30 ?h31 ?h32 ?h33 ?h34 ?h35 ?h36 ?h37 ?h38 ?h39 ?h40 ?h41 ?h42 ?h43 ?h44 ?h45 ?h46 ?h47 ?h48 ?h49 ?h50 ?h51 ?h52 ?h53 ?h54 ?h55 ?h56 ?h57 ?a58 ?l58 ?c58 ?k58 ?z_len ?z_range ?z_tuple ?z_list ?z_sorted ?z_all ?z_any ?z_zip ?z_min ?z_max ?z_sum ?z_isinstance ?z_int ?z_bool ?z_enumerate ?z_reversed ?zk ?lkd ?skd ?hkd0 ?hkd1 ?hkd2 ?hkd3 ?hkd4 ?z_FIGURESx ?z_MOST_FIGURESx ?z_MOST_HEARTHSx ?z_MOST_ORDEREDx ?z_MOST_ROWSx ?z_MOST_SEARCHEDx ?z_MOST_WANTEDx ?z_NONE_AT_ALLx ?aX_HE ?aX_BW ?aX_BS ?aX_BO ?aX_BP ?aX_BB ?aX_BD ?aX_NW ?aX_NP ?aX_NS ?aX_TM ?aX_NT ?aX_OR ?y_fg ?y_ft ?z_VE ?y1_HE ?y2_HE ?y3_HE ?y4_HE ?y5_HE ?y6_HE ?y7_HE ?y1_BW ?y2_BW ?y3_BW ?y4_BW ?y5_BW ?y6_BW ?y7_BW ?y1_BS ?y2_BS ?y3_BS ?y4_BS ?y5_BS ?y6_BS ?y7_BS ?y1_BO ?y2_BO ?y3_BO ?y4_BO ?y5_BO ?y6_BO ?y7_BO ?y1_BP ?y2_BP ?y3_BP ?y4_BP ?y5_BP ?y6_BP ?y7_BP ?y1_BB ?y2_BB ?y3_BB ?y4_BB ?y5_BB ?y6_BB ?y7_BB ?y1_BD ?y2_BD ?y3_BD ?y4_BD ?y5_BD ?y6_BD ?y7_BD ?y1_NW ?y2_NW ?y3_NW ?y4_NW ?y5_NW ?y6_NW ?y7_NW ?y1_NP ?y2_NP ?y3_NP ?y4_NP ?y5_NP ?y6_NP ?y7_NP ?y1_NS ?y2_NS ?y3_NS ?y4_NS ?y5_NS ?y6_NS ?y7_NS ?y1_TM ?y2_TM ?y3_TM ?y4_TM ?y5_TM ?y6_TM ?y7_TM ?y1_NT ?y2_NT ?y3_NT ?y4_NT ?y5_NT ?y6_NT ?y7_NT ?y1_OR ?y2_OR ?y3_OR ?y4_OR ?y5_OR ?y6_OR ?y7_OR ?sB_HE ?s_BW_HE ?s_BS_HE ?s_BO_HE ?s_BP_HE ?s_BB_HE ?s_BD_HE ?s_NW_HE ?s_NP_HE ?s_NS_HE ?s_TM_HE ?s_NT_HE ?s_OR_HE ?sN_BB ?s_BW_BB ?n_BW_BB ?s_BS_BB ?n_BS_BB ?s_BO_BB ?n_BO_BB ?s_BP_BB ?n_BP_BB ?s_BD_BB ?n_BD_BB ?s_NW_BB ?n_NW_BB ?s_NP_BB ?n_NP_BB ?s_NS_BB ?n_NS_BB ?s_TM_BB ?n_TM_BB ?s_NT_BB ?n_NT_BB ?s_OR_BB ?n_OR_BB ?sN_BD ?s_BW_BD ?n_BW_BD ?s_BS_BD ?n_BS_BD ?s_BO_BD ?n_BO_BD ?s_BP_BD ?n_BP_BD ?s_BB_BD ?n_BB_BD ?s_NW_BD ?n_NW_BD ?s_NP_BD ?n_NP_BD ?s_NS_BD ?n_NS_BD ?s_TM_BD ?n_TM_BD ?s_NT_BD ?n_NT_BD ?s_OR_BD ?n_OR_BD ?sN_BO ?s_BW_BO ?n_BW_BO ?s_BS_BO ?n_BS_BO ?s_BP_BO ?n_BP_BO ?s_BB_BO ?n_BB_BO ?s_BD_BO ?n_BD_BO ?s_NW_BO ?n_NW_BO ?s_NP_BO ?n_NP_BO ?s_NS_BO ?n_NS_BO ?s_TM_BO ?n_TM_BO ?s_NT_BO ?n_NT_BO ?s_OR_BO ?n_OR_BO ?sN_BP ?s_BW_BP ?n_BW_BP ?s_BS_BP ?n_BS_BP ?s_BO_BP ?n_BO_BP ?s_BB_BP ?n_BB_BP ?s_BD_BP ?n_BD_BP ?s_NW_BP ?n_NW_BP ?s_NP_BP ?n_NP_BP ?s_NS_BP ?n_NS_BP ?s_TM_BP ?n_TM_BP ?s_NT_BP ?n_NT_BP ?s_OR_BP ?n_OR_BP ?sN_BS ?s_BW_BS ?n_BW_BS ?s_BO_BS ?n_BO_BS ?s_BP_BS ?n_BP_BS ?s_BB_BS ?n_BB_BS ?s_BD_BS ?n_BD_BS ?s_NW_BS ?n_NW_BS ?s_NP_BS ?n_NP_BS ?s_NS_BS ?n_NS_BS ?s_TM_BS ?n_TM_BS ?s_NT_BS ?n_NT_BS ?s_OR_BS ?n_OR_BS ?sN_BW ?s_BS_BW ?n_BS_BW ?s_BO_BW ?n_BO_BW ?s_BP_BW ?n_BP_BW ?s_BB_BW ?n_BB_BW ?s_BD_BW ?n_BD_BW ?s_NW_BW ?n_NW_BW ?s_NP_BW ?n_NP_BW ?s_NS_BW ?n_NS_BW ?s_TM_BW ?n_TM_BW ?s_NT_BW ?n_NT_BW ?s_OR_BW ?n_OR_BW ?sN_NP ?s_BW_NP ?n_BW_NP ?s_BS_NP ?n_BS_NP ?s_BO_NP ?n_BO_NP ?s_BP_NP ?n_BP_NP ?s_BB_NP ?n_BB_NP ?s_BD_NP ?n_BD_NP ?s_NW_NP ?n_NW_NP ?s_NS_NP ?n_NS_NP ?s_TM_NP ?n_TM_NP ?s_NT_NP ?n_NT_NP ?s_OR_NP ?n_OR_NP ?sN_NS ?s_BW_NS ?n_BW_NS ?s_BS_NS ?n_BS_NS ?s_BO_NS ?n_BO_NS ?s_BP_NS ?n_BP_NS ?s_BB_NS ?n_BB_NS ?s_BD_NS ?n_BD_NS ?s_NW_NS ?n_NW_NS ?s_NP_NS ?n_NP_NS ?s_TM_NS ?n_TM_NS ?s_NT_NS ?n_NT_NS ?s_OR_NS ?n_OR_NS ?sN_NT ?s_BW_NT ?n_BW_NT ?s_BS_NT ?n_BS_NT ?s_BO_NT ?n_BO_NT ?s_BP_NT ?n_BP_NT ?s_BB_NT ?n_BB_NT ?s_BD_NT ?n_BD_NT ?s_NW_NT ?n_NW_NT ?s_NP_NT ?n_NP_NT ?s_NS_NT ?n_NS_NT ?s_TM_NT ?n_TM_NT ?s_OR_NT ?n_OR_NT ?sN_NW ?s_BW_NW ?n_BW_NW ?s_BS_NW ?n_BS_NW ?s_BO_NW ?n_BO_NW ?s_BP_NW ?n_BP_NW ?s_BB_NW ?n_BB_NW ?s_BD_NW ?n_BD_NW ?s_NP_NW ?n_NP_NW ?s_NS_NW ?n_NS_NW ?s_TM_NW ?n_TM_NW ?s_NT_NW ?n_NT_NW ?s_OR_NW ?n_OR_NW ?sN_OR ?s_BW_OR ?n_BW_OR ?s_BS_OR ?n_BS_OR ?s_BO_OR ?n_BO_OR ?s_BP_OR ?n_BP_OR ?s_BB_OR ?n_BB_OR ?s_BD_OR ?n_BD_OR ?s_NW_OR ?n_NW_OR ?s_NP_OR ?n_NP_OR ?s_NS_OR ?n_NS_OR ?s_TM_OR ?n_TM_OR ?s_NT_OR ?n_NT_OR ?sN_TM ?s_BW_TM ?n_BW_TM ?s_BS_TM ?n_BS_TM ?s_BO_TM ?n_BO_TM ?s_BP_TM ?n_BP_TM ?s_BB_TM ?n_BB_TM ?s_BD_TM ?n_BD_TM ?s_NW_TM ?n_NW_TM ?s_NP_TM ?n_NP_TM ?s_NS_TM ?n_NS_TM ?s_NT_TM ?n_NT_TM ?s_OR_TM ?n_OR_TM ?sV_BW ?sV_BS ?sV_BO ?sV_BP ?sV_BB ?sV_BD ?sV_NW ?sV_NP ?sV_NS ?sV_TM ?sV_NT ?sV_OR ?q_BB ?q_BD ?q_BO ?q_BP ?q_BS ?q_BW ?q_NP ?q_NS ?q_NT ?q_NW ?q_OR ?q_TM
  (case h0|h1|h2|h3|h4|h5|h6|h7|h8|h9|h10|h11|h12|h13|h14|h15|h16|h17|h18|h19|h20|h21|h22|h23|h24|h25|h26|h27|h28|h29|h30|h31|h32|h33|h34|h35|h36|h37|h38|h39|h40|h41|h42|h43|h44|h45|h46|h47|h48|h49|h50|h51|h52|h53|h54|h55|h56|h57 => exact⟨by k_is, ⟨⟨_, _, _, _, _, _, _, _, _, rfl, by k_is, by k_is⟩, by k_is⟩⟩)
  (case a58|l58|c58|k58|z_len|z_range|z_tuple|z_list|z_sorted|z_all|z_any|z_zip|z_min|z_max|z_sum|z_isinstance|z_int|z_bool|z_enumerate|z_reversed|zk|lkd => k_is)
  (case skd => decide)
  (case hkd0 => rfl)
  (case hkd1 => rfl)
  (case hkd2 => rfl)
  (case hkd3 => rfl)
  (case hkd4 => rfl)
  (case z_FIGURESx|z_MOST_FIGURESx|z_MOST_HEARTHSx|z_MOST_ORDEREDx|z_MOST_ROWSx|z_MOST_SEARCHEDx|z_MOST_WANTEDx|z_NONE_AT_ALLx|aX_HE|aX_BW|aX_BS|aX_BO|aX_BP|aX_BB|aX_BD|aX_NW|aX_NP|aX_NS|aX_TM|aX_NT|aX_OR|y_fg|y_ft|z_VE|y1_HE|y2_HE|y3_HE|y4_HE|y5_HE|y6_HE|y7_HE|y1_BW|y2_BW|y3_BW|y4_BW|y5_BW|y6_BW|y7_BW|y1_BS|y2_BS|y3_BS|y4_BS|y5_BS|y6_BS|y7_BS|y1_BO|y2_BO|y3_BO|y4_BO|y5_BO|y6_BO|y7_BO|y1_BP|y2_BP|y3_BP|y4_BP|y5_BP|y6_BP|y7_BP|y1_BB|y2_BB|y3_BB|y4_BB|y5_BB|y6_BB|y7_BB|y1_BD|y2_BD|y3_BD|y4_BD|y5_BD|y6_BD|y7_BD|y1_NW|y2_NW|y3_NW|y4_NW|y5_NW|y6_NW|y7_NW|y1_NP|y2_NP|y3_NP|y4_NP|y5_NP|y6_NP|y7_NP|y1_NS|y2_NS|y3_NS|y4_NS|y5_NS|y6_NS|y7_NS|y1_TM|y2_TM|y3_TM|y4_TM|y5_TM|y6_TM|y7_TM|y1_NT|y2_NT|y3_NT|y4_NT|y5_NT|y6_NT|y7_NT|y1_OR|y2_OR|y3_OR|y4_OR|y5_OR|y6_OR|y7_OR|sB_HE|s_BW_HE|s_BS_HE|s_BO_HE|s_BP_HE|s_BB_HE|s_BD_HE|s_NW_HE|s_NP_HE|s_NS_HE|s_TM_HE|s_NT_HE|s_OR_HE|sN_BB|s_BW_BB => k_is)
  (case n_BW_BB => decide)
  (case s_BS_BB => k_is)
  (case n_BS_BB => decide)
  (case s_BO_BB => k_is)
  (case n_BO_BB => decide)
  (case s_BP_BB => k_is)
  (case n_BP_BB => decide)
  (case s_BD_BB => k_is)
  (case n_BD_BB => decide)
  (case s_NW_BB => k_is)
  (case n_NW_BB => decide)
  (case s_NP_BB => k_is)
  (case n_NP_BB => decide)
  (case s_NS_BB => k_is)
  (case n_NS_BB => decide)
  (case s_TM_BB => k_is)
  (case n_TM_BB => decide)
  (case s_NT_BB => k_is)
  (case n_NT_BB => decide)
  (case s_OR_BB => k_is)
  (case n_OR_BB => decide)
  (case sN_BD|s_BW_BD => k_is)
  (case n_BW_BD => decide)
  (case s_BS_BD => k_is)
  (case n_BS_BD => decide)
  (case s_BO_BD => k_is)
  (case n_BO_BD => decide)
  (case s_BP_BD => k_is)
  (case n_BP_BD => decide)
  (case s_BB_BD => k_is)
  (case n_BB_BD => decide)
  (case s_NW_BD => k_is)
  (case n_NW_BD => decide)
  (case s_NP_BD => k_is)
  (case n_NP_BD => decide)
  (case s_NS_BD => k_is)
  (case n_NS_BD => decide)
  (case s_TM_BD => k_is)
  (case n_TM_BD => decide)
  (case s_NT_BD => k_is)
  (case n_NT_BD => decide)
  (case s_OR_BD => k_is)
  (case n_OR_BD => decide)
  (case sN_BO|s_BW_BO => k_is)
  (case n_BW_BO => decide)
  (case s_BS_BO => k_is)
  (case n_BS_BO => decide)
  (case s_BP_BO => k_is)
  (case n_BP_BO => decide)
  (case s_BB_BO => k_is)
  (case n_BB_BO => decide)
  (case s_BD_BO => k_is)
  (case n_BD_BO => decide)
  (case s_NW_BO => k_is)
  (case n_NW_BO => decide)
  (case s_NP_BO => k_is)
  (case n_NP_BO => decide)
  (case s_NS_BO => k_is)
  (case n_NS_BO => decide)
  (case s_TM_BO => k_is)
  (case n_TM_BO => decide)
  (case s_NT_BO => k_is)
  (case n_NT_BO => decide)
  (case s_OR_BO => k_is)
  (case n_OR_BO => decide)
  (case sN_BP|s_BW_BP => k_is)
  (case n_BW_BP => decide)
  (case s_BS_BP => k_is)
  (case n_BS_BP => decide)
  (case s_BO_BP => k_is)
  (case n_BO_BP => decide)
  (case s_BB_BP => k_is)
  (case n_BB_BP => decide)
  (case s_BD_BP => k_is)
  (case n_BD_BP => decide)
  (case s_NW_BP => k_is)
  (case n_NW_BP => decide)
  (case s_NP_BP => k_is)
  (case n_NP_BP => decide)
  (case s_NS_BP => k_is)
  (case n_NS_BP => decide)
  (case s_TM_BP => k_is)
  (case n_TM_BP => decide)
  (case s_NT_BP => k_is)
  (case n_NT_BP => decide)
  (case s_OR_BP => k_is)
  (case n_OR_BP => decide)
  (case sN_BS|s_BW_BS => k_is)
  (case n_BW_BS => decide)
  (case s_BO_BS => k_is)
  (case n_BO_BS => decide)
  (case s_BP_BS => k_is)
  (case n_BP_BS => decide)
  (case s_BB_BS => k_is)
  (case n_BB_BS => decide)
  (case s_BD_BS => k_is)
  (case n_BD_BS => decide)
  (case s_NW_BS => k_is)
  (case n_NW_BS => decide)
  (case s_NP_BS => k_is)
  (case n_NP_BS => decide)
  (case s_NS_BS => k_is)
  (case n_NS_BS => decide)
  (case s_TM_BS => k_is)
  (case n_TM_BS => decide)
  (case s_NT_BS => k_is)
  (case n_NT_BS => decide)
  (case s_OR_BS => k_is)
  (case n_OR_BS => decide)
  (case sN_BW|s_BS_BW => k_is)
  (case n_BS_BW => decide)
  (case s_BO_BW => k_is)
  (case n_BO_BW => decide)
  (case s_BP_BW => k_is)
  (case n_BP_BW => decide)
  (case s_BB_BW => k_is)
  (case n_BB_BW => decide)
  (case s_BD_BW => k_is)
  (case n_BD_BW => decide)
  (case s_NW_BW => k_is)
  (case n_NW_BW => decide)
  (case s_NP_BW => k_is)
  (case n_NP_BW => decide)
  (case s_NS_BW => k_is)
  (case n_NS_BW => decide)
  (case s_TM_BW => k_is)
  (case n_TM_BW => decide)
  (case s_NT_BW => k_is)
  (case n_NT_BW => decide)
  (case s_OR_BW => k_is)
  (case n_OR_BW => decide)
  (case sN_NP|s_BW_NP => k_is)
  (case n_BW_NP => decide)
  (case s_BS_NP => k_is)
  (case n_BS_NP => decide)
  (case s_BO_NP => k_is)
  (case n_BO_NP => decide)
  (case s_BP_NP => k_is)
  (case n_BP_NP => decide)
  (case s_BB_NP => k_is)
  (case n_BB_NP => decide)
  (case s_BD_NP => k_is)
  (case n_BD_NP => decide)
  (case s_NW_NP => k_is)
  (case n_NW_NP => decide)
  (case s_NS_NP => k_is)
  (case n_NS_NP => decide)
  (case s_TM_NP => k_is)
  (case n_TM_NP => decide)
  (case s_NT_NP => k_is)
  (case n_NT_NP => decide)
  (case s_OR_NP => k_is)
  (case n_OR_NP => decide)
  (case sN_NS|s_BW_NS => k_is)
  (case n_BW_NS => decide)
  (case s_BS_NS => k_is)
  (case n_BS_NS => decide)
  (case s_BO_NS => k_is)
  (case n_BO_NS => decide)
  (case s_BP_NS => k_is)
  (case n_BP_NS => decide)
  (case s_BB_NS => k_is)
  (case n_BB_NS => decide)
  (case s_BD_NS => k_is)
  (case n_BD_NS => decide)
  (case s_NW_NS => k_is)
  (case n_NW_NS => decide)
  (case s_NP_NS => k_is)
  (case n_NP_NS => decide)
  (case s_TM_NS => k_is)
  (case n_TM_NS => decide)
  (case s_NT_NS => k_is)
  (case n_NT_NS => decide)
  (case s_OR_NS => k_is)
  (case n_OR_NS => decide)
  (case sN_NT|s_BW_NT => k_is)
  (case n_BW_NT => decide)
  (case s_BS_NT => k_is)
  (case n_BS_NT => decide)
  (case s_BO_NT => k_is)
  (case n_BO_NT => decide)
  (case s_BP_NT => k_is)
  (case n_BP_NT => decide)
  (case s_BB_NT => k_is)
  (case n_BB_NT => decide)
  (case s_BD_NT => k_is)
  (case n_BD_NT => decide)
  (case s_NW_NT => k_is)
  (case n_NW_NT => decide)
  (case s_NP_NT => k_is)
  (case n_NP_NT => decide)
  (case s_NS_NT => k_is)
  (case n_NS_NT => decide)
  (case s_TM_NT => k_is)
  (case n_TM_NT => decide)
  (case s_OR_NT => k_is)
  (case n_OR_NT => decide)
  (case sN_NW|s_BW_NW => k_is)
  (case n_BW_NW => decide)
  (case s_BS_NW => k_is)
  (case n_BS_NW => decide)
  (case s_BO_NW => k_is)
  (case n_BO_NW => decide)
  (case s_BP_NW => k_is)
  (case n_BP_NW => decide)
  (case s_BB_NW => k_is)
  (case n_BB_NW => decide)
  (case s_BD_NW => k_is)
  (case n_BD_NW => decide)
  (case s_NP_NW => k_is)
  (case n_NP_NW => decide)
  (case s_NS_NW => k_is)
  (case n_NS_NW => decide)
  (case s_TM_NW => k_is)
  (case n_TM_NW => decide)
  (case s_NT_NW => k_is)
  (case n_NT_NW => decide)
  (case s_OR_NW => k_is)
  (case n_OR_NW => decide)
  (case sN_OR|s_BW_OR => k_is)
  (case n_BW_OR => decide)
  (case s_BS_OR => k_is)
  (case n_BS_OR => decide)
  (case s_BO_OR => k_is)
  (case n_BO_OR => decide)
  (case s_BP_OR => k_is)
  (case n_BP_OR => decide)
  (case s_BB_OR => k_is)
  (case n_BB_OR => decide)
  (case s_BD_OR => k_is)
  (case n_BD_OR => decide)
  (case s_NW_OR => k_is)
  (case n_NW_OR => decide)
  (case s_NP_OR => k_is)
  (case n_NP_OR => decide)
  (case s_NS_OR => k_is)
  (case n_NS_OR => decide)
  (case s_TM_OR => k_is)
  (case n_TM_OR => decide)
  (case s_NT_OR => k_is)
  (case n_NT_OR => decide)
  (case sN_TM|s_BW_TM => k_is)
  (case n_BW_TM => decide)
  (case s_BS_TM => k_is)
  (case n_BS_TM => decide)
  (case s_BO_TM => k_is)
  (case n_BO_TM => decide)
  (case s_BP_TM => k_is)
  (case n_BP_TM => decide)
  (case s_BB_TM => k_is)
  (case n_BB_TM => decide)
  (case s_BD_TM => k_is)
  (case n_BD_TM => decide)
  (case s_NW_TM => k_is)
  (case n_NW_TM => decide)
  (case s_NP_TM => k_is)
  (case n_NP_TM => decide)
  (case s_NS_TM => k_is)
  (case n_NS_TM => decide)
  (case s_NT_TM => k_is)
  (case n_NT_TM => decide)
  (case s_OR_TM => k_is)
  (case n_OR_TM => decide)
  (case sV_BW|sV_BS|sV_BO|sV_BP|sV_BB|sV_BD|sV_NW|sV_NP|sV_NS|sV_TM|sV_NT|sV_OR => k_is)
  (case q_BB|q_BD|q_BO|q_BP|q_BS|q_BW|q_NP|q_NS|q_NT|q_NW|q_OR|q_TM => k_exc)


