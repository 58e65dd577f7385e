import PyProof.Rows.All
import Wide.All
import OpenK.AllK
import Wide.FinOn
import Lean
import PyProof.EqAt
import PyProof.EqKinds
import PyProof.TupleCall
import PyProof.NeKinds
import PyProof.Draws
import PyProof.ZipIter
import PyProof.DictUpdate
import PyProof.AutoSeq1
import PyProof.ListRange
import PyProof.ListMulRoad
import PyProof.FactsAll.tuple_2
import PyProof.Rows.SortShell
import PyProof.EnumFor
import PyProof.EnumMake
import PyProof.EnumStmt
import PyProof.Rows.SortWalk
import KE.KDictList
import PyProof.SumAny
import PyProof.ConsumeWalk
import PyProof.WalksMore
import PyProof.Rows.TupAssign
import PyProof.ExcArgsOwn
import PySem.Challenge.RW_kindleweb_k88_one_deed
set_option Elab.async false
set_option linter.all false
set_option maxRecDepth 100000
set_option maxHeartbeats 4000000
section
open PySem PySem.Spec PyProof.Rows
noncomputable def aK2:=@wpAny_bind
noncomputable def aK3:=@List.getElem?_eq_getElem
noncomputable def aK4:=@Heap.get?_push_of_some
noncomputable def aK5:=@List.size_toArray
noncomputable def aK6:=@wpS_bind
noncomputable def aK7:=@wpAny_pure
noncomputable def aK8:=@Nat.le_refl
noncomputable def aK9:=@decide_eq_false
noncomputable def aL0:=@List.mem_cons
noncomputable def aL1:=@decide_eq_true
noncomputable def aL2:=@List.length_map
noncomputable def aL3:=@wpS_pure
noncomputable def aL4:=@Nat.lt_of_lt_of_le
noncomputable def aL5:=@decide_eq_true_eq
noncomputable def aL6:=@Bool.false_ne_true
noncomputable def aL7:=@List.getD_eq_getElem?_getD
noncomputable def aL8:=@Heap.lt_size
noncomputable def aL9:=@List.length_append
noncomputable def aM0:=@List.getElem?_eq_some_iff
noncomputable def aM3:=@List.mem_cons_self
noncomputable def aM4:=@Heap.get?_push_size
noncomputable def aM5:=@List.mem_singleton
noncomputable def aM6:=@List.mem_cons_of_mem
noncomputable def aM7:=@List.getElem?_set_ne
noncomputable def aM8:=@List.not_mem_nil
noncomputable def aM9:=@List.getElem?_map
noncomputable def aN0:=@List.append_assoc
noncomputable def aN1:=@List.mem_append_right
noncomputable def aN2:=@Option.some.inj
noncomputable def aN3:=@Bool.and_eq_true
noncomputable def aN5:=@Bool.false_eq_true
noncomputable def aN6:=@Nat.ne_of_lt
noncomputable def aN8:=@Nat.le_trans
noncomputable def aN9:=@Array.getElem_mem
noncomputable def aO0:=@Nat.lt_or_ge
noncomputable def aO1:=@List.mem_map
noncomputable def aO2:=@List.map_cons
noncomputable def aO3:=@List.take_append_drop
noncomputable def aO4:=@PySem.mem_of_lookup
noncomputable def aO5:=@List.pairwise_append
noncomputable def aO6:=@List.lookup_cons
noncomputable def aO7:=@List.append_nil
noncomputable def aO9:=@Bool.eq_iff_iff
noncomputable def aP0:=@PySem.W.kia_one
noncomputable def aP1:=@beq_self_eq_true
noncomputable def aP2:=@List.length_singleton
noncomputable def aP3:=@Nat.zero_le
noncomputable def aP4:=@Array.length_toList
noncomputable def aP5:=@Array.toList_append
noncomputable def aP7:=@List.length_drop
noncomputable def aQ1:=@List.getElem?_set_self
noncomputable def aQ2:=@wpS_forRange
noncomputable def aQ3:=@List.take_of_length_le
noncomputable def aQ4:=@List.length_set
noncomputable def aQ5:=@Nat.lt_irrefl
noncomputable def aQ6:=@List.length_take
noncomputable def aQ7:=@List.take_length
noncomputable def aQ8:=@decide_eq_false_iff_not
noncomputable def aR0:=@wpAny_mono
noncomputable def aR3:=@Nat.le_of_lt
noncomputable def aR4:=@List.all_eq_true
noncomputable def aR5:=@Nat.le_add_right
noncomputable def aR6:=@List.getElem_mem
noncomputable def aR7:=@or_false
noncomputable def aR8:=@List.pairwise_iff_getElem
noncomputable def aR9:=@List.getElem_of_mem
noncomputable def aS0:=@wpAny_field
noncomputable def aS1:=@Array.getElem?_toList
noncomputable def aS4:=@List.mem_append
noncomputable def aS5:=@List.find?_cons
noncomputable def aS7:=@wpAny_callSpecial?_slot
noncomputable def aS9:=@List.length_cons
noncomputable def aT0:=@PyProof.Rows.callWith_type1
noncomputable def aT2:=@beq_eq_false_iff_ne
noncomputable def aT3:=@List.map_append
noncomputable def aT4:=@PyProof.Rows.slot_tuple_getitem
noncomputable def aT5:=@List.getElem?_append_left
noncomputable def aT6:=@if_false
noncomputable def aT7:=@wpAny_call_entry
noncomputable def aT9:=@Array.eq_empty_of_size_eq_zero
noncomputable def aU4:=@List.getElem?_of_mem
noncomputable def aU6:=@wpAny_newObj_type
noncomputable def aU7:=@List.take_add_one
noncomputable def aU8:=@List.pairwise_singleton
noncomputable def aV0:=@Int.emod_nonneg
noncomputable def aV1:=@wpAny_holding
noncomputable def aV2:=@List.all_cons
noncomputable def aV3:=@List.filter_cons
noncomputable def aV5:=@List.getElem?_append_right
noncomputable def aV6:=@Heap.size_push
noncomputable def aV7:=@wpAny_seqItems
noncomputable def aV8:=@wpAny_rule
noncomputable def aV9:=@wpAny_setField_rec
noncomputable def aW0:=@Nat.eq_or_lt_of_le
noncomputable def aW1:=@List.pairwise_cons
noncomputable def aW2:=@Int.emod_lt_of_pos
noncomputable def aW3:=@List.perm_append_comm
noncomputable def aW5:=@List.mem_append_left
noncomputable def aW6:=@wpAny_truthy_bool
noncomputable def aW7:=@Nat.ne_of_gt
noncomputable def aW8:=@List.mem_of_getElem?
noncomputable def aX0:=@Int.le_refl
noncomputable def aX1:=@wpS_mono
noncomputable def aX4:=@Bool.and_true
noncomputable def aX8:=@List.drop_take
noncomputable def aY0:=@Nat.le_succ
end
noncomputable abbrev aa:=List (Int×Int)
noncomputable abbrev ac:=PySem.W.Frag
noncomputable abbrev ad:=List (List Int)
noncomputable abbrev ae:=List Int
namespace L2
open PySem PySem.Spec PyProof.Rows
noncomputable abbrev aJ:=Sum Int Str
noncomputable def jX:aJ->Value->Bool
 |.inl k,v=>Value.isInt k v
 |.inr x,v=>Value.isStrOf x v
noncomputable def S2 (w:World):aJ->Int
 |.inl k=>hashInt k
 |.inr x=>hashStr w x
theorem gW:∀{k:aJ}{v:Value},jX k v=true->(∃i t,k=Sum.inl i/\v=Value.int i t)∨(∃x t,k=Sum.inr x/\v=Value.str x t)
 |.inl i,v,h=>by
  obtain⟨t,e⟩:=Value.isInt_shape (k:=i) (v:=v) h
  exact .inl ⟨i,t,rfl,e⟩
 |.inr x,v,h=>by
  obtain⟨t,e⟩:=Value.isStrOf_shape (x:=x) (v:=v) h
  exact .inr ⟨x,t,rfl,e⟩
theorem S3 (i:Int)(t:Tok):jX (.inl i) (.int i t)=true:=by simp[jX,Value.isInt]
theorem vF (x:Str)(t:Tok):jX (.inr x) (.str x t)=true:=by simp[jX,Value.isStrOf]
theorem S4 (a b:Int):decide ((Sum.inl a:aJ)=Sum.inl b)=(a==b):=by
 by_cases e:a=b
 ·subst e;simp
 ·have h:¬(Sum.inl a:aJ)=Sum.inl b:=λq=>e (Sum.inl.inj q)
  rw[aK9 h]
  exact (aT2.mpr e).symm
theorem S5 (a b:Str):decide ((Sum.inr a:aJ)=Sum.inr b)=decide (a=b):=by
 by_cases e:a=b
 ·subst e;simp
 ·have h:¬(Sum.inr a:aJ)=Sum.inr b:=λq=>e (Sum.inr.inj q)
  rw[aK9 h,aK9 e]
theorem S6 (a:Int)(b:Str):decide ((Sum.inl a:aJ)=Sum.inr b)=false:=aK9 (λq=>nomatch q)
theorem S7 (a:Str)(b:Int):decide ((Sum.inr a:aJ)=Sum.inl b)=false:=aK9 (λq=>nomatch q)
noncomputable def cT (prog:Program)(w:World):PySem.KeyKind prog w aJ where
 is:=jX
 hash:=S2 w
 inj:=λv a b ha hb=>by
  rcases gW ha with⟨i,t,rfl,rfl⟩|⟨x,t,rfl,rfl⟩
  ·rcases gW hb with⟨j,u,rfl,e⟩|⟨y,u,rfl,e⟩
   ·injection e with e1 _;rw[e1]
   ·exact nomatch e
  ·rcases gW hb with⟨j,u,rfl,e⟩|⟨y,u,rfl,e⟩
   ·exact nomatch e
   ·injection e with e1 _;rw[e1]
 byValue:=λk v h=>by
  rcases gW h with⟨i,t,rfl,rfl⟩|⟨x,t,rfl,rfl⟩<;>rfl
 pyHash:=λhv h=>by
  rcases gW hv with⟨i,t,rfl,rfl⟩|⟨x,t,rfl,rfl⟩
  ·exact wpAny_pyHash_int h
  ·exact wpAny_pyHash_str h
 eqBool:=λhu hv h=>by
  rcases gW hu with⟨i,t,rfl,rfl⟩|⟨x,t,rfl,rfl⟩
  ·rcases gW hv with⟨j,u,rfl,rfl⟩|⟨y,u,rfl,rfl⟩
   ·rw[S4]at h;exact wpAny_eqBool_int h
   ·rw[S6]at h;exact SeqAt.EqAt.int_str i t y u _ _ _ _ h
  ·rcases gW hv with⟨j,u,rfl,rfl⟩|⟨y,u,rfl,rfl⟩
   ·rw[S7]at h;exact SeqAt.EqAt.str_int x t j u _ _ _ _ h
   ·rw[S5]at h;exact wpAny_eqBool_str h
 «strs»:=λk x t v h=>by
  rcases gW h with⟨i,u,rfl,e⟩|⟨y,u,rfl,e⟩
  ·exact nomatch e
  ·injection e with e1 _
   subst e1
   cases v<;>rfl
theorem S8 (prog:Program)(w:World)(i:Int)(t:Tok):(cT prog w).is (.inl i) (.int i t)=true:=S3 i t
theorem S9 (prog:Program)(w:World)(x:Str)(t:Tok):(cT prog w).is (.inr x) (.str x t)=true:=vF x t
inductive V where
 |non|bl (b:Bool)|int (i:Int)|str (x:Str)|byt (b:Array UInt8)|flt (b:UInt64)|ref (a:Addr)|ty (n:String)
 deriving DecidableEq
noncomputable def aT:V->Value->Prop
 |.non,u=>u=Value.none
 |.bl b,u=>u=Value.bool b
 |.int i,u=>∃t,u=Value.int i t
 |.str x,u=>∃t,u=Value.str x t
 |.byt b,u=>∃t,u=Value.bytes b t
 |.flt b,u=>∃t,u=Value.float b t
 |.ref a,u=>u=Value.ref a
 |.ty n,u=>u=Value.type n
noncomputable abbrev aQ:List V->List Value->Prop:=Paired aT
theorem aQ.length {xs:List V}{us:List Value}(r:aQ xs us):xs.length=us.length:=Paired.length r
theorem aQ.get:∀{xs:List V}{us:List Value}{i:Nat}{x:V},aQ xs us->xs[i]? = some x->∃u,us[i]? = some u/\aT x u
 |_,_,_,_,.nil,e=>by simp at e
 |_,_,0,_,.cons r _,e=>by simp at e;subst e;exact⟨_,rfl,r⟩
 |_,_,i+1,x,.cons _ t,e=>by
  obtain⟨u,h1,h2⟩:=aQ.get (i:=i) (x:=x) t (by simpa using e)
  exact⟨u,by simpa using h1,h2⟩
theorem aQ.append:∀{xs ys:List V}{us ws:List Value},aQ xs us->aQ ys ws->aQ (xs++ys) (us++ws)
 |_,_,_,_,.nil,s=>s
 |_,_,_,_,.cons r t,s=>.cons r (aQ.append t s)
theorem aQ.take:∀{xs:List V}{us:List Value} (n:Nat),aQ xs us->aQ (xs.take n) (us.take n)
 |_,_,0,_=>.nil
 |_,_,_+1,.nil=>.nil
 |_,_,n+1,.cons r t=>.cons r (aQ.take n t)
theorem aQ.drop:∀{xs:List V}{us:List Value} (n:Nat),aQ xs us->aQ (xs.drop n) (us.drop n)
 |_,_,0,r=>r
 |_,_,_+1,.nil=>.nil
 |_,_,n+1,.cons _ t=>aQ.drop n t
noncomputable def gX:Option V->Option Value->Prop
 |some v,some u=>aT v u
 |none,none=>True
 |_,_=>False
noncomputable def KV {κ:Type}:List (κ×V)->List (κ×Value)->Prop:=Paired λ(p:κ×V) (q:κ×Value)=>p.1=q.1/\aT p.2 q.2
noncomputable def kV:aJ->V
 |.inl i=>.int i
 |.inr x=>.str x
inductive HO where
 |lst (xs:List V)
 |tup (xs:List V)
 |dK (kvs:List (aJ×V))|dT (kvs:List (List aJ×V))
 |set (S:Int->Bool) (n:Nat)
 |ins (C dx:Addr) (fs:List (Str×V))
 |own (x:Addr)
 |xd (fs:List (Str×V))
 |met (f x:Addr)
 |rng (lo hi:Int)
 |frz (o:Obj) (u:HO)
 |tbl (ps:Array Value)
 |ext (φ:Heap->Prop)
noncomputable abbrev Hp:=Addr->Option HO
noncomputable def upd (H:Hp)(a:Addr)(o:HO):Hp:=λb=>if b=a then some o else H b
theorem bP {H:Hp}{a:Addr}{o:HO}:upd H a o a=some o:=by unfold upd;rw[if_pos rfl]
theorem b9 {H:Hp}{a b:Addr}{o:HO}(h:b≠a):upd H a o b=H b:=by unfold upd;rw[if_neg h]
theorem T0 {H:Hp}{a b:Addr}{o u:HO}(h:H a=some o)(h':H b=some u)(d:o≠u):a≠b:=by
 intro e;subst e;rw[h]at h';exact d (aN2 h')
theorem fI {H:Hp}{a b:Addr}{o:HO}(h:H a=some o)(h':H b=none):a≠b:=by
 intro e;subst e;rw[h]at h';cases h'
noncomputable def gG (h:Heap)(a:Addr):Prop:=∀o,h.get? a=some o->o.dict=none
theorem gG.new (h:Heap)(o:Obj)(d:o.dict=none)(s:o.isFreed=false:=by rfl):gG (h.push o) h.objs.size:=λu e=>by
 rw[aM4 h (o:=o) s]at e
 cases e;exact d
theorem gG.stay {h h':Heap}{a:Addr}{o:Obj}(n:gG h a)(e:h.get? a=some o)(e':h'.get? a=some o):gG h' a:=λu hu=>by
 rw[e']at hu;cases hu;exact n _ e
section
variable (P:Program)(w:World)
noncomputable def bV (H:Hp)(h:Heap)(a:Addr):HO->Prop
 |.lst xs=>xs.length<=sizeLine/\∃(its:List Value) (n:Nat),aQ xs its/\h.get? a=some { cls:=.type "list",data:=.seq its.toArray n }
 |.tup xs=>xs.length<=sizeLine/\∃its:List Value,aQ xs its/\IsTup h a its.toArray/\gG h a
 |.dK kvs=>kvs.length<=sizeLine/\(a==sysModules)=false/\∃vs,KV kvs vs/\h.DictOf (cT P w) a vs
 |.dT kvs=>kvs.length<=sizeLine/\(a==sysModules)=false/\∃xs:List (List aJ×Addr×Value),
   Paired (λ(p:List aJ×V) (q:List aJ×Addr×Value)=>p.1=q.1/\H q.2.1=some (.tup (p.1.map kV))/\aT p.2 q.2.2) kvs xs/\
   ∃o es ep,h.get? a=some o/\o.ExactDict/\o.data = .dict es ep/\es.toList=xs.map (entryOfKey (tupleKind (cT P w)))/\(xs.map (·.1)).Nodup
 |.set S n=>h.SetOf (intKind P w) a S n
 |.ins C dx fs=>H dx=some (.own a)/\fs.length<=1000/\dx≠a/\h.get? a=some (PySem.W.instObj C dx)/\
   ∃mA,h.Ns1 dx mA/\(∀f,gX (fs.lookup f) (mA f))/\PySem.Within mA (fs.map (·.1))
 |.own _=>∃o,h.get? a=some o
 |.xd fs=>∃mA,h.Ns1 a mA/\∀f,gX (fs.lookup f) (mA f)
 |.rng lo hi=>∃t u v,h.get? a=some { cls:=.type "range",data:=.fields #[.int lo t,.int hi u,.int 1 v] }
 |.frz o u=>h.get? a=some o/\bV H h a u
 |.tbl ps=>h.get? a=some { cls:=.none,data:=.fields ps }
 |.met f x=>h.get? a=some (PySem.W.methodObj (.ref f) (.ref x))
 |.ext φ=>φ h/\(∃o,h.get? a=some o)/\∀h1 h2:Heap,φ h1->(∀o,h1.get? a=some o->h2.get? a=some o)->φ h2
noncomputable def bN (H:Hp)(h:Heap):Prop:=∀a o,H a=some o->bV P w H h a o
end
section
variable {P:Program}{w:World}{H H':Hp}{h h':Heap}{a:Addr}{o:HO}
theorem bV.lt (x:bV P w H h a o):a<h.objs.size:=by
 cases o with
 |lst xs=>obtain⟨_,_,_,_,e⟩:=x;exact aL8 e
 |tup xs=>obtain⟨_,_,_,p,_⟩:=x;exact p.lt
 |dK kvs=>obtain⟨_,_,_,_,o,_,_,e,_⟩:=x;exact aL8 e
 |dT kvs=>obtain⟨_,_,_,_,o,_,_,e,_⟩:=x;exact aL8 e
 |set S n=>obtain⟨o,_,_,_,e,_⟩:=x;exact aL8 e
 |ins C dx fs=>obtain⟨_,_,_,e,_⟩:=x;exact aL8 e
 |own y=>obtain⟨_,e⟩:=x;exact aL8 e
 |xd fs=>obtain⟨_,⟨_,_,_,e,_⟩,_⟩:=x;exact aL8 e
 |rng lo hi=>obtain⟨_,_,_,e⟩:=x;exact aL8 e
 |frz ob u=>obtain⟨e,_⟩:=x;exact aL8 e
 |tbl ps=>exact aL8 (show h.get? a=some _ from x)
 |met f y=>exact aL8 (show h.get? a=some _ from x)
 |ext φ=>obtain⟨_,⟨_,e⟩,_⟩:=x;exact aL8 e
theorem Paired.mapP {α β:Type}{F G:α->β->Prop}:∀{l₁:List α}{l₂:List β},Paired F l₁ l₂->(∀a b,F a b->G a b)->Paired G l₁ l₂
 |_,_,.nil,_=>.nil
 |_,_,.cons r t,f=>.cons (f _ _ r) (Paired.mapP t f)
theorem bV.stay (x:bV P w H h a o)(k:∀b u,(b=a∨H b=some (.own a))->h.get? b=some u->h'.get? b=some u)(ho:∀b,H b=some (.own a)->H' b=some (.own a))(ht:∀b xs,H b=some (.tup xs)->H' b=some (.tup xs)):bV P w H' h' a o:=by
 induction o with
 |lst xs=>obtain⟨z,its,n,r,e⟩:=x;exact⟨z,its,n,r,k _ _ (.inl rfl) e⟩
 |tup xs=>obtain⟨z,its,r,⟨ob,e,c⟩,nd⟩:=x;exact⟨z,its,r,⟨ob,k _ _ (.inl rfl) e,c⟩,nd.stay e (k _ _ (.inl rfl) e)⟩
 |dK kvs=>obtain⟨z,y,vs,r,ob,es,ep,e,c⟩:=x;exact⟨z,y,vs,r,ob,es,ep,k _ _ (.inl rfl) e,c⟩
 |dT kvs=>
  obtain⟨z,y,xs,r,ob,es,ep,e,c⟩:=x
  exact⟨z,y,xs,Paired.mapP r λp q z=>⟨z.1,ht _ _ z.2.1,z.2.2⟩,ob,es,ep,k _ _ (.inl rfl) e,c⟩
 |set S n=>obtain⟨ob,es,ep,t,e,c⟩:=x;exact⟨ob,es,ep,t,k _ _ (.inl rfl) e,c⟩
 |ins C dx fs=>
  obtain⟨d,z,ne,e,mA,⟨od,es,ep,e2,c⟩,r⟩:=x
  exact⟨ho _ d,z,ne,k _ _ (.inl rfl) e,mA,⟨od,es,ep,k _ _ (.inr d) e2,c⟩,r⟩
 |own y=>obtain⟨ob,e⟩:=x;exact⟨ob,k _ _ (.inl rfl) e⟩
 |xd fs=>obtain⟨mA,⟨od,es,ep,e,c⟩,r⟩:=x;exact⟨mA,⟨od,es,ep,k _ _ (.inl rfl) e,c⟩,r⟩
 |rng lo hi=>obtain⟨t,u,v,e⟩:=x;exact⟨t,u,v,k _ _ (.inl rfl) e⟩
 |frz ob u ih=>obtain⟨e,q⟩:=x;exact⟨k _ _ (.inl rfl) e,ih q⟩
 |tbl ps=>
  have e:h.get? a=some { cls:=.none,data:=.fields ps }:=x
  show h'.get? a=some { cls:=.none,data:=.fields ps }
  exact k a _ (.inl rfl) e
 |met f y=>
  have e:h.get? a=some (PySem.W.methodObj (.ref f) (.ref y)):=x
  show h'.get? a=some (PySem.W.methodObj (.ref f) (.ref y))
  exact k a _ (.inl rfl) e
 |ext φ=>obtain⟨p,⟨o,e⟩,st⟩:=x;exact⟨st _ _ p λo q=>k _ _ (.inl rfl) q,⟨o,k _ _ (.inl rfl) e⟩,st⟩
theorem bN.lt (x:bN P w H h)(e:H a=some o):a<h.objs.size:=(x a o e).lt
theorem bN.fresh (x:bN P w H h)(e:h.objs.size<=a):H a=none:=by
 cases q:H a with
 |none=>rfl
 |some u=>exact absurd (aL4 (x.lt q) e) (aQ5 _)
theorem bN.kept (x:bN P w H h)(k:∀b u,h.get? b=some u->h'.get? b=some u):bN P w H h':=λa o e=>
 (x a o e).stay (λb u _ q=>k b u q) (λ_ q=>q) λ_ _ q=>q
theorem bN.laid (x:bN P w H h)(k:∀b u,h.get? b=some u->h'.get? b=some u)(hp:h.objs.size<=a)(new:bV P w (upd H a o) h' a o):bN P w (upd H a o) h':=λb u e=>by
 have hn:=x.fresh hp
 by_cases hb:b=a
 ·subst hb;rw[bP]at e;cases e;exact new
 ·rw[b9 hb]at e
  exact (x b u e).stay (λc v _ q=>k c v q) (λc q=>by rw[b9 (fI q hn)];exact q) λc xs q=>by rw[b9 (fI q hn)];exact q
end
noncomputable def Rd (H:Hp)(a:Addr)(u:HO):Prop:=H a=some u∨∃o,H a=some (.frz o u)
theorem Rd.ok {P:Program}{w:World}{H:Hp}{h:Heap}{a:Addr}{u:HO}(r:Rd H a u)(x:bN P w H h):bV P w H h a u:=by
 rcases r with r|⟨o,r⟩
 ·exact x a u r
 ·obtain⟨_,q⟩:=x a _ r
  exact q
noncomputable def lA:Option HO->Prop
 |some (.lst _)=>True
 |some (.dK _)=>True
 |some (.dT _)=>True
 |some (.set _ _)=>True
 |some (.ins _ _ _)=>True
 |some (.ext _)=>True
 |_=>False
section
variable {P:Program}{w:World}{H:Hp}{h h':Heap}{x e:Addr}{o':HO}
theorem bN.write (ok:bN P w H h)(mu:lA (H x))(he:e=x∨H e=some (.own x))(k:∀b u,b≠e->h.get? b=some u->h'.get? b=some u)(heo:∃u,h'.get? e=some u)(new:bV P w (upd H x o') h' x o'):bN P w (upd H x o') h':=λb u q=>by
 have nown:∀c y,H c=some (.own y)->c≠x:=λc y r z=>by subst z;rw[r]at mu;exact mu
 have ntup:∀c xs,H c=some (.tup xs)->c≠x:=λc xs r z=>by subst z;rw[r]at mu;exact mu
 by_cases hb:b=x
 ·subst hb;rw[bP]at q;cases q;exact new
 ·rw[b9 hb]at q
  by_cases hbe:b=e
  ·have q':H b=some (.own x):=by
    rcases he with z|z
    ·exact absurd (hbe.trans z) hb
    ·rw[hbe];exact z
   rw[q]at q';cases q'
   obtain⟨v,hv⟩:=heo
   exact⟨v,by rw[hbe];exact hv⟩
  ·refine (ok b u q).stay (λc v hc r=>k c v ?_ r) (λc r=>by rw[b9 (nown c b r)];exact r) λc xs r=>by rw[b9 (ntup c xs r)];exact r
   rcases hc with rfl|hc
   ·exact hbe
   ·rintro rfl
    rcases he with z|z
    ·exact nown c b hc z
    ·rw[hc]at z;cases z;exact hb rfl
end
structure Un (fs ex:List Addr)(H H':Hp)(h h':Heap):Prop where
 keep:∀b o,h.get? b=some o->H b=none->b∉fs->b∉ex->h'.get? b=some o
 slot:∀b o,h.get? b=some o->H b=none->b∈fs->b∉ex->∃sl,h'.get? b=some { o with slots:=sl }
 free:∀b o,h.get? b=some o->H b=none->b∉ex->H' b=none
 there:∀b o,h.get? b=some o->b∉ex->∃o',h'.get? b=some o'
 tups:∀b xs,H b=some (.tup xs)->H' b=some (.tup xs)
 frzs:∀b o u,H b=some (.frz o u)->H' b=some (.frz o u)
 tbls:∀b ps,H b=some (.tbl ps)->∃more,H' b=some (.tbl (ps++more))
section
variable {fs fs' ex ex':List Addr}{H H1 H2:Hp}{h h1 h2 h':Heap}{a x e:Addr}{o:HO}
theorem Un.any (u:Un fs ex H H1 h h1){b:Addr}{ob:Obj}(q:h.get? b=some ob)(n:H b=none)(hx:b∉ex):∃sl,h1.get? b=some { ob with slots:=sl }:=by
 by_cases hb:b∈fs
 ·exact u.slot b ob q n hb hx
 ·exact⟨ob.slots,u.keep b ob q n hb hx⟩
theorem Un.kept (k:∀b u,h.get? b=some u->h'.get? b=some u):Un fs ex H H h h':=
 ⟨λb ob q _ _ _=>k b ob q,λb ob q _ _ _=>⟨ob.slots,k b ob q⟩,λ_ _ _ n _=>n,λb ob q _=>⟨ob,k b ob q⟩,λ_ _ q=>q,λ_ _ _ q=>q,λ_ ps q=>⟨#[],by rw[q];simp⟩⟩
theorem Un.refl:Un fs ex H H h h:=Un.kept λ_ _ q=>q
theorem Un.laid (k:∀b u,h.get? b=some u->h'.get? b=some u)(hp:h.objs.size<=a)(hn:H a=none):Un fs ex H (upd H a o) h h' where
 keep:=λb u q _ _ _=>k b u q
 slot:=λb u q _ _ _=>⟨u.slots,k b u q⟩
 free:=λb u q n _=>by rw[b9 (aN6 (aL4 (aL8 q) hp))];exact n
 there:=λb u q _=>⟨u,k b u q⟩
 tups:=λb xs q=>by rw[b9 (fI q hn)];exact q
 frzs:=λb u xs q=>by rw[b9 (fI q hn)];exact q
 tbls:=λb ps q=>⟨#[],by rw[b9 (fI q hn),q];simp⟩
theorem Un.write (mu:lA (H x))(he:e=x∨H e=some (.own x))(k:∀b u,b≠e->h.get? b=some u->h'.get? b=some u)(heo:∃u,h'.get? e=some u):Un fs ex H (upd H x o) h h':=by
 have hx:∀b,H b=none->b≠x:=λb n z=>by subst z;rw[n]at mu;exact mu
 have hb:∀b,H b=none->b≠e:=λb n z=>by
  subst z
  rcases he with r|r
  ·exact hx b n r
  ·rw[n]at r;cases r
 have hm:∀b u,H b=some u->¬lA (some u)->b≠x:=λb u q nm z=>by subst z;rw[q]at mu;exact nm mu
 refine⟨λb u q n _ _=>k b u (hb b n) q,λb u q n _ _=>⟨u.slots,k b u (hb b n) q⟩,λb u q n _=>by rw[b9 (hx b n)];exact n,λb u q _=>?_,
  λb xs q=>by rw[b9 (hm b _ q λz=>z)];exact q,λb u xs q=>by rw[b9 (hm b _ q λz=>z)];exact q,λb ps q=>⟨#[],by rw[b9 (hm b _ q λz=>z),q];simp⟩⟩
 by_cases hbe:b=e
 ·subst hbe;exact heo
 ·exact⟨u,k b u hbe q⟩
end
noncomputable def nE (h:Heap)(H:Hp):List Addr:=(List.range h.objs.size).filter λa=>(H a).isSome
noncomputable def gY (h:Heap)(H:Hp):Heap:=PySem.W.hideAll h (nE h H)
theorem T1 (h:Heap)(H:Hp):(gY h H).objs.size=h.objs.size:=PySem.W.hideAll_size _ _
theorem T2 {h:Heap}{H:Hp}{b:Addr}{o:Obj}(e:h.get? b=some o)(n:H b=none):(gY h H).get? b=some o:=
 PySem.W.hideAll_get _ e λhm=>by
  have q:(H b).isSome=true:=(List.mem_filter.mp hm).2
  rw[n]at q;simp at q
theorem T3 {h:Heap}{H:Hp}{b:Addr}{o:Obj}(e:(gY h H).get? b=some o):h.get? b=some o/\H b=none:=by
 have e':h.get? b=some o:=PySem.W.of_hideAll (nE h H) e
 refine⟨e',?_⟩
 cases q:H b with
 |none=>rfl
 |some x=>
  have hm:b∈nE h H:=List.mem_filter.mpr ⟨List.mem_range.mpr (aL8 e'),by simp[q]⟩
  have z:(gY h H).get? b=none:=PySem.W.hideAll_none (nE h H) hm
  rw[z]at e;cases e
noncomputable def T4 (g h:Heap)(L:Addr):List (Addr×Obj):=(List.range h.objs.size).filterMap λa=>if a=L∨(g.get? a).isSome=true then none else (h.get? a).map λo=>(a,o)
noncomputable def cC (g h:Heap)(L d:Addr):List (Addr×Obj):=(T4 g h L).filter λp=>decide (p.1≠d)
structure Mod (K:ac)(mg:Str->Option Value)(base:Heap):Prop where
 kin:K.In base
 glob:base.Ns mainGlobals mg
 blt:∃mb,base.Ns builtinsNs mb/\∀x:Str,x≠"__name__"->mb x=bootBuiltins x
 nolimit:base.NoLimit
structure Cx where
 prog:Program
 w:World
 K:ac
 mg:Str->Option Value
 base:Heap
 A:Around
 N:List Str
 s₀:Shared
 H₀:Hp
 env:Env
 outer:List Env
 stack:List Env
 ex:List Addr
 fn:Str->Bool
 calm:Bool
 pn:List (Addr×Obj)
 xe:Value->Shared->Prop
noncomputable def bH (l:List Env):List Addr:=l.filterMap (·.frame)
noncomputable abbrev Cx.fs (X:Cx):List Addr:=bH X.outer
noncomputable def gZ (sc:Scope)(x:Str):Prop:=sc.names.lookup x=some .local∨sc.names.lookup x=some .cell∨sc.names.lookup x=some .free
noncomputable def hG (sc:Scope)(x:Str):Prop:=sc.names.lookup x=some .local∨sc.names.lookup x=some .cell
noncomputable def T5 (env:Env)(h:Heap)(m:Str->Option Value)(x:Str)(u:Value):Prop:=
 (env.kindOf x=some .local/\m x=some u)∨((env.kindOf x=some .cell∨env.kindOf x=some .free)/\∃c,env.cells.lookup x=some c/\h.IsCell c (some u))
structure Cx.Ok (X:Cx):Prop where
 mod:Mod X.K X.mg X.base
 kind:X.env.scope.kind = .function
 glob:X.env.globals=mainGlobals
 blt:X.env.builtins=builtinsNs
 above:X.s₀.heap.objs.size<=X.env.locals
 inj:∀x y c,X.env.cells.lookup x=some c->X.env.cells.lookup y=some c->x=y
 has:∀x,(X.env.kindOf x=some .cell∨X.env.kindOf x=some .free)->∃c,X.env.cells.lookup x=some c
 cab:∀x c,X.fn x=true->X.env.cells.lookup x=some c->X.s₀.heap.objs.size<=c
 hd:X.calm=true->X.A.handled=none
 frames:X.A.frames=some X.stack
 stk:X.stack=X.outer∨(X.stack=X.env::X.outer/\X.env.frame=some X.env.locals)
 exf:∀b∈X.ex,b≠X.env.locals/\∀x c,X.env.cells.lookup x=some c->c≠b
 bs:∀b o,X.base.get? b=some o->X.s₀.heap.get? b=some o/\X.H₀ b=none
 bsz:X.base.objs.size<=X.s₀.heap.objs.size
 noex:∀b o,X.base.get? b=some o->b∉X.ex
 exfs:∀b∈X.ex,b∉X.fs
 funs:X.s₀.heap.FunFrames X.base X.outer
 frf:∀b∈X.fs,X.H₀ b=none
structure a8 (X:Cx)(pins:List (Addr×Obj))(σ:List (Option V))(H:Hp)(s:Shared):Prop where
 ok:X.Ok
 os:s.os=X.s₀.os
 bare:AllBare s.gens
 base:Un X.fs X.ex X.H₀ H X.s₀.heap s.heap
 loc:∃m,s.heap.Ns X.env.locals m/\∀(i:Nat) (x:Str) (v:V),X.N[i]? = some x->σ[i]? = some (some v)->gZ X.env.scope x->∃u,aT v u/\T5 X.env s.heap m x u
 cell:∀x c,X.env.cells.lookup x=some c->∃v,s.heap.IsCell c v
 free:H X.env.locals=none
 freeC:∀x c,X.env.cells.lookup x=some c->H c=none
 pin:∀p∈X.pn++pins,s.heap.get? p.1=some p.2/\H p.1=none/\p.1≠X.env.locals/\p.1∉X.fs/\∀v,p.2.data≠.cell v
 hok:bN X.prog X.w H s.heap
 len:σ.length=X.N.length
section
variable {X:Cx}{pins:List (Addr×Obj)}{σ:List (Option V)}{H H':Hp}{s:Shared}{h':Heap}
theorem Cx.Ok.nofr (ok:X.Ok){b:Addr}{o:Obj}(e:X.base.get? b=some o):b∉X.fs:=λhb=>by
 have:=(ok.funs.mem hb).1
 rw[e]at this;cases this
theorem a8.bs (I:a8 X pins σ H s):∀b o,X.base.get? b=some o->s.heap.get? b=some o/\H b=none:=λb o e=>
 ⟨I.base.keep b o (I.ok.bs b o e).1 (I.ok.bs b o e).2 (I.ok.nofr e) (I.ok.noex b o e),I.base.free b o (I.ok.bs b o e).1 (I.ok.bs b o e).2 (I.ok.noex b o e)⟩
theorem a8.bk (I:a8 X pins σ H s):∀b o,X.base.get? b=some o->s.heap.get? b=some o:=λb o e=>(I.bs b o e).1
theorem a8.mod (I:a8 X pins σ H s):Mod X.K X.mg X.base:=I.ok.mod
theorem a8.kIn (I:a8 X pins σ H s):X.K.In s.heap:=I.ok.mod.kin.keeps I.bk
theorem a8.fr (I:a8 X pins σ H s):∃m,Fr X.base X.env.locals s.heap m:=
 let ⟨m,hn,_⟩:=I.loc
 ⟨m,hn,I.bk,aN8 I.ok.bsz I.ok.above⟩
theorem a8.lt (I:a8 X pins σ H s):X.env.locals<s.heap.objs.size:=let ⟨_,hn,_⟩:=I.loc;hn.lt
theorem a8.sz (I:a8 X pins σ H s):X.s₀.heap.objs.size<=s.heap.objs.size:=aN8 I.ok.above (aR3 I.lt)
theorem a8.nofs (I:a8 X pins σ H s){a:Addr}(h:s.heap.objs.size<=a):a∉X.fs:=λhb=>by
 obtain⟨_,o,ho,_⟩:=I.ok.funs.mem hb
 exact absurd (aL4 (aL8 ho) (aN8 I.sz h)) (aQ5 _)
theorem a8.cne (I:a8 X pins σ H s):∀x c,X.env.cells.lookup x=some c->c≠X.env.locals:=λx c e z=>by
 obtain⟨v,o,ho,hd⟩:=I.cell x c e
 obtain⟨m,⟨o',es,ep,ho',hd',_⟩,_⟩:=I.loc
 rw[z,ho']at ho;cases ho;rw[hd']at hd;cases hd
theorem a8.funs (I:a8 X pins σ H s):s.heap.FunFrames X.base X.outer:=by
 have all:∀(l:List Env),(∀b∈bH l,b∈X.fs)->X.s₀.heap.FunFrames X.base l->s.heap.FunFrames X.base l:=by
  intro l
  induction l with
  |nil=>intro _ _;trivial
  |cons env r ih=>
   intro hs hl
   obtain⟨hk,⟨L,o,hf,hn,ho,hd⟩,hr⟩:=hl
   have hL:L∈X.fs:=hs L (by unfold bH;rw[List.filterMap_cons,hf];exact aM3)
   obtain⟨sl,e⟩:=I.base.slot L o ho (I.ok.frf L hL) hL λz=>I.ok.exfs L z hL
   exact⟨hk,⟨L,_,hf,hn,e,hd⟩,ih (λb hb=>hs b (by unfold bH;rw[List.filterMap_cons,hf];exact aM6 _ hb)) hr⟩
 exact all X.outer (λ_ hb=>hb) I.ok.funs
theorem a8.stack (I:a8 X pins σ H s):s.heap.FunFrames X.base X.stack:=by
 rcases I.ok.stk with e|⟨e,hf⟩
 ·rw[e];exact I.funs
 ·rw[e]
  obtain⟨m,hn,_⟩:=I.loc
  refine .cons (by rw[I.ok.kind];decide) hf hn ?_ I.funs
  exact Heap.get?_none_of_le (aN8 I.ok.bsz I.ok.above)
theorem a8.stkSub (I:a8 X pins σ H s):∀b∈bH X.stack,b∈X.env.locals::X.fs:=λb hb=>by
 rcases I.ok.stk with e|⟨e,hf⟩
 ·rw[e]at hb;exact aM6 _ hb
 ·rw[e]at hb
  unfold bH at hb
  rw[List.filterMap_cons,hf]at hb
  exact hb
theorem a8.stkFree (I:a8 X pins σ H s):∀b∈bH X.stack,H b=none:=λb hb=>by
 rcases aL0.mp (I.stkSub b hb) with e|hb
 ·rw[e];exact I.free
 ·obtain⟨_,o,ho,_⟩:=I.ok.funs.mem hb
  exact I.base.free b o ho (I.ok.frf b hb) λz=>I.ok.exfs b z hb
theorem a8.step {g':Array GenState}{t':Nat}{d':Drawn}{ch:List Addr}(I:a8 X pins σ H s)(hch:∀b∈ch,(b∈X.ex∨X.s₀.heap.objs.size<=b)/\b≠X.env.locals/\(∀x c,X.env.cells.lookup x=some c->c≠b)/\∀p∈X.pn++pins,p.1≠b)(keep:∀b o,b≠X.env.locals->b∉X.fs->b∉ch->s.heap.get? b=some o->H b=none->h'.get? b=some o)(slot:∀b o,b≠X.env.locals->b∈X.fs->b∉ch->s.heap.get? b=some o->H b=none->∃sl,h'.get? b=some { o with slots:=sl })(free:∀b o,b∉ch->s.heap.get? b=some o->H b=none->H' b=none)(there:∀b o,b∉ch->s.heap.get? b=some o->∃o',h'.get? b=some o')(tups:∀b xs,H b=some (.tup xs)->H' b=some (.tup xs))(frzs:∀b o u,H b=some (.frz o u)->H' b=some (.frz o u))(tbls:∀b ps,H b=some (.tbl ps)->∃more,H' b=some (.tbl (ps++more)))(ns:∀m,s.heap.Ns X.env.locals m->h'.Ns X.env.locals m)(hok:bN X.prog X.w H' h')(hg:AllBare g') :
  a8 X pins σ H' { s with heap:=h',gens:=g',drawn:=d',toks:=t' }:=by
 have neL:∀b o,X.s₀.heap.get? b=some o->b≠X.env.locals:=λb o e=>aN6 (aL4 (aL8 e) I.ok.above)
 have neC:∀b o,X.s₀.heap.get? b=some o->b∉X.ex->b∉ch:=λb o e hx hb=>by
  rcases (hch b hb).1 with z|z
  ·exact hx z
  ·exact absurd (aL4 (aL8 e) z) (aQ5 _)
 have cellK:∀x c,X.env.cells.lookup x=some c->∀v,s.heap.IsCell c v->h'.IsCell c v:=λx c e v ⟨o,ho,hd⟩=>by
  have nch:c∉ch:=λz=>(hch c z).2.2.1 x c e rfl
  by_cases hc:c∈X.fs
  ·obtain⟨sl,q⟩:=slot c o (I.cne x c e) hc nch ho (I.freeC x c e)
   exact⟨_,q,hd⟩
  ·exact⟨o,keep c o (I.cne x c e) hc nch ho (I.freeC x c e),hd⟩
 refine⟨I.ok,I.os,hg,⟨λb o e n hb hx=>?_,λb o e n hb hx=>?_,λb o e n hx=>?_,λb o e hx=>?_,λb xs e=>tups b xs (I.base.tups b xs e),λb o xs e=>frzs b o xs (I.base.frzs b o xs e),λb ps e=>?_⟩,?_,λx c e=>?_,?_,λx c e=>?_,λp hp=>?_,hok,I.len⟩
 ·exact keep b o (neL b o e) hb (neC b o e hx) (I.base.keep b o e n hb hx) (I.base.free b o e n hx)
 ·obtain⟨sl,e1⟩:=I.base.slot b o e n hb hx
  obtain⟨sl',e2⟩:=slot b _ (neL b o e) hb (neC b o e hx) e1 (I.base.free b o e n hx)
  exact⟨sl',e2⟩
 ·obtain⟨o',e1⟩:=I.base.there b o e hx
  exact free b o' (neC b o e hx) e1 (I.base.free b o e n hx)
 ·obtain⟨o',e1⟩:=I.base.there b o e hx
  exact there b o' (neC b o e hx) e1
 ·obtain⟨m1,e1⟩:=I.base.tbls b ps e
  obtain⟨m2,e2⟩:=tbls b _ e1
  exact⟨m1++m2,by rw[e2,Array.append_assoc]⟩
 ·obtain⟨m,hn,hl⟩:=I.loc
  refine⟨m,ns m hn,λi x v e1 e2 e3=>?_⟩
  obtain⟨u,r,l⟩:=hl i x v e1 e2 e3
  refine⟨u,r,?_⟩
  rcases l with l|⟨k,c,e,z⟩
  ·exact .inl l
  ·exact .inr ⟨k,c,e,cellK x c e _ z⟩
 ·obtain⟨v,z⟩:=I.cell x c e
  exact⟨v,cellK x c e v z⟩
 ·obtain⟨m,⟨o,_,_,ho,_⟩,_⟩:=I.loc
  exact free _ o (λz=>(hch _ z).2.1 rfl) ho I.free
 ·obtain⟨v,o,ho,hd⟩:=I.cell x c e
  exact free c o (λz=>(hch c z).2.2.1 x c e rfl) ho (I.freeC x c e)
 ·obtain⟨e,n,ne,nf,d⟩:=I.pin p hp
  have nch:p.1∉ch:=λz=>(hch p.1 z).2.2.2 p hp rfl
  exact⟨keep p.1 p.2 ne nf nch e n,free p.1 p.2 nch e n,ne,nf,d⟩
theorem a8.un {t':Nat}(I:a8 X pins σ H s)(u:Un X.fs [] H H' s.heap h')(hok:bN X.prog X.w H' h'):a8 X pins σ H' { s with heap:=h',toks:=t' }:=by
 obtain⟨m,⟨o,es,ep,ho,r⟩,_⟩:=id I.loc
 obtain⟨sl,hL⟩:=u.any ho I.free (by simp)
 exact I.step (g':=s.gens) (d':=s.drawn) (ch:=[]) (λ_ z=>nomatch z) (λb o _ hb _ e n=>u.keep b o e n hb (by simp)) (λb o _ hb _ e n=>u.slot b o e n hb (by simp)) (λb o _ e n=>u.free b o e n (by simp)) (λb o _ e=>u.there b o e (by simp)) u.tups u.frzs u.tbls (λm' hm=>by
  obtain⟨o',es',ep',ho',r'⟩:=hm
  rw[ho]at ho';cases ho'
  exact⟨_,es',ep',hL,r'⟩) hok I.bare
theorem a8.call {g':Array GenState}{t':Nat}{d':Drawn}{ch:List Addr}(I:a8 X pins σ H s)(u:Un (bH X.stack) ch H H' s.heap h')(hok:bN X.prog X.w H' h')(hg:AllBare g')(hch:∀b∈ch,(b∈X.ex∨X.s₀.heap.objs.size<=b)/\b≠X.env.locals/\(∀x c,X.env.cells.lookup x=some c->c≠b)/\∀p∈X.pn++pins,p.1≠b) :
  a8 X pins σ H' { s with heap:=h',gens:=g',drawn:=d',toks:=t' }:=by
 obtain⟨m,⟨o,es,ep,ho,r⟩,_⟩:=id I.loc
 obtain⟨sl,hL⟩:=u.any ho I.free λz=>(hch _ z).2.1 rfl
 exact I.step (ch:=ch) hch (λb o hL hb hc e n=>u.keep b o e n (λz=>(aL0.mp (I.stkSub b z)).elim hL hb) hc) (λb o _ _ hc e n=>u.any e n hc) (λb o hc e n=>u.free b o e n hc) (λb o hc e=>u.there b o e hc) u.tups u.frzs u.tbls (λm' hm=>by
  obtain⟨o',es',ep',ho',r'⟩:=hm
  rw[ho]at ho';cases ho'
  exact⟨_,es',ep',hL,r'⟩) hok hg
theorem a8.turned {t':Nat}{it:Addr}(I:a8 X pins σ H s)(k:∀b o,b≠it->s.heap.get? b=some o->h'.get? b=some o)(hn:H it=none)(hL:it≠X.env.locals)(h1:it∈X.ex∨X.s₀.heap.objs.size<=it)(h2:∀x c,X.env.cells.lookup x=some c->c≠it)(h3:∀p∈X.pn++pins,p.1≠it):a8 X pins σ H { s with heap:=h',toks:=t' }:=by
 have nit:∀b u,H b=some u->b≠it:=λb u e z=>by rw[z,hn]at e;cases e
 refine I.step (g':=s.gens) (d':=s.drawn) (ch:=[it]) (λb hb=>?_) (λb o _ _ hc e _=>k b o (λz=>hc (by simp[z])) e) (λb o _ _ hc e _=>⟨o.slots,k b o (λz=>hc (by simp[z])) e⟩) (λ_ _ _ _ n=>n)
  (λb o hc e=>⟨o,k b o (λz=>hc (by simp[z])) e⟩) (λ_ _ e=>e) (λ_ _ _ e=>e) (λb ps e=>⟨#[],by rw[e];simp⟩) (λm hm=>?_) (λb u e=>?_) I.bare
 ·have e:b=it:=by simpa using hb
  subst e
  exact⟨h1,hL,h2,h3⟩
 ·obtain⟨o,es,ep,ho,r⟩:=hm
  exact⟨o,es,ep,k _ o (Ne.symm hL) ho,r⟩
 ·refine (I.hok b u e).stay (λc v hc q=>k c v ?_ q) (λ_ q=>q) λ_ _ q=>q
  rcases hc with z|z
  ·rw[z];exact nit b u e
  ·exact nit c _ z
theorem a8.tok (I:a8 X pins σ H s)(t:Nat):a8 X pins σ H { s with toks:=t }:=I.un (h':=s.heap) (t':=t) Un.refl I.hok
theorem a8.kept {t':Nat}(I:a8 X pins σ H s)(k:∀b u,s.heap.get? b=some u->h'.get? b=some u):a8 X pins σ H { s with heap:=h',toks:=t' }:=I.un (Un.kept k) (I.hok.kept k)
theorem a8.laid {a:Addr}{o:HO}{t':Nat}(I:a8 X pins σ H s)(k:∀b u,s.heap.get? b=some u->h'.get? b=some u)(hp:s.heap.objs.size<=a)(new:bV X.prog X.w (upd H a o) h' a o) :
  a8 X pins σ (upd H a o) { s with heap:=h',toks:=t' }:=I.un (Un.laid k hp (I.hok.fresh hp)) (I.hok.laid k hp new)
theorem a8.write {x e:Addr}{o:HO}{t':Nat}(I:a8 X pins σ H s)(mu:lA (H x))(he:e=x∨H e=some (.own x))(k:∀b u,b≠e->s.heap.get? b=some u->h'.get? b=some u)(heo:∃u,h'.get? e=some u)(new:bV X.prog X.w (upd H x o) h' x o):a8 X pins σ (upd H x o) { s with heap:=h',toks:=t' }:=I.un (Un.write mu he k heo) (I.hok.write mu he k heo new)
theorem a8.weak {σ':List (Option V)}(I:a8 X pins σ H s)(hl:σ'.length=σ.length)(w:∀(i:Nat) v,σ'[i]? = some (some v)->σ[i]? = some (some v)):a8 X pins σ' H s:=
 ⟨I.ok,I.os,I.bare,I.base,let ⟨m,hn,hl'⟩:=I.loc;⟨m,hn,λi x v e1 e2 e3=>hl' i x v e1 (w i v e2) e3⟩,I.cell,I.free,I.freeC,I.pin,I.hok,hl.trans I.len⟩
theorem a8.pins_of {pins':List (Addr×Obj)}(I:a8 X pins σ H s)(h:∀p∈pins',s.heap.get? p.1=some p.2/\H p.1=none/\p.1≠X.env.locals/\p.1∉X.fs/\∀v,p.2.data≠.cell v):a8 X pins' σ H s:=
 ⟨I.ok,I.os,I.bare,I.base,I.loc,I.cell,I.free,I.freeC,λp hp=>(aS4.mp hp).elim (λz=>I.pin p (aW5 _ z)) (h p),I.hok,I.len⟩
theorem qI {N:List Str}(hN:N.Nodup){i j:Nat}{x:Str}(a:N[i]? = some x)(b:N[j]? = some x):i=j:=by
 obtain⟨h1,e1⟩:=aM0.mp a
 obtain⟨h2,e2⟩:=aM0.mp b
 exact (List.getElem_inj hN).mp (e1.trans e2.symm)
theorem T6 {M:Model}{A:Around}{E:Value->Shared->Prop}{i:Nat}{x:Str}{v:V}{u:Value}{Q:Unit->Shared->Prop}(I:a8 X pins σ H s)(hN:X.N.Nodup)(hi:X.N[i]? = some x)(hx:hG X.env.scope x)(r:aT v u)(h:∀s',a8 X pins (σ.set i (some v)) H s'->(∃a,Heap.SameBut a s.heap s'.heap/\(a=X.env.locals∨X.env.cells.lookup x=some a))->Q () s')(hf:X.fn x=true∨X.env.scope.names.lookup x=some .local:=by first|exact .inl rfl|exact .inr rfl|assumption):wpAny M A (storeName X.env x u) Q E s:=by
 obtain⟨m,hn,hl⟩:=id I.loc
 have hcls:(X.env.scope.kind==.class||(X.env.scope.kind==.module&&X.env.locals != X.env.globals))=false:=by rw[I.ok.kind];rfl
 have hiσ:i<σ.length:=by rw[I.len];exact (aM0.mp hi).1
 have cne:=I.cne
 have tracked:∀{a:Addr}{h':Heap},(∃o,s.heap.get? a=some o/\H a=none)->Heap.SameBut a s.heap h'->bN X.prog X.w H h':=λ{a h'} ha hs b ob e=>by
  obtain⟨_,_,hfree⟩:=ha
  refine (I.hok b ob e).stay (λc w' hc q=>(hs.2 c ?_).trans q) (λ_ q=>q) λ_ _ q=>q
  rintro rfl
  rcases hc with rfl|hc
  ·rw[hfree]at e;cases e
  ·rw[hfree]at hc;cases hc
 rcases hx with hk|hk
 ·refine wpAny_storeName_local hk hn (λh' hn' hs=>?_) hcls
  obtain⟨oL,_,_,hoL,_⟩:=id hn
  refine h _ ⟨I.ok,I.os,I.bare,⟨λb o e n hb hx=>?_,λb o e n hb hx=>?_,I.base.free,λb o e hx=>?_,I.base.tups,I.base.frzs,I.base.tbls⟩,⟨_,hn',λj y v' e1 e2 e3=>?_⟩,λy c e=>?_,I.free,I.freeC,λp hp=>?_,tracked ⟨oL,hoL,I.free⟩ hs,by simpa using I.len⟩ ⟨_,hs,.inl rfl⟩
  ·exact (hs.2 b (aN6 (aL4 (aL8 e) I.ok.above))).trans (I.base.keep b o e n hb hx)
  ·obtain⟨sl,e1⟩:=I.base.slot b o e n hb hx
   exact⟨sl,(hs.2 b (aN6 (aL4 (aL8 e) I.ok.above))).trans e1⟩
  ·obtain⟨o',e1⟩:=I.base.there b o e hx
   exact⟨o',(hs.2 b (aN6 (aL4 (aL8 e) I.ok.above))).trans e1⟩
  ·by_cases hj:j=i
   ·subst hj
    rw[hi]at e1;cases e1
    rw[aQ1 hiσ]at e2
    cases e2
    exact⟨u,r,.inl ⟨hk,by simp⟩⟩
   ·rw[aM7 (Ne.symm hj)]at e2
    obtain⟨u',r',q⟩:=hl j y v' e1 e2 e3
    refine⟨u',r',?_⟩
    rcases q with⟨k,e⟩|⟨k,c,e,z⟩
    ·refine .inl ⟨k,?_⟩
     have:y≠x:=λe=>hj (qI hN e1 (e▸hi))
     simp[this,e]
    ·exact .inr ⟨k,c,e,z.sameBut hs (cne y c e)⟩
  ·obtain⟨w',z⟩:=I.cell y c e
   exact⟨w',z.sameBut hs (cne y c e)⟩
  ·obtain⟨e,n,ne,nf,d⟩:=I.pin p hp
   exact⟨(hs.2 p.1 ne).trans e,n,ne,nf,d⟩
 ·have hfn:X.fn x=true:=by
   rcases hf with z|z
   ·exact z
   ·rw[z]at hk;cases hk
  obtain⟨c,hc⟩:=I.ok.has x (.inl hk)
  obtain⟨w',z⟩:=I.cell x c hc
  refine wpAny_storeName_cell I.ok.kind hk hc z (λh' hc' hs=>?_)
  obtain⟨oc,hoc,hocd⟩:=id z
  refine h { s with heap:=h' } ⟨I.ok,I.os,I.bare,⟨λb o e n hb hx=>?_,λb o e n hb hx=>?_,I.base.free,λb o e hx=>?_,I.base.tups,I.base.frzs,I.base.tbls⟩,⟨m,hn.sameBut hs (Ne.symm (cne x c hc)),λj y v' e1 e2 e3=>?_⟩,λy c' e=>?_,I.free,I.freeC,λp hp=>?_,tracked ⟨oc,hoc,I.freeC x c hc⟩ hs,by simpa using I.len⟩ ⟨c,hs,.inr hc⟩
  ·exact (hs.2 b (aN6 (aL4 (aL8 e) (I.ok.cab x c hfn hc)))).trans (I.base.keep b o e n hb hx)
  ·obtain⟨sl,e1⟩:=I.base.slot b o e n hb hx
   exact⟨sl,(hs.2 b (aN6 (aL4 (aL8 e) (I.ok.cab x c hfn hc)))).trans e1⟩
  ·obtain⟨o',e1⟩:=I.base.there b o e hx
   exact⟨o',(hs.2 b (aN6 (aL4 (aL8 e) (I.ok.cab x c hfn hc)))).trans e1⟩
  ·by_cases hj:j=i
   ·subst hj
    rw[hi]at e1;cases e1
    rw[aQ1 hiσ]at e2
    cases e2
    exact⟨u,r,.inr ⟨.inl hk,c,hc,hc'⟩⟩
   ·rw[aM7 (Ne.symm hj)]at e2
    obtain⟨u',r',q⟩:=hl j y v' e1 e2 e3
    refine⟨u',r',?_⟩
    rcases q with q|⟨k,c',e,z'⟩
    ·exact .inl q
    ·refine .inr ⟨k,c',e,z'.sameBut hs ?_⟩
     rintro rfl
     exact hj (qI hN e1 (I.ok.inj _ _ _ e hc▸hi))
  ·by_cases hcc:c'=c
   ·subst hcc;exact⟨_,hc'⟩
   ·obtain⟨w2,z2⟩:=I.cell y c' e
    exact⟨w2,z2.sameBut hs hcc⟩
  ·obtain⟨e,n,ne,nf,d⟩:=I.pin p hp
   refine⟨(hs.2 p.1 ?_).trans e,n,ne,nf,d⟩
   intro q
   rw[q,hoc]at e
   have q':oc=p.2:=aN2 e
   exact d w' (by rw[<- q'];exact hocd)
theorem qJ {M:Model}{A:Around}{E:Value->Shared->Prop}{i:Nat}{x:Str}{v:V}{u:Value}{Q:Unit->Shared->Prop}(I:a8 X pins σ H s)(hN:X.N.Nodup)(hi:X.N[i]? = some x)(hx:hG X.env.scope x)(r:aT v u)(h:∀s',a8 X pins (σ.set i (some v)) H s'->Q () s')(hf:X.fn x=true∨X.env.scope.names.lookup x=some .local:=by first|exact .inl rfl|exact .inr rfl|assumption):wpAny M A (storeName X.env x u) Q E s:=
 T6 I hN hi hx r (λs' I' _=>h s' I') hf
theorem a8.call' {s':Shared}{ch:List Addr}(I:a8 X pins σ H s)(ho:s'.os=s.os)(u:Un (bH X.stack) ch H H' s.heap s'.heap)(hok:bN X.prog X.w H' s'.heap)(hg:AllBare s'.gens)(hch:∀b∈ch,(b∈X.ex∨X.s₀.heap.objs.size<=b)/\b≠X.env.locals/\(∀x c,X.env.cells.lookup x=some c->c≠b)/\∀p∈X.pn++pins,p.1≠b):a8 X pins σ H' s':=by
 obtain⟨h',g',d',t',o'⟩:=s'
 have e:o'=s.os:=ho
 subst e
 exact I.call (g':=g') (t':=t') (d':=d') u hok hg hch
end
noncomputable abbrev XK:=Value->Option Addr->Hp->Prop
noncomputable abbrev St:=List (Option V)
noncomputable abbrev VK:=V->Hp->Prop
noncomputable abbrev TE:=St->Hp->VK->Prop
noncomputable abbrev TT:=St->Hp->(Bool->Hp->Prop)->Prop
noncomputable abbrev TA:=St->Hp->(List V->Hp->Prop)->Prop
structure cX where
 nx:St->Hp->Prop
 rt:VK
 bk:St->Hp->Prop:=λ_ _=>False
 ct:St->Hp->Prop:=λ_ _=>False
noncomputable abbrev TS:=cX->St->Hp->Prop
noncomputable def EP (X:Cx)(pins:List (Addr×Obj))(σ:St)(Q:VK)(u:Value)(s':Shared):Prop:=∃v H',a8 X pins σ H' s'/\aT v u/\Q v H'
noncomputable def TP (X:Cx)(pins:List (Addr×Obj))(σ:St)(Q:Bool->Hp->Prop)(b:Bool)(s':Shared):Prop:=∃H',a8 X pins σ H' s'/\Q b H'
noncomputable def AP (X:Cx)(pins:List (Addr×Obj))(σ:St)(Q:List V->Hp->Prop)(us:List Value)(s':Shared):Prop:=∃vs H',a8 X pins σ H' s'/\aQ vs us/\Q vs H'
noncomputable def SP (X:Cx)(pins:List (Addr×Obj))(D:cX)(f:Flow)(s':Shared):Prop:=
 match f with
 |.next=>∃σ' H',a8 X pins σ' H' s'/\D.nx σ' H'
 |.brk=>∃σ' H',a8 X pins σ' H' s'/\D.bk σ' H'
 |.cont=>∃σ' H',a8 X pins σ' H' s'/\D.ct σ' H'
 |.ret u=>∃v σ' H',a8 X pins σ' H' s'/\aT v u/\D.rt v H'
noncomputable def PE (X:Cx)(e:Expr)(t:TE):Prop:=
 ∀(pins:List (Addr×Obj)) (s:Shared) (σ:St) (H:Hp) (Q:VK),a8 X pins σ H s->t σ H Q->wpAny (model X.prog X.w) X.A (eval e X.env) (EP X pins σ Q) X.xe s
noncomputable def PT (X:Cx)(e:Expr)(t:TT):Prop:=
 ∀(pins:List (Addr×Obj)) (s:Shared) (σ:St) (H:Hp) (Q:Bool->Hp->Prop),a8 X pins σ H s->t σ H Q->wpAny (model X.prog X.w) X.A (isTrue e X.env (eval e X.env)) (TP X pins σ Q) X.xe s
noncomputable def PW (X:Cx)(e:Expr)(t:TT):Prop:=
 ∀(whole:Sem Value) (pins:List (Addr×Obj)) (s:Shared) (σ:St) (H:Hp) (Q:Bool->Hp->Prop),a8 X pins σ H s->t σ H Q->wpAny (model X.prog X.w) X.A (isTrue e X.env whole) (TP X pins σ Q) X.xe s
theorem PW.pt {X:Cx}{e:Expr}{t:TT}(h:PW X e t):PT X e t:=h _
noncomputable def PA (X:Cx)(es:List Expr)(t:TA):Prop:=
 ∀(pos:Pos) (pins:List (Addr×Obj)) (s:Shared) (σ:St) (H:Hp) (Q:List V->Hp->Prop),a8 X pins σ H s->t σ H Q->wpAny (model X.prog X.w) X.A (spliced (backTo pos (starEach es X.env))) (AP X pins σ Q) X.xe s
noncomputable def PS (X:Cx)(st:Stmt)(t:TS):Prop:=
 ∀(pins:List (Addr×Obj)) (s:Shared) (σ:St) (H:Hp) (D:cX),a8 X pins σ H s->t D σ H->wpAny (model X.prog X.w) X.A (exec st X.env) (SP X pins D) X.xe s
noncomputable def cZ (X:Cx)(st:List Stmt)(t:TS):Prop:=
 ∀(pins:List (Addr×Obj)) (s:Shared) (σ:St) (H:Hp) (D:cX),a8 X pins σ H s->t D σ H->wpAny (model X.prog X.w) X.A (execs st X.env) (SP X pins D) X.xe s
theorem aR {α:Type}{t:Sem α}{Q Q':α->Shared->Prop}{M:Model}{A:Around}{E:Value->Shared->Prop}{s:Shared}(h:wpAny M A t Q E s)(hQ:∀a s,Q a s->Q' a s):wpAny M A t Q' E s:=aR0 h hQ λ_ _ x=>x
section
variable {X:Cx}
theorem bin {a b:Expr}{ta tb:TE}(ha:PE X a ta)(hb:PE X b tb){pins:List (Addr×Obj)}{s:Shared}{σ:St}{H:Hp}{R:V->V->Hp->Prop}(I:a8 X pins σ H s)(h:ta σ H λx H1=>tb σ H1 λy H2=>R x y H2){α:Type}{Q:α->Shared->Prop}{f:Value->Value->Sem α}(hf:∀v u s2 x y H2,a8 X pins σ H2 s2->aT x v->aT y u->R x y H2->wpAny (model X.prog X.w) X.A (f v u) Q X.xe s2) :
  wpAny (model X.prog X.w) X.A (eval a X.env) (λv s₁=>wpAny (model X.prog X.w) X.A (eval b X.env) (λu s₂=>wpAny (model X.prog X.w) X.A (f v u) Q X.xe s₂) X.xe s₁) X.xe s:=by
 refine aR (ha pins s σ H _ I h) λv s1 ⟨x,H1,I1,r1,q1⟩=>?_
 refine aR (hb pins s1 σ H1 _ I1 q1) λu s2 ⟨y,H2,I2,r2,q2⟩=>?_
 exact hf v u s2 x y H2 I2 r1 r2 q2
noncomputable def iY (i:Nat):TE:=λσ H Q=>∃v,σ[i]? = some (some v)/\Q v H
noncomputable def tC (v:V):TE:=λ_ H Q=>Q v H
theorem jY {i:Nat}{x:Str}{pos:Pos}(hN:X.N[i]? = some x)(hv:gZ X.env.scope x)(hd:(x==("__debug__":Str))=false:=by decide)(hcd:(x==("__classdict__":Str))=false:=by decide):PE X (.Name x pos) (iY i):=by
 intro pins s σ H Q I h
 obtain⟨v,e,h⟩:=h
 obtain⟨m,hn,hl⟩:=I.loc
 obtain⟨u,r,l⟩:=hl i x v hN e hv
 have fin:EP X pins σ Q u s:=⟨v,H,I,r,h⟩
 rcases l with⟨hk,hm⟩|⟨hk,c,hc,hcell⟩
 ·exact wpAny_Name (wpAny_loadName_local I.ok.kind hk hn hm fin) hd
 ·rcases hk with hk|hk
  ·exact wpAny_Name (wpAny_loadName_cell I.ok.kind hk hc hcell fin) hd
  ·exact wpAny_Name (wpAny_loadName_free I.ok.kind hk hc hcell fin hcd) hd
theorem qK {i j pos}:PE X (.Constant (.int i) j pos) (tC (.int i)):=λ_ _ _ H _ I h=>wpAny_Constant_int ⟨.int i,H,I.tok _,⟨_,rfl⟩,h⟩
theorem T7 {b j pos}:PE X (.Constant (.bool b) j pos) (tC (.bl b)):=λ_ _ _ H _ I h=>Constant_bool ⟨.bl b,H,I,rfl,h⟩
theorem T8 {j pos}:PE X (.Constant .none j pos) (tC .non):=λ_ _ _ H _ I h=>Constant_none ⟨.non,H,I,rfl,h⟩
theorem T9 {x j pos}:PE X (.Constant (.str x) j pos) (tC (.str x)):=λ_ _ _ H _ I h=>Calls.Constant_str ⟨.str x,H,I.tok _,⟨_,rfl⟩,h⟩
noncomputable def Gl (X:Cx)(x:Str):Prop:=X.env.kindOf x=some .globalImplicit
theorem lB {E:Value->Shared->Prop}{pins:List (Addr×Obj)}{s:Shared}{σ:St}{H:Hp}{x:Str}{u:Value}{pos:Pos}{Q:Value->Shared->Prop}(I:a8 X pins σ H s)(hg:Gl X x)(hm:X.mg x=some u)(h:Q u s)(hd:(x==("__debug__":Str))=false:=by decide):wpAny (model X.prog X.w) X.A (eval (.Name x pos) X.env) Q E s:=
 Calls.Name_function_global I.ok.kind hg (Calls.loadGlobal_global (by rw[I.ok.glob];exact I.mod.glob.keeps I.bk) hm h) hd
theorem iZ {E:Value->Shared->Prop}{pins:List (Addr×Obj)}{s:Shared}{σ:St}{H:Hp}{x:Str}{u:Value}{pos:Pos}{Q:Value->Shared->Prop}(I:a8 X pins σ H s)(hg:Gl X x)(hm:X.mg x=none)(hv:bootBuiltins x=some u)(h:Q u s)(hn:x≠"__name__":=by decide)(hd:(x==("__debug__":Str))=false:=by decide):wpAny (model X.prog X.w) X.A (eval (.Name x pos) X.env) Q E s:=by
 obtain⟨mb,h1,h2⟩:=I.mod.blt
 exact Calls.Name_function_global I.ok.kind hg (Calls.loadGlobal_builtin (by rw[I.ok.glob];exact I.mod.glob.keeps I.bk) hm (by rw[I.ok.blt];exact h1.keeps I.bk) ((h2 x hn).trans hv) h) hd
theorem qL {x:Str}{v:V}{u:Value}{pos:Pos}(hg:Gl X x)(hm:X.mg x=some u)(r:aT v u)(hd:(x==("__debug__":Str))=false:=by decide):PE X (.Name x pos) (tC v):=
 λ_ _ _ H _ I h=>lB I hg hm ⟨v,H,I,r,h⟩ hd
theorem vG {x:Str}{v:V}{u:Value}{pos:Pos}(hg:Gl X x)(hm:X.mg x=none)(hv:bootBuiltins x=some u)(r:aT v u)(hn:x≠"__name__":=by decide)(hd:(x==("__debug__":Str))=false:=by decide):PE X (.Name x pos) (tC v):=
 λ_ _ _ H _ I h=>iZ I hg hm hv ⟨v,H,I,r,h⟩ hn hd
variable {a b:Expr}{ta tb:TE}{pos:Pos}
noncomputable def PC (X:Cx)(op:CmpOp)(a b:Expr)(t:TE):Prop:=
 ∀(pins:List (Addr×Obj)) (s:Shared) (σ:St) (H:Hp) (Q:VK),a8 X pins σ H s->t σ H Q->
  wpAny (model X.prog X.w) X.A (eval a X.env) (λv s₁=>wpAny (model X.prog X.w) X.A (eval b X.env) (λu s₂=>wpAny (model X.prog X.w) X.A (compareOp op v u) (EP X pins σ Q) X.xe s₂) X.xe s₁) X.xe s
noncomputable def tB (t:TE):TT:=λσ H Q=>t σ H λx H1=>∃c,x = .bl c/\Q c H1
theorem U0 {op:CmpOp}{t:TE}(h:PC X op a b t)(h1:behindInMarks op b=false:=by first|exact nobehind _ (by decide) (by decide)|rfl):PT X (.Compare a [op] [b] pos) (tB t):=by
 intro pins s σ H Q I hw
 refine wpAny_isTrue_Compare1 (aR (h pins s σ H _ I hw) λv s1 h1=>aR h1 λu s2 h2=>aR h2 λc s3 ⟨x,H1,I1,r1,q1⟩=>?_) h1
 obtain⟨d,rfl,q⟩:=q1
 cases r1
 exact aW6 ⟨H1,I1,q⟩
theorem U1 {e:Expr}{t:TE}(h:PE X e t)(he:∀whole,isTrue e X.env whole=(do let v <- whole;standAt e.pos;holding [v] (truthy v)):=by intro _;rfl):PT X e (tB t):=by
 intro pins s σ H Q I hw
 refine isTrue_plain (aR (h pins s σ H _ I hw) λv s1 ⟨x,H1,I1,r1,q1⟩=>?_) (he _)
 obtain⟨d,rfl,q⟩:=q1
 cases r1
 exact aW6 ⟨H1,I1,q⟩
variable {tA tB':TT}{cC:List Expr}
noncomputable def vH (t u:TT):TT:=λσ H Q=>t σ H λc H1=>if c=true then u σ H1 Q else Q false H1
noncomputable def vI (t u:TT):TT:=λσ H Q=>t σ H λc H1=>if c=true then Q true H1 else u σ H1 Q
noncomputable def vJ (t:TT):TT:=λσ H Q=>t σ H λc H1=>Q (!c) H1
theorem U2 (ha:PT X a tA):PW X (.BoolOp .And [a] pos) tA:=by
 intro wh pins s σ H Q I h
 refine isTrue_and (aR (ha pins s σ H Q I h) λc s1 e=>?_)
 cases c with
 |true=>exact isTrue_and_nil e
 |false=>exact e
theorem U3 (ha:PT X a tA):PW X (.BoolOp .Or [a] pos) tA:=by
 intro wh pins s σ H Q I h
 refine isTrue_or (aR (ha pins s σ H Q I h) λc s1 e=>?_)
 cases c with
 |false=>exact isTrue_or_nil e
 |true=>exact e
theorem U4 (ha:PT X a tA)(hb:PW X (.BoolOp .And (b::cC) pos) tB'):PW X (.BoolOp .And (a::b::cC) pos) (vH tA tB'):=by
 intro wh pins s σ H Q I h
 refine isTrue_and (aR (ha pins s σ H _ I h) λc s1 ⟨H1,I1,q1⟩=>?_)
 cases c with
 |true=>exact hb wh pins s1 σ H1 Q I1 q1
 |false=>exact⟨H1,I1,q1⟩
theorem U5 (ha:PT X a tA)(hb:PW X (.BoolOp .Or (b::cC) pos) tB'):PW X (.BoolOp .Or (a::b::cC) pos) (vI tA tB'):=by
 intro wh pins s σ H Q I h
 refine isTrue_or (aR (ha pins s σ H _ I h) λc s1 ⟨H1,I1,q1⟩=>?_)
 cases c with
 |true=>exact⟨H1,I1,q1⟩
 |false=>exact hb wh pins s1 σ H1 Q I1 q1
theorem U6 (ha:PT X a tA):PT X (.UnaryOp .Not a pos) (vJ tA):=by
 intro pins s σ H Q I h
 exact isTrue_not (ha pins s σ H (λc H1=>Q (!c) H1) I h)
noncomputable def vK (ta tb:TE):TE:=λσ H Q=>ta σ H λx H1=>∃c,x = .bl c/\if c=true then tb σ H1 Q else Q (.bl false) H1
noncomputable def vL (ta:TE):TE:=λσ H Q=>ta σ H λx H1=>∃c,x = .bl c/\Q (.bl (!c)) H1
theorem U7 {op}{t:TE}(h:PE X a t):PE X (.BoolOp op [a] pos) t:=λpins s σ H Q I hw=>BoolOp_one (h pins s σ H Q I hw)
theorem U8 (ha:PE X a ta)(hb:PE X (.BoolOp .And (b::cC) pos) tb):PE X (.BoolOp .And (a::b::cC) pos) (vK ta tb):=by
 intro pins s σ H Q I h
 refine BoolOp_and (aR (ha pins s σ H _ I h) λv s1 ⟨x,H1,I1,r1,q1⟩=>?_)
 obtain⟨c,rfl,q1⟩:=q1
 cases r1
 refine aW6 ?_
 cases c with
 |true=>exact hb pins s1 σ H1 Q I1 q1
 |false=>exact⟨.bl false,H1,I1,rfl,q1⟩
theorem U9 (ha:PE X a ta):PE X (.UnaryOp .Not a pos) (vL ta):=by
 intro pins s σ H Q I h
 refine UnaryOp_ (aR (ha pins s σ H _ I h) λv s1 ⟨x,H1,I1,r1,q1⟩=>?_)
 obtain⟨c,rfl,q1⟩:=q1
 cases r1
 exact not_of (aW6 ⟨.bl (!c),H1,I1,rfl,q1⟩)
noncomputable def vM (t:TT)(ta tb:TE):TE:=λσ H Q=>t σ H λc H1=>if c=true then ta σ H1 Q else tb σ H1 Q
theorem V0 {c:Expr}(hc:PT X c tA)(ha:PE X a ta)(hb:PE X b tb):PE X (.IfExp c a b pos) (vM tA ta tb):=by
 intro pins s σ H Q I h
 refine wpAny_IfExp (aR (hc pins s σ H _ I h) λd s1 ⟨H1,I1,q1⟩=>?_)
 cases d with
 |true=>exact ha pins s1 σ H1 Q I1 q1
 |false=>exact hb pins s1 σ H1 Q I1 q1
end
noncomputable def aM (K:ac)(H:Hp)(a:Addr)(xs:List V):Prop:=
 Rd H a (.lst xs) ∨
  ∃(o:Obj) (its:Array Value) (n:Nat),K.lookup a=some o/\o.cls = .type "list"/\o.dict=none/\o.data = .seq its n/\its.size<=sizeLine/\aQ xs its.toList
noncomputable def aL (K:ac)(H:Hp)(a:Addr)(xs:List V):Prop:=
 Rd H a (.tup xs) ∨
  ∃(o:Obj) (its:Array Value) (n:Nat),K.lookup a=some o/\o.cls = .type "tuple"/\o.data = .seq its n/\its.size<=sizeLine/\aQ xs its.toList
noncomputable def V1:Value->Option V
 |.none=>some .non
 |.bool b=>some (.bl b)
 |.int i _=>some (.int i)
 |.str x _=>some (.str x)
 |.bytes b _=>some (.byt b)
 |.float b _=>some (.flt b)
 |.ref a=>some (.ref a)
 |.type n=>some (.ty n)
 |_=>none
theorem aT.abs {x:V}{u:Value}(r:aT x u):V1 u=some x:=by
 cases x with
 |non=>cases r;rfl
 |bl _=>cases r;rfl
 |int _=>obtain⟨t,rfl⟩:=r;rfl
 |str _=>obtain⟨t,rfl⟩:=r;rfl
 |byt _=>obtain⟨t,rfl⟩:=r;rfl
 |flt _=>obtain⟨t,rfl⟩:=r;rfl
 |ref _=>cases r;rfl
 |ty _=>cases r;rfl
theorem aT.inj {x y:V}{u:Value}(r:aT x u)(q:aT y u):x=y:=aN2 (r.abs.symm.trans q.abs)
theorem aQ.inj:∀{xs ys:List V}{us:List Value},aQ xs us->aQ ys us->xs=ys
 |_,_,_,.nil,.nil=>rfl
 |_,_,_,.cons r t,.cons r' t'=>by rw[r.inj r',aQ.inj t t']
section
variable {X:Cx}{pins:List (Addr×Obj)}{σ:St}{H:Hp}{s:Shared}{a:Addr}{xs ys:List V}
theorem aM.of {K:ac}(h:H a=some (.lst xs)):aM K H a xs:=.inl (.inl h)
theorem aL.of {K:ac}(h:H a=some (.tup xs)):aL K H a xs:=.inl (.inl h)
theorem a8.list (I:a8 X pins σ H s)(h:aM X.K H a xs):∃its:List Value,aQ xs its/\PlainL s.heap a its.toArray/\xs.length<=sizeLine:=by
 rcases h with h|⟨o,its,n,hk,hc,hd,hs,hz,r⟩
 ·obtain⟨z,its,n,r,e⟩:=h.ok I.hok
  exact⟨its,r,⟨_,n,e,rfl,rfl,rfl⟩,z⟩
 ·refine⟨its.toList,r,⟨o,n,I.kIn a o hk,hc,hd,by simpa using hs⟩,?_⟩
  have e:=r.length
  simp only[aP4]at e
  omega
theorem a8.tuple (I:a8 X pins σ H s)(h:aL X.K H a xs):∃its:List Value,aQ xs its/\IsTup s.heap a its.toArray/\xs.length<=sizeLine:=by
 rcases h with h|⟨o,its,n,hk,hc,hs,hz,r⟩
 ·obtain⟨z,its,r,p,_⟩:=h.ok I.hok
  exact⟨its,r,p,z⟩
 ·refine⟨its.toList,r,⟨o,I.kIn a o hk,hc,n,by simpa using hs⟩,?_⟩
  have e:=r.length
  simp only[aP4]at e
  omega
theorem a8.list_inj (I:a8 X pins σ H s)(h:aM X.K H a xs)(h':aM X.K H a ys):xs=ys:=by
 obtain⟨its,r,⟨o,n,e,_,_,d⟩,_⟩:=I.list h
 obtain⟨its',r',⟨o',n',e',_,_,d'⟩,_⟩:=I.list h'
 rw[e]at e';cases e'
 rw[d]at d'
 injection d' with d1 _
 have:its=its':=by simpa using congrArg Array.toList d1
 subst this
 exact r.inj r'
theorem a8.tuple_inj (I:a8 X pins σ H s)(h:aL X.K H a xs)(h':aL X.K H a ys):xs=ys:=by
 obtain⟨its,r,⟨o,e,_,n,d⟩,_⟩:=I.tuple h
 obtain⟨its',r',⟨o',e',_,n',d'⟩,_⟩:=I.tuple h'
 rw[e]at e';cases e'
 rw[d]at d'
 injection d' with d1 _
 have:its=its':=by simpa using congrArg Array.toList d1
 subst this
 exact r.inj r'
end
noncomputable abbrev Cx.wish (X:Cx)(E:Value->Shared->Prop):Cx:={ X with xe:=E }
noncomputable abbrev Cx.nox (X:Cx):Cx:=X.wish λ_ _=>False
theorem Cx.Ok.wish {X:Cx}(ok:X.Ok)(E:Value->Shared->Prop):(X.wish E).Ok:=
 ⟨ok.mod,ok.kind,ok.glob,ok.blt,ok.above,ok.inj,ok.has,ok.cab,ok.hd,ok.frames,ok.stk,ok.exf,ok.bs,ok.bsz,ok.noex,ok.exfs,ok.funs,ok.frf⟩
theorem Cx.Ok.unwish {X:Cx}{E:Value->Shared->Prop}(ok:(X.wish E).Ok):X.Ok:=
 ⟨ok.mod,ok.kind,ok.glob,ok.blt,ok.above,ok.inj,ok.has,ok.cab,ok.hd,ok.frames,ok.stk,ok.exf,ok.bs,ok.bsz,ok.noex,ok.exfs,ok.funs,ok.frf⟩
section
variable {X:Cx}{pins:List (Addr×Obj)}{σ:St}{H:Hp}{s:Shared}{E:Value→Shared→Prop}
theorem a8.wish (I:a8 X pins σ H s)(E:Value->Shared->Prop):a8 (X.wish E) pins σ H s:=⟨I.ok.wish E,I.os,I.bare,I.base,I.loc,I.cell,I.free,I.freeC,I.pin,I.hok,I.len⟩
theorem a8.unwish (I:a8 (X.wish E) pins σ H s):a8 X pins σ H s:=⟨I.ok.unwish,I.os,I.bare,I.base,I.loc,I.cell,I.free,I.freeC,I.pin,I.hok,I.len⟩
theorem SP.unwish {D:cX}{f:Flow}{s':Shared}(h:SP (X.wish E) pins D f s'):SP X pins D f s':=by
 cases f with
 |next=>obtain⟨σ',H',I,q⟩:=h;exact⟨σ',H',I.unwish,q⟩
 |brk=>obtain⟨σ',H',I,q⟩:=h;exact⟨σ',H',I.unwish,q⟩
 |cont=>obtain⟨σ',H',I,q⟩:=h;exact⟨σ',H',I.unwish,q⟩
 |ret u=>obtain⟨v,σ',H',I,r,q⟩:=h;exact⟨v,σ',H',I.unwish,r,q⟩
theorem cZ.nox {st:List Stmt}{t:TS}(h:cZ X.nox st t):cZ X st t:=λpins s σ H D I hw=>
 aR0 (h pins s σ H D (I.wish _) hw) (λ_ _ q=>q.unwish) λ_ _ z=>False.elim z
end
section
variable {X:Cx}{st:Stmt}{cC:List Stmt}{t u:TS}{e:Expr}{te:TE}{pos:Pos}
noncomputable def vN:TS:=λD σ H=>D.nx σ H
noncomputable def vO (t u:TS):TS:=λD σ H=>t { D with nx:=u D } σ H
theorem V2:cZ X [] vN:=λ_ _ σ H _ I h=>wpAny_execs_nil ⟨σ,H,I,h⟩
theorem V3 (h1:PS X st t)(h2:cZ X cC u):cZ X (st::cC) (vO t u):=by
 intro pins s σ H D I h
 refine wpAny_execs_cons (aR (h1 pins s σ H { D with nx:=u D } I h) λf s1 q=>?_)
 cases f with
 |next=>
  obtain⟨σ',H',I',q⟩:=q
  exact h2 pins s1 σ' H' D I' q
 |ret v=>exact q
 |brk=>exact q
 |cont=>exact q
theorem qM (h1:PS X st t):cZ X [st] t:=by
 intro pins s σ H D I h
 refine wpAny_execs_cons (aR (h1 pins s σ H D I h) λf s1 q=>?_)
 cases f with
 |next=>exact wpAny_execs_nil q
 |ret v=>exact q
 |brk=>exact q
 |cont=>exact q
theorem a8.quiet {pins:List (Addr×Obj)}{σ:St}{H:Hp}{s:Shared}(I:a8 X pins σ H s):interactive X.env=false:=by simp[interactive,I.ok.kind]
noncomputable def vP (te:TE):TS:=λD σ H=>te σ H λ_ H1=>D.nx σ H1
theorem V4 (he:PE X e te)(hs:swapsWith e none pos.line X.env=pure false:=by rfl):PS X (.Expr e pos) (vP te):=by
 intro pins s σ H D I h
 exact wpAny_Expr_any (aR (he pins s σ H _ I h) λv s1 ⟨x,H1,I1,r1,q1⟩=>⟨σ,H1,I1,q1⟩) I.quiet hs
noncomputable def qN (te:TE):TS:=λD σ H=>te σ H D.rt
theorem nF (he:PE X e te):PS X (.Return (some e) pos) (qN te):=by
 intro pins s σ H D I h
 exact wpAny_Return_some (aR (he pins s σ H _ I h) λv s1 ⟨x,H1,I1,r1,q1⟩=>⟨x,σ,H1,I1,r1,q1⟩)
noncomputable def vQ (c:TT)(t u:TS):TS:=λD σ H=>c σ H λb H1=>if b=true then t D σ H1 else u D σ H1
theorem V5 {c:Expr}{a b:List Stmt}{tc:TT}(hc:PT X c tc)(ha:cZ X a t)(hb:cZ X b u):PS X (.If c a b pos) (vQ tc t u):=by
 intro pins s σ H D I h
 refine wpAny_If (aR (hc pins s σ H _ I h) λd s1 ⟨H1,I1,q1⟩=>?_)
 cases d with
 |true=>exact ha pins s1 σ H1 D I1 q1
 |false=>exact hb pins s1 σ H1 D I1 q1
noncomputable def V6:TS:=λ_ _ _=>False
theorem V7:PS X st V6:=λ_ _ _ _ _ _ h=>h.elim
end
noncomputable abbrev TG:=V->St->Hp->(St->Hp->Prop)->Prop
noncomputable abbrev j4:=List V->St->Hp->(St->Hp->Prop)->Prop
noncomputable def PG (X:Cx)(target:Expr)(t:TG):Prop:=
 ∀(pins:List (Addr×Obj)) (s:Shared) (σ:St) (H:Hp) (v:V) (u:Value) (Q:St->Hp->Prop),a8 X pins σ H s->aT v u->t v σ H Q->
  wpAny (model X.prog X.w) X.A (assign target X.env u) (λ_ s'=>∃σ' H',a8 X pins σ' H' s'/\Q σ' H') X.xe s
noncomputable def nG (X:Cx)(ts:List Expr)(t:j4):Prop:=
 ∀(pins:List (Addr×Obj)) (s:Shared) (σ:St) (H:Hp) (vs:List V) (us:List Value) (Q:St->Hp->Prop),a8 X pins σ H s->aQ vs us->t vs σ H Q->
  wpAny (model X.prog X.w) X.A (assignInOrder ((assignEach ts X.env).map (·.2)) us) (λ_ s'=>∃σ' H',a8 X pins σ' H' s'/\Q σ' H') X.xe s
section
variable {X:Cx}{pos:Pos}
noncomputable def dN (i:Nat):TG:=λv σ H Q=>Q (σ.set i (some v)) H
theorem iG {i:Nat}{x:Str}(hN:X.N.Nodup)(hi:X.N[i]? = some x)(hx:hG X.env.scope x)(hf:X.fn x=true∨X.env.scope.names.lookup x=some .local:=by first|exact .inl rfl|exact .inr rfl|assumption):PG X (.Name x pos) (dN i):=by
 intro pins s σ H v u Q I r h
 exact wpAny_assign_Name (qJ I hN hi hx r (λs' I'=>⟨_,H,I',h⟩) hf)
noncomputable def lC:j4:=λvs σ H Q=>vs = []/\Q σ H
noncomputable def hJ (t:TG)(u:j4):j4:=λvs σ H Q=>∃v r,vs=v::r/\t v σ H λσ' H'=>u r σ' H' Q
theorem qO:nG X [] lC:=by
 intro pins s σ H vs us Q I r h
 obtain⟨e,h⟩:=h
 subst e
 cases r
 exact assignInOrder_nil ⟨σ,H,I,h⟩
theorem jZ {e:Expr}{es:List Expr}{t:TG}{u:j4}(h1:PG X e t)(h2:nG X es u)(hs:(assignEach (e::es) X.env).map (·.2)=assign e X.env::(assignEach es X.env).map (·.2):=by rfl):nG X (e::es) (hJ t u):=by
 intro pins s σ H vs us Q I r h
 obtain⟨v,vr,e1,h⟩:=h
 subst e1
 cases r with
 |cons r rr=>
  rw[hs]
  refine assignInOrder_cons (aR (h1 pins s σ H _ _ _ I r h) λ_ s1 ⟨σ1,H1,I1,q1⟩=>?_)
  exact h2 pins s1 σ1 H1 _ _ Q I1 rr q1
noncomputable def lD (K:ac)(n:Nat)(t:j4):TG:=λv σ H Q=>∃a xs,v = .ref a/\aL K H a xs/\xs.length=n/\t xs σ H Q
theorem qP {es:List Expr}{k:Nat}{t:j4}{n:Nat}(hc:X.calm=true)(h:nG X es t)(hn:(assignEach es X.env).length=n:=by rfl)(hst:(assignEach es X.env).findIdx? (·.1)=none:=by rfl):PG X (.Tuple es k pos) (lD X.K n t):=by
 intro pins s σ H v u Q I r hw
 obtain⟨a,xs,e1,hq,hl,hw⟩:=hw
 subst e1
 cases r
 obtain⟨its,rv,ht,hz⟩:=I.tuple hq
 refine assign_Tuple_tuple (I.ok.hd hc) ht (by simp[hn,<- hl,rv.length]) hst λh' hx=>?_
 have I1:a8 X pins σ H { s with heap:=h' }:=I.kept (t':=s.toks) λb o e=>hx b o (aN6 (aL8 e)) e
 exact h pins _ σ H xs _ Q I1 (by simpa using rv) hw
noncomputable def lE (te:TE)(g:TG):TS:=λD σ H=>te σ H λx H1=>g x σ H1 D.nx
theorem V8 {tg e:Expr}{te:TE}{g:TG}(he:PE X e te)(hg:PG X tg g)(hs:swapsWithSole [tg] e pos.line X.env=pure false:=by rfl)(hw:swappedStores [tg] e X.env=pure none:=by rfl)(h1:(assignEach [tg] X.env).map (·.2) = [assign tg X.env]:=by rfl):PS X (.Assign [tg] e pos) (lE te g):=by
 intro pins s σ H D I h
 refine wpAny_Assign_stores (aR (he pins s σ H _ I h) λv s1 ⟨x,H1,I1,r1,q1⟩=>?_) hs hw
 rw[h1]
 exact aR (hg pins s1 σ H1 x v _ I1 r1 q1) λ_ s2 q=>q
theorem vR {i:Nat}{x:Str}{e:Expr}{te:TE}{pos':Pos}(hN:X.N.Nodup)(hi:X.N[i]? = some x)(hx:hG X.env.scope x)(he:PE X e te)(hs:swapsWith e (some (.Name x pos')) pos.line X.env=pure false:=by rfl)(hf:X.fn x=true∨X.env.scope.names.lookup x=some .local:=by first|exact .inl rfl|exact .inr rfl|assumption) :
  PS X (.Assign [.Name x pos'] e pos) (lE te (dN i)):=by
 intro pins s σ H D I h
 refine wpAny_Assign_Name (aR (he pins s σ H _ I h) λv s1 ⟨y,H1,I1,r1,q1⟩=>?_) hs
 exact qJ I1 hN hi hx r1 (λs2 I2=>⟨_,H1,I2,q1⟩) hf
end
structure It where
 go:Nat->Hp->Prop
 yld:Nat->Hp->V->Hp->Prop
 stop:Nat->Hp->Prop
noncomputable def fJ (X:Cx)(pins:List (Addr×Obj))(H:Hp)(b:Addr):Prop:=
 H b=none/\b≠X.env.locals/\b∉X.fs/\(b∈X.ex∨X.s₀.heap.objs.size<=b)/\(∀x c,X.env.cells.lookup x=some c->c≠b)/\∀p∈X.pn++pins,p.1≠b
theorem a8.fpOk {X:Cx}{pins:List (Addr×Obj)}{σ:St}{H H':Hp}{s:Shared}{b:Addr}(I:a8 X pins σ H s)(hb:s.heap.objs.size<=b)(hn:H' b=none):fJ X pins H' b:=by
 refine⟨hn,aW7 (aL4 I.lt hb),I.nofs hb,.inr (aN8 I.sz hb),λx c e z=>?_,λp hp z=>?_⟩
 ·obtain⟨v,q⟩:=I.cell x c e
  exact absurd (aL4 q.lt (by rw[z];exact hb)) (aQ5 _)
 ·exact absurd (aL4 (aL8 (I.pin p hp).1) (by rw[z];exact hb)) (aQ5 _)
structure iH (P:Program)(w:World)(K:ac)(tg:Expr)(J:It)(fp:List Addr)(it:Addr)(tn:Nat->Heap->Prop):Prop where
 mem:it∈fp
 obj:∀i h,tn i h->∀b∈fp,∃o,h.get? b=some o/\∀v,o.data≠.cell v
 keep:∀i h h',tn i h->(∀b∈fp,∀o,h.get? b=some o->h'.get? b=some o)->tn i h'
 item:∀(X:Cx),X.prog=P->X.w=w->X.K=K->X.calm=true->∀(i:Nat) (pins:List (Addr×Obj)) (s:Shared) (σ:St) (H:Hp) (E:Value->Shared->Prop),a8 X pins σ H s->(∀b∈fp,fJ X pins H b)->tn i s.heap->J.go i H->
  wpAny (model P w) X.A (pyNext (.ref it)) (λr s1=>∃u,r=some u/\
   wpAny (model P w) X.A (letOwnedTupleGo tg (.ref it) u) (λ_ s2=>∃x H',a8 X pins σ H' s2/\aT x u/\J.yld i H x H'/\tn (i+1) s2.heap/\∀b∈fp,H' b=none) E s1) E s
 done:∀(X:Cx),X.prog=P->X.w=w->X.K=K->X.calm=true->∀(i:Nat) (pins:List (Addr×Obj)) (s:Shared) (σ:St) (H:Hp) (E:Value->Shared->Prop),a8 X pins σ H s->(∀b∈fp,fJ X pins H b)->tn i s.heap->J.stop i H->
  wpAny (model P w) X.A (pyNext (.ref it)) (λr s1=>r=none/\a8 X pins σ H s1) E s
 self:∀(A:Around) (i:Nat) (s:Shared) (Q:Value->Shared->Prop) (E:Value->Shared->Prop),tn i s.heap->Q (.ref it) s->wpAny (model P w) A (pyIter (.ref it)) Q E s
noncomputable abbrev TI:=St->Hp->(It->Hp->Prop)->Prop
noncomputable def vS (X:Cx)(pins:List (Addr×Obj))(σ:St)(tg:Expr)(R:It->Hp->Prop)(itv:Value)(s2:Shared):Prop:=
 ∃(it:Addr) (fp:List Addr) (tn:Nat->Heap->Prop) (J:It) (H':Hp),itv = .ref it/\a8 X pins σ H' s2/\iH X.prog X.w X.K tg J fp it tn/\tn 0 s2.heap/\(∀b∈fp,fJ X pins H' b)/\R J H'
noncomputable def PI (X:Cx)(tg iter:Expr)(wi:TI):Prop:=
 ∀(pins:List (Addr×Obj)) (s:Shared) (σ:St) (H:Hp) (R:It->Hp->Prop),a8 X pins σ H s->wi σ H R->
  wpAny (model X.prog X.w) X.A (eval iter X.env) (λv s1=>wpAny (model X.prog X.w) X.A (pyIter v) (vS X pins σ tg R) X.xe s1) X.xe s
theorem qQ {M:Model}{A:Around}{E:Value->Shared->Prop}{s:Shared}{tg:Expr}{it:Addr}{u:Value}{o:Obj}{n:String}{vs:Array Value}{Q:Unit->Shared->Prop}(ho:s.heap.get? it=some o)(hc:o.cls = .type n)(hd:o.data = .fields vs)(hn:["enumerate","zip","dict_itemiterator","dict_reverseitemiterator","odict_iterator","itertools.zip_longest","itertools.pairwise"].contains n=false)(hQ:Q () s):wpAny M A (letOwnedTupleGo tg (.ref it) u) Q E s:=by
  unfold letOwnedTupleGo
  cases tg<;>first
    |exact aK7 hQ
    |(cases u<;>first
        |exact aK7 hQ
        | (refine aK2 (wpAny_load ho ?_)
           rw[hc,hd]
           show wpAny M A (if (["enumerate","zip","dict_itemiterator","dict_reverseitemiterator","odict_iterator","itertools.zip_longest","itertools.pairwise"].contains n&&vs[0]?==some (rawInt _))=true then _ else _) Q E s
           rw[if_neg (by intro h;rw[hn,Bool.false_and]at h;cases h)]
           exact aK7 hQ))
noncomputable def qR (K:ac)(a:Addr):It:=
 ⟨λi H=>∃xs x,aM K H a xs/\xs[i]? = some x,λi H x H'=>H'=H/\∀xs,aM K H a xs->xs[i]? = some x,λi H=>∃xs,aM K H a xs/\xs.length<=i⟩
noncomputable def qS (K:ac)(a:Addr):It:=
 ⟨λi H=>∃xs x,aL K H a xs/\xs[i]? = some x,λi H x H'=>H'=H/\∀xs,aL K H a xs->xs[i]? = some x,λi H=>∃xs,aL K H a xs/\xs.length<=i⟩
noncomputable def lF (lo:Int)(n:Nat):It:=⟨λi _=>i<n,λi H x H'=>H'=H/\x = .int (lo+i),λi _=>n<=i⟩
theorem V9 {P:Program}{w:World}{K:ac}{tg:Expr}(a it:Addr):iH P w K tg (qR K a) [it] it (λi h=>h.IsListIter it a i) where
 mem:=by simp
 obj:=λi h st b hb=>by
  have e:b=it:=by simpa using hb
  subst e
  obtain⟨o,e,c,d⟩:=st
  exact⟨o,e,λv z=>by rw[d]at z;cases z⟩
 keep:=λi h h' st k=>st.at λo e=>k it (by simp) o e
 item:=by
  intro X hP hw hK hc i pins s σ H E I hf st hg
  subst hP hw hK
  obtain⟨xs,x,hq,hx⟩:=hg
  obtain⟨its,rv,p,hz⟩:=I.list hq
  obtain⟨u,hu,ru⟩:=rv.get hx
  obtain⟨f0,f1,f2,f3,f4,f5⟩:=hf it (by simp)
  refine wpAny_pyNext_list_item st p.isList (x:=u) (by simpa using hu) λh' st' sb=>?_
  have I1:a8 X pins σ H { s with heap:=h' }:=I.turned (t':=s.toks) (λb o hb e=>(sb.2 b hb).trans e) f0 f1 f3 f4 f5
  obtain⟨o,e,c,d⟩:=id st'
  exact⟨u,rfl,qQ (s:={ s with heap:=h' }) e c d (by decide) ⟨x,H,I1,ru,⟨rfl,λys hy=>by rw[I.list_inj hy hq];exact hx⟩,st',λb hb=>(hf b hb).1⟩⟩
 done:=by
  intro X hP hw hK hc i pins s σ H E I hf st hg
  subst hP hw hK
  obtain⟨xs,hq,hx⟩:=hg
  obtain⟨its,rv,p,hz⟩:=I.list hq
  obtain⟨f0,f1,f2,f3,f4,f5⟩:=hf it (by simp)
  have hl:=rv.length
  exact wpAny_pyNext_list_end (I.ok.hd hc) st p.isList (by simp;omega) λh' eb=>⟨rfl,I.turned (t':=s.toks) (λb o hb e=>eb b o hb e) f0 f1 f3 f4 f5⟩
 self:=λ_ _ _ _ _ st h=>wpAny_pyIter_listiter st h
theorem W0 {P:Program}{w:World}{K:ac}{tg:Expr}(a it:Addr):iH P w K tg (qS K a) [it] it (λi h=>h.IsTupleIter it a i) where
 mem:=by simp
 obj:=λi h st b hb=>by
  have e:b=it:=by simpa using hb
  subst e
  obtain⟨o,e,c,d⟩:=st
  exact⟨o,e,λv z=>by rw[d]at z;cases z⟩
 keep:=λi h h' st k=>st.at λo e=>k it (by simp) o e
 item:=by
  intro X hP hw hK hc i pins s σ H E I hf st hg
  subst hP hw hK
  obtain⟨xs,x,hq,hx⟩:=hg
  obtain⟨its,rv,p,hz⟩:=I.tuple hq
  obtain⟨u,hu,ru⟩:=rv.get hx
  obtain⟨f0,f1,f2,f3,f4,f5⟩:=hf it (by simp)
  refine wpAny_pyNext_tuple_item st (show s.heap.IsTuple a its.toArray from p) (x:=u) (by simpa using hu) λh' st' sb=>?_
  have I1:a8 X pins σ H { s with heap:=h' }:=I.turned (t':=s.toks) (λb o hb e=>(sb.2 b hb).trans e) f0 f1 f3 f4 f5
  obtain⟨o,e,c,d⟩:=id st'
  exact⟨u,rfl,qQ (s:={ s with heap:=h' }) e c d (by decide) ⟨x,H,I1,ru,⟨rfl,λys hy=>by rw[I.tuple_inj hy hq];exact hx⟩,st',λb hb=>(hf b hb).1⟩⟩
 done:=by
  intro X hP hw hK hc i pins s σ H E I hf st hg
  subst hP hw hK
  obtain⟨xs,hq,hx⟩:=hg
  obtain⟨its,rv,p,hz⟩:=I.tuple hq
  obtain⟨f0,f1,f2,f3,f4,f5⟩:=hf it (by simp)
  have hl:=rv.length
  exact wpAny_pyNext_tuple_end (I.ok.hd hc) st (show s.heap.IsTuple a its.toArray from p) (by simp;omega) λh' eb=>⟨rfl,I.turned (t':=s.toks) (λb o hb e=>eb b o hb e) f0 f1 f3 f4 f5⟩
 self:=λ_ _ _ _ _ st h=>wpAny_pyIter_tupleiter st h
theorem W4 {P:Program}{w:World}{K:ac}{tg:Expr}(it:Addr)(lo:Int)(n:Nat):iH P w K tg (lF lo n) [it] it (λi h=>IsRangeIter h it (lo+(i:Nat)*1) ((n:Int)-(i:Nat)) 1) where
 mem:=by simp
 obj:=λi h st b hb=>by
  have e:b=it:=by simpa using hb
  subst e
  exact⟨_,st,λv z=>by
   have z':Data.fields _=Data.cell v:=z
   cases z'⟩
 keep:=λi h h' st k=>k it (by simp) _ st
 item:=by
  intro X hP hw hK hc i pins s σ H E I hf st hg
  subst hP hw hK
  obtain⟨f0,f1,f2,f3,f4,f5⟩:=hf it (by simp)
  have W:=Walks.range (prog:=X.prog) (w:=X.w) (I.ok.hd hc) it lo 1 n
  refine W.item i s _ _ hg st λv h' tk hv st' kk=>?_
  obtain⟨t,rfl⟩:=hv
  have I1:a8 X pins σ H { s with heap:=h',toks:=tk }:=I.turned (λb o hb e=>kk b o (by simpa using hb) e) f0 f1 f3 f4 f5
  refine⟨_,rfl,qQ (s:={ s with heap:=h',toks:=tk }) (n:="range_iterator") st' rfl rfl (by decide) ⟨.int (lo+i),H,I1,⟨t,?_⟩,⟨rfl,rfl⟩,st',λb hb=>(hf b hb).1⟩⟩
  rw[Int.mul_one]
 done:=by
  intro X hP hw hK hc i pins s σ H E I hf st hg
  subst hP hw hK
  obtain⟨f0,f1,f2,f3,f4,f5⟩:=hf it (by simp)
  exact wpAny_pyNext_range_end (I.ok.hd hc) st (by have:n<=i:=hg;omega) λh' eb=>⟨rfl,I.turned (t':=s.toks) (λb o hb e=>eb b o hb e) f0 f1 f3 f4 f5⟩
 self:=λ_ _ _ _ _ st h=>wpAny_pyIter_rangeiter st h
section
variable {X:Cx}{tg:Expr}
theorem vT {pins:List (Addr×Obj)}{σ:St}{H:Hp}{s:Shared}{R:It->Hp->Prop}{E:Value->Shared->Prop}{lo hi:Int}{t u v:Tok}{tk:Nat}(I:a8 X pins σ H s)(h1:-(2^62)<=lo)(h2:lo<2^62)(h3:-(2^62)<=hi)(h4:hi<2^62)(q:R (lF lo (hi-lo).toNat) H):wpAny (model X.prog X.w) X.A (pyIter (.ref s.heap.objs.size)) (vS X pins σ tg R) E { s with heap:=s.heap.push { cls:=.type "range",data:=.fields #[.int lo t,.int hi u,.int 1 v] },toks:=tk }:=by
 refine wpAny_pyIter_range (IsRange.new ..) (small_one h1 h2 h3 h4) ?_
 have I1:a8 X pins σ H { s with heap:=s.heap.push { cls:=.type "range",data:=.fields #[.int lo t,.int hi u,.int 1 v] },toks:=tk }:=I.kept λb o e=>aK4 _ e
 refine⟨(s.heap.push { cls:=.type "range",data:=.fields #[.int lo t,.int hi u,.int 1 v] }).objs.size,[(s.heap.push { cls:=.type "range",data:=.fields #[.int lo t,.int hi u,.int 1 v] }).objs.size],_,_,H,rfl,
  I1.kept (t':=tk) λb o e=>aK4 _ e,W4 _ lo (hi-lo).toNat,?_,λb hb=>?_,q⟩
 ·have e1:lo+((0:Nat):Int)*1=lo:=by simp
  have e2:(((hi-lo).toNat:Nat):Int)-((0:Nat):Int)=Builtin.Range.rangeSize lo hi 1:=by rw[rangeSize_one];split<;>omega
  show IsRangeIter _ _ (lo+((0:Nat):Int)*1) ((((hi-lo).toNat:Nat):Int)-((0:Nat):Int)) 1
  rw[e1,e2]
  exact aM4 _ rfl
 ·have e:b=(s.heap.push { cls:=.type "range",data:=.fields #[.int lo t,.int hi u,.int 1 v] }).objs.size:=by simpa using hb
  subst e
  exact I1.fpOk (aK8 _) (I1.hok.fresh (aK8 _))
noncomputable def vU (ta:TA):TI:=λσ H R=>ta σ H λvs H1=>∃j:Int,vs = [.int j]/\-(2^62)<=j/\j<2^62/\R (lF 0 j.toNat) H1
noncomputable def vV (ta:TA):TI:=λσ H R=>ta σ H λvs H1=>∃i j:Int,vs = [.int i,.int j]/\(-(2^62)<=i/\i<2^62/\-(2^62)<=j/\j<2^62)/\R (lF i (j-i).toNat) H1
theorem W5 {a:Expr}{ta:TA}{p pos:Pos}(hg:Gl X "range")(hm:X.mg "range" = none)(ha:PA X [a] ta)(hs:starEach [a] X.env = [(false,eval a X.env)]:=by rfl):PI X tg (.Call (.Name "range" p) [a] [] pos) (vU ta):=by
 intro pins s σ H R I h
 refine Call_ (iZ I hg hm boot_range (aT0 (aR (ha pos pins s σ H _ I h) λus s1 ⟨vs,H1,I1,r1,q1⟩=>?_) hs rfl))
 obtain⟨j,e,q1,q2,q⟩:=q1
 subst e
 cases r1 with
 |cons r rr=>
  cases rr
  obtain⟨t,rfl⟩:=r
  exact call_range_1 (vT I1 (by omega) (by omega) q1 q2 (by simpa using q))
theorem W6 {a b:Expr}{ta:TA}{p pos:Pos}(hg:Gl X "range")(hm:X.mg "range" = none)(ha:PA X [a,b] ta)(hs:starEach [a,b] X.env = [(false,eval a X.env),(false,eval b X.env)]:=by rfl)(hs2:starEach [b] X.env = [(false,eval b X.env)]:=by rfl) :
  PI X tg (.Call (.Name "range" p) [a,b] [] pos) (vV ta):=by
 intro pins s σ H R I h
 refine Call_ (iZ I hg hm boot_range (aT0 (aR (ha pos pins s σ H _ I h) λus s1 ⟨vs,H1,I1,r1,q1⟩=>?_) (by rw[hs,hs2]) (by rw[hs2];rfl)))
 obtain⟨i,j,e,⟨q1,q2,q3,q4⟩,q⟩:=q1
 subst e
 cases r1 with
 |cons r rr=>
  cases rr with
  |cons r' rr=>
   cases rr
   obtain⟨t,rfl⟩:=r
   obtain⟨t',rfl⟩:=r'
   exact call_range_2 (vT I1 q1 q2 q3 q4 q)
noncomputable def vW (wi:TI)(g:TG)(tb:TS):TS:=λD σ H=>wi σ H λJ H1=>∃W:Nat->Nat->St->Hp->Prop,(∃m,W 0 m σ H1)/\∀i m σ H,W i m σ H->
 (J.stop i H/\D.nx σ H)∨(J.go i H/\∃N:St->Hp->Prop,(∀σ' H',N σ' H'->∃m',m'<m/\W (i+1) m' σ' H')/\∀x H',J.yld i H x H'->g x σ H' λσ2 H2=>tb { D with nx:=N,ct:=N,bk:=D.nx } σ2 H2)
noncomputable def lG (fp:List Addr)(h:Heap):List (Addr×Obj):=fp.filterMap λb=>(h.get? b).map λo=>(b,o)
theorem nH {fp:List Addr}{h:Heap}{b:Addr}{o:Obj}(hb:b∈fp)(e:h.get? b=some o):(b,o)∈lG fp h:=List.mem_filterMap.mpr ⟨b,hb,by rw[e];rfl⟩
theorem W7 {fp:List Addr}{h:Heap}{p:Addr×Obj}(hp:p∈lG fp h):p.1∈fp/\h.get? p.1=some p.2:=by
 obtain⟨b,hb,e⟩:=List.mem_filterMap.mp hp
 cases q:h.get? b with
 |none=>rw[q]at e;cases e
 |some o=>
  rw[q]at e
  have e':(b,o)=p:=aN2 e
  subst e'
  exact⟨hb,q⟩
theorem a8.pinned {pins:List (Addr×Obj)}{σ:St}{H:Hp}{s:Shared}{fp:List Addr}(I:a8 X pins σ H s)(hf:∀b∈fp,fJ X pins H b)(ho:∀b∈fp,∃o,s.heap.get? b=some o/\∀v,o.data≠.cell v):a8 X (pins++lG fp s.heap) σ H s:=
 I.pins_of λp hp=>(aS4.mp hp).elim (λz=>I.pin p (aN1 _ z)) λz=>by
  obtain⟨hb,e⟩:=W7 z
  obtain⟨f0,f1,f2,_⟩:=hf p.1 hb
  obtain⟨o,e',d⟩:=ho p.1 hb
  rw[e]at e';cases e'
  exact⟨e,f0,f1,f2,d⟩
theorem a8.unpinned {pins pl:List (Addr×Obj)}{σ:St}{H:Hp}{s:Shared}(I:a8 X (pins++pl) σ H s):a8 X pins σ H s:=I.pins_of λp hp=>I.pin p (aN1 _ (aW5 _ hp))
theorem W8 {iter:Expr}{body:List Stmt}{wi:TI}{g:TG}{tb:TS}{pos:Pos}(hp:PassesOwn (model X.prog X.w) X.A X.env X.xe)(hc:X.calm=true)(hi:PI X tg iter wi)(hg:PG X tg g)(hb:cZ X body tb)(hs:∀x,foldedSetIterable iter X.env x=pure x:=by intro _;rfl):PS X (.For tg iter body [] pos) (vW wi g tb):=by
 intro pins s σ H D I h
 refine wpAny_For (aR (hi pins s σ H _ I h) λv s1 h1=>aR h1 λitv s2 h2=>?_) hs
 obtain⟨it,fp,tn,J,H2,e,I2,T,st2,f2,W,⟨m0,w0⟩,turn⟩:=h2
 subst e
 have stat:∀{H':Hp},(∀b∈fp,H' b=none)->∀b∈fp,fJ X pins H' b:=λhn b hb=>⟨hn b hb,(f2 b hb).2⟩
 refine codeAny_forLoop_any (λn s'=>∃i σ' H',a8 X pins σ' H' s'/\tn i s'.heap/\(∀b∈fp,H' b=none)/\W i n σ' H') ?_ m0 ⟨0,σ,H2,I2,st2,λb hb=>(f2 b hb).1,w0⟩
 rintro n s3 ⟨i,σ3,H3,I3,st3,fr3,w3⟩
 rcases turn i n σ3 H3 w3 with⟨stop,qn⟩|⟨go,N,hN,step⟩
 ·refine wpAny_passesOwn hp (aR (T.done X rfl rfl rfl hc i pins s3 σ3 H3 X.xe I3 (stat fr3) st3 stop) λr s4 ⟨hr,I4⟩=>?_)
  subst hr
  exact wpAny_execs_nil ⟨σ3,H3,I4,qn⟩
 ·refine wpAny_passesOwn hp (aR (T.item X rfl rfl rfl hc i pins s3 σ3 H3 X.xe I3 (stat fr3) st3 go) λr s4 ⟨u,hr,h4⟩=>?_)
  subst hr
  refine wpAny_passesOwn hp (aR h4 λ_ s5 ⟨x,H5,I5,r5,y5,st5,fr5⟩=>?_)
  have I5':=I5.pinned (stat fr5) (T.obj _ _ st5)
  refine wpAny_passesOwn hp (aR (hg _ s5 σ3 H5 x u _ I5' r5 (step x H5 y5)) λ_ s6 ⟨σ6,H6,I6,q6⟩=>?_)
  refine wpAny_passesOwn hp (aR (hb _ s6 σ6 H6 _ I6 q6) λf s7 q7=>?_)
  have again:∀{σ7:St}{H7:Hp},a8 X (pins++lG fp s5.heap) σ7 H7 s7->N σ7 H7->∃m,m<n/\∃i σ' H',a8 X pins σ' H' s7/\tn i s7.heap/\(∀b∈fp,H' b=none)/\W i m σ' H':=λ{σ7 H7} I7 n7=>by
   obtain⟨m',hm,w7⟩:=hN σ7 H7 n7
   refine⟨m',hm,i+1,σ7,H7,I7.unpinned,T.keep _ _ _ st5 λb hb o e=>(I7.pin (b,o) (aN1 _ (aN1 _ (nH hb e)))).1,λb hb=>?_,w7⟩
   obtain⟨o,e,d⟩:=T.obj _ _ st5 b hb
   exact (I7.pin (b,o) (aN1 _ (aN1 _ (nH hb e)))).2.1
  cases f with
  |next=>obtain⟨σ7,H7,I7,n7⟩:=q7;exact again I7 n7
  |cont=>obtain⟨σ7,H7,I7,n7⟩:=q7;exact again I7 n7
  |brk=>obtain⟨σ7,H7,I7,q7⟩:=q7;exact⟨σ7,H7,I7.unpinned,q7⟩
  |ret v=>obtain⟨x7,σ7,H7,I7,r7,q7⟩:=q7;exact⟨x7,σ7,H7,I7.unpinned,r7,q7⟩
end
noncomputable abbrev R2:=V->V->Hp->VK->Prop
noncomputable def bR (X:Cx)(f:Value->Value->Sem Value)(r:R2):Prop:=
 ∀(pins:List (Addr×Obj)) (s:Shared) (σ:St) (H:Hp) (x y:V) (v u:Value) (Q:VK),a8 X pins σ H s->aT x v->aT y u->r x y H Q->
  wpAny (model X.prog X.w) X.A (f v u) (EP X pins σ Q) X.xe s
noncomputable def qT (X:Cx)(f:Value->Sem Value)(r:V->Hp->VK->Prop):Prop:=
 ∀(pins:List (Addr×Obj)) (s:Shared) (σ:St) (H:Hp) (x:V) (v:Value) (Q:VK),a8 X pins σ H s->aT x v->r x H Q->
  wpAny (model X.prog X.w) X.A (f v) (EP X pins σ Q) X.xe s
noncomputable def cG (X:Cx)(f:Value)(r:List V->Hp->VK->Prop):Prop:=
 ∀(pins:List (Addr×Obj)) (s:Shared) (σ:St) (H:Hp) (xs:List V) (us:List Value) (Q:VK),a8 X pins σ H s->aQ xs us->r xs H Q->
  wpAny (model X.prog X.w) X.A (call f us) (EP X pins σ Q) X.xe s
noncomputable def lH (r:R2)(ta tb:TE):TE:=λσ H Q=>ta σ H λx H1=>tb σ H1 λy H2=>r x y H2 Q
noncomputable def W9 (r:V->Hp->VK->Prop)(ta:TE):TE:=λσ H Q=>ta σ H λx H1=>r x H1 Q
noncomputable def rI (C:Int->Int->Prop)(g:Int->Int->V):R2:=λx y H Q=>∃i j,x = .int i/\y = .int j/\C i j/\Q (g i j) H
noncomputable def hU (g:Int->Int->V):R2:=λx y H Q=>∃i j,x = .int i/\y = .int j/\Q (g i j) H
noncomputable def rU (g:Int->V):V->Hp->VK->Prop:=λx H Q=>∃i,x = .int i/\Q (g i) H
section
variable {X:Cx}{a b c:Expr}{ta tb tc:TE}{pos:Pos}
theorem qU (ha:PE X a ta)(hb:PE X b tb){pins:List (Addr×Obj)}{s:Shared}{σ:St}{H:Hp}{R:V->V->Hp->Prop}(I:a8 X pins σ H s)(h:ta σ H λx H1=>tb σ H1 λy H2=>R x y H2){Q:Value->Shared->Prop}{f:Value->Value->Sem Value}(hf:∀v u s2 x y H2,a8 X pins σ H2 s2->aT x v->aT y u->R x y H2->wpAny (model X.prog X.w) X.A (f v u) Q X.xe s2) :
  wpAny (model X.prog X.w) X.A (eval a X.env) (λv s₁=>wpAny (model X.prog X.w) X.A (eval b X.env) (λu s₂=>wpAny (model X.prog X.w) X.A (f v u) Q X.xe s₂) X.xe s₁) X.xe s:=by
 refine aR (ha pins s σ H _ I h) λv s1 ⟨x,H1,I1,r1,q1⟩=>?_
 refine aR (hb pins s1 σ H1 _ I1 q1) λu s2 ⟨y,H2,I2,r2,q2⟩=>?_
 exact hf v u s2 x y H2 I2 r1 r2 q2
theorem X0 {op:Operator}{r:R2}(ho:bR X (binaryOp op) r)(ha:PE X a ta)(hb:PE X b tb):PE X (.BinOp a op b pos) (lH r ta tb):=by
 intro pins s σ H Q I h
 exact wpAny_BinOp (qU ha hb I h λv u s2 x y H2 I2 rx ry q=>ho pins s2 σ H2 x y v u Q I2 rx ry q)
theorem X1 {op:UnaryOp}{r:V->Hp->VK->Prop}(ho:qT X (unaryOp op) r)(ha:PE X a ta):PE X (.UnaryOp op a pos) (W9 r ta):=by
 intro pins s σ H Q I h
 exact UnaryOp_ (aR (ha pins s σ H _ I h) λv s1 ⟨x,H1,I1,r1,q1⟩=>ho pins s1 σ H1 x v Q I1 r1 q1)
theorem nI {f:Value->Value->Sem Value}{C:Int->Int->Prop}{g:Int->Int->Int}(rule:∀(i j:Int) (t u:Tok) (s:Shared) (Q:Value->Shared->Prop) (E:Value->Shared->Prop),C i j->Q (.int (g i j) s.toks) { s with toks:=s.toks+1 }->wpAny (model X.prog X.w) X.A (f (.int i t) (.int j u)) Q E s) :
  bR X f (rI C λi j=>.int (g i j)):=by
 intro pins s σ H x y v u Q I rx ry h
 obtain⟨i,j,rfl,rfl,hc,q⟩:=h
 obtain⟨t,rfl⟩:=rx
 obtain⟨t',rfl⟩:=ry
 exact rule i j t t' s _ _ hc ⟨.int (g i j),H,I.tok _,⟨_,rfl⟩,q⟩
theorem vX {f:Value->Value->Sem Value}{g:Int->Int->Int}(rule:∀(i j:Int) (t u:Tok) (s:Shared) (Q:Value->Shared->Prop) (E:Value->Shared->Prop),Q (.int (g i j) s.toks) { s with toks:=s.toks+1 }->wpAny (model X.prog X.w) X.A (f (.int i t) (.int j u)) Q E s) :
  bR X f (hU λi j=>.int (g i j)):=by
 intro pins s σ H x y v u Q I rx ry h
 obtain⟨i,j,rfl,rfl,q⟩:=h
 obtain⟨t,rfl⟩:=rx
 obtain⟨t',rfl⟩:=ry
 exact rule i j t t' s _ _ ⟨.int (g i j),H,I.tok _,⟨_,rfl⟩,q⟩
theorem qV {f:Value->Value->Sem Value}{g:Int->Int->Bool}(rule:∀(i j:Int) (t u:Tok) (s:Shared) (Q:Value->Shared->Prop) (E:Value->Shared->Prop),Q (.bool (g i j)) s->wpAny (model X.prog X.w) X.A (f (.int i t) (.int j u)) Q E s) :
  bR X f (hU λi j=>.bl (g i j)):=by
 intro pins s σ H x y v u Q I rx ry h
 obtain⟨i,j,rfl,rfl,q⟩:=h
 obtain⟨t,rfl⟩:=rx
 obtain⟨t',rfl⟩:=ry
 exact rule i j t t' s _ _ ⟨.bl (g i j),H,I,rfl,q⟩
noncomputable def qW (i j:Int):Prop:=0<j/\j<1073741824
noncomputable def qX (i j:Int):Prop:=0<=j/\j<=1000000/\i.natAbs<2^64
noncomputable def lI (i j:Int):Prop:=(-(2^64)<i/\i<2^64)∨(-(2^64)<j/\j<2^64)
theorem lI.ok {i j:Int}(h:lI i j):IntMulOk i j:=by
 rcases h with⟨h1,h2⟩|⟨h1,h2⟩
 ·exact .of_left (intBits_le_64 h1 h2)
 ·exact .of_right (intBits_le_64 h1 h2)
theorem X2:bR X (binaryOp .Add) (hU λi j=>.int (i+j)):=vX λ_ _ _ _ _ _ _ q=>add_int q
theorem X3:bR X (binaryOp .Sub) (hU λi j=>.int (i-j)):=vX λ_ _ _ _ _ _ _ q=>sub_int q
theorem X4:bR X (binaryOp .Mult) (rI lI λi j=>.int (i*j)):=nI λ_ _ _ _ _ _ _ hc q=>mul_int q hc.ok
theorem X5:bR X (binaryOp .FloorDiv) (rI qW λi j=>.int (i/j)):=nI λi j _ _ _ _ _ hc q=>by
 have h1:(0:Int)<j:=hc.1
 have h2:j<1073741824:=hc.2
 exact floordiv_int (by omega) (by rw[Int.fdiv_eq_ediv_of_nonneg i (by omega)];exact q) (.inl (PyProof.noPylong_small (by omega)))
theorem X6:bR X (binaryOp .Mod) (rI (λ_ j=>0<j) λi j=>.int (i%j)):=nI λi j _ _ _ _ _ hc q=>by
 have h1:(0:Int)<j:=hc
 exact mod_int' (by omega) (by rw[Int.fmod_eq_emod_of_nonneg i (by omega)];exact q)
theorem X7:bR X (binaryOp .Pow) (rI qX λi j=>.int (i^j.toNat)):=nI λ_ _ _ _ _ _ _ hc q=>pow_int_small hc.1 hc.2.1 hc.2.2 q
theorem X8 {f:Value->Sem Value}{g:Int->Int}(rule:∀(i:Int) (t:Tok) (s:Shared) (Q:Value->Shared->Prop) (E:Value->Shared->Prop),Q (.int (g i) s.toks) { s with toks:=s.toks+1 }->wpAny (model X.prog X.w) X.A (f (.int i t)) Q E s) :
  qT X f (rU λi=>.int (g i)):=by
 intro pins s σ H x v Q I rx h
 obtain⟨i,rfl,q⟩:=h
 obtain⟨t,rfl⟩:=rx
 exact rule i t s _ _ ⟨.int (g i),H,I.tok _,⟨_,rfl⟩,q⟩
theorem X9:qT X (unaryOp .USub) (rU λi=>.int (-i)):=X8 λ_ _ _ _ _ q=>neg_int q
end
noncomputable def vY:V->V->Bool
 |.non,.non=>true|.non,.int _=>true|.int _,.non=>true|.non,.bl _=>true|.bl _,.non=>true|.non,.str _=>true|.str _,.non=>true
 |.int _,.int _=>true|.bl _,.bl _=>true|.str _,.str _=>true|.byt _,.byt _=>true
 |.int _,.str _=>true|.str _,.int _=>true|.bl _,.str _=>true|.str _,.bl _=>true
 |_,_=>false
noncomputable def qY:R2:=λx y H Q=>vY x y=true/\Q (.bl (decide (x=y))) H
noncomputable def nJ:R2:=λx y H Q=>vY x y=true/\Q (.bl (!decide (x=y))) H
theorem vZ {i j:Int}:decide (V.int i=V.int j)=(i==j):=by
 rw[aO9]
 simp
theorem w4 {i j:Bool}:decide (V.bl i=V.bl j)=(i==j):=by
 rw[aO9]
 simp
theorem w5 {i j:Str}:decide (V.str i=V.str j)=(i==j):=by
 rw[aO9]
 simp
theorem w6 {i j:Array UInt8}:decide (V.byt i=V.byt j)=(i.toList==j.toList):=by
 rw[aO9]
 cases i
 cases j
 simp
section
variable {X:Cx}{a b c:Expr}{ta tb tc:TE}{pos:Pos}
theorem bS {pins:List (Addr×Obj)}{σ:St}{H:Hp}{s:Shared}{Q:VK}{k k':Bool}(I:a8 X pins σ H s)(q:Q (.bl k) H)(e:k=k'):EP X pins σ Q (.bool k') s:=by
 subst e
 exact⟨.bl k,H,I,rfl,q⟩
theorem qZ:bR X (compareOp .Eq) qY:=by
 intro pins s σ H x y v u Q I rx ry h
 obtain⟨hs,q⟩:=h
 cases x with
 |non=>
  cases rx
  cases y with
  |non=>cases ry;exact PySem.EqNone.eq_none_none (bS I q (by simp))
  |bl j=>cases ry;exact PySem.EqNone.eq_none_bool (bS I q (by simp))
  |int j=>obtain⟨t',rfl⟩:=ry;exact PySem.EqNone.eq_none_int (bS I q (by simp))
  |str j=>obtain⟨t',rfl⟩:=ry;exact PySem.EqNone.eq_none_str (bS I q (by simp))
  |_=>exact absurd (show false=true from hs) aL6
 |bl i=>
  cases rx
  cases y with
  |non=>cases ry;exact PySem.EqNone.eq_bool_none (bS I q (by simp))
  |bl j=>cases ry;exact eq_bool (bS I q w4)
  |str j=>obtain⟨t',rfl⟩:=ry;exact PySem.EqMixed.eq_bool_str (bS I q (by simp))
  |_=>exact absurd (show false=true from hs) aL6
 |int i=>
  obtain⟨t,rfl⟩:=rx
  cases y with
  |non=>cases ry;exact PySem.EqNone.eq_int_none (bS I q (by simp))
  |int j=>obtain⟨t',rfl⟩:=ry;exact eq_int (bS I q vZ)
  |str j=>obtain⟨t',rfl⟩:=ry;exact PySem.EqMixed.eq_int_str (bS I q (by simp))
  |_=>exact absurd (show false=true from hs) aL6
 |str i=>
  obtain⟨t,rfl⟩:=rx
  cases y with
  |non=>cases ry;exact PySem.EqNone.eq_str_none (bS I q (by simp))
  |bl j=>cases ry;exact PySem.EqMixed.eq_str_bool (bS I q (by simp))
  |int j=>obtain⟨t',rfl⟩:=ry;exact PySem.EqMixed.eq_str_int (bS I q (by simp))
  |str j=>obtain⟨t',rfl⟩:=ry;exact eq_str (bS I q w5)
  |_=>exact absurd (show false=true from hs) aL6
 |byt i=>
  obtain⟨t,rfl⟩:=rx
  cases y with
  |byt j=>obtain⟨t',rfl⟩:=ry;exact PySem.W.eq_bytes (bS I q w6)
  |_=>exact absurd (show false=true from hs) aL6
 |_=>cases y<;>exact absurd (show false=true from hs) aL6
theorem r0:bR X (compareOp .NotEq) nJ:=by
 intro pins s σ H x y v u Q I rx ry h
 obtain⟨hs,q⟩:=h
 cases x with
 |non=>
  cases rx
  cases y with
  |non=>cases ry;exact PySem.EqNone.ne_none_none (bS I q (by simp))
  |bl j=>cases ry;exact PySem.EqNone.ne_none_bool (bS I q (by simp))
  |int j=>obtain⟨t',rfl⟩:=ry;exact PySem.EqNone.ne_none_int (bS I q (by simp))
  |str j=>obtain⟨t',rfl⟩:=ry;exact PySem.EqNone.ne_none_str (bS I q (by simp))
  |_=>exact absurd (show false=true from hs) aL6
 |bl i=>
  cases rx
  cases y with
  |non=>cases ry;exact PySem.EqNone.ne_bool_none (bS I q (by simp))
  |bl j=>cases ry;exact ne_bool (bS I q (congrArg not w4))
  |str j=>obtain⟨t',rfl⟩:=ry;exact PySem.EqMixed.ne_bool_str (bS I q (by simp))
  |_=>exact absurd (show false=true from hs) aL6
 |int i=>
  obtain⟨t,rfl⟩:=rx
  cases y with
  |non=>cases ry;exact PySem.EqNone.ne_int_none (bS I q (by simp))
  |int j=>obtain⟨t',rfl⟩:=ry;exact ne_int (bS I q (congrArg not vZ))
  |str j=>obtain⟨t',rfl⟩:=ry;exact PySem.EqMixed.ne_int_str (bS I q (by simp))
  |_=>exact absurd (show false=true from hs) aL6
 |str i=>
  obtain⟨t,rfl⟩:=rx
  cases y with
  |non=>cases ry;exact PySem.EqNone.ne_str_none (bS I q (by simp))
  |bl j=>cases ry;exact PySem.EqMixed.ne_str_bool (bS I q (by simp))
  |int j=>obtain⟨t',rfl⟩:=ry;exact PySem.EqMixed.ne_str_int (bS I q (by simp))
  |str j=>obtain⟨t',rfl⟩:=ry;exact ne_str (bS I q (congrArg not w5))
  |_=>exact absurd (show false=true from hs) aL6
 |byt i=>
  obtain⟨t,rfl⟩:=rx
  cases y with
  |byt j=>obtain⟨t',rfl⟩:=ry;exact PySem.W.ne_bytes (bS I q (congrArg not w6))
  |_=>exact absurd (show false=true from hs) aL6
 |_=>cases y<;>exact absurd (show false=true from hs) aL6
theorem nK:bR X (compareOp .Lt) (hU λi j=>.bl (decide (i<j))):=qV λ_ _ _ _ _ _ _ q=>lt_int q
theorem Y0:bR X (compareOp .Gt) (hU λi j=>.bl (decide (j<i))):=qV λ_ _ _ _ _ _ _ q=>gt_int q
theorem w9:bR X (compareOp .GtE) (hU λi j=>.bl (decide (j<=i))):=qV λ_ _ _ _ _ _ _ q=>ge_int q
theorem Y1:bR X (compareOp .Is) (λx y H Q=>y = .non/\Q (.bl (decide (x = .non))) H):=by
 intro pins s σ H x y v u Q I rx ry h
 obtain⟨rfl,q⟩:=h
 cases ry
 refine is_none_gen (bS I q ?_)
 cases x<;>first
  |(cases rx;rfl)
  |(obtain⟨t,rfl⟩:=rx;rfl)
theorem e7 (b:Expr){op:CmpOp}(h:op≠.In:=by decide)(h2:op≠.NotIn:=by decide):behindInMarks op b=false:=by
 have e1:(op==CmpOp.In)=false:=by cases op<;>first|rfl|exact absurd rfl h
 have e2:(op==CmpOp.NotIn)=false:=by cases op<;>first|rfl|exact absurd rfl h2
 cases b<;>simp[behindInMarks,e1,e2]
theorem r6 {op:CmpOp}{r:R2}(ho:bR X (compareOp op) r)(ha:PE X a ta)(hb:PE X b tb)(hm:behindInMarks op b=false):PE X (.Compare a [op] [b] pos) (lH r ta tb):=by
 intro pins s σ H Q I h
 exact wpAny_Compare1 (qU ha hb I h λv u s2 x y H2 I2 rx ry q=>ho pins s2 σ H2 x y v u Q I2 rx ry q) hm
noncomputable def Y2 (t:TE):TT:=λσ H Q=>t σ H λx H'=>∃k,x = .bl k/\Q k H'
theorem Y3 {op:CmpOp}{r:R2}(ho:bR X (compareOp op) r)(ha:PE X a ta)(hb:PE X b tb)(hm:behindInMarks op b=false):PT X (.Compare a [op] [b] pos) (Y2 (lH r ta tb)):=by
 intro pins s σ H Q I h
 refine wpAny_isTrue_Compare1 (aR (ha pins s σ H _ I h) λv s1 ⟨x,H1,I1,r1,q1⟩=>aR (hb pins s1 σ H1 _ I1 q1) λu s2 ⟨y,H2,I2,r2,q2⟩=>
  aR (ho pins s2 σ H2 x y v u _ I2 r1 r2 q2) λc s3 ⟨z,H3,I3,r3,k,e,q3⟩=>?_) hm
 subst e
 cases r3
 exact aW6 ⟨H3,I3,q3⟩
theorem nL:(sizeLine:Nat)<2^63:=by rw[sizeLine_eq];decide
theorem Y4:bR X (binaryOp .Add) (λx y H Q=>∃i j,x = .str i/\y = .str j/\i.length+j.length<=sizeLine/\Q (.str (i++j)) H):=by
 intro pins s σ H x y v u Q I rx ry h
 obtain⟨i,j,rfl,rfl,hz,q⟩:=h
 obtain⟨t,rfl⟩:=rx
 obtain⟨t',rfl⟩:=ry
 exact add_str (λt' tk=>⟨.str (i++j),H,I.tok _,⟨_,rfl⟩,q⟩) hz
theorem eG {x:V}{us:List Value}(r:aQ [x] us):∃u,us = [u]/\aT x u:=by
 cases r with
 |cons r1 r2=>cases r2;exact⟨_,rfl,r1⟩
theorem lJ {x y:V}{us:List Value}(r:aQ [x,y] us):∃u w',us = [u,w']/\aT x u/\aT y w':=by
 cases r with
 |cons r1 r2=>
  cases r2 with
  |cons r3 r4=>cases r4;exact⟨_,_,rfl,r1,r3⟩
theorem Y5 (hc:X.calm=true):cG X (.builtin "max") (λxs H Q=>∃i j,xs = [.int i,.int j]/\Q (.int (if j>i then j else i)) H):=by
 intro pins s σ H xs us Q I r h
 obtain⟨i,j,rfl,q⟩:=h
 obtain⟨u,w',rfl,⟨t,rfl⟩,⟨t',rfl⟩⟩:=lJ r
 refine max_two_ints (I.ok.hd hc) λh' tk k=>⟨_,H,I.kept k,?_,q⟩
 by_cases hj:j>i
 ·rw[if_pos hj,if_pos hj];exact⟨_,rfl⟩
 ·rw[if_neg hj,if_neg hj];exact⟨_,rfl⟩
theorem Y6 (hc:X.calm=true):cG X (.builtin "min") (λxs H Q=>∃i j,xs = [.int i,.int j]/\Q (.int (if j<i then j else i)) H):=by
 intro pins s σ H xs us Q I r h
 obtain⟨i,j,rfl,q⟩:=h
 obtain⟨u,w',rfl,⟨t,rfl⟩,⟨t',rfl⟩⟩:=lJ r
 refine min_two_ints (I.ok.hd hc) λh' tk k=>⟨_,H,I.kept k,?_,q⟩
 by_cases hj:j<i
 ·rw[if_pos hj,if_pos hj];exact⟨_,rfl⟩
 ·rw[if_neg hj,if_neg hj];exact⟨_,rfl⟩
theorem Y7:cG X (.type "int") (λxs H Q=>(∃i,xs = [.int i]/\Q (.int i) H)∨∃k,xs = [.bl k]/\Q (.int (if k then 1 else 0)) H):=by
 intro pins s σ H xs us Q I r h
 rcases h with⟨i,rfl,q⟩|⟨k,rfl,q⟩
 ·obtain⟨u,rfl,t,rfl⟩:=eG r
  exact call_int_int ⟨.int i,H,I,⟨_,rfl⟩,q⟩
 ·obtain⟨u,rfl,r1⟩:=eG r
  cases r1
  exact call_int_bool ⟨.int (if k then 1 else 0),H,I.tok _,⟨_,rfl⟩,q⟩
end
structure r9 (h:Heap)(x dx C:Addr)(mA:Str->Option Value):Prop where
 obj:h.get? x=some (PySem.W.instObj C dx)
 ns:h.Ns1 dx mA
 ne:dx≠x
theorem Y8 {h:Heap}{dx:Addr}{mA:Str->Option Value}(n:h.Ns1 dx mA):∃od,h.get? dx=some od/\∀name,PySem.W.lookIn name od=some (mA name):=by
 obtain⟨o,es,ep,ho,hd,hk,_,hm⟩:=n
 refine⟨o,ho,λname=>?_⟩
 have e:=hm name
 unfold nsFind findBy at e
 rw[<- Array.find?_toList]at e
 unfold PySem.W.lookIn
 rw[hd]
 dsimp only
 split
 ·rename_i y q
  rw[q]at e
  exact congrArg some e
 ·rename_i q
  rw[q]at e
  have a:es.toList.any (·.refKey)=false:=by
   rw[List.any_eq_false]
   intro y hy
   obtain⟨z,t,hkey⟩:=hk y (Array.mem_toList_iff.mp hy)
   simp[DictEntry.refKey,hkey]
  have a':¬es.toList.any (·.refKey)=true:=by rw[a];exact aL6
  rw[if_neg a']
  exact congrArg some e
theorem r9.look {h:Heap}{x dx C:Addr}{mA:Str->Option Value}(I:r9 h x dx C mA):∃od,PySem.W.InstAt h x (PySem.W.instObj C dx) C (some od)/\∀name,PySem.W.lookIn name od=some (mA name):=
 let ⟨od,ho,hl⟩:=Y8 I.ns
 ⟨od,⟨I.obj,rfl,rfl,ho⟩,hl⟩
section
variable {P:Program}{w:World}{H H':Hp}{h h':Heap}{a C dx:Addr}{fs fs':List (Str×V)}
theorem Y9 (hok:bN P w H h)(e:H a=some (.ins C dx fs)):∃mA,r9 h a dx C mA/\(∀f,gX (fs.lookup f) (mA f))/\PySem.Within mA (fs.map (·.1))/\fs.length<=1000/\H dx=some (.own a):=by
 obtain⟨d,z,ne,ob,mA,n,r,q⟩:=(show bV P w H h a (.ins C dx fs) from hok a _ e)
 exact⟨mA,⟨ob,n,ne⟩,r,q,z,d⟩
end
structure rA (K:ac)(C:Addr):Prop where
 pg:PySem.W.plainGet K C Str.empty=true
 hd:PySem.W.hasDictIn K C=true
 po:PySem.W.plainOver K C=true
 sa:PySem.W.findIn K (.ref C) "__setattr__" = some (some (.builtin "object.__setattr__"))
theorem rA.get {K:ac}{C:Addr}(c:rA K C)(f:Str):PySem.W.plainGet K C f=true:=c.pg
section
variable {X:Cx}{pins:List (Addr×Obj)}{σ:St}{H:Hp}{s:Shared}{A:Around}{E:Value→Shared→Prop}{Q:Value→Shared→Prop}{c:Value}{b:Bool}
inductive eI (K:ac)(H:Hp):V->Value->Prop where
 |non:eI K H .non (.type "NoneType")
 |bl (x:Bool):eI K H (.bl x) (.type "bool")
 |int (i:Int):eI K H (.int i) (.type "int")
 |str (x:Str):eI K H (.str x) (.type "str")
 |flt (x:UInt64):eI K H (.flt x) (.type "float")
 |lst {a:Addr}{xs:List V} (e:H a=some (.lst xs)):eI K H (.ref a) (.type "list")
 |frz {a:Addr}{o:Obj}{xs:List V} (e:H a=some (.frz o (.lst xs))):eI K H (.ref a) (.type "list")
 |tup {a:Addr}{xs:List V} (e:H a=some (.tup xs)):eI K H (.ref a) (.type "tuple")
 |dK {a:Addr}{kvs:List (aJ×V)} (e:H a=some (.dK kvs)):eI K H (.ref a) (.type "dict")
 |dT {a:Addr}{kvs:List (List aJ×V)} (e:H a=some (.dT kvs)):eI K H (.ref a) (.type "dict")
 |ins {a C dx:Addr}{fs:List (Str×V)} (e:H a=some (.ins C dx fs)) (cl:rA K C) (ha:PySem.W.findIn K (.ref C) "__class__" = some (some (.builtin "object.__class__")))
   (hn:PySem.W.specialIn K (.builtin "object.__class__") "__get__" = some (some (.builtin "getset_descriptor.__get__"))) (htk:PySem.W.takesIn K (.builtin "object.__class__")=some true)
   (hm:PySem.W.mroIn K C (.type "object")=some true):eI K H (.ref a) (.ref C)
theorem Z0 {x:V}{u t:Value}(I:a8 X pins σ H s)(rx:aT x u)(ty:eI X.K H x t)(e:PySem.W.kitOne X.K t c=some b)(h:∀tk,Q (.bool b) { s with toks:=tk }) :
  wpAny (model X.prog X.w) A (call (.builtin "isinstance") [u,c]) Q E s:=by
 cases ty with
 |non=>cases (show u=Value.none from rx);exact aP0 PySem.W.kitx_none I.kIn True.intro e (λz=>nomatch z) h
 |bl y=>cases (show u=Value.bool y from rx);exact aP0 PySem.W.kitx_bool I.kIn True.intro e (λz=>nomatch z) h
 |int i=>obtain⟨t,q⟩:=(show ∃t,u=Value.int i t from rx);cases q;exact aP0 PySem.W.kitx_int I.kIn True.intro e (λz=>nomatch z) h
 |str y=>obtain⟨t,q⟩:=(show ∃t,u=Value.str y t from rx);cases q;exact aP0 PySem.W.kitx_str I.kIn True.intro e (λz=>nomatch z) h
 |flt y=>obtain⟨t,q⟩:=(show ∃t,u=Value.float y t from rx);cases q;exact aP0 PySem.W.kitx_float I.kIn True.intro e (λz=>nomatch z) h
 |@lst a xs ea=>
  cases (show u=Value.ref a from rx)
  obtain⟨_,_,n,_,h1⟩:=(show bV X.prog X.w H s.heap a (.lst xs) from I.hok a _ ea)
  exact aP0 PySem.W.kitx_list I.kIn ⟨_,h1,rfl⟩ e (λz=>nomatch z) h
 |@frz a ob xs ea=>
  cases (show u=Value.ref a from rx)
  obtain⟨_,_,_,n,_,h1⟩:=(show bV X.prog X.w H s.heap a (.frz ob (.lst xs)) from I.hok a _ ea)
  exact aP0 PySem.W.kitx_list I.kIn ⟨_,h1,rfl⟩ e (λz=>nomatch z) h
 |@tup a xs ea=>
  cases (show u=Value.ref a from rx)
  obtain⟨_,_,_,p,_⟩:=(show bV X.prog X.w H s.heap a (.tup xs) from I.hok a _ ea)
  obtain⟨o,h1,h2,_⟩:=p
  exact aP0 PySem.W.kitx_tuple I.kIn ⟨o,h1,h2⟩ e (λz=>nomatch z) h
 |@dK a kvs ea=>
  cases (show u=Value.ref a from rx)
  obtain⟨_,_,vs,_,p⟩:=(show bV X.prog X.w H s.heap a (.dK kvs) from I.hok a _ ea)
  obtain⟨o,es,ep,h1,h2,_⟩:=p
  exact aP0 PySem.W.kitx_dict I.kIn ⟨o,h1,h2.1⟩ e (λz=>nomatch z) h
 |@dT a kvs ea=>
  cases (show u=Value.ref a from rx)
  obtain⟨_,_,xs,_,o,es,ep,h1,h2,_⟩:=(show bV X.prog X.w H s.heap a (.dT kvs) from I.hok a _ ea)
  exact aP0 PySem.W.kitx_dict I.kIn ⟨o,h1,h2.1⟩ e (λz=>nomatch z) h
 |@ins a C dx fs ea cl ha hn htk hm=>
  cases (show u=Value.ref a from rx)
  obtain⟨mA,O,_⟩:=Y9 I.hok ea
  obtain⟨od,J,_⟩:=O.look
  exact aP0 (PySem.W.kitx_own (cl.get _) cl.hd ha hn htk hm) I.kIn J e (λz=>nomatch z) h
end
structure bW (k:Nat)(A:Around):Prop where
 hd:A.handled=none
 dp:A.depth+3*k+5<recursionLimit
 un:A.units+16*k+200<cLine
theorem bW.mono {j k:Nat}{A:Around}(r:bW k A)(h:j<=k):bW j A:=⟨r.hd,by have:=r.dp;omega,by have:=r.un;omega⟩
theorem bW.deeper {k:Nat}{A:Around}(r:bW (k+1) A)(env:Env):bW k (A.deeper env):=
 ⟨r.hd,by have:=r.dp;show A.depth+1+3*k+5<_;omega,by have:=r.un;show A.units+3+16*k+200<_;omega⟩
theorem bW.depth {k:Nat}{A:Around}(r:bW k A):A.depth<recursionLimit:=by have:=r.dp;omega
theorem bW.units {k:Nat}{A:Around}(r:bW k A):A.units+64<cLine:=by have:=r.un;omega
noncomputable def lK:TA:=λ_ H Q=>Q [] H
noncomputable def k6 (ta:TE)(tr:TA):TA:=λσ H Q=>ta σ H λx H1=>tr σ H1 λxs H2=>Q (x::xs) H2
section
variable {X:Cx}{e:Expr}{es:List Expr}{te:TE}{t:TA}{pos:Pos}
theorem gH:PA X [] lK:=λ_ _ _ _ H Q I h=>Calls.spliced_nil ⟨[],H,I,.nil,h⟩
theorem e8 (ha:PE X e te)(hr:PA X es t)(hs:starEach (e::es) X.env=(false,eval e X.env)::starEach es X.env:=by rfl):PA X (e::es) (k6 te t):=by
 intro pos pins s σ H Q I h
 rw[hs]
 show wpAny _ _ (spliced ((false,eval e X.env)::backTo pos (starEach es X.env))) _ _ s
 refine Calls.spliced_cons (aR (ha pins s σ H _ I h) λu s1 ⟨x,H1,I1,r1,q1⟩=>?_)
 exact aR (hr pos pins s1 σ H1 _ I1 q1) λus s2 ⟨xs,H2,I2,r2,q2⟩=>⟨x::xs,H2,I2,.cons r1 r2,q2⟩
noncomputable def wA (t:TA):TE:=λσ H Q=>t σ H λxs H1=>xs.length<=sizeLine/\∀p,H1 p=none->Q (.ref p) (upd H1 p (.tup xs))
noncomputable def wB (t:TA):TE:=λσ H Q=>t σ H λxs H1=>xs.length<=sizeLine/\∀p,H1 p=none->Q (.ref p) (upd H1 p (.lst xs))
theorem Z1 {x1}(h:PA X es t):PE X (.Tuple es x1 pos) (wA t):=by
 intro pins s σ H Q I hq
 refine wpAny_Tuple_spliced (aR (h pos pins s σ H _ I hq) λus s1 ⟨xs,H1,I1,r,z,q⟩=>⟨by rw[<- r.length];exact z,?_⟩)
 have hf:H1 s1.heap.objs.size=none:=I1.hok.fresh (aK8 _)
 refine⟨.ref s1.heap.objs.size,upd H1 s1.heap.objs.size (.tup xs),I1.laid (t':=s1.toks) (λb u e=>aK4 _ e) (aK8 _) ?_,rfl,q _ hf⟩
 exact⟨z,us,r,⟨_,aM4 _ rfl,rfl,_,rfl⟩,gG.new _ _ rfl⟩
theorem Z2 (h:PA X es t):PE X (.List es pos) (wB t):=by
 intro pins s σ H Q I hq
 refine wpAny_List_spliced (aR (h pos pins s σ H _ I hq) λus s1 ⟨xs,H1,I1,r,z,q⟩=>⟨by rw[<- r.length];exact z,?_⟩)
 have hf:H1 s1.heap.objs.size=none:=I1.hok.fresh (aK8 _)
 refine⟨.ref s1.heap.objs.size,upd H1 s1.heap.objs.size (.lst xs),I1.laid (t':=s1.toks) (λb u e=>aK4 _ e) (aK8 _) ?_,rfl,q _ hf⟩
 exact⟨z,us,0,r,aM4 _ rfl⟩
end
noncomputable abbrev Sp:=List V->Hp->VK->XK->Prop
noncomputable abbrev fM:=List Env->Hp->Shared->XK->Value->Shared->Prop
structure nM (P:Program)(w:World)(K:ac)(mg:Str->Option Value)(base:Heap)(A:Around)(outer:List Env)(s:Shared)(H:Hp):Prop where
 frames:A.frames=some outer
 mod:Mod K mg base
 bs:∀b o,base.get? b=some o->s.heap.get? b=some o/\H b=none
 bsz:base.objs.size<=s.heap.objs.size
 funs:s.heap.FunFrames base outer
 frf:∀b∈bH outer,H b=none
 hok:bN P w H s.heap
 bare:AllBare s.gens
noncomputable def CE (outer:List Env)(P:Program)(w:World)(H:Hp)(s:Shared)(Q:VK)(u:Value)(s':Shared):Prop:=
 ∃v H',s'.os=s.os/\AllBare s'.gens/\Un (bH outer) [] H H' s.heap s'.heap/\bN P w H' s'.heap/\aT v u/\Q v H'
noncomputable def CR (CX:fM)(outer:List Env)(P:Program)(w:World)(H:Hp)(s:Shared)(Q:VK)(E:XK)(r:Result)(s':Shared):Prop:=
 match r with
 |.ok (.ret u)=>CE outer P w H s Q u s'
 |.ok _=>False
 |.error e=>CX outer H s E e s'
structure cR (P:Program)(w:World)(K:ac)(mg:Str->Option Value)(base:Heap)(CX:fM)(k:Nat)(f:Addr)(fd:FuncData)(ps:List Str)(sp:Sp):Prop where
 len:∀vs H Q E,sp vs H Q E->vs.length=ps.length
 run:∀(A:Around) (outer:List Env) (s:Shared) (H:Hp) (args:Args) (us:List Value) (vs:List V) (Q:VK) (E:XK),bW k A->nM P w K mg base A outer s H->BindsTo s fd args (ps.zip us)->aQ vs us->sp vs H Q E->
  codeAny (model P w) A (.call (.ref f) args) (CR CX outer P w H s Q E) s
theorem cR.imp {P:Program}{w:World}{K:ac}{mg:Str->Option Value}{base:Heap}{CX:fM}{k:Nat}{f:Addr}{fd:FuncData}{ps:List Str}{sp sp':Sp}(F:cR P w K mg base CX k f fd ps sp)(h:∀vs H Q E,sp' vs H Q E->sp vs H Q E):cR P w K mg base CX k f fd ps sp':=
 ⟨λvs H Q E q=>F.len vs H Q E (h _ _ _ _ q),λA outer s H args us vs Q E hr he hb hv hs=>F.run A outer s H args us vs Q E hr he hb hv (h _ _ _ _ hs)⟩
section
variable {X:Cx}{pins:List (Addr×Obj)}{σ:St}{H:Hp}{s s':Shared}
theorem a8.env0 (I:a8 X pins σ H s):nM X.prog X.w X.K X.mg X.base X.A X.stack s H:=
 ⟨I.ok.frames,I.ok.mod,I.bs,aN8 I.ok.bsz I.sz,I.stack,I.stkFree,I.hok,I.bare⟩
theorem a8.after {Q:VK}{u:Value}(I:a8 X pins σ H s)(h:CE X.stack X.prog X.w H s Q u s'):EP X pins σ Q u s':=by
 obtain⟨v,H',os,bare,un,hok,r,q⟩:=h
 obtain⟨hh,g,d,t,os'⟩:=s'
 obtain rfl:os'=s.os:=os
 exact⟨v,H',I.call (h':=hh) (g':=g) (d':=d) (t':=t) (ch:=[]) un hok bare (λb z=>absurd z (by simp)),r,q⟩
end
noncomputable def rB (sp:Sp)(dvs:List V)(E:XK)(t:TA):TE:=λσ H Q=>t σ H λvs H1=>sp (vs++dvs) H1 Q E
noncomputable def hV (K:ac)(fd:FuncData)(ps:List Str)(ds:List Value):Prop:=
 ∀(s:Shared) (us:List Value),K.In s.heap->(us++ds).length=ps.length->BindsTo s fd ⟨us,[]⟩ (ps.zip (us++ds))
theorem hV.all {K:ac}{fd:FuncData}{ps:List Str}(h:∀us:List Value,us.length=ps.length->bindArgs fd ⟨us,[]⟩=pure (ps.zip us)):hV K fd ps []:=λs us _ hl=>by
 rw[aO7]at hl ⊢
 exact .of_eq (h us hl)
noncomputable def lL (CX:fM)(X:Cx)(E:XK):Prop:=∀(pins:List (Addr×Obj)) (σ:St) (H:Hp) (s:Shared) (e:Value) (s':Shared),a8 X pins σ H s->CX X.stack H s E e s'->X.xe e s'
section
variable {X:Cx}{CX:fM}{k:Nat}{f C:Addr}{fd:FuncData}{ps:List Str}{sp:Sp}{dvs:List V}{ds:List Value}{E:XK}{x m:Str}{p pos apos:Pos}{e o:Expr}{es:List Expr}{ta:TE}{t:TA}
theorem Z3 {pins:List (Addr×Obj)}{σ:St}{H:Hp}{s:Shared}{Q:VK}{us:List Value}{vs:List V}(F:cR X.prog X.w X.K X.mg X.base CX k f fd ps sp)(hr:bW k X.A)(hb:hV X.K fd ps ds)(hd:aQ dvs ds)(hx:lL CX X E)(I:a8 X pins σ H s)(r:aQ vs us)(h:sp (vs++dvs) H Q E):wpAny (model X.prog X.w) X.A (call (.ref f) us) (EP X pins σ Q) X.xe s:=by
 have r2:aQ (vs++dvs) (us++ds):=r.append hd
 have hl:(us++ds).length=ps.length:=by rw[<- r2.length];exact F.len _ _ _ _ h
 refine wpAny_call (codeAny_mono (F.run X.A X.stack s H ⟨us,[]⟩ (us++ds) (vs++dvs) Q E hr I.env0 (hb s us I.kIn hl) r2 h) λr s' hq=>?_)
 cases r with
 |error e=>exact hx pins σ H s e s' I hq
 |ok fl=>
  cases fl with
  |ret u=>exact I.after hq
  |next=>exact False.elim hq
  |brk=>exact False.elim hq
  |cont=>exact False.elim hq
theorem rC (F:cR X.prog X.w X.K X.mg X.base CX k f fd ps sp)(hr:bW k X.A)(hg:Gl X x)(hm:X.mg x=some (.ref f))(hk:PySem.W.keepIn X.K (.ref f)=true)(hb:hV X.K fd ps ds)(hd:aQ dvs ds)(hx:lL CX X E)(ha:PA X (e::es) t)(hdb:(x==("__debug__":Str))=false:=by decide)(he:starEach (e::es) X.env=(false,eval e X.env)::starEach es X.env:=by rfl)(hpl:(backTo pos (starEach es X.env)).any (·.1)=false:=by rfl) :
  PE X (.Call (.Name x p) (e::es) [] pos) (rB sp dvs E t):=by
 intro pins s σ H Q I h
 refine wpAny_Call_Name_kw (lB I hg hm ?_ hdb)
 refine PySem.W.callWith_K (h₀:=X.base) I.ok.mod.kin hk (aR (ha pos pins s σ H _ I h) λus s1 ⟨vs,H1,I1,r,q⟩=>⟨I1.kIn,?_⟩) he hpl
 exact Z3 F hr hb hd hx I1 r q
end
noncomputable def PK (X:Cx)(kws:List Keyword)(t:TA):Prop:=
 ∀(pos:Pos) (pins:List (Addr×Obj)) (s:Shared) (σ:St) (H:Hp) (Q:List V->Hp->Prop),a8 X pins σ H s->t σ H Q->wpAny (model X.prog X.w) X.A (evalAll ((backToKw pos (keywordEach kws X.env)).map (·.2))) (AP X pins σ Q) X.xe s
structure FnScope (N P:List Str)(sc:Scope):Prop where
 kind:sc.kind = .function
 co:sc.isCoroutine=false
 gen:sc.isGenerator=false
 nd:N.Nodup
 pre:N.take P.length=P
 par:∀x∈P,sc.names.lookup x=some .local∨sc.names.lookup x=some .cell
 nofree:∀y∈sc.names,y.2≠.free
theorem wC {kindOf:Str->Option NameKind}{x:Str}:∀{binds:List (Str×Value)}{m:Str->Option Value},(∀v,(x,v)∉binds)->bindL kindOf binds m x=m x
 |[],_,_=>rfl
 |(n,v)::r,m,h=>by
  unfold bindL
  rw[wC λw hw=>h w (aM6 _ hw)]
  split
  ·have:x≠n:=by rintro rfl;exact h v aM3
   simp[this]
  ·rfl
theorem wD {kindOf:Str->Option NameKind}{x:Str}:∀{binds:List (Str×Value)}{m:Str->Option Value},(∀v,(x,v)∉binds)->bindC kindOf binds m x=m x
 |[],_,_=>rfl
 |(n,v)::r,m,h=>by
  unfold bindC
  rw[wD λw hw=>h w (aM6 _ hw)]
  split
  ·rfl
  ·have:x≠n:=by rintro rfl;exact h v aM3
   simp[this]
theorem wE {kindOf:Str->Option NameKind}{x:Str}{v:Value}:∀{P:List Str}{vs:List Value}{i:Nat}{m:Str->Option Value},P.Nodup->P[i]? = some x->vs[i]? = some v->kindOf x=some .local->
  bindL kindOf (P.zip vs) m x=some v
 |[],_,_,_,_,h,_,_=>by simp at h
 |_::_,[],_,_,_,_,h,_=>by simp at h
 |p::P,w::vs,0,m,nd,h1,h2,hk=>by
  simp at h1 h2;subst h1;subst h2
  show bindL kindOf ((p,w)::P.zip vs) m p=_
  unfold bindL
  rw[wC λv hv=>(List.nodup_cons.mp nd).1 (List.of_mem_zip hv).1,if_pos hk]
  simp
 |p::P,w::vs,i+1,m,nd,h1,h2,hk=>by
  show bindL kindOf ((p,w)::P.zip vs) m x=_
  unfold bindL
  exact wE (i:=i) (List.nodup_cons.mp nd).2 (by simpa using h1) (by simpa using h2) hk
theorem wF {kindOf:Str->Option NameKind}{x:Str}{v:Value}:∀{P:List Str}{vs:List Value}{i:Nat}{m:Str->Option Value},P.Nodup->P[i]? = some x->vs[i]? = some v->kindOf x≠some .local->
  bindC kindOf (P.zip vs) m x=some v
 |[],_,_,_,_,h,_,_=>by simp at h
 |_::_,[],_,_,_,_,h,_=>by simp at h
 |p::P,w::vs,0,m,nd,h1,h2,hk=>by
  simp at h1 h2;subst h1;subst h2
  show bindC kindOf ((p,w)::P.zip vs) m p=_
  unfold bindC
  rw[wD λv hv=>(List.nodup_cons.mp nd).1 (List.of_mem_zip hv).1,if_neg hk]
  simp
 |p::P,w::vs,i+1,m,nd,h1,h2,hk=>by
  show bindC kindOf ((p,w)::P.zip vs) m x=_
  unfold bindC
  exact wF (i:=i) (List.nodup_cons.mp nd).2 (by simpa using h1) (by simpa using h2) hk
noncomputable def fN (N:List Str)(vs:List V):St:=vs.map some++List.replicate (N.length-vs.length) none
noncomputable def cS (CX:fM)(P:Program)(w:World)(K:ac)(mg:Str->Option Value)(base:Heap)(N:List Str)(qual:Str)(scope:Scope)(f:Addr)(cd:Value)(A:Around)(outer:List Env)(s:Shared)(H:Hp)(E:XK):Cx where
 prog:=P
 w:=w
 K:=K
 mg:=mg
 base:=base
 A:=A.deeper (envOfC qual scope s.heap.objs.size f cd)
 N:=N
 s₀:=s
 H₀:=H
 env:=envOfC qual scope s.heap.objs.size f cd
 outer:=outer
 stack:=envOfC qual scope s.heap.objs.size f cd::outer
 ex:=[]
 calm:=true
 fn:=λ_=>true
 pn:=[]
 xe:=λe s'=>wpAny (model P w) (A.deeper (envOfC qual scope s.heap.objs.size f cd)) (leaving (envOfC qual scope s.heap.objs.size f cd) e) (λ_ s''=>CX outer H s E e s'') (λe' s''=>CX outer H s E e' s'') s'
theorem wG {sc:Scope}{n:Nat}{x:Str}(h:sc.names.lookup x=some .cell):∃c,(cellsFrom n sc.names []).lookup x=some c:=by
 have q:=PySem.W.cellsFrom_some sc.names n [] (.inl h)
 exact Option.isSome_iff_exists.mp q
theorem Z4 {CX:fM}{P:Program}{w:World}{K:ac}{mg:Str->Option Value}{base:Heap}{N ps:List Str}{qual:Str}{scope:Scope}{f:Addr}{cd:Value}{A:Around}{outer:List Env}{s s1:Shared}{H:Hp}{E:XK}{us:List Value}{vs:List V}(S:FnScope N ps scope)(hd:A.handled=none)(e0:nM P w K mg base A outer s H)(hl:vs.length=ps.length)(r:aQ vs us)(x:InCallC s s.heap.objs.size (bindL (envOfC qual scope s.heap.objs.size f cd).kindOf (ps.zip us) λ_=>none) (cellsFrom (s.heap.objs.size+1) scope.names []) (bindC (envOfC qual scope s.heap.objs.size f cd).kindOf (ps.zip us) λ_=>none) s1) :
  a8 (cS CX P w K mg base N qual scope f cd A outer s H E) [] (fN N vs) H s1:=by
 have hpl:ps.length<=N.length:=by have:=congrArg List.length S.pre;rw[aQ6]at this;omega
 obtain⟨h1,tk,rfl,hk⟩:=x.done
 have noA:∀b:Addr,b∉(cS CX P w K mg base N qual scope f cd A outer s H E).ex:=λb z=>absurd (show b∈([]:List Addr) from z) (by simp)
 refine⟨⟨e0.mod,S.kind,rfl,rfl,aK8 _,λy z c h1 h2=>?_,λy hy=>?_,λy c _ h=>?_,λ_=>hd,Around.frames_deeper e0.frames,.inr ⟨rfl,rfl⟩,λb z=>absurd z (noA b),e0.bs,e0.bsz,λb _ _=>noA b,λb z=>absurd z (noA b),e0.funs,e0.frf⟩,
  rfl,e0.bare,Un.kept hk,⟨_,x.toInCall.ns,λi y v h1 h2 h3=>?_⟩,λy c h=>⟨_,x.cell y c h⟩,e0.hok.fresh (aK8 _),λy c h=>?_,λp hp=>absurd (show p∈([]:List (Addr×Obj)) from hp) (by simp),e0.hok.kept hk,?_⟩
 ·exact name_of_addr x.apart (aO4 h1) (aO4 h2)
 ·have hy:scope.names.lookup y=some .cell∨scope.names.lookup y=some .free:=hy
  rcases hy with hy|hy
  ·exact wG hy
  ·exact absurd rfl (S.nofree _ (aO4 hy))
 ·exact aR3 (x.above y c (aO4 h))
 ·have hi:i<vs.length:=by
   unfold fN at h2
   by_cases hi:i<vs.length
   ·exact hi
   ·rw[aV5 (by simpa using hi)]at h2
    rw[List.getElem?_replicate]at h2
    split at h2<;>cases h2
  have ha:vs[i]? = some v:=by
   unfold fN at h2
   rw[aT5 (by simpa using hi),aM9]at h2
   cases e:vs[i]? with
   |none=>rw[e]at h2;cases h2
   |some a=>rw[e]at h2;cases h2;rfl
  obtain⟨u,hu,rv⟩:=r.get ha
  have hp:ps[i]? = some y:=by
   rw[<- S.pre,List.getElem?_take_of_lt (by omega)];exact h1
  have ndP:ps.Nodup:=by rw[<- S.pre];exact S.nd.sublist (List.take_sublist _ _)
  refine⟨u,rv,?_⟩
  rcases S.par y (aW8 hp) with k|k
  ·exact .inl ⟨k,wE ndP hp hu k⟩
  ·obtain⟨c,e⟩:=wG (n:=s.heap.objs.size+1) k
   refine .inr ⟨.inl k,c,e,?_⟩
   have q:=x.cell y c e
   rw[wF ndP hp hu (by show scope.names.lookup y≠_;rw[k];decide)]at q
   exact q
 ·exact e0.hok.fresh (aR3 (x.above y c (aO4 h)))
 ·unfold fN
  show _=N.length
  rw[aL9,aL2,List.length_replicate]
  omega
theorem wH {CX:fM}{P:Program}{w:World}{K:ac}{mg:Str->Option Value}{base:Heap}{k:Nat}{f:Addr}{name qual:Str}{params:Arguments}{body:List Stmt}{scope:Scope}{dV kV doc pm cdv ct oc:Value}{an od:Option Addr}{osl:Array (Option Value)}{N ps:List Str}{sp:Sp}(lk:K.lookup f=some ⟨oc,od,.func (PySem.W.fnOf name qual params body scope dV kV doc pm an cdv ct),osl⟩)(hcd:PySem.W.codeIn K cdv qual=true)(S:FnScope N ps scope)(len:∀vs H Q E,sp vs H Q E->vs.length=ps.length)(hbody:∀(A:Around) (outer:List Env) (s:Shared) (H:Hp) (vs:List V) (Q:VK) (E:XK),bW k (A.deeper (envOfC qual scope s.heap.objs.size f cdv))->sp vs H Q E->
   ∃t,cZ (cS CX P w K mg base N qual scope f cdv A outer s H E) body t/\t { nx:=λ_ H'=>Q .non H',rt:=Q } (fN N vs) H) :
  cR P w K mg base CX (k+1) f (PySem.W.fnOf name qual params body scope dV kV doc pm an cdv ct) ps sp:=by
 refine⟨len,λA outer s H args us vs Q E hr e0 hb r hsp=>?_⟩
 have hl:=len _ _ _ _ hsp
 have KX:K.In s.heap:=e0.mod.kin.keeps λb o e=>(e0.bs b o e).1
 have lim:s.heap.NoLimit:=e0.mod.nolimit.keeps λb o e=>(e0.bs b o e).1
 have hkind:∀y∈ps.zip us,scope.names.lookup y.1=some .local∨(scope.names.lookup y.1=some .cell/\((cellsFrom (s.heap.objs.size+1) scope.names []).lookup y.1).isSome=true):=λ⟨n,v⟩ hy=>by
  rcases S.par n (List.of_mem_zip hy).1 with q|q
  ·exact .inl q
  ·exact .inr ⟨q,PySem.W.cellsFrom_some _ _ _ (.inl q)⟩
 refine codeAny_call_function hr.depth (KX _ _ lk) rfl S.co S.gen rfl (PySem.W.codeRec_of KX hcd) (hb _ _ _ _ ?_)
 refine wpAny_newFunctionEnv_cells S.kind hkind λenv he s1 x=>?_
 subst he
 refine⟨lim.keeps x.toInCall.keep,codeAny_func ?_⟩
 obtain⟨t,ht,hq⟩:=hbody A outer s H vs Q E (hr.deeper _) hsp
 have I:a8 (cS CX P w K mg base N qual scope f cdv A outer s H E) [] (fN N vs) H s1:=Z4 S hr.hd e0 hl r x
 refine aR0 (ht [] s1 (fN N vs) H _ I hq) (λfl s' hs=>?_) λe s' hs=>hs
 have fin:∀{σ':St}{H':Hp}{v:V}{u:Value},a8 (cS CX P w K mg base N qual scope f cdv A outer s H E) [] σ' H' s'->aT v u->Q v H'->CE outer P w H s Q u s':=
  λ{σ' H' v u} J rv q=>⟨v,H',J.os,J.bare,J.base,J.hok,rv,q⟩
 cases fl with
 |ret u=>
  obtain⟨v,σ',H',J,rv,q⟩:=hs
  exact fin J rv q
 |next=>
  obtain⟨σ',H',J,q⟩:=hs
  exact fin (v:=V.non) (u:=Value.none) J rfl q
 |brk=>
  obtain⟨_,_,_,q⟩:=hs
  exact False.elim q
 |cont=>
  obtain⟨_,_,_,q⟩:=hs
  exact False.elim q
section
variable {X:Cx}{x:Str}{p pos:Pos}{e:Expr}{es:List Expr}{t:TA}{id T:String}{r:List V→Hp→VK→Prop}
noncomputable def rD (r:List V->Hp->VK->Prop)(t:TA):TE:=λσ H Q=>t σ H λvs H1=>r vs H1 Q
theorem lM (hc:cG X (.builtin id) r)(hg:Gl X x)(hm:X.mg x=none)(hv:bootBuiltins x=some (.builtin id))(ha:PA X (e::es) t)(hn:x≠"__name__":=by decide)(hdb:(x==("__debug__":Str))=false:=by decide)(he:starEach (e::es) X.env=(false,eval e X.env)::starEach es X.env:=by rfl)(hpl:(backTo pos (starEach es X.env)).any (·.1)=false:=by rfl):PE X (.Call (.Name x p) (e::es) [] pos) (rD r t):=by
 intro pins s σ H Q I h
 refine wpAny_Call_Name_kw (iZ I hg hm hv ?_ hn hdb)
 exact PyProof.Rows.callWith_builtin1 (aR (ha pos pins s σ H _ I h) λus s1 ⟨vs,H1,I1,r1,q1⟩=>hc pins s1 σ H1 vs us Q I1 r1 q1) he hpl
theorem Z5 (hc:cG X (.type T) r)(hg:Gl X x)(hm:X.mg x=none)(hv:bootBuiltins x=some (.type T))(ha:PA X (e::es) t)(hn:x≠"__name__":=by decide)(hdb:(x==("__debug__":Str))=false:=by decide)(he:starEach (e::es) X.env=(false,eval e X.env)::starEach es X.env:=by rfl)(hpl:(backTo pos (starEach es X.env)).any (·.1)=false:=by rfl):PE X (.Call (.Name x p) (e::es) [] pos) (rD r t):=by
 intro pins s σ H Q I h
 refine wpAny_Call_Name_kw (iZ I hg hm hv ?_ hn hdb)
 exact aT0 (aR (ha pos pins s σ H _ I h) λus s1 ⟨vs,H1,I1,r1,q1⟩=>hc pins s1 σ H1 vs us Q I1 r1 q1) he hpl
end
end L2
namespace HT
open PySem PyProof.Rows
noncomputable def cD:ae->ae->Bool
 |[],[]=>false
 |[],_::_=>true
 |_::_,[]=>false
 |x::xs,y::ys=>if x=y then cD xs ys else decide (x<y)
theorem nN (x y:Int)(xs ys:ae):cD (x::xs) (y::ys)=if x=y then cD xs ys else decide (x<y):=rfl
section
variable {prog:Program}{w:World}{A:Around}{E:Value→Shared→Prop}{s:Shared}
theorem Z6 {t b:Addr}{vs ws:List Value}{Q:Value->Shared->Prop}(ht:IsTup s.heap t vs.toArray)(hb:IsTup s.heap b ws.toArray)(hv:vs≠[])(h1:ws = []->Q (.ref t) s)(h2:ws≠[]->Q (.ref s.heap.objs.size) { s with heap:=s.heap.push { cls:=.type "tuple",data:=.seq (vs++ws).toArray } })(hsz:vs.length+ws.length<=sizeLine):wpAny (model prog w) A (binaryOp .Add (.ref t) (.ref b)) Q E s:=by
 obtain⟨⟨cls,dd,data,sl⟩,ho,hc,n,hd⟩:=id ht
 obtain⟨⟨cls2,dd2,data2,sl2⟩,ho2,hc2,n2,hd2⟩:=id hb
 simp only at hc hd hc2 hd2
 subst hc hd hc2 hd2
 have e:vs.toArray++ws.toArray=(vs++ws).toArray:=by simp
 by_cases hw:ws = []
 ·exact concat_meets ⟨_,ho,rfl⟩ ⟨_,ho2,rfl⟩ noFill_tuple_add seq_tuple_add PySem.F.slot_tuple_add PySem.F.entry_tuple_add (PySem.F.args_tuple_add_2 _ _)
   (tuple_addW1 t b vs.toArray ws.toArray n n2 dd dd2 sl sl2 (by simpa using hv) (by simp[hw])) ⟨ho,ho2,h1 hw⟩
 ·refine concat_meets ⟨_,ho,rfl⟩ ⟨_,ho2,rfl⟩ noFill_tuple_add seq_tuple_add PySem.F.slot_tuple_add PySem.F.entry_tuple_add (PySem.F.args_tuple_add_2 _ _)
   (tuple_addW2 t b vs.toArray ws.toArray n n2 dd dd2 sl sl2 (by simpa using hv) (by simpa using hw) (by rw[aK5,aK5];exact hsz)) ⟨ho,ho2,?_⟩
  rw[e]
  exact h2 hw
noncomputable def aU (n d:Nat):Option Int->Nat
 |none=>d
 |some v=>if v<0 then (v+(n:Int)).toNat else min v.toNat n
theorem Z7 (n d:Nat):aU n d none=d:=rfl
theorem wI (n d k:Nat):aU n d (some (k:Int))=min k n:=by
 show (if (k:Int)<0 then ((k:Int)+(n:Int)).toNat else min (k:Int).toNat n)=min k n
 rw[if_neg (by omega),Int.toNat_natCast]
theorem Z8 (n d:Nat)(hd:d<=n)(o:Option Int):aU n d o<=n:=by
 cases o with
 |none=>exact hd
 |some v=>
  show (if v<0 then (v+(n:Int)).toNat else min v.toNat n)<=n
  by_cases hv:v<0
  ·rw[if_pos hv];omega
  ·rw[if_neg hv];exact Nat.min_le_right _ _
theorem wJ (v:Int)(n d:Nat):(if v<0 then max (v+(n:Int)) 0 else min v (n:Int))=((aU n d (some v):Nat):Int):=by
 show (if v<0 then max (v+(n:Int)) 0 else min v (n:Int))=(((if v<0 then (v+(n:Int)).toNat else min v.toNat n):Nat):Int)
 by_cases hv:v<0
 ·simp only[if_pos hv];omega
 ·simp only[if_neg hv];omega
theorem Z9 (lo hi:Option Int)(n:Nat):Builtin.Slice.sliceAdjust lo hi 1 (n:Int)=(((aU n 0 lo:Nat):Int),((aU n n hi:Nat):Int)):=by
 have h1:¬((1:Int)<0):=by omega
 unfold Builtin.Slice.sliceAdjust
 simp only[h1,aT6]
 refine Prod.ext ?_ ?_
 ·cases lo with
  |none=>rfl
  |some v=>exact wJ v n 0
 ·cases hi with
  |none=>rfl
  |some v=>exact wJ v n n
theorem aa0 (i j:Nat):Builtin.Slice.slicePlaces (i:Int) (j:Int) 1=j-i:=by
 unfold Builtin.Slice.slicePlaces
 have h1:(1:Int)>0:=by omega
 simp only[h1,if_true,Int.ediv_one]
 split<;>omega
theorem wK {v:Value}{o:Option Int}{Q:Option Int->Shared->Prop}(p:IsPart v o)(h:Q o s):wpAny (model prog w) A (Builtin.Slice.slicePartIndex v) Q E s:=by
 cases p with
 |none=>exact slicePart_none h
 |int i t=>exact slicePart_int h
theorem wL {sl:Addr}{vl vu:Value}{lo hi:Option Int}{n:Nat}{Q:Int×Int×Nat->Shared->Prop}(hs:s.heap.IsSliceOf sl vl vu .none)(pl:IsPart vl lo)(pu:IsPart vu hi)(h:Q (((aU n 0 lo:Nat):Int),1,aU n n hi-aU n 0 lo) s):wpAny (model prog w) A (Builtin.Slice.sliceApplied (.ref sl) (pure (n:Int))) Q E s:=by
 obtain⟨os,hos,hcs,hds⟩:=id hs
 unfold Builtin.Slice.sliceApplied Builtin.Slice.sliceFields
 refine aK2 (aK2 (aS0 hos hds (x:=vl) rfl (aK2 (aS0 hos hds (x:=vu) rfl (aK2 (aS0 hos hds (x:=.none) rfl (aK7 ?_)))))))
 refine aK2 (slicePart_none ?_)
 show wpAny _ _ (if ((1:Int)==0)=true then _ else _) _ _ s
 rw[if_neg (by decide)]
 refine aK2 (wK pl (aK2 (wK pu (aK2 (aK7 ?_)))))
 show wpAny _ _ (match Builtin.Slice.sliceAdjust lo hi 1 (n:Int) with|(lo,hi)=>pure (lo,(1:Int),Builtin.Slice.slicePlaces lo hi 1)) _ _ s
 rw[Z9 lo hi n]
 show wpAny _ _ (pure (((aU n 0 lo:Nat):Int),(1:Int),Builtin.Slice.slicePlaces ((aU n 0 lo:Nat):Int) ((aU n n hi:Nat):Int) 1)) _ _ s
 rw[aa0]
 exact aK7 h
theorem aa1 (xs:Array Value)(i k:Nat):((List.range k).filterMap λ(m:Nat)=>xs[((i:Int)+(m:Int)*1).toNat]?).toArray=((xs.toList.drop i).take k).toArray:=by
 have e:(λ(m:Nat)=>xs[((i:Int)+(m:Int)*1).toNat]?)=λm=>xs[i+m]?:=by
  funext m
  have:((i:Int)+(m:Int)*1).toNat=i+m:=by omega
  rw[this]
 rw[e]
 have:=pick_run xs i k
 rw[List.filterMap_map]at this
 have e2:((λx=>xs[x]?) ∘ λx=>i+x)=λm=>xs[i+m]?:=rfl
 rw[e2]at this
 rw[this]
theorem aa2 {t sl:Addr}{items:Array Value}{vl vu:Value}{lo hi:Option Int}{Q:Value->Shared->Prop}(ht:IsTup s.heap t items)(hs:s.heap.IsSliceOf sl vl vu .none)(pl:IsPart vl lo)(pu:IsPart vu hi)(hw:¬(aU items.size 0 lo=0/\aU items.size items.size hi=items.size))(h:Q (.ref s.heap.objs.size) { s with heap:=s.heap.push { cls:=.type "tuple",data:=.seq ((items.toList.drop (aU items.size 0 lo)).take (aU items.size items.size hi-aU items.size 0 lo)).toArray } })(hsz:items.size<=sizeLine):wpAny (model prog w) A (getItem (.ref t) (.ref sl)) Q E s:=by
 have htake:sizeOk (.seq ((items.toList.drop (aU items.size 0 lo)).take (aU items.size items.size hi-aU items.size 0 lo)).toArray):=by
  show ((items.toList.drop (aU items.size 0 lo)).take (aU items.size items.size hi-aU items.size 0 lo)).toArray.size<=sizeLine
  rw[aK5,aQ6,aP7,aP4]
  omega
 have hj:aU items.size items.size hi<=items.size:=Z8 _ _ (aK8 _) hi
 obtain⟨os,hos,hcs,hds⟩:=id hs
 have hTs:s.TypeIs (.ref sl) "slice":=⟨os,hos,hcs⟩
 unfold getItem
 try with_reducible refine aV1 ?_
 first|refine aK2 (aK7 ?_)|skip
 refine aK2 (wpAny_sequenceKey ht.typeIs (by decide) ?_)
 refine aK2 (aS7 (name:=Str.ofString "__getitem__") ht.typeIs aT4
  (aT7 aT4 ht.typeIs entry_tuple_getitem ?_ (args_tuple_getitem _ _)))
 show wpAny _ _ (Builtin.Tuple.tupleItemsOf (.ref t) >>= _) _ _ s
 refine aK2 (tupleItemsOf_ ht ?_)
 refine aK2 (wpAny_typeOf hTs ?_)
 rw[if_pos (by decide)]
 refine aK2 (wL hs pl pu ?_)
 have hno:¬((((aU items.size 0 lo:Nat):Int)==0&&(1:Int)==1&&(aU items.size items.size hi-aU items.size 0 lo)==items.size)=true):=by
  intro q
  rw[aN3,aN3]at q
  have q1:((aU items.size 0 lo:Nat):Int)=0:=eq_of_beq q.1.1
  have q2:aU items.size items.size hi-aU items.size 0 lo=items.size:=eq_of_beq q.2
  exact hw ⟨by omega,by omega⟩
 show wpAny _ _ (if (((aU items.size 0 lo:Nat):Int)==0&&(1:Int)==1&&(aU items.size items.size hi-aU items.size 0 lo)==items.size)=true then _ else _) _ _ s
 rw[if_neg hno,aa1]
 first
  |exact aK2 (m:=Builtin.Tuple.tupleExact _) (aU6 (aK7 ⟨_,rfl,aK7 h⟩) htake)
  |exact aK2 (m:=Builtin.Tuple.tupleExact _) (aU6 (aK2 (aK7 (aK7 ⟨_,rfl,aK7 h⟩))) htake)
  |exact aK2 (aK2 (m:=Builtin.Tuple.tupleExact _) (aU6 (aK7 (aK7 ⟨_,rfl,aK7 h⟩)) htake))
  |exact aK2 (aK2 (m:=Builtin.Tuple.tupleExact _) (aU6 (aK7 ⟨_,rfl,aK7 h⟩) htake))
end
end HT
namespace L2
open PySem PySem.Spec PyProof.Rows
noncomputable abbrev TO:=St->Hp->(Option Int->Hp->Prop)->Prop
noncomputable def PO (X:Cx)(e:Option Expr)(t:TO):Prop:=
 ∀(pins:List (Addr×Obj)) (s:Shared) (σ:St) (H:Hp) (Q:Option Int->Hp->Prop),a8 X pins σ H s->t σ H Q->
  wpAny (model X.prog X.w) X.A (evalPart e X.env) (λu s'=>∃o H',a8 X pins σ H' s'/\IsPart u o/\Q o H') X.xe s
noncomputable def aa3:TO:=λ_ H Q=>Q none H
noncomputable def aa4 (t:TE):TO:=λσ H Q=>t σ H λx H1=>∃i,x = .int i/\Q (some i) H1
theorem j5 {ns:ae}:∀{us:List Value},aQ (ns.map V.int) us->IntsAre us ns:=by
 induction ns with
 |nil=>intro us r;rw[List.map_nil]at r;cases r;exact .nil
 |cons n ns ih=>
  intro us r
  rw[aO2]at r
  cases r with
  |cons r1 r2=>
   obtain⟨t,e⟩:=r1
   subst e
   exact .cons n t (ih r2)
section
variable {X:Cx}{e:Expr}{te:TE}{lo hi:Option Expr}{tl th:TO}{pos p2:Pos}
theorem rE:PO X none aa3:=by
 intro pins s σ H Q I h
 rw[evalPart_none]
 exact aK7 ⟨none,H,I,.none,h⟩
theorem rF (h:PE X e te):PO X (some e) (aa4 te):=by
 intro pins s σ H Q I hw
 rw[evalPart_some]
 refine aR (h pins s σ H _ I hw) λu s1 ⟨x,H1,I1,r1,q1⟩=>?_
 obtain⟨i,rfl,q⟩:=q1
 obtain⟨t,rfl⟩:=r1
 exact⟨some i,H1,I1,.int i t,q⟩
noncomputable def iI (X:Cx)(r:V->Option Int->Option Int->Hp->VK->Prop):Prop:=
 ∀(pins:List (Addr×Obj)) (s:Shared) (σ:St) (H:Hp) (x:V) (v vl vu:Value) (lo hi:Option Int) (sl:Addr) (Q:VK),a8 X pins σ H s->aT x v->s.heap.IsSliceOf sl vl vu .none->IsPart vl lo->IsPart vu hi->r x lo hi H Q->
  ∃T id,typeLookup (.type T) "__getitem__" = pure (some (.builtin id))/\s.TypeIs v T/\wpAny (model X.prog X.w) X.A (getItem v (.ref sl)) (EP X pins σ Q) X.xe s
theorem iI.or {r r':V->Option Int->Option Int->Hp->VK->Prop}(h:iI X r)(h':iI X r'):iI X (λx lo hi H Q=>r x lo hi H Q∨r' x lo hi H Q):=by
 intro pins s σ H x v vl vu lo hi sl Q I rx hs pl pu q
 rcases q with q|q
 ·exact h pins s σ H x v vl vu lo hi sl Q I rx hs pl pu q
 ·exact h' pins s σ H x v vl vu lo hi sl Q I rx hs pl pu q
noncomputable def tSl (r:V->Option Int->Option Int->Hp->VK->Prop)(te:TE)(tl th:TO):TE:=λσ H Q=>te σ H λx H1=>tl σ H1 λl H2=>th σ H2 λu H3=>r x l u H3 Q
theorem rG {r:V->Option Int->Option Int->Hp->VK->Prop}(hr:iI X r)(he:PE X e te)(hl:PO X lo tl)(hu:PO X hi th):PE X (.Subscript e (.Slice lo hi none p2) pos) (tSl r te tl th):=by
 intro pins s σ H Q I h
 refine Subscript_ (aR (he pins s σ H _ I h) λv s1 ⟨x,H1,I1,r1,q1⟩=>?_)
 refine wpAny_Slice (aR (hl pins s1 σ H1 _ I1 q1) λvl s2 ⟨l,H2,I2,pl,q2⟩=>aR (hu pins s2 σ H2 _ I2 q2) λvu s3 ⟨u,H3,I3,pu,q3⟩=>?_)
 rw[evalPart_none]
 refine aK7 ?_
 have I4:a8 X pins σ H3 { s3 with heap:=s3.heap.push { cls:=.type "slice",data:=.fields #[vl,vu,.none] } }:=I3.kept (t':=s3.toks) λb ob q=>aK4 _ q
 obtain⟨T,id,hT,ht,hg⟩:=hr pins { s3 with heap:=s3.heap.push { cls:=.type "slice",data:=.fields #[vl,vu,.none] } } σ H3 x v vl vu l u s3.heap.objs.size Q I4 r1 (Heap.IsSliceOf.new ..) pl pu q3
 show wpAny (model X.prog X.w) X.A (subscriptTail e (.Slice lo hi none p2) v (.ref s3.heap.objs.size)) (EP X pins σ Q) X.xe { s3 with heap:=s3.heap.push { cls:=.type "slice",data:=.fields #[vl,vu,.none] } }
 exact tail_any (ops:=[.ref s3.heap.objs.size,v]) ht hT hg (by with_unfolding_all rfl)
noncomputable def dG (xs:List V)(lo hi:Option Int):List V:=(xs.drop (HT.aU xs.length 0 lo)).take (HT.aU xs.length xs.length hi-HT.aU xs.length 0 lo)
theorem wM (xs:List V)(lo hi:Option Int):(dG xs lo hi).length<=xs.length:=by
 unfold dG
 rw[aQ6,aP7]
 omega
noncomputable def aa5 (K:ac):V->Option Int->Option Int->Hp->VK->Prop:=λx lo hi H Q=>∃a xs,x = .ref a/\aL K H a xs/\
 ¬(HT.aU xs.length 0 lo=0/\HT.aU xs.length xs.length hi=xs.length)/\∀p,H p=none->Q (.ref p) (upd H p (.tup (dG xs lo hi)))
theorem aa6:iI X (aa5 X.K):=by
 intro pins s σ H x v vl vu lo hi sl Q I rx hs pl pu h
 obtain⟨a,xs,rfl,hx,hw,q⟩:=h
 cases rx
 obtain⟨its,r,ht,hz⟩:=I.tuple hx
 have hlen:its.toArray.size=xs.length:=by rw[aK5];exact r.length.symm
 refine⟨"tuple",_,PyProof.Rows.slot_tuple_getitem.lookup,ht.typeIs,?_⟩
 refine HT.aa2 ht hs pl pu (by rw[hlen];exact hw) ?_ (by rw[hlen];exact hz)
 rw[hlen]
 refine⟨.ref s.heap.objs.size,_,I.laid (t':=s.toks) (o:=.tup (dG xs lo hi)) (λb ob q=>aK4 _ q) (aK8 _) ?_,rfl,q _ (I.hok.fresh (aK8 _))⟩
 exact⟨aN8 (wM xs lo hi) hz,_,(r.drop (HT.aU xs.length 0 lo)).take (HT.aU xs.length xs.length hi-HT.aU xs.length 0 lo),IsTup.new _ _,gG.new _ _ rfl⟩
noncomputable def aa7 (K:ac):R2:=λx y H Q=>∃a b xs ys,x = .ref a/\y = .ref b/\aL K H a xs/\aL K H b ys/\xs≠[]/\xs.length+ys.length<=sizeLine/\
 (ys = []->Q (.ref a) H)/\(ys≠[]->∀p,H p=none->Q (.ref p) (upd H p (.tup (xs++ys))))
theorem aQ.nil_iff {xs:List V}{us:List Value}(r:aQ xs us):us = []↔xs = []:=by
 cases r with
 |nil=>simp
 |cons _ _=>simp
theorem aa8:bR X (binaryOp .Add) (aa7 X.K):=by
 intro pins s σ H x y v u Q I rx ry h
 obtain⟨a,b,xs,ys,rfl,rfl,ha,hb,hx,hz,q1,q2⟩:=h
 cases rx
 cases ry
 obtain⟨its,r1,p1,_⟩:=I.tuple ha
 obtain⟨its2,r2,p2,_⟩:=I.tuple hb
 refine HT.Z6 p1 p2 (λz=>hx (r1.nil_iff.mp z)) (λz=>⟨.ref a,H,I,rfl,q1 (r2.nil_iff.mp z)⟩) (λz=>?_) (by rw[<- r1.length,<- r2.length];exact hz)
 refine⟨.ref s.heap.objs.size,_,I.laid (t':=s.toks) (o:=.tup (xs++ys)) (λb ob q=>aK4 _ q) (aK8 _) ?_,rfl,q2 (λw=>z (r2.nil_iff.mpr w)) _ (I.hok.fresh (aK8 _))⟩
 exact⟨by rw[aL9];exact hz,_,r1.append r2,IsTup.new _ _,gG.new _ _ rfl⟩
end
noncomputable def j6 (n:Nat)(i:Int):Option Nat:=if 0<=i then (if i<n then some i.toNat else none) else if -(n:Int)<=i then some (i+n).toNat else none
noncomputable def atI {α:Type}(xs:List α)(i:Int):Option α:=(j6 xs.length i).bind λj=>xs[j]?
theorem aa9 {n:Nat}{i:Int}{j:Nat}(h:j6 n i=some j):seqIndex? i n=some j/\j<n/\-(n:Int)<=i/\i<n:=by
 unfold j6 at h
 by_cases h0:0<=i
 ·rw[if_pos h0]at h
  by_cases h1:i<n
  ·rw[if_pos h1]at h
   have e:i.toNat=j:=aN2 h
   exact⟨by rw[seqIndex_of h0 h1,e],by omega,by omega,h1⟩
  ·rw[if_neg h1]at h;cases h
 ·rw[if_neg h0]at h
  by_cases h1:-(n:Int)<=i
  ·rw[if_pos h1]at h
   have e:(i+n).toNat=j:=aN2 h
   exact⟨by rw[seqIndex_neg (by omega) h1,e],by omega,h1,by omega⟩
  ·rw[if_neg h1]at h;cases h
theorem rH {α:Type}{xs:List α}{i:Int}{v:α}(h:atI xs i=some v):∃j,seqIndex? i xs.length=some j/\xs[j]? = some v/\j<xs.length/\-(xs.length:Int)<=i/\i<xs.length:=by
 unfold atI at h
 cases e:j6 xs.length i with
 |none=>rw[e]at h;cases h
 |some j=>
  rw[e]at h
  obtain⟨h1,h2,h3,h4⟩:=aa9 e
  exact⟨j,h1,h,h2,h3,h4⟩
theorem nO {α:Type}{xs:List α}{j:Nat}{v:α}(h:xs[j]? = some v):atI xs (j:Int)=some v:=by
 have hj:j<xs.length:=(aM0.mp h).1
 have e:j6 xs.length (j:Int)=some j:=by
  unfold j6
  rw[if_pos (by omega),if_pos (by omega)];simp
 unfold atI;rw[e];exact h
noncomputable def wN (b:Expr):Prop:=∀o i,subscripted b false o i=operate [o,i] (getItem o i)
noncomputable def hZ (X:Cx)(r:R2):Prop:=
 ∀(value slice:Expr) (pins:List (Addr×Obj)) (s:Shared) (σ:St) (H:Hp) (x y:V) (v u:Value) (Q:VK),a8 X pins σ H s->aT x v->aT y u->r x y H Q->
  subscripted slice false v u=operate [v,u] (getItem v u)->wpAny (model X.prog X.w) X.A (subscriptTail value slice v u) (EP X pins σ Q) X.xe s
noncomputable def MtR (X:Cx)(id:String)(r:V->List V->Hp->VK->Prop):Prop:=
 ∀(pins:List (Addr×Obj)) (s:Shared) (σ:St) (H:Hp) (x:V) (xs:List V) (v:Value) (us:List Value) (Q:VK),a8 X pins σ H s->aT x v->aQ xs us->r x xs H Q->
  wpAny (model X.prog X.w) X.A (call (.builtin id) (v::us)) (EP X pins σ Q) X.xe s
section
variable {X:Cx}{a b:Expr}{ta tb:TE}{pos:Pos}
theorem hZ.or {r r':R2}(h:hZ X r)(h':hZ X r'):hZ X (λx y H Q=>r x y H Q∨r' x y H Q):=by
 intro value slice pins s σ H x y v u Q I rx ry q hs
 rcases q with q|q
 ·exact h value slice pins s σ H x y v u Q I rx ry q hs
 ·exact h' value slice pins s σ H x y v u Q I rx ry q hs
theorem ab0 {r:R2}(hr:hZ X r)(ha:PE X a ta)(hb:PE X b tb)(hs:wN b):PE X (.Subscript a b pos) (lH r ta tb):=by
 intro pins s σ H Q I h
 exact Subscript_ (qU ha hb I h λv u s2 x y H2 I2 rx ry q=>hr a b pins s2 σ H2 x y v u Q I2 rx ry q (hs _ _))
noncomputable def wO (K:ac):R2:=λx y H Q=>∃p xs i v,x = .ref p/\y = .int i/\aM K H p xs/\atI xs i=some v/\Q v H
noncomputable def wP (K:ac):R2:=λx y H Q=>∃p xs i v,x = .ref p/\y = .int i/\aL K H p xs/\atI xs i=some v/\Q v H
noncomputable def wQ:R2:=λx y H Q=>∃z i c,x = .str z/\y = .int i/\z.length<=sizeLine/\atI z.cps.toList i=some c/\Q (.str ⟨#[c]⟩) H
theorem ab1:hZ X (wO X.K):=by
 intro value slice pins s σ H x y v u Q I rx ry h hs
 obtain⟨p,xs,i,z,rfl,rfl,hq,he,q⟩:=h
 cases rx
 obtain⟨t,rfl⟩:=ry
 obtain⟨its,r,pl,hz⟩:=I.list hq
 obtain⟨j,h1,h2,h3,h4,h5⟩:=rH he
 obtain⟨w,ew,rw'⟩:=r.get h2
 have hl:=r.length
 have hn:=nL
 have fin:EP X pins σ Q w s:=⟨z,H,I,rw',q⟩
 by_cases h0:0<=i
 ·have hj:i.toNat=j:=by
   rw[seqIndex_of h0 h5]at h1
   exact aN2 h1
  exact item_listR pl.isList h0 (by omega) (by rw[hj];simpa using ew) fin hs
 ·have hj:(i+(its.toArray.size:Int)).toNat=j:=by
   rw[seqIndex_neg (by omega) h4]at h1
   rw[aK5,<- hl]
   exact aN2 h1
  exact subscriptTail_builtinR (x:=w) pl.isList.typeIs slot_list_getitem.lookup
   (wpAny_getItem_list_neg (Q:=λr s'=>r=w/\EP X pins σ Q r s') pl.isList (by omega) (by rw[aK5]<;>omega) (by omega) (by rw[hj];simpa using ew) ⟨rfl,fin⟩) hs
theorem ab2:hZ X (wP X.K):=by
 intro value slice pins s σ H x y v u Q I rx ry h hs
 obtain⟨p,xs,i,z,rfl,rfl,hq,he,q⟩:=h
 cases rx
 obtain⟨t,rfl⟩:=ry
 obtain⟨its,r,pl,hz⟩:=I.tuple hq
 obtain⟨j,h1,h2,h3,h4,h5⟩:=rH he
 obtain⟨w,ew,rw'⟩:=r.get h2
 have hl:=r.length
 have hn:=nL
 have fin:EP X pins σ Q w s:=⟨z,H,I,rw',q⟩
 exact subscriptTail_builtinR (x:=w) pl.typeIs slot_tuple_getitem.lookup
  (getItem_tuple (j:=j) (Q:=λr s'=>r=w/\EP X pins σ Q r s') pl (by omega) (by omega) (by rw[aK5,<- hl];exact h1) (by simpa using ew) ⟨rfl,fin⟩) hs
theorem ab3:hZ X wQ:=by
 intro value slice pins s σ H x y v u Q I rx ry h hs
 obtain⟨z,i,c,rfl,rfl,hz,he,q⟩:=h
 obtain⟨t,rfl⟩:=rx
 obtain⟨t',rfl⟩:=ry
 obtain⟨j,h1,h2,h3,h4,h5⟩:=rH he
 have hl:z.cps.toList.length=z.length:=by simp[Str.length]
 rw[hl]at h1 h4 h5
 have hn:=nL
 exact tail_any (typeIs_str s z t) slot_str_getitem.lookup (getItem_str (c:=c) (by
  have e1:decide (i < -(2^63:Int))=false:=aK9 (by omega)
  have e2:decide (i >= 2^63)=false:=aK9 (by omega)
  rw[e1,e2,Bool.or_false]) (by rw[h1];simpa using h2) ⟨.str ⟨#[c]⟩,H,I.tok _,⟨_,rfl⟩,q⟩) hs
noncomputable def wR (K:ac):R2:=λx y H Q=>wO K x y H Q∨wP K x y H Q∨wQ x y H Q
theorem ab4:hZ X (wR X.K):=ab1.or (ab2.or ab3)
theorem ab5 (lo hi:Option Int)(n:Nat):(sliceBounds lo hi none n).1=((HT.aU n 0 lo:Nat):Int)/\(sliceBounds lo hi none n).2.1=((HT.aU n n hi:Nat):Int)/\(sliceBounds lo hi none n).2.2=1:=by
 refine⟨?_,?_,rfl⟩
 ·cases lo with
  |none=>simp[sliceBounds,HT.aU]
  |some i=>
   simp only[sliceBounds,HT.aU,Option.getD_none,show (1:Int)>0 by decide,if_true]
   by_cases h:i<0
   ·simp only[h,if_true]<;>omega
   ·simp only[h,aT6]<;>omega
 ·cases hi with
  |none=>simp[sliceBounds,HT.aU]
  |some i=>
   simp only[sliceBounds,HT.aU,Option.getD_none,show (1:Int)>0 by decide,if_true]
   by_cases h:i<0
   ·simp only[h,if_true]<;>omega
   ·simp only[h,aT6]<;>omega
theorem ab6 (its:List Value)(lo hi:Option Int):slicePick its.toArray lo hi none=((its.drop (HT.aU its.length 0 lo)).take (HT.aU its.length its.length hi-HT.aU its.length 0 lo)).toArray:=by
 obtain⟨h1,h2,h3⟩:=ab5 lo hi its.toArray.size
 unfold slicePick
 rw[h1,h2,h3]
 simp only[sliceRange_one,pick_run,aK5]<;>rfl
noncomputable def ab7 (K:ac):V->Option Int->Option Int->Hp->VK->Prop:=λx lo hi H Q=>∃a xs,x = .ref a/\aM K H a xs/\∀p,H p=none->Q (.ref p) (upd H p (.lst (dG xs lo hi)))
theorem wS:iI X (ab7 X.K):=by
 intro pins s σ H x v vl vu lo hi sl Q I rx hs pl pu h
 obtain⟨a,xs,rfl,hx,q⟩:=h
 cases rx
 obtain⟨its,r,ht,hz⟩:=I.list hx
 have hlen:=r.length
 refine⟨"list",_,slot_list_getitem.lookup,ht.isList.typeIs,?_⟩
 refine wpAny_getItem_list_slice ht.isList hs pl pu .none (by simp) ?_ (by rw[aK5]<;>omega)
 rw[ab6,<- hlen]
 refine⟨.ref s.heap.objs.size,_,I.laid (t':=s.toks) (o:=.lst (dG xs lo hi)) (λb ob q=>aK4 _ q) (aK8 _) ?_,rfl,q _ (I.hok.fresh (aK8 _))⟩
 exact⟨aN8 (wM xs lo hi) hz,_,0,(r.drop (HT.aU xs.length 0 lo)).take (HT.aU xs.length xs.length hi-HT.aU xs.length 0 lo),aM4 _ rfl⟩
noncomputable def i4:V->Bool
 |.non=>true
 |.bl _=>true
 |.int _=>true
 |.str _=>true
 |_=>false
noncomputable def fW:V->V->Bool
 |.non,.non=>true
 |.bl a,.bl b=>a==b
 |.bl a,.int b=>(if a then 1 else 0)==b
 |.int a,.bl b=>a==(if b then 1 else 0)
 |.int a,.int b=>a==b
 |.str a,.str b=>a==b
 |_,_=>false
theorem ab8 {A:Around}{s:Shared}{y x:V}{u v:Value}(ry:aT y u)(rx:aT x v)(fy:i4 y=true)(fx:i4 x=true):SeqAt.EqAt A s u v (fW y x):=by
 cases y with
 |non=>
  cases ry
  cases x with
  |non=>cases rx;exact SeqAt.EqAt.same _
  |bl b=>cases rx;exact SeqAt.EqAt.none_bool b
  |int b=>obtain⟨t,rfl⟩:=rx;exact SeqAt.EqAt.none_int b t
  |str b=>obtain⟨t,rfl⟩:=rx;exact SeqAt.EqAt.none_str b t
  |_=>exact absurd (show false=true from fx) aL6
 |bl a=>
  cases ry
  cases x with
  |non=>cases rx;exact SeqAt.EqAt.bool_none a
  |bl b=>cases rx;exact SeqAt.EqAt.bool_bool a b
  |int b=>obtain⟨t,rfl⟩:=rx;exact SeqAt.EqAt.bool_int a b t
  |str b=>obtain⟨t,rfl⟩:=rx;exact SeqAt.EqAt.bool_str a b t
  |_=>exact absurd (show false=true from fx) aL6
 |int a=>
  obtain⟨t',rfl⟩:=ry
  cases x with
  |non=>cases rx;exact SeqAt.EqAt.int_none a t'
  |bl b=>cases rx;exact SeqAt.EqAt.int_bool a t' b
  |int b=>obtain⟨t,rfl⟩:=rx;exact SeqAt.EqAt.int_int a t' b t
  |str b=>obtain⟨t,rfl⟩:=rx;exact SeqAt.EqAt.int_str a t' b t
  |_=>exact absurd (show false=true from fx) aL6
 |str a=>
  obtain⟨t',rfl⟩:=ry
  cases x with
  |non=>cases rx;exact SeqAt.EqAt.str_none a t'
  |bl b=>cases rx;exact SeqAt.EqAt.str_bool a t' b
  |int b=>obtain⟨t,rfl⟩:=rx;exact SeqAt.EqAt.str_int a t' b t
  |str b=>obtain⟨t,rfl⟩:=rx;exact SeqAt.EqAt.str_str a t' b t
  |_=>exact absurd (show false=true from fx) aL6
 |_=>exact absurd (show false=true from fy) aL6
noncomputable def i5 (x:V)(u:Value):Bool:=match u with
 |.none=>fW .non x
 |.bool b=>fW (.bl b) x
 |.int i _=>fW (.int i) x
 |.str z _=>fW (.str z) x
 |_=>false
theorem wT {x y:V}{u:Value}(r:aT y u)(f:i4 y=true):i5 x u=fW y x:=by
 cases y with
 |non=>cases r;rfl
 |bl b=>cases r;rfl
 |int i=>obtain⟨t,rfl⟩:=r;rfl
 |str z=>obtain⟨t,rfl⟩:=r;rfl
 |_=>exact absurd (show false=true from f) aL6
theorem rJ {x:V}:∀{xs:List V}{us:List Value},aQ xs us->xs.all i4=true->us.any (i5 x)=xs.any λy=>fW y x
 |_,_,.nil,_=>rfl
 |y::xs,u::us,.cons r t,f=>by
  rw[aV2,aN3]at f
  rw[List.any_cons,List.any_cons,wT r f.1,rJ t f.2]
theorem rK {A:Around}{s:Shared}{x:V}{v:Value}(rx:aT x v)(fx:i4 x=true):∀{xs:List V}{us:List Value},aQ xs us->xs.all i4=true->∀u∈us,SeqAt.EqAt A s u v (i5 x u)
 |_,_,.nil,_=>λu hu=>by cases hu
 |y::xs,u::us,.cons r t,f=>λu' hu=>by
  rw[aV2,aN3]at f
  rcases aL0.mp hu with rfl|hu
  ·rw[wT r f.1];exact ab8 r rx f.1 fx
  ·exact rK rx fx t f.2 u' hu
noncomputable def lN (x:V)(xs:List V):Bool:=xs.any λy=>fW y x
noncomputable def wU (K:ac)(neg:Bool):R2:=λx y H Q=>∃p xs,y = .ref p/\(aM K H p xs∨aL K H p xs)/\i4 x=true/\xs.all i4=true/\Q (.bl (if neg then !lN x xs else lN x xs)) H
theorem wV:bR X (compareOp .In) (wU X.K false):=by
 intro pins s σ H x y v u Q I rx ry h
 obtain⟨p,xs,rfl,hq,fx,fs,q⟩:=h
 cases ry
 rcases hq with hq|hq
 ·obtain⟨its,r,pl,hz⟩:=I.list hq
  refine SeqAt.in_listAt (i5 x) pl.isList (λw hw=>rK rx fx r fs w (by simpa using hw)) ⟨.bl _,H,I,rfl,?_⟩
  rw[show its.toArray.any (i5 x)=its.any (i5 x) by simp,rJ r fs]
  exact q
 ·obtain⟨its,r,pl,hz⟩:=I.tuple hq
  refine SeqAt.in_tupleAt (i5 x) pl (λw hw=>rK rx fx r fs w (by simpa using hw)) ⟨.bl _,H,I,rfl,?_⟩
  rw[show its.toArray.any (i5 x)=its.any (i5 x) by simp,rJ r fs]
  exact q
theorem ab9:cG X (.builtin "len") (λxs H Q=>∃p ys,xs = [.ref p]/\(aM X.K H p ys∨aL X.K H p ys)/\Q (.int ys.length) H):=by
 intro pins s σ H xs us Q I r h
 obtain⟨p,ys,rfl,hq,q⟩:=h
 obtain⟨u,rfl,rx⟩:=eG r
 cases rx
 have hn:=nL
 rcases hq with hq|hq
 ·obtain⟨its,r',pl,hz⟩:=I.list hq
  have hlen:=r'.length
  exact Calls.call_len_list pl.isList (by simp only[aK5]<;>omega) ⟨.int ys.length,H,I.tok _,⟨s.toks+1,by rw[aK5,hlen]⟩,q⟩
 ·obtain⟨its,r',pl,hz⟩:=I.tuple hq
  have hlen:=r'.length
  exact len_tuple pl (by simp only[aK5]<;>omega) ⟨.int ys.length,H,I.tok _,⟨s.toks+1,by rw[aK5,hlen]⟩,q⟩
theorem cG.or {f:Value}{r r':List V->Hp->VK->Prop}(h:cG X f r)(h':cG X f r'):cG X f (λxs H Q=>r xs H Q∨r' xs H Q):=by
 intro pins s σ H xs us Q I rs q
 rcases q with q|q
 ·exact h pins s σ H xs us Q I rs q
 ·exact h' pins s σ H xs us Q I rs q
theorem ac0:cG X (.type "list") (λxs H Q=>∃p ys,xs = [.ref p]/\(aM X.K H p ys∨aL X.K H p ys)/\∀l,H l=none->Q (.ref l) (upd H l (.lst ys))):=by
 intro pins s σ H xs us Q I r h
 obtain⟨p,ys,rfl,hq,q⟩:=h
 obtain⟨u,rfl,rx⟩:=eG r
 cases rx
 have fin:∀(its:List Value),aQ ys its->ys.length<=sizeLine->∀(h':Heap) (c':Nat),(∀b o',s.heap.get? b=some o'->h'.get? b=some o')->
   h'.get? s.heap.objs.size=some { cls:=.type "list",dict:=none,data:=.seq its.toArray c',slots:=#[] }->EP X pins σ Q (.ref s.heap.objs.size) { s with heap:=h' }:=λits r' hz h' c' kp e=>
  ⟨.ref s.heap.objs.size,_,I.laid (t':=s.toks) kp (aK8 _) (show bV X.prog X.w _ h' _ (.lst ys) from ⟨hz,its,c',r',e⟩),rfl,q _ (I.hok.fresh (aK8 _))⟩
 rcases hq with hq|hq
 ·obtain⟨its,r',pl,hz⟩:=I.list hq
  have hlen:=r'.length
  obtain⟨o,ho,hc,n,hd⟩:=pl.isList
  exact call_list_seq p (.inl rfl) ho hc hd (λh' c' kp e=>fin its r' hz h' c' kp e) (by simp only[aK5]<;>omega)
 ·obtain⟨its,r',pl,hz⟩:=I.tuple hq
  have hlen:=r'.length
  obtain⟨o,ho,hc,n,hd⟩:=pl
  exact call_list_seq p (.inr rfl) ho hc hd (λh' c' kp e=>fin its r' hz h' c' kp e) (by simp only[aK5]<;>omega)
theorem ac1:cG X (.type "tuple") (λxs H Q=>∃p ys,xs = [.ref p]/\((aM X.K H p ys/\∀l,H l=none->Q (.ref l) (upd H l (.tup ys)))∨(aL X.K H p ys/\Q (.ref p) H))):=by
 intro pins s σ H xs us Q I r h
 obtain⟨p,ys,rfl,h⟩:=h
 obtain⟨u,rfl,rx⟩:=eG r
 cases rx
 rcases h with⟨hq,q⟩|⟨hq,q⟩
 ·obtain⟨its,r',pl,hz⟩:=I.list hq
  have hlen:=r'.length
  refine call_tuple_list pl.isList (λh' kp=>?_) (by simp only[aK5]<;>omega)
  have I1:a8 X pins σ H { s with heap:=h' }:=I.kept (t':=s.toks) kp
  have I2:a8 X pins σ (upd H h'.objs.size (.tup ys)) { s with heap:=h'.push { cls:=.type "tuple",data:=.seq its.toArray } }:=
   I1.laid (t':=s.toks) (λb o e=>aK4 _ e) (aK8 _) (show bV X.prog X.w _ _ _ (.tup ys) from ⟨hz,its,r',IsTup.new _ _,gG.new _ _ rfl⟩)
  exact⟨.ref h'.objs.size,_,I2,rfl,q _ (I1.hok.fresh (aK8 _))⟩
 ·obtain⟨its,r',pl,hz⟩:=I.tuple hq
  exact call_tuple_same pl ⟨.ref p,H,I,rfl,q⟩
noncomputable def fX (K:ac)(T:String)(x:V)(H:Hp):Prop:=match x with
 |.str _=>T="str"
 |.int _=>T="int"
 |.ref p=>(T="list"/\∃xs,aM K H p xs)∨(T="tuple"/\∃o,K.lookup p=some o/\o.cls = .type "tuple"/\o.dict=none) ∨
   (T="dict"/\((∃kvs,H p=some (.dK kvs))∨∃kvs,H p=some (.dT kvs)))∨(T="set"/\∃S n,H p=some (.set S n))
 |_=>False
theorem ac2 {pins:List (Addr×Obj)}{σ:St}{H:Hp}{s:Shared}{T:String}{x:V}{v:Value}(I:a8 X pins σ H s)(r:aT x v)(ty:fX X.K T x H) :
  s.TypeIs v T/\∀a,v = .ref a->∃ob,s.heap.get? a=some ob/\ob.dict=none:=by
 cases x with
 |str z=>
  obtain⟨t,rfl⟩:=r
  cases (show T="str" from ty)
  exact⟨typeIs_str s z t,λ_ e=>nomatch e⟩
 |int i=>
  obtain⟨t,rfl⟩:=r
  cases (show T="int" from ty)
  exact⟨typeIs_int s i t,λ_ e=>nomatch e⟩
 |ref p=>
  cases r
  rcases ty with⟨rfl,xs,hq⟩|⟨rfl,o,hk,hc,hd⟩|⟨rfl,hk⟩|⟨rfl,S,n,hk⟩
  ·obtain⟨its,_,pl,_⟩:=I.list hq
   refine⟨pl.isList.typeIs,λa e=>?_⟩
   cases e
   obtain⟨o,n,e,c,hd,_⟩:=pl
   exact⟨o,e,hd⟩
  ·refine⟨⟨o,I.kIn p o hk,hc⟩,λa e=>?_⟩
   cases e
   exact⟨o,I.kIn _ o hk,hd⟩
  ·have z:∃o,s.heap.get? p=some o/\o.ExactDict:=by
    rcases hk with⟨kvs,hk⟩|⟨kvs,hk⟩
    ·obtain⟨_,_,_,_,o,_,_,e,ex,_⟩:=I.hok p _ hk
     exact⟨o,e,ex⟩
    ·obtain⟨_,_,_,_,o,_,_,e,ex,_⟩:=I.hok p _ hk
     exact⟨o,e,ex⟩
   obtain⟨o,e,ex⟩:=z
   refine⟨⟨o,e,ex.1⟩,λa e2=>?_⟩
   cases e2
   exact⟨o,e,ex.2.1⟩
  ·obtain⟨o,_,_,_,e,ex,_⟩:=I.hok p _ hk
   refine⟨⟨o,e,ex.1⟩,λa e2=>?_⟩
   cases e2
   exact⟨o,e,ex.2.1⟩
 |_=>exact False.elim ty
noncomputable def wW (K:ac)(T:String)(r:V->List V->Hp->VK->Prop)(to:TE)(t:TA):TE:=λσ H Q=>to σ H λx H1=>fX K T x H1/\t σ H1 λxs H2=>r x xs H2 Q
variable {o e:Expr}{es:List Expr}{to:TE}{t:TA}{name:Str}{apos cpos:Pos}{T id:String}{r:V→List V→Hp→VK→Prop}
theorem ac3 (pa:PlainAttrs T)(slot:Slot T name id)(hty:typeOf (.builtin id)=pure (.type "method_descriptor"))(hm:MtR X id r)(ho:PE X o to)(ha:PA X (e::es) t)(hbase:attributeBase o name X.env (eval o X.env)=eval o X.env:=by rfl)(hfew:((backTo cpos (starEach (e::es) X.env)).all (λx=>!x.1)&&(backToKw cpos (keywordEach [] X.env)).all (λx=>x.1.isSome)
  &&decide ((e::es).length+([]:List Keyword).length+(if ([]:List Keyword).isEmpty then 0 else 1)<30))=true:=by rfl)(hline:(apos.endLine==cpos.line)=true:=by rfl)(hs:starEach (e::es) X.env=(false,eval e X.env)::starEach es X.env:=by rfl)(hplain:(backTo cpos (starEach es X.env)).any (·.1)=false:=by rfl) :
  PE X (.Call (.Attribute o name apos) (e::es) [] cpos) (wW X.K T r to t):=by
 intro pins s σ H Q I h
 refine wpAny_Call_method_late hbase hfew hline rfl (aR (ho pins s σ H _ I h) λv s1 ⟨x,H1,I1,r1,ty,q1⟩=>?_)
 obtain⟨h1,h2⟩:=ac2 I1 r1 ty
 refine⟨T,id,pa,slot,hty,h1,h2,?_⟩
 have hA:=ha cpos pins s1 σ H1 _ I1 q1
 rw[hs]at hA ⊢
 refine Calls.callWith_builtin (by show (false||(backTo cpos (starEach es X.env)).any (·.1))=false;rw[hplain]<;>rfl) (Calls.evalArgs_plain ?_)
 exact aR hA λus s2 ⟨vs,H2,I2,r2,q2⟩=>hm pins s2 σ H2 x vs v us Q I2 r1 r2 q2
end
noncomputable def wX (X:Cx)(id:String)(r:V->List V->Hp->VK->Prop):Prop:=
 ∀(pins:List (Addr×Obj)) (s:Shared) (σ:St) (H:Hp) (x:V) (xs:List V) (v:Value) (us:List Value) (Q:VK),a8 X pins σ H s->aT x v->aQ xs us->r x xs H Q->
  wpAny (model X.prog X.w) X.A (call (.builtin id) (v::us)) (EP X pins σ Q) X.xe s
theorem aQ.one {x:V}{us:List Value}(h:aQ [x] us):∃u,us = [u]/\aT x u:=by
 cases h with
 |cons r t=>
  cases t
  exact⟨_,rfl,r⟩
theorem aQ.eraseIdx:∀{xs:List V}{us:List Value} (i:Nat),aQ xs us->aQ (xs.eraseIdx i) (us.eraseIdx i)
 |_,_,_,.nil=>.nil
 |_,_,0,.cons _ t=>t
 |_,_,i+1,.cons r t=>.cons r (aQ.eraseIdx i t)
section
variable {X:Cx}{pins:List (Addr×Obj)}{σ:St}{H:Hp}{s:Shared}{l b:Addr}{xs ys zs:List V}
theorem a8.lset {its its':List Value}{n:Nat}{f:Array Value->Array Value}{t':Nat}(I:a8 X pins σ H s)(hH:H l=some (.lst xs))(e:s.heap.get? l=some { cls:=.type "list",data:=.seq its.toArray n })(hf:f its.toArray=its'.toArray)(hv:aQ ys its')(hz:ys.length<=sizeLine) :
  a8 X pins σ (upd H l (.lst ys)) { s with heap:=s.heap.update l (Obj.mapSeq f),toks:=t' }:=by
 have q:=PySem.IsL.update e f
 rw[hf]at q
 refine I.write (x:=l) (e:=l) (by rw[hH];exact trivial) (.inl rfl) (λb' u hb hu=>(Heap.get?_update_other s.heap (Obj.mapSeq f) (Ne.symm hb)).trans hu) ⟨_,q⟩ ?_
 exact⟨hz,its',_,hv,q⟩
theorem a8.lnew {its:List Value}{t':Nat}(I:a8 X pins σ H s)(hv:aQ ys its)(hz:ys.length<=sizeLine) :
  a8 X pins σ (upd H s.heap.objs.size (.lst ys)) { s with heap:=s.heap.push { cls:=.type "list",data:=.seq its.toArray },toks:=t' }:=
 I.laid (λ_ _ q=>aK4 _ q) (aK8 _) ⟨hz,its,0,hv,aM4 _ rfl⟩
theorem a8.fresh (I:a8 X pins σ H s):H s.heap.objs.size=none:=I.hok.fresh (aK8 _)
theorem a8.lstM (I:a8 X pins σ H s)(hH:H l=some (.lst xs)):xs.length<=sizeLine/\∃(its:List Value) (n:Nat),aQ xs its/\xs.length=its.length/\s.heap.get? l=some { cls:=.type "list",data:=.seq its.toArray n }:=by
 obtain⟨z,its,n,r,e⟩:=I.hok l _ hH
 exact⟨z,its,n,r,r.length,e⟩
theorem ac4 {n:Nat}(h:n<=sizeLine):Builtin.List.listTooLong n=false:=by
 unfold Builtin.List.listTooLong
 exact aK9 (by omega)
end
section
variable {X:Cx}
noncomputable def wY:V->List V->Hp->VK->Prop:=λx vs H Q=>∃l xs y,x = .ref l/\vs = [y]/\H l=some (.lst xs)/\xs.length<sizeLine/\Q .non (upd H l (.lst (xs++[y])))
theorem wZ:wX X "list.append" wY:=by
 intro pins s σ H x vs v us Q I rx rv h
 obtain⟨l,xs,y,rfl,rfl,hH,hz,q⟩:=h
 cases rx
 obtain⟨u,rfl,ru⟩:=rv.one
 obtain⟨z,its,n,r,hl,e⟩:=I.lstM hH
 refine call_meets F.slot_list_append ⟨_,e,rfl⟩ F.entry_list_append (F.args_list_append_2 _ _) (PySem.list_append l its.toArray n u (by rw[aK5];omega)) ⟨e,?_⟩
 refine⟨.non,_,I.lset (its':=its++[u]) hH e (by simp) (r.append (.cons ru .nil)) ?_,rfl,q⟩
 rw[aL9,aP2]
 omega
noncomputable def ac5:V->List V->Hp->VK->Prop:=λx vs H Q=>∃l b xs zs,x = .ref l/\vs = [.ref b]/\H l=some (.lst xs)/\H b=some (.lst zs)/\xs.length+zs.length<=sizeLine/\Q .non (upd H l (.lst (xs++zs)))
theorem aJ8:wX X "list.extend" ac5:=by
 intro pins s σ H x vs v us Q I rx rv h
 obtain⟨l,b,xs,zs,rfl,rfl,hH,hB,hz,q⟩:=h
 cases rx
 obtain⟨u,rfl,ru⟩:=rv.one
 cases ru
 obtain⟨z,its,n,r,hl,e⟩:=I.lstM hH
 obtain⟨z2,its2,n2,r2,hl2,e2⟩:=I.lstM hB
 have hsz:its.toArray.size+its2.toArray.size<=sizeLine:=by rw[aK5,aK5];omega
 have hlong:¬(!its.toArray.isEmpty&&Builtin.List.listTooLong (its.toArray.size+its2.toArray.size))=true:=by
  rw[ac4 hsz,Bool.and_false]
  exact aL6
 refine call_meets F.slot_list_extend ⟨_,e,rfl⟩ F.entry_list_extend (F.args_list_extend_2 _ _)
  (AutoSeq1.list_extend_list_list_0 l its.toArray n b its2.toArray n2 hlong (by rw[aK5];omega) (by omega)) ⟨e,e2,?_⟩
 refine⟨.non,_,I.lset (its':=its++its2) hH e (by simp) (r.append r2) ?_,rfl,q⟩
 rw[aL9]
 omega
noncomputable def x3:R2:=λx y H Q=>∃l b xs zs,x = .ref l/\y = .ref b/\H l=some (.lst xs)/\H b=some (.lst zs)/\xs.length+zs.length<=sizeLine/\∀p,H p=none->Q (.ref p) (upd H p (.lst (xs++zs)))
theorem ac6:bR X (binaryOp .Add) x3:=by
 intro pins s σ H x y v u Q I rx ry h
 obtain⟨l,b,xs,zs,rfl,rfl,hH,hB,hz,q⟩:=h
 cases rx
 cases ry
 obtain⟨z,its,n,r,hl,e⟩:=I.lstM hH
 obtain⟨z2,its2,n2,r2,hl2,e2⟩:=I.lstM hB
 refine PySem.P.add_list e e2 ?_ (by rw[aK5,aK5];omega)
 have ea:its.toArray++its2.toArray=(its++its2).toArray:=by simp
 rw[ea]
 exact⟨.ref _,_,I.lnew (t':=s.toks) (r.append r2) (by rw[aL9];omega),rfl,q _ I.fresh⟩
end
section
variable {κ:Type}[DecidableEq κ]
noncomputable def dA (kvs:List (κ×V))(k:κ):Option V:=(kvs.find? λkv=>decide (kv.1=k)).map (·.2)
noncomputable def e9 (kvs:List (κ×V))(k:κ)(v:V):List (κ×V):=
 if (kvs.any λkv=>decide (kv.1=k))=true then kvs.map (λkv=>if kv.1=k then (kv.1,v) else kv) else kvs++[(k,v)]
theorem rL {p:κ×V}{r:List (κ×V)}{k:κ}(e:p.1=k):dA (p::r) k=some p.2:=by simp[dA,aS5,e]
theorem rM {p:κ×V}{r:List (κ×V)}{k:κ}(e:¬p.1=k):dA (p::r) k=dA r k:=by simp[dA,aS5,e]
theorem x4 (k:κ):∀kvs:List (κ×V),(kvs.any λkv=>decide (kv.1=k))=(dA kvs k).isSome
 |[]=>rfl
 |p::r=>by
  rw[List.any_cons]
  by_cases e:p.1=k
  ·simp only[rL e,aL1 e,Bool.true_or,Option.isSome_some]
  ·rw[rM e,aK9 e,Bool.false_or];exact x4 k r
theorem x5 (kvs:List (κ×V))(k:κ)(v:V):(e9 kvs k v).length<=kvs.length+1:=by
 unfold e9
 split
 ·rw[aL2];omega
 ·rw[aL9,aS9,List.length_nil];omega
theorem gX.isSome_eq {o:Option V}{u:Option Value}(r:gX o u):o.isSome=u.isSome:=by
 cases o with
 |none=>cases u with
  |none=>rfl
  |some _=>exact (show False from r).elim
 |some _=>cases u with
  |none=>exact (show False from r).elim
  |some _=>rfl
theorem gX.getD {o:Option V}{u:Option Value}{d:V}{d':Value}(r:gX o u)(rd:aT d d'):aT (o.getD d) (u.getD d'):=by
 cases o with
 |none=>cases u with
  |none=>exact rd
  |some _=>exact (show False from r).elim
 |some _=>cases u with
  |none=>exact (show False from r).elim
  |some _=>exact r
theorem KV.val {kvs:List (κ×V)}{vs:List (κ×Value)}(r:KV kvs vs)(k:κ):gX (dA kvs k) (valueAt vs k):=by
 unfold KV at r
 induction r with
 |nil=>exact True.intro
 |@cons p q ps qs h t ih=>
  obtain⟨h1,h2⟩:=h
  by_cases e:p.1=k
  ·have e':q.1=k:=h1.symm.trans e
   have b:valueAt (q::qs) k=some q.2:=by simp[valueAt,aS5,e']
   rw[rL e,b];exact h2
  ·have e':¬q.1=k:=λz=>e (h1.trans z)
   have b:valueAt (q::qs) k=valueAt qs k:=by simp[valueAt,aS5,e']
   rw[rM e,b];exact ih
theorem KV.any {kvs:List (κ×V)}{vs:List (κ×Value)}(r:KV kvs vs)(k:κ):(kvs.any λkv=>decide (kv.1=k))=vs.any λkv=>decide (kv.1=k):=by
 unfold KV at r
 induction r with
 |nil=>rfl
 |cons h t ih=>rw[List.any_cons,List.any_cons,ih,h.1]
theorem KV.repl {kvs:List (κ×V)}{vs:List (κ×Value)}(r:KV kvs vs)(k:κ){y:V}{u:Value}(ry:aT y u) :
  KV (kvs.map λkv=>if kv.1=k then (kv.1,y) else kv) (vs.map λkv=>if kv.1=k then (kv.1,u) else kv):=by
 unfold KV at r ⊢
 induction r with
 |nil=>exact .nil
 |@cons p q ps qs h t ih=>
  rw[aO2,aO2]
  refine .cons ?_ ih
  obtain⟨h1,h2⟩:=h
  by_cases e:p.1=k
  ·rw[if_pos e,if_pos (h1.symm.trans e)];exact⟨h1,ry⟩
  ·rw[if_neg e,if_neg (λz=>e (h1.trans z))];exact⟨h1,h2⟩
theorem KV.put {kvs:List (κ×V)}{vs:List (κ×Value)}(r:KV kvs vs)(k:κ){y:V}{u:Value}(ry:aT y u):KV (e9 kvs k y) (stored vs k u):=by
 unfold e9 stored
 rw[r.any k]
 by_cases e:(vs.any λkv=>decide (kv.1=k))=true
 ·rw[if_pos e,if_pos e];exact r.repl k ry
 ·rw[if_neg e,if_neg e];exact Paired.snoc r ⟨rfl,ry⟩
theorem KV.length {kvs:List (κ×V)}{vs:List (κ×Value)}(r:KV kvs vs):kvs.length=vs.length:=Paired.length r
end
theorem nP {P:Program}{w:World}{k:aJ}{u:Value}(r:aT (kV k) u):(cT P w).is k u=true:=by
 cases k with
 |inl i=>obtain⟨t,e⟩:=(show ∃t,u=Value.int i t from r);subst e;exact S8 P w i t
 |inr x=>obtain⟨t,e⟩:=(show ∃t,u=Value.str x t from r);subst e;exact S9 P w x t
theorem x6 {P:Program}{w:World}:∀{ks:List aJ}{us:List Value},aQ (ks.map kV) us->ItemsAre (cT P w) ks us
 |[],_,r=>by rw[List.map_nil]at r;cases r;exact .nil
 |k::ks,_,r=>by
  rw[aO2]at r
  cases r with
  |cons h t=>exact .cons (nP h) (x6 t)
noncomputable abbrev KT (H:Hp):List (List aJ×V)->List (List aJ×Addr×Value)->Prop:=Paired λp q=>p.1=q.1/\H q.2.1=some (.tup (p.1.map kV))/\aT p.2 q.2.2
theorem KT.val {H:Hp}{kvs:List (List aJ×V)}{xs:List (List aJ×Addr×Value)}(r:KT H kvs xs)(k:List aJ):gX (dA kvs k) ((atKey xs k).map (·.2)):=by
 induction r with
 |nil=>exact True.intro
 |@cons p q ps qs h t ih=>
  obtain⟨h1,_,h2⟩:=h
  by_cases e:p.1=k
  ·have e':q.1=k:=h1.symm.trans e
   have b:atKey (q::qs) k=some q.2:=by simp[atKey,aS5,e']
   rw[rL e,b];exact h2
  ·have e':¬q.1=k:=λz=>e (h1.trans z)
   have b:atKey (q::qs) k=atKey qs k:=by simp[atKey,aS5,e']
   rw[rM e,b];exact ih
theorem KT.repl {H:Hp}{kvs:List (List aJ×V)}{xs:List (List aJ×Addr×Value)}(r:KT H kvs xs)(k:List aJ){y:V}{u:Value}(ry:aT y u) :
  KT H (kvs.map λkv=>if kv.1=k then (kv.1,y) else kv) (xs.map (putAt k u)):=by
 induction r with
 |nil=>exact .nil
 |@cons p q ps qs h t ih=>
  rw[aO2,aO2]
  refine .cons ?_ ih
  obtain⟨h1,h2,h3⟩:=h
  unfold putAt
  by_cases e:p.1=k
  ·rw[if_pos e,if_pos (h1.symm.trans e)];exact⟨h1,h2,ry⟩
  ·rw[if_neg e,if_neg (λz=>e (h1.trans z))];exact⟨h1,h2,h3⟩
theorem KT.put {H:Hp}{kvs:List (List aJ×V)}{xs:List (List aJ×Addr×Value)}(r:KT H kvs xs)(k:List aJ){b:Addr}{y:V}{u:Value}(hb:H b=some (.tup (k.map kV)))(ry:aT y u) :
  KT H (e9 kvs k y) (storedH xs k b u):=by
 have e:(kvs.any λkv=>decide (kv.1=k))=(atKey xs k).isSome:=by
  rw[x4,(r.val k).isSome_eq,Option.isSome_map]
 unfold e9 storedH
 rw[e]
 by_cases q:(atKey xs k).isSome=true
 ·rw[if_pos q,if_pos q];exact r.repl k ry
 ·rw[if_neg q,if_neg q];exact Paired.snoc r ⟨rfl,hb,ry⟩
theorem KT.keeps {H H':Hp}{kvs:List (List aJ×V)}{xs:List (List aJ×Addr×Value)}(r:KT H kvs xs)(ht:∀b ys,H b=some (.tup ys)->H' b=some (.tup ys)):KT H' kvs xs:=
 Paired.mapP r λ_ _ z=>⟨z.1,ht _ _ z.2.1,z.2.2⟩
section
variable {P:Program}{w:World}{H:Hp}{h:Heap}{a:Addr}
theorem x8 {u:HO}(ok:bN P w H h)(e:Rd H a u):bV P w H h a u:=e.ok ok
theorem rN {kvs:List (aJ×V)}(ok:bN P w H h)(e:Rd H a (.dK kvs)):kvs.length<=sizeLine/\(a==sysModules)=false/\∃vs,KV kvs vs/\h.DictOf (cT P w) a vs:=
 show bV P w H h a (.dK kvs) from x8 ok e
theorem ac7 {kvs:List (aJ×V)}(ok:bN P w H h)(e:H a=some (.dK kvs)):kvs.length<=sizeLine/\(a==sysModules)=false/\∃vs,KV kvs vs/\h.DictOf (cT P w) a vs:=rN ok (.inl e)
theorem rO {ks:List aJ}(ok:bN P w H h)(e:H a=some (.tup (ks.map kV))):(tupleKind (cT P w)).is h ks a:=by
 obtain⟨_,its,r,⟨o,h1,h2,n,h3⟩,_⟩:=(show bV P w H h a (.tup (ks.map kV)) from ok a _ e)
 exact⟨o,its.toArray,n,h1,h2,h3,by simpa using x6 r⟩
theorem x9 {kvs:List (List aJ×V)}(ok:bN P w H h)(e:Rd H a (.dT kvs)):kvs.length<=sizeLine/\(a==sysModules)=false/\
  ∃xs,KT H kvs xs/\h.DictOfH (tupleKind (cT P w)) a xs:=by
 obtain⟨z,y,xs,r,o,es,ep,h1,h2,h3,h4,h5⟩:=(show bV P w H h a (.dT kvs) from x8 ok e)
 refine⟨z,y,xs,r,o,es,ep,h1,h2,h3,h4,λx hx=>?_,h5⟩
 have all:∀{l:List (List aJ×V)}{m:List (List aJ×Addr×Value)},KT H l m->∀x∈m,(tupleKind (cT P w)).is h x.1 x.2.1:=by
  intro l m q
  induction q with
  |nil=>intro x hx;exact nomatch hx
  |@cons p q ps qs hq t ih=>
   intro x hx
   rcases aL0.mp hx with e|hx
   ·subst e
    exact rO ok (by rw[<- hq.1];exact hq.2.1)
   ·exact ih x hx
 exact all r x hx
theorem ac8 {kvs:List (List aJ×V)}(ok:bN P w H h)(e:H a=some (.dT kvs)):kvs.length<=sizeLine/\(a==sysModules)=false/\
  ∃xs,KT H kvs xs/\h.DictOfH (tupleKind (cT P w)) a xs:=x9 ok (.inl e)
end
noncomputable def i6 (H:Hp)(a:Addr)(y:V)(r:Option V):Prop:=
 (∃kvs k,Rd H a (.dK kvs)/\y=kV k/\r=dA kvs k)∨∃kvs k b,Rd H a (.dT kvs)/\y = .ref b/\H b=some (.tup (k.map kV))/\r=dA kvs k
noncomputable def iJ (H:Hp)(a:Addr)(y v:V)(H':Hp):Prop:=
 (∃kvs k,H a=some (.dK kvs)/\y=kV k/\kvs.length<sizeLine/\H'=upd H a (.dK (e9 kvs k v))) ∨
 ∃kvs k b,H a=some (.dT kvs)/\y = .ref b/\H b=some (.tup (k.map kV))/\kvs.length<sizeLine/\H'=upd H a (.dT (e9 kvs k v))
theorem i6.k {H:Hp}{a:Addr}{kvs:List (aJ×V)}{k:aJ}(e:H a=some (.dK kvs)):i6 H a (kV k) (dA kvs k):=.inl ⟨kvs,k,.inl e,rfl,rfl⟩
theorem i6.t {H:Hp}{a b:Addr}{kvs:List (List aJ×V)}{k:List aJ}(e:H a=some (.dT kvs))(eb:H b=some (.tup (k.map kV))):i6 H a (.ref b) (dA kvs k):=.inr ⟨kvs,k,b,.inl e,rfl,eb,rfl⟩
theorem iJ.k {H:Hp}{a:Addr}{kvs:List (aJ×V)}{k:aJ}{v:V}(e:H a=some (.dK kvs))(hl:kvs.length<sizeLine):iJ H a (kV k) v (upd H a (.dK (e9 kvs k v))):=.inl ⟨kvs,k,e,rfl,hl,rfl⟩
theorem iJ.t {H:Hp}{a b:Addr}{kvs:List (List aJ×V)}{k:List aJ}{v:V}(e:H a=some (.dT kvs))(eb:H b=some (.tup (k.map kV)))(hl:kvs.length<sizeLine) :
  iJ H a (.ref b) v (upd H a (.dT (e9 kvs k v))):=.inr ⟨kvs,k,b,e,rfl,eb,hl,rfl⟩
section
variable {X:Cx}{pins:List (Addr×Obj)}{σ:St}{H:Hp}{s:Shared}{a:Addr}{y v:V}{u r:Value}{o:Option V}{A:Around}{E:Value→Shared→Prop}
theorem a8.big (I:a8 X pins σ H s):sysModules<s.heap.objs.size:=by
 have h:mainGlobals<s.heap.objs.size:=(I.mod.glob.keeps I.bk).lt
 exact Nat.lt_trans (by decide) h
theorem ac9 {Q:Value->Shared->Prop}(hu:A.units+1<cLine)(I:a8 X pins σ H s)(g:i6 H a y o)(ry:aT y u)(h:∀s',a8 X pins σ H s'->Q (.bool (!o.isSome)) s') :
  wpAny (model X.prog X.w) A (compareOp .NotIn u (.ref a)) Q E s:=by
 rcases g with⟨kvs,k,e,ey,l⟩|⟨kvs,k,b,e,ey,eb,l⟩
 ·subst ey
  obtain⟨z,hd,vs,rel,dd⟩:=rN I.hok e
  refine wpAny_notIn_of (nP ry) hd dd.mapOf ?_
  rw[<- (rel.val k).isSome_eq,<- l]
  exact h _ (I.tok _)
 ·subst ey
  cases (show u=Value.ref b from ry)
  obtain⟨z,hd,xs,rel,dd⟩:=x9 I.hok e
  refine wpAny_notIn_heap (tupleKind_room_in1 hu) (rO I.hok eb) hd dd ?_
  have q:=(rel.val k).isSome_eq
  rw[Option.isSome_map]at q
  rw[<- q,<- l]
  exact h _ (I.tok _)
theorem xA {h':Heap}{t':Nat}{ob:HO}(I:a8 X pins σ H s)(mu:lA (H a))(hs:Heap.SameBut a s.heap h')(he:∃q,h'.get? a=some q)(new:bV X.prog X.w (upd H a ob) h' a ob) :
  a8 X pins σ (upd H a ob) { s with heap:=h',toks:=t' }:=
 I.write (x:=a) (e:=a) mu (.inl rfl) (λb q hb z=>(hs.2 b hb).trans z) he new
theorem ad0 {P:Program}{w:World}{H':Hp}{h':Heap}{kvs:List (aJ×V)}{vs:List (aJ×Value)}(z:kvs.length<=sizeLine)(hd:(a==sysModules)=false)(rel:KV kvs vs)(dd:h'.DictOf (cT P w) a vs) :
  bV P w H' h' a (.dK kvs):=⟨z,hd,vs,rel,dd⟩
theorem ad1 {H':Hp}{Q:Unit->Shared->Prop}(hu:A.units+1<cLine)(I:a8 X pins σ H s)(g:iJ H a y v H')(ry:aT y u)(rv:aT v r)(h:∀s',a8 X pins σ H' s'->Q () s') :
  wpAny (model X.prog X.w) A (setItem (.ref a) u r) Q E s:=by
 rcases g with⟨kvs,k,e,ey,l,eH⟩|⟨kvs,k,b,e,ey,eb,l,eH⟩
 ·subst ey eH
  obtain⟨z,hd,vs,rel,dd⟩:=ac7 I.hok e
  have hz:vs.length<=sizeLine:=by rw[<- rel.length];exact z
  have hl:(e9 kvs k v).length<=sizeLine:=by have:=x5 kvs k v;omega
  refine wpAny_setItem_pairs (hsz:=hz) (nP ry) dd λh' dd' hs=>h _ ?_
  have he:∃q,h'.get? a=some q:=let ⟨q,_,_,hq,_⟩:=dd';⟨q,hq⟩
  exact xA I (by rw[e];exact True.intro) hs he (ad0 hl hd (rel.put k rv) dd')
 ·subst ey eH
  cases (show u=Value.ref b from ry)
  obtain⟨z,hd,xs,rel,dd⟩:=ac8 I.hok e
  have hz:xs.length<=sizeLine:=by rw[<- Paired.length rel];exact z
  have hl:(e9 kvs k v).length<=sizeLine:=by have:=x5 kvs k v;omega
  refine wpAny_setItem_heap (hsz:=hz) (tupleKind_room_in1 hu) (rO I.hok eb) dd λh' dd' hs=>h _ ?_
  obtain⟨q,es,ep,hq,h2,h3,h4,_,h5⟩:=dd'
  refine xA I (by rw[e];exact True.intro) hs ⟨q,hq⟩ ⟨hl,hd,_,(rel.put k eb rv).keeps λc ys ec=>?_,q,es,ep,hq,h2,h3,h4,h5⟩
  rw[b9 (T0 ec e (λz=>nomatch z))]
  exact ec
end
section
variable {X:Cx}{pins:List (Addr×Obj)}{σ:St}{H:Hp}{s:Shared}{a:Addr}{kvs:List (aJ×V)}{k:aJ}{u:Value}{A:Around}{E:Value→Shared→Prop}
theorem ad2 {Q:Value->Shared->Prop}(I:a8 X pins σ H s)(e:Rd H a (.dK kvs))(h:∀t s',a8 X pins σ H s'->Q (.int kvs.length t) s'):wpAny (model X.prog X.w) A (call (.builtin "len") [.ref a]) Q E s:=by
 obtain⟨z,hd,vs,rel,dd⟩:=rN I.hok e
 refine call_len_dict hd dd (by rw[<- rel.length];rw[sizeLine_eq]at z;omega) ?_
 rw[<- rel.length]
 exact h _ _ (I.tok _)
end
noncomputable def xB (ty td:TE):TE:=λσ H Q=>ty σ H λy H1=>td σ H1 λx H2=>∃a o,x = .ref a/\i6 H2 a y o/\Q (.bl (!o.isSome)) H2
noncomputable def rP (td ty tv:TE):TS:=λD σ H=>tv σ H λv H1=>td σ H1 λx H2=>ty σ H2 λy H3=>∃a H4,x = .ref a/\iJ H3 a y v H4/\D.nx σ H4
section
variable {X:Cx}{o i e value:Expr}{pos pos' tpos:Pos}{td ty tv:TE}
theorem ad3 (hu:X.A.units+1<cLine)(hi:PE X i ty)(ho:PE X o td):PC X .NotIn i o (xB ty td):=by
 intro pins s σ H Q I h
 refine aR (hi pins s σ H _ I h) λiv s1 ⟨y,H1,I1,ry,q1⟩=>aR (ho pins s1 σ H1 _ I1 q1) λu s2 ⟨x,H2,I2,rx,a,ov,ex,g,q2⟩=>?_
 subst ex
 obtain rfl:u=Value.ref a:=rx
 exact ac9 hu I2 g ry λs3 I3=>⟨.bl (!ov.isSome),H2,I3,rfl,q2⟩
theorem xC (hu:X.A.units+1<cLine)(ho:PE X o td)(hi:PE X i ty)(hv:PE X value tv)(hs:swapsWith value (some (.Subscript o i pos')) pos.line X.env=pure false) :
  PS X (.Assign [.Subscript o i pos'] value pos) (rP td ty tv):=by
 intro pins s σ H D I h
 refine wpAny_Assign_Subscript (aR (hv pins s σ H _ I h) λr s1 ⟨v,H1,I1,rv,q1⟩=>aR (ho pins s1 σ H1 _ I1 q1) λu s2 ⟨x,H2,I2,rx,q2⟩=>aR (hi pins s2 σ H2 _ I2 q2) λiv s3 ⟨y,H3,I3,ry,a,H4,ex,g,q3⟩=>?_) hs
 subst ex
 obtain rfl:u=Value.ref a:=rx
 exact ad1 hu I3 g ry rv λs4 I4=>⟨σ,H4,I4,q3⟩
end
theorem ad4 {P:Program}{w:World}{H:Hp}(h:Heap)(hb:sysModules<h.objs.size):bV P w H (h.push { cls:=.type "dict",data:=.dict #[] }) h.objs.size (.dK []):=
 ⟨aP3 _,aT2.mpr (Ne.symm (aN6 hb)),[],.nil,Heap.DictOf.new h⟩
theorem ad5 {P:Program}{w:World}{H:Hp}(h:Heap)(hb:sysModules<h.objs.size):bV P w H (h.push { cls:=.type "dict",data:=.dict #[] }) h.objs.size (.dT []):=
 ⟨aP3 _,aT2.mpr (Ne.symm (aN6 hb)),[],.nil,_,#[],0,aM4 _ rfl,⟨rfl,rfl,rfl⟩,rfl,rfl,List.nodup_nil⟩
noncomputable def xD:TE:=λ_ H Q=>∀p,H p=none->Q (.ref p) (upd H p (.dK []))
noncomputable def xE:TE:=λ_ H Q=>∀p,H p=none->Q (.ref p) (upd H p (.dT []))
section
variable {X:Cx}{pos:Pos}
theorem ad6:PE X (.Dict [] [] pos) xD:=λpins s σ H Q I h=>
 wpAny_Dict_empty ⟨.ref s.heap.objs.size,_,I.laid (a:=s.heap.objs.size) (o:=.dK []) (t':=s.toks) (λ_ _ q=>aK4 _ q) (aK8 _) (ad4 s.heap I.big),rfl,h _ (I.hok.fresh (aK8 _))⟩
theorem ad7:PE X (.Dict [] [] pos) xE:=λpins s σ H Q I h=>
 wpAny_Dict_empty ⟨.ref s.heap.objs.size,_,I.laid (a:=s.heap.objs.size) (o:=.dT []) (t':=s.toks) (λ_ _ q=>aK4 _ q) (aK8 _) (ad5 s.heap I.big),rfl,h _ (I.hok.fresh (aK8 _))⟩
end
structure M1 (X:Cx)(o:Expr)(m:Str)(apos:Pos)(e:Expr)(cpos:Pos):Prop where
 base:attributeBase o m X.env (eval o X.env)=eval o X.env
 few:((backTo cpos (starEach [e] X.env)).all (λx=>!x.1)&&(backToKw cpos (keywordEach [] X.env)).all (λx=>x.1.isSome)
 &&decide (([e]:List Expr).length+([]:List Keyword).length+(if ([]:List Keyword).isEmpty then 0 else 1)<30))=true
 line:(apos.endLine==cpos.line)=true
 trees:backTo cpos (starEach [e] X.env) = [(false,eval e X.env)]
structure M2 (X:Cx)(o:Expr)(m:Str)(apos:Pos)(e f:Expr)(cpos:Pos):Prop where
 base:attributeBase o m X.env (eval o X.env)=eval o X.env
 few:((backTo cpos (starEach [e,f] X.env)).all (λx=>!x.1)&&(backToKw cpos (keywordEach [] X.env)).all (λx=>x.1.isSome)
 &&decide (([e,f]:List Expr).length+([]:List Keyword).length+(if ([]:List Keyword).isEmpty then 0 else 1)<30))=true
 line:(apos.endLine==cpos.line)=true
 trees:backTo cpos (starEach [e,f] X.env) = [(false,eval e X.env),(false,eval f X.env)]
end L2
namespace Att
open PySem PySem.W PySem.Calls PyProof.Rows
theorem ad8 {P:Params}{h:Heap}:∀(ns:ae) (vs:List Value),WellAll P h vs (ns.map WData.int)->IntsAre vs ns:=by
 intro ns
 induction ns with
 |nil=>
  intro vs w
  rw[List.map_nil]at w
  cases w
  exact .nil
 |cons n ns ih=>
  intro vs w
  rw[aO2]at w
  cases w with
  |cons a b=>
   cases a
   exact .cons _ _ (ih _ b)
theorem xF {l:OpenLaw}{n:Nat}(hn:l.most=some n){P:Params}{h:Heap}{args:List WData}{vals:List Value}(hpre:l.row.toRowW.claim.pre args=true)(hwl:WellAll P h vals args) :
  ∃a vs ns,vals = [Value.ref a]/\args = [WData.list (ns.map WData.int)]/\h.get? a=some { cls:=.type "list",data:=.seq vs.toArray }/\IntsAre vs ns/\ns.length<=n:=by
 have hsh:WShape.hasAll [] args [.list .int]=true:=(pre_splitW hpre).1
 have hc:l.pre.holds [] { args:=args }=true:=(pre_splitW hpre).2
 obtain⟨d,r,rfl,h1,h2⟩:=hasAllW_cons hsh
 obtain rfl:=hasAllW_nil h2
 obtain⟨xs,rfl,h3⟩:=hasW_list h1
 obtain⟨ns,rfl⟩:=items_int h3
 have hlen:ns.length<=n:=by
  unfold OpenLaw.pre at hc
  have h4:(WTm.not (.lt (.lit (.int (n:Int))) (.len (.arg 0)))).holds [] { args:=[.list (ns.map .int)] }=true:=by
   have h4:=(holds_andW hc).1
   rw[hn]at h4
   exact h4
  have h5:=condW_of h4 (w_not (w_lt w_lit (w_len_list (w_arg rfl))))
  rw[aL2]at h5
  refine Nat.le_of_not_lt λq=>?_
  have q':(n:Int)<((ns.length:Nat):Int):=by omega
  first
   |(rw[aL1 q']at h5;exact absurd h5 (by decide))
   |(simp at h5;omega)
 cases hwl with
 |cons w1 w2=>
  cases w2
  cases w1 with
  |list ho hall=>exact⟨_,_,ns,rfl,rfl,ho,ad8 ns _ hall,hlen⟩
theorem xG (l:OpenLaw)(args:List WData):l.row.toRowW.claim.post args (.bool true) args=true:=
 postW_of (r:=l.row.toRowW) (X:=(true==true))
  (show WShape.has [] (.bool true) .bool=true by first|rfl|decide|simp[WShape.has,WShape.arms,WShape.armsAll])
  (show (WTm.eq .res (.lit (.bool true))).value [] { args:=args,res:=some (.bool true),after:=args }=some (.bool (true==true)) from w_eq_bool (w_res rfl) w_lit) rfl
theorem aJ9 {l:OpenLaw}{n:Nat}{q:Program}{loose:List Str}{XP:(Str->Option Value)->Heap->Prop}{YP:World->Heap->Prop}{d:DefRec}{x:Str}(hn:l.most=some n)(hdf:d.params.defaults = [])(hbind:∀pm cd doc v:Value,bindArgs (docDef d.name d.params d.body d.scope pm cd doc) ⟨[v],[]⟩=pure [(x,v)])(hx:d.scope.names.lookup x=some .local∨d.scope.names.lookup x=some .cell)(hk:d.scope.kind = .function)(hco:d.scope.isCoroutine=false)(hgen:d.scope.isGenerator=false)(body:∀(w:World) (s₀ s₁ s:Shared) (mg mb:Str->Option Value) (fa:Addr) (o:Obj) (pm cd doc:Value) (a:Addr) (vs:List Value) (ns:ae),
   Ground q loose [] XP w s₀ mg mb s₁.heap->YP w s₁.heap->
   s₁.heap.get? fa=some o->o.data = .func (docDef d.name d.params d.body d.scope pm cd doc)->s₁.heap.CodeRec cd d.name->mg d.name=some (.ref fa)->
   s₁.heap.get? a=some { cls:=.type "list",data:=.seq vs.toArray }->IntsAre vs ns->ns.length<=n->
   s.gens = #[]->s.os=s₁.os->
   Fr s₁.heap s₁.heap.objs.size s.heap (bindL (envOfC d.name d.scope s₁.heap.objs.size fa cd).kindOf [(x,.ref a)] λ_=>none)->
   Cl s₁.heap.objs.size (cellsFrom (s₁.heap.objs.size+1) d.scope.names []) s.heap (bindC (envOfC d.name d.scope s₁.heap.objs.size fa cd).kindOf [(x,.ref a)] λ_=>none)->
   wpAny (model l.prog w) (callerA.deeper (envOfC d.name d.scope s₁.heap.objs.size fa cd)) (execs d.body (envOfC d.name d.scope s₁.heap.objs.size fa cd))
    (λf s'=>f = .ret (.bool true)/\OldK s₁.heap s'.heap/\s'.os=s₁.os/\AllBare s'.gens) (λ_ _=>False) s) :
  WalkO q loose XP YP l.row.toRowW d [] (λf vs=>PySem.call f vs):=by
 intro w s₀ s₁ mg mb G Y fa o pm cd doc dV kV ho hd hcd hD hmg hg args vals as hpre hlay hrd hwl hlo
 obtain rfl:dV = .none:=Dflts.none hD hdf
 obtain rfl:kV = .none:=Dflts.noKw hD
 obtain⟨a,vs,ns,rfl,rfl,hobj,hints,hlen⟩:=xF hn hpre hwl
 refine enter_call ?_
 refine call_cells_ret (o:=o) (by rw[depth_caller];decide) ho (fd_plain hd) G.T.nolimit hcd (hbind pm cd doc (.ref a)) (λy hy=>?_) (λh₁ tk F X=>?_) hco hgen hk
 ·obtain rfl:y=(x,Value.ref a):=aM5.mp hy
  rcases hx with e|e
  ·exact .inl e
  ·exact .inr ⟨e,cellsFrom_some _ _ _ (.inl e)⟩
 ·refine aR0 (body w s₀ s₁ { s₁ with heap:=h₁,toks:=tk } mg mb fa o pm cd doc a vs ns G Y ho (fd_plain hd) hcd hmg hobj hints hlen hg rfl F X) (λf s' hq=>?_) (λ_ _ hq=>hq)
  obtain⟨rfl,h2,h3,h4⟩:=hq
  exact⟨.inl ⟨.bool true,.bool true,[],rfl,λ_=>rfl,.bool true,xG l _,λ_=>⟨List.Pairwise.nil,λ_ hm=>(nomatch hm)⟩⟩,h2,h3,h4⟩
theorem ad9 {l:OpenLaw}{n:Nat}{q:Program}{loose:List Str}{XP:(Str->Option Value)->Heap->Prop}{YP:World->Heap->Prop}{d:DefRec}(hn:l.most=some n)(hdf:d.params.defaults = [])(call:∀(w:World) (s₀ s₁:Shared) (mg mb:Str->Option Value) (fa:Addr) (o:Obj) (pm cd doc:Value) (a:Addr) (vs:List Value) (ns:ae),
   Ground q loose [] XP w s₀ mg mb s₁.heap->YP w s₁.heap->
   s₁.heap.get? fa=some o->o.data = .func (docDef d.name d.params d.body d.scope pm cd doc)->s₁.heap.CodeRec cd d.name->mg d.name=some (.ref fa)->
   s₁.heap.get? a=some { cls:=.type "list",data:=.seq vs.toArray }->IntsAre vs ns->ns.length<=n->s₁.gens = #[]->
   codeAny (model l.prog w) callerA (.call (.ref fa) ⟨[.ref a],[]⟩) (λr s'=>r = .ok (.ret (.bool true))/\OldK s₁.heap s'.heap/\s'.os=s₁.os/\AllBare s'.gens) s₁) :
  WalkO q loose XP YP l.row.toRowW d [] (λf vs=>PySem.call f vs):=by
 intro w s₀ s₁ mg mb G Y fa o pm cd doc dV kV ho hd hcd hD hmg hg args vals as hpre hlay hrd hwl hlo
 obtain rfl:dV = .none:=Dflts.none hD hdf
 obtain rfl:kV = .none:=Dflts.noKw hD
 obtain⟨a,vs,ns,rfl,rfl,hobj,hints,hlen⟩:=xF hn hpre hwl
 refine enter_call (codeAny_mono (call w s₀ s₁ mg mb fa o pm cd doc a vs ns G Y ho (fd_plain hd) hcd hmg hobj hints hlen hg) λr s' hq=>?_)
 obtain⟨rfl,h2,h3,h4⟩:=hq
 exact⟨.inl ⟨.bool true,.bool true,[],rfl,λ_=>rfl,.bool true,xG l _,λ_=>⟨List.Pairwise.nil,λ_ hm=>(nomatch hm)⟩⟩,h2,h3,h4⟩
end Att
namespace L2
open PySem PySem.Spec PyProof.Rows
theorem nQ:∀{vs:List Value}{ns:ae},IntsAre vs ns->aQ (ns.map V.int) vs
 |_,_,.nil=>.nil
 |_,_,.cons n t h=>.cons ⟨t,rfl⟩ (nQ h)
noncomputable def nR (H:Hp):Prop:=∀b,H b=none∨∃o xs,H b=some (.frz o (.lst xs))
theorem ae0 {P:Program}{w:World}{K:ac}{mg mb:Str->Option Value}{CX:fM}{k:Nat}{fa a:Addr}{fd:FuncData}{x:Str}{sp:Sp}{s₁:Shared}{vs:List Value}{ns:ae}(KX:K.In s₁.heap)(hns:s₁.heap.Ns mainGlobals mg)(hb:s₁.heap.Ns builtinsNs mb)(hbb:∀x:Str,x≠"__name__"->mb x=bootBuiltins x)(hlim:s₁.heap.NoLimit)(hg:s₁.gens = #[])(ha:s₁.heap.get? a=some { cls:=.type "list",data:=.seq vs.toArray })(hi:IntsAre vs ns)(hl:ns.length<=sizeLine)(hr:bW k callerA)(F:∀base:Heap,K.In base->base.Ns mainGlobals mg->cR P w K mg base CX k fa fd [x] sp)(hbind:∀(s:Shared) (u:Value),BindsTo s fd ⟨[u],[]⟩ [(x,u)])(hsp:∀H:Hp,nR H->aM K H a (ns.map V.int)->sp [.ref a] H (λv _=>v = .bl true) λ_ _ _=>False)(hCX:∀H e s',CX [] H s₁ (λ_ _ _=>False) e s'->False) :
  codeAny (model P w) callerA (.call (.ref fa) ⟨[.ref a],[]⟩) (λr s'=>r = .ok (.ret (.bool true))/\OldK s₁.heap s'.heap/\s'.os=s₁.os/\AllBare s'.gens) s₁:=by
 have rv:=nQ hi
 have lenV:=hi.length
 have core:∀H:Hp,nR H->aM K H a (ns.map V.int)->bN P w H s₁.heap->(∀b,H b≠none->b=a)->(H a≠none->K.lookup a=none)->
   codeAny (model P w) callerA (.call (.ref fa) ⟨[.ref a],[]⟩) (λr s'=>r = .ok (.ret (.bool true))/\OldK s₁.heap s'.heap/\s'.os=s₁.os/\AllBare s'.gens) s₁:=by
  intro H hO hS hok hA hK
  have base_of:∀{b:Addr}{o:Obj},s₁.heap.get? b=some o->H b=none->(gY s₁.heap H).get? b=some o:=λe n=>T2 e n
  have noA:∀{b:Addr}{o:Obj}{es:Array DictEntry}{ep:Nat},s₁.heap.get? b=some o->o.data = .dict es ep->H b=none:=λ{b o es ep} e d=>by
   cases q:H b with
   |none=>rfl
   |some u=>
    have e':b=a:=hA b (by rw[q];simp)
    subst e'
    rw[ha]at e;cases e
    have d':Data.seq vs.toArray _=Data.dict es ep:=d
    cases d'
  have nsK:∀{b:Addr}{m:Str->Option Value},s₁.heap.Ns b m->(gY s₁.heap H).Ns b m:=λ{b m} ⟨o,es,ep,e,d,r⟩=>⟨o,es,ep,base_of e (noA e d),d,r⟩
  have hKb:K.In (gY s₁.heap H):=λb o e=>base_of (KX b o e) (by
   cases q:H b with
   |none=>rfl
   |some u=>
    have e':b=a:=hA b (by rw[q];simp)
    subst e'
    rw[hK (by rw[q];simp)]at e;cases e)
  have hM:Mod K mg (gY s₁.heap H):=⟨hKb,nsK hns,⟨mb,nsK hb,hbb⟩,let ⟨mc,h1,h2⟩:=hlim;⟨mc,nsK h1,h2⟩⟩
  have e0:nM P w K mg (gY s₁.heap H) callerA [] s₁ H:=⟨rfl,hM,λb o e=>T3 e,Nat.le_of_eq (T1 _ _),trivial,λb hb=>absurd (show b∈([]:List Addr) from hb) (by simp),hok,.of_eq hg⟩
  refine codeAny_mono ((F _ hKb (nsK hns)).run callerA [] s₁ H ⟨[.ref a],[]⟩ [.ref a] [.ref a] _ _ hr e0 (hbind s₁ (.ref a)) (.cons rfl .nil) (hsp H hO hS)) λr s' h=>?_
  cases r with
  |error e=>exact (hCX H e s' h).elim
  |ok fl=>
   cases fl with
   |next=>exact False.elim h
   |brk=>exact False.elim h
   |cont=>exact False.elim h
   |ret u=>
    obtain⟨v,H',os,bare,un,hok',r',q⟩:=h
    have q':v = .bl true:=q
    subst q'
    obtain rfl:u=Value.bool true:=r'
    refine⟨rfl,OldK.of_keep λb o e=>?_,os,bare⟩
    cases q:H b with
    |none=>exact un.keep b o e q (by intro z;exact absurd (show b∈([]:List Addr) from z) (by simp)) (by simp)
    |some u=>
     rcases hO b with z|⟨ob,xs,z⟩
     ·rw[q]at z;cases z
     ·have z2:=un.frzs b ob _ z
      obtain⟨e1,_⟩:=hok b _ z
      obtain⟨e2,_⟩:=hok' b _ z2
      rw[e]at e1;cases e1
      exact e2
 cases hk:K.lookup a with
 |some o=>
  have e:=KX a o hk
  rw[ha]at e
  cases e
  refine core (λ_=>none) (λ_=>.inl rfl) (.inr ⟨_,vs.toArray,_,hk,rfl,rfl,rfl,by rw[aK5,lenV];exact hl,by simpa using rv⟩) (λb u z=>by have z':(none:Option HO)=some u:=z;cases z') (λb z=>absurd rfl z) λz=>absurd rfl z
 |none=>
  refine core (λb=>if b=a then some (.frz { cls:=.type "list",data:=.seq vs.toArray } (.lst (ns.map V.int))) else none) (λb=>?_) (.inl (.inr ⟨{ cls:=.type "list",data:=.seq vs.toArray },if_pos rfl⟩)) (λb u z=>?_) (λb z=>?_) λ_=>hk
  ·by_cases hb:b=a
   ·exact .inr ⟨_,_,if_pos hb⟩
   ·exact .inl (if_neg hb)
  ·by_cases hb:b=a
   ·have z':=(if_pos hb).symm.trans z
    cases z'
    subst hb
    exact⟨ha,by rw[aL2];exact hl,vs,_,rv,ha⟩
   ·have z':=(if_neg hb).symm.trans z
    cases z'
  ·by_cases hb:b=a
   ·exact hb
   ·exact absurd (if_neg hb) z
theorem ae1 {l:PySem.W.OpenLaw}{n k:Nat}{q:Program}{loose:List Str}{XP:(Str->Option Value)->Heap->Prop}{YP:World->Heap->Prop}{d:DefRec}{K:Params->ac}{CX:World->fM}{sp:World->Sp}{x:Str}(hn:l.most=some n)(hn2:n<=sizeLine)(hdf:d.params.defaults = [])(hr:bW k callerA)(hY:∀(w:World) (h:Heap),YP w h->(K w.params).In h)(F:∀(w:World) (mg:Str->Option Value) (fa:Addr) (h:Heap),(K w.params).In h->h.Ns mainGlobals mg->mg d.name=some (.ref fa)->
   ∃fd:FuncData,(∀(s:Shared) (u:Value),BindsTo s fd ⟨[u],[]⟩ [(x,u)])/\
    ∀base:Heap,(K w.params).In base->base.Ns mainGlobals mg->cR l.prog w (K w.params) mg base (CX w) k fa fd [x] (sp w))(hsp:∀(w:World) (H:Hp) (a:Addr) (ns:ae),ns.length<=n->nR H->aM (K w.params) H a (ns.map V.int)->sp w [.ref a] H (λv _=>v = .bl true) λ_ _ _=>False)(hCX:∀(w:World) (H:Hp) (s:Shared) (e:Value) (s':Shared),CX w [] H s (λ_ _ _=>False) e s'->False) :
  PySem.W.WalkO q loose XP YP l.row.toRowW d [] (λf vs=>PySem.call f vs):=by
 refine Att.ad9 hn hdf λw s₀ s₁ mg mb fa o pm cd doc a vs ns G Y ho hd hcd hmg hobj hints hlen hg=>?_
 have KX:=hY w _ Y
 obtain⟨fd,hb,hF⟩:=F w mg fa _ KX G.T.g hmg
 exact ae0 KX G.T.g G.T.b G.T.builtins G.T.nolimit hg hobj hints (aN8 hlen hn2) hr hF hb (λH hO hS=>hsp w H a ns hlen hO hS) λH e s'=>hCX w H s₁ e s'
noncomputable def i7 (s:Stmt):Arguments:=match s with
 |.FunctionDef _ a _ _ _ _ _ _ _ _=>a
 |_=>{ posonlyargs:=[],args:=[],vararg:=none,kwonlyargs:=[],kw_defaults:=[],kwarg:=none,defaults:=[] }
noncomputable def dO (s:Stmt):List Stmt:=match s with
 |.FunctionDef _ _ b _ _ _ _ _ _ _=>b
 |_=>[]
noncomputable def aX (s:Stmt):Scope:=match s with
 |.FunctionDef _ _ _ _ _ _ sc _ _ _=>sc
 |_=>{ kind:=.function,names:=[],isGenerator:=false,isCoroutine:=false }
noncomputable abbrev dQ:fM:=λ_ _ _ _ _ _=>False
noncomputable abbrev E0:XK:=λ_ _ _=>False
theorem ae2 {X:Cx}:lL dQ X E0:=λ_ _ _ _ _ _ _ h=>h.elim
structure eJ (K:ac)(x qual:Str)(st:Stmt)(f:Addr)(fd:FuncData):Prop where
 ex:∃(oc:Value) (od:Option Addr) (kV doc pm:Value) (an:Option Addr) (cdv ct:Value) (osl:Array (Option Value)),
  fd=PySem.W.fnOf x qual (i7 st) (dO st) (aX st) .none kV doc pm an cdv ct/\K.lookup f=some ⟨oc,od,.func fd,osl⟩/\PySem.W.codeIn K cdv qual=true
 kp:PySem.W.keepIn K (.ref f)=true
section
variable {P:Program}{w:World}{K:ac}{mg:Str→Option Value}{base:Heap}
theorem eJ.ok {x qual:Str}{st:Stmt}{f:Addr}{fd:FuncData}{N ps:List Str}{k:Nat}{sp:Sp}(F:eJ K x qual st f fd)(S:FnScope N ps (aX st))(len:∀vs H Q E,sp vs H Q E->vs.length=ps.length)(hbody:∀(cdv:Value) (A:Around) (outer:List Env) (s:Shared) (H:Hp) (vs:List V) (Q:VK) (E:XK),bW k (A.deeper (envOfC qual (aX st) s.heap.objs.size f cdv))->sp vs H Q E->
   ∃t,cZ (cS dQ P w K mg base N qual (aX st) f cdv A outer s H E).nox (dO st) t/\t { nx:=λ_ H'=>Q .non H',rt:=Q } (fN N vs) H):cR P w K mg base dQ (k+1) f fd ps sp:=by
 obtain⟨oc,od,kV,doc,pm,an,cdv,ct,osl,rfl,lk,hcd⟩:=F.ex
 refine wH lk hcd S len λA outer s H vs Q E hr hsp=>?_
 obtain⟨t,h,q⟩:=hbody cdv A outer s H vs Q E hr hsp
 exact⟨t,h.nox,q⟩
theorem eJ.binds {x qual:Str}{st:Stmt}{f:Addr}{fd:FuncData}{ps:List Str}(F:eJ K x qual st f fd)(h:∀(kV doc pm:Value) (an:Option Addr) (cdv ct:Value) (us:List Value),us.length=ps.length->bindArgs (PySem.W.fnOf x qual (i7 st) (dO st) (aX st) .none kV doc pm an cdv ct) ⟨us,[]⟩=pure (ps.zip us)):hV K fd ps []:=by
 obtain⟨oc,od,kV,doc,pm,an,cdv,ct,osl,rfl,lk,hcd⟩:=F.ex
 exact .all (h kV doc pm an cdv ct)
theorem ae3 {x qual:Str}{st:Stmt}{f:Addr}{oc:Value}{od an:Option Addr}{osl:Array (Option Value)}{kV doc pm cdv ct:Value}(l:K.lookup f=some ⟨oc,od,.func (PySem.W.fnOf x qual (i7 st) (dO st) (aX st) .none kV doc pm an cdv ct),osl⟩)(c:PySem.W.codeIn K cdv qual=true)(k:PySem.W.keepIn K (.ref f)=true):eJ K x qual st f (PySem.W.fnOf x qual (i7 st) (dO st) (aX st) .none kV doc pm an cdv ct):=⟨⟨oc,od,kV,doc,pm,an,cdv,ct,osl,rfl,l,c⟩,k⟩
end
theorem nS {A:Around}{k:Nat}(hr:bW k A):A.units+1<cLine:=Nat.lt_of_le_of_lt (Nat.add_le_add_left (by decide:1<=64) _) hr.units
theorem rQ {n:Nat}(h:n<=1000):n<sizeLine:=Nat.lt_of_le_of_lt h (by decide)
section
variable {X:Cx}
theorem pv (i:Nat){x:Str}{pos:Pos}(hN:X.N[i]? = some x:=by rfl)(hv:gZ X.env.scope x:=by first|exact Or.inl rfl|exact Or.inr (Or.inl rfl)|exact Or.inr (Or.inr rfl))(hd:(x==("__debug__":Str))=false:=by decide)(hcd:(x==("__classdict__":Str))=false:=by decide):PE X (.Name x pos) (iY i):=jY hN hv hd hcd
theorem ae4:cG X (.builtin "len") (λxs H Q=>∃a kvs,xs = [V.ref a]/\H a=some (.dK kvs)/\Q (.int kvs.length) H):=by
 intro pins s σ H xs us Q I r h
 obtain⟨a,kvs,rfl,ha,q⟩:=h
 obtain⟨u,rfl,ru⟩:=eG r
 cases ru
 exact ad2 I (.inl ha) λt s' I'=>⟨.int kvs.length,H,I',⟨t,rfl⟩,q⟩
end
theorem aD {A B:Prop}(h:B):if false=true then A else B:=by
 rw[if_neg aL6]
 exact h
theorem aN {A B:Prop}(h:A):if true=true then A else B:=by
 rw[if_pos rfl]
 exact h
noncomputable def aB (H H':Hp):Prop:=∀b o,H b=some o->H' b=some o
theorem aB.refl (H:Hp):aB H H:=λ_ _ h=>h
theorem aB.trans {H H1 H2:Hp}(a:aB H H1)(b:aB H1 H2):aB H H2:=λc o h=>b c o (a c o h)
theorem aB.free {H H':Hp}(e:aB H H'){l:Addr}(h:H' l=Option.none):H l=Option.none:=by
 cases q:H l with
 |none=>rfl
 |some o=>
  rw[e l o q]at h
  cases h
theorem aB.seq {K:ac}{H H':Hp}{a:Addr}{xs:List V}(e:aB H H')(h:aM K H a xs):aM K H' a xs:=by
 rcases h with (h|⟨o,h⟩)|h
 ·exact .inl (.inl (e _ _ h))
 ·exact .inl (.inr ⟨o,e _ _ h⟩)
 ·exact .inr h
noncomputable def dH (cells:List (Str×Addr)):List (Str×NameKind)->List (Str×Addr)->List (Str×Addr)
 |[],cs=>cs
 |(n,k)::r,cs=>dH cells r (if k==.free then (n,(cells.lookup n).getD 0)::cs else cs)
theorem rR {env:Env}:∀(ns:List (Str×NameKind)) (cs:List (Str×Addr)),(∀x∈ns,x.2 = .free->∃c,env.cells.lookup x.1=some c)->
  (forIn ns cs (λ(x:Str×NameKind) r=>(match x with
   |(name,kind)=>if (kind==.free)=true then (do let y <- cellOf env name;pure (ForInStep.yield ((name,y)::r))) else pure (ForInStep.yield r)):_->_->Sem _))=(pure (dH env.cells ns cs):Sem (List (Str×Addr)))
 |[],cs,_=>by rw[List.forIn_nil];rfl
 |(n,k)::r,cs,h=>by
  rw[List.forIn_cons]
  have hr:∀x∈r,x.2 = .free->∃c,env.cells.lookup x.1=some c:=λx hx=>h x (aM6 _ hx)
  cases hk:(k==NameKind.free) with
  |true=>
   have e:k = .free:=by simpa using hk
   obtain⟨c,hc⟩:=h (n,k) aM3 e
   simp only[hk,if_true]
   have e1:cellOf env n=pure c:=by unfold cellOf;rw[hc]
   rw[e1]
   show ((pure c >>= λy=>pure (ForInStep.yield ((n,y)::cs))) >>= _:Sem _)=_
   rw[pure_bind,pure_bind]
   have:=rR (env:=env) r ((n,c)::cs) hr
   refine this.trans ?_
   unfold dH
   simp only[hk,if_true,hc,Option.getD_some]
   cases r<;>rfl
  |false=>
   simp only[hk,aN5,aT6]
   rw[pure_bind]
   have:=rR (env:=env) r cs hr
   refine this.trans ?_
   conv=>rhs;unfold dH
   simp only[hk,aN5,aT6]
theorem xH {scope:Scope}{env:Env}(h:∀x∈scope.names,x.2 = .free->∃c,env.cells.lookup x.1=some c):closureFor scope env=pure (dH env.cells scope.names []):=by
 have e:=rR (env:=env) scope.names [] h
 unfold closureFor
 rw[show (pure (dH env.cells scope.names []):Sem (List (Str×Addr)))=(pure (dH env.cells scope.names []) >>= pure) by rw[pure_bind]]
 rw[<- e]
theorem nT {cells:List (Str×Addr)}:∀(ns:List (Str×NameKind)) (cs:List (Str×Addr)) {x:Str}{c:Addr},(∀y∈ns,y.2 = .free->∃c,cells.lookup y.1=some c)->
  (∀x c,cs.lookup x=some c->cells.lookup x=some c)->(dH cells ns cs).lookup x=some c->cells.lookup x=some c
 |[],cs,x,c,_,hc,h=>hc x c h
 |(n,k)::r,cs,x,c,hn,hc,h=>by
  unfold dH at h
  have hr:∀y∈r,y.2 = .free->∃c,cells.lookup y.1=some c:=λy hy=>hn y (aM6 _ hy)
  cases hk:(k==NameKind.free) with
  |false=>
   simp only[hk,aN5,aT6]at h
   exact nT r cs hr hc h
  |true=>
   simp only[hk,if_true]at h
   refine nT r _ hr (λy d e=>?_) h
   obtain⟨c0,h0⟩:=hn (n,k) aM3 (by simpa using hk)
   have h0:cells.lookup n=some c0:=h0
   rw[h0]at e
   rw[aO6]at e
   by_cases hyn:y=n
   ·subst hyn
    simp only[aP1,Option.getD_some]at e
    rw[h0];exact e
   ·have:(y==n)=false:=aT2.mpr hyn
    simp only[this]at e
    exact hc y d e
theorem rS {cells:List (Str×Addr)}:∀(ns:List (Str×NameKind)) (cs:List (Str×Addr)) {x:Str},((x,NameKind.free)∈ns∨∃c,cs.lookup x=some c)->∃c,(dH cells ns cs).lookup x=some c
 |[],cs,x,h=>by
  rcases h with h|h
  ·simp at h
  ·exact h
 |(n,k)::r,cs,x,h=>by
  unfold dH
  refine rS r _ ?_
  rcases h with h|⟨c,h⟩
  ·rcases aL0.mp h with e|e
   ·cases e
    exact .inr ⟨_,by simp[aO6];rfl⟩
   ·exact .inl e
  ·right
   cases hk:(k==NameKind.free) with
   |false=>exact⟨c,by simpa[hk] using h⟩
   |true=>
    simp only[if_true]
    rw[aO6]
    by_cases hxn:(x==n)=true
    ·simp only[hxn];exact⟨_,rfl⟩
    ·simp only[Bool.eq_false_iff.mpr hxn];exact⟨c,h⟩
theorem nU {env:Env}:∀{names:List (Str×NameKind)}{x:Str}{k:NameKind},(names.map λ(n,k)=>if (k==NameKind.free&&env.scope.kind==.function&&env.kindOf n==some .cell) then (n,NameKind.cell) else (n,k)).lookup x=some k->
  names.lookup x=some k∨(names.lookup x=some .free/\k = .cell)
 |[],_,_,h=>by simp at h
 |(n,q)::r,x,k,h=>by
  have ih:=@nU env r x k
  rw[aO2]at h
  by_cases hx:(x==n)=true
  ·have e:x=n:=by simpa using hx
   subst e
   by_cases hc:(q==NameKind.free&&env.scope.kind==.function&&env.kindOf x==some .cell)=true
   ·simp only[hc,if_true,aO6,aP1]at h
    have hq:q = .free:=by simp at hc;exact hc.1.1
    exact .inr ⟨by simp[aO6,hq],(aN2 h).symm⟩
   ·simp only[hc,aN5,aT6,aO6,aP1]at h
    exact .inl (by simp[aO6];exact aN2 h)
  ·have hx':(x==n)=false:=Bool.eq_false_iff.mpr hx
   have h':(r.map λ(n,k)=>if (k==NameKind.free&&env.scope.kind==.function&&env.kindOf n==some .cell) then (n,NameKind.cell) else (n,k)).lookup x=some k:=by
    by_cases hc:(q==NameKind.free&&env.scope.kind==.function&&env.kindOf n==some .cell)=true
    ·simp only[hc,if_true,aO6,hx']at h;exact h
    ·simp only[hc,aN5,aT6,aO6,hx']at h;exact h
   simp only[aO6,hx']
   exact ih h'
noncomputable def eL (fr:List (Option Nat))(σ:St):St:=fr.map λo=>o.bind λj=>(σ[j]?).join
noncomputable def Wk (σ₁ σ₂:St):Prop:=σ₁.length=σ₂.length/\∀(i:Nat) v,σ₁[i]? = some (some v)->σ₂[i]? = some (some v)
theorem Wk.refl (σ:St):Wk σ σ:=⟨rfl,λ_ _ h=>h⟩
theorem Wk.set {σ τ:St}{i:Nat}{v:V}(h:Wk σ τ)(hi:σ[i]? = some none):Wk σ (τ.set i (some v)):=by
 refine⟨by rw[aQ4];exact h.1,λj w e=>?_⟩
 by_cases hj:j=i
 ·subst hj;rw[hi]at e;cases e
 ·rw[aM7 (Ne.symm hj)];exact h.2 j w e
theorem i8:∀(ns:List (Str×NameKind)) (n:Nat) (cs:List (Str×Addr)),cellsFrom n ns cs=cellsFrom n ns []++cs
 |[],_,_=>rfl
 |(x,k)::r,n,cs=>by
  unfold cellsFrom
  split
  ·rw[i8 r (n+1) ((x,n)::cs),i8 r (n+1) [(x,n)]];simp
  ·exact i8 r n cs
theorem rT:∀(ns:List (Str×NameKind)) (n:Nat) {x:Str}{c:Addr},(x,c)∈cellsFrom n ns []->(x,NameKind.cell)∈ns
 |[],_,_,_,h=>by simp[cellsFrom]at h
 |(y,k)::r,n,x,c,h=>by
  unfold cellsFrom at h
  split at h
  ·rename_i hk
   rw[i8]at h
   rcases aS4.mp h with z|z
   ·exact aM6 _ (rT r _ z)
   ·rw[aM5]at z
    cases z
    have:k = .cell:=by simpa using hk
    rw[this];exact aM3
  ·exact aM6 _ (rT r _ h)
theorem nV:∀(ns:List (Str×NameKind)) (n:Nat) {x:Str},(x,NameKind.cell)∈ns->∃c,(x,c)∈cellsFrom n ns []
 |(y,k)::r,n,x,h=>by
  unfold cellsFrom
  rcases aL0.mp h with z|z
  ·cases z
   rw[if_pos (by rfl),i8]
   exact⟨n,aN1 _ (by simp)⟩
  ·split
   ·obtain⟨c,hc⟩:=nV r (n+1) z
    rw[i8]
    exact⟨c,aW5 _ hc⟩
   ·exact nV r n z
theorem rV {α:Type}:∀{l:List (Str×α)}{x:Str}{c:α},(x,c)∈l->∃d,l.lookup x=some d
 |(y,v)::r,x,c,h=>by
  rw[aO6]
  cases hb:x==y with
  |true=>exact⟨v,rfl⟩
  |false=>
   rcases aL0.mp h with z|z
   ·cases z;simp at hb
   ·exact rV z
theorem nW {α:Type}{x:Str}:∀(l r:List (Str×α)),(l++r).lookup x=(match l.lookup x with|some v=>some v|none=>r.lookup x)
 |[],_=>rfl
 |(y,v)::l,r=>by
  rw[List.cons_append,aO6,aO6]
  cases hb:x==y with
  |true=>rfl
  |false=>exact nW l r
noncomputable def fO (X:Cx)(scope:Scope)(C:Addr):List (Str×Addr):=cellsFrom (C+1) scope.names (dH X.env.cells scope.names [])
theorem j7 {X:Cx}{scope:Scope}{C:Addr}{x:Str}{c:Addr}(h:(fO X scope C).lookup x=some c) :
  (x,c)∈cellsFrom (C+1) scope.names []∨((∀d,(x,d)∉cellsFrom (C+1) scope.names [])/\(dH X.env.cells scope.names []).lookup x=some c):=by
 unfold fO at h
 rw[i8,nW]at h
 cases e:(cellsFrom (C+1) scope.names []).lookup x with
 |some v=>rw[e]at h;cases h;exact .inl (aO4 e)
 |none=>
  rw[e]at h
  refine .inr ⟨λd hd=>?_,h⟩
  obtain⟨d',z⟩:=rV hd
  rw[e]at z;cases z
theorem ae5 {X:Cx}{scope:Scope}{C:Addr}{x:Str}{c:Addr}(hn:(x,NameKind.cell)∉scope.names)(h:(dH X.env.cells scope.names []).lookup x=some c):(fO X scope C).lookup x=some c:=by
 unfold fO
 rw[i8,nW]
 cases e:(cellsFrom (C+1) scope.names []).lookup x with
 |some v=>exact absurd (rT _ _ (aO4 e)) hn
 |none=>exact h
theorem xI {X:Cx}{scope:Scope}{C:Addr}{x:Str}(h:(x,NameKind.cell)∈scope.names∨∃c,(dH X.env.cells scope.names []).lookup x=some c):∃c,(fO X scope C).lookup x=some c:=by
 unfold fO
 rw[i8,nW]
 cases e:(cellsFrom (C+1) scope.names []).lookup x with
 |some v=>exact⟨v,rfl⟩
 |none=>
  rcases h with h|h
  ·obtain⟨c,hc⟩:=nV scope.names (C+1) h
   obtain⟨d,hd⟩:=rV hc
   rw[e]at hd;cases hd
  ·exact h
noncomputable def cU (X:Cx)(scope:Scope)(N:List Str)(s:Shared)(H:Hp)(C:Addr)(fp:List Addr)(E:Value->Shared->Prop):Cx:=
 { X with N:=N,s₀:=s,H₀:=H,env:=compEnvC scope (fO X scope C) C X.env,outer:=X.stack,ex:=fp,fn:=λx=>scope.names.lookup x==some .cell,pn:=[],xe:=E }
structure eM (X:Cx)(scope:Scope)(N:List Str)(fr:List (Option Nat)):Prop where
 kind:scope.kind = .function
 own:∀y∈scope.names,y.2 = .cell->scope.names.lookup y.1=some .cell
 names:∀y∈scope.names,y.2 = .local->scope.names.lookup y.1=some .local
 free:∀y∈scope.names,y.2 = .free->X.env.scope.names.lookup y.1=some .cell∨X.env.scope.names.lookup y.1=some .free
 len:fr.length=N.length
 from_:∀(i j:Nat),fr[i]? = some (some j)->∃x,N[i]? = some x/\X.N[j]? = some x/\scope.names.lookup x=some .free
section
variable {X:Cx}{pins:List (Addr×Obj)}{σ:St}{H:Hp}{s:Shared}{scope:Scope}{N:List Str}{fr:List (Option Nat)}
theorem eM.cells (S:eM X scope N fr)(I:a8 X pins σ H s):∀y∈scope.names,y.2 = .free->∃c,X.env.cells.lookup y.1=some c:=λy hy hk=>I.ok.has y.1 (S.free y hy hk)
theorem ae6 {C D:Addr}{fp:List Addr}{E:Value->Shared->Prop}{h1:Heap}{tk:Nat}{m:Str->Option Value}(S:eM X scope N fr)(I:a8 X pins σ H s)(hf:∀b∈fp,fJ X pins H b)(hfl:∀b∈fp,b<s.heap.objs.size)(hD:s.heap.objs.size<=D)(hC:s.heap.objs.size<=C)(hDC:D<C)(old:∀b o,s.heap.get? b=some o->h1.get? b=some o)(hns:h1.Ns C m)(hacc:h1.get? D=some { cls:=.type "list",data:=.seq #[] 0 })(hco:CellsOk h1 (C+1) (cellsFrom (C+1) scope.names [])) :
  a8 (cU X scope N s H C fp E) [] (eL fr σ) (upd H D (.lst [])) { s with heap:=h1,toks:=tk }:=by
 have hHD:H D=none:=I.hok.fresh hD
 have cl:=S.cells I
 have cs:∀{x:Str}{c:Addr},(dH X.env.cells scope.names []).lookup x=some c->X.env.cells.lookup x=some c:=λ{x c} h=>nT scope.names [] cl (λ_ _ z=>by simp at z) h
 have clt:∀{x:Str}{c:Addr},X.env.cells.lookup x=some c->c<s.heap.objs.size:=λ{x c} h=>by obtain⟨v,z⟩:=I.cell x c h;exact z.lt
 have nge:∀{x:Str}{c:Addr},(x,c)∈cellsFrom (C+1) scope.names []->C<c:=λ{x c} h=>(hco.empty x c h).2
 refine⟨⟨I.ok.mod,?_,I.ok.glob,I.ok.blt,hC,?_,?_,?_,I.ok.hd,I.ok.frames,.inl rfl,?_,I.bs,aN8 I.ok.bsz I.sz,?_,?_,I.stack,I.stkFree⟩,rfl,I.bare,Un.laid old hD hHD,⟨m,hns,?_⟩,?_,?_,?_,λp hp=>absurd (show p∈([]:List (Addr×Obj)) from hp) (by simp),?_,?_⟩
 ·exact S.kind
 ·intro x y c h1 h2
  rcases j7 h1 with a|⟨_,a⟩<;>rcases j7 h2 with b|⟨_,b⟩
  ·exact name_of_addr hco.apart a b
  ·exact absurd (aL4 (Nat.lt_trans (nge a) (clt (cs b))) hC) (aQ5 _)
  ·exact absurd (aL4 (Nat.lt_trans (nge b) (clt (cs a))) hC) (aQ5 _)
  ·exact I.ok.inj x y c (cs a) (cs b)
 ·intro x hx
  have hx:(relabel scope X.env).names.lookup x=some .cell∨(relabel scope X.env).names.lookup x=some .free:=hx
  have fin:(x,NameKind.free)∈scope.names->∃c,(fO X scope C).lookup x=some c:=λz=>xI (.inr (rS scope.names [] (.inl z)))
  rcases hx with hx|hx
  ·rcases nU hx with z|z
   ·exact xI (.inl (aO4 z))
   ·exact fin (aO4 z.1)
  ·rcases nU hx with z|z
   ·exact fin (aO4 z)
   ·exact absurd z.2 (by decide)
 ·intro x c hx h
  have hx:(scope.names.lookup x==some NameKind.cell)=true:=hx
  have hx:scope.names.lookup x=some .cell:=by simpa using hx
  rcases j7 h with a|⟨a,_⟩
  ·exact aN8 hC (aR3 (nge a))
  ·obtain⟨d,hd⟩:=nV scope.names (C+1) (aO4 hx)
   exact absurd hd (a d)
 ·intro b hb
  refine⟨aN6 (aL4 (hfl b hb) hC),λx c e=>?_⟩
  rcases j7 e with a|⟨_,a⟩
  ·exact aW7 (Nat.lt_trans (aL4 (hfl b hb) hC) (nge a))
  ·exact (hf b hb).2.2.2.2.1 x c (cs a)
 ·intro b o e hb
  rcases (hf b hb).2.2.2.1 with z|z
  ·exact I.ok.noex b o e z
  ·exact absurd (aL4 (aL8 e) (aN8 I.ok.bsz z)) (aQ5 _)
 ·intro b hb z
  rcases aL0.mp (I.stkSub b z) with e|e
  ·exact (hf b hb).2.1 e
  ·exact (hf b hb).2.2.1 e
 ·intro i x v e1 e2 e3
  have e2:(fr.map λo=>o.bind λj=>(σ[j]?).join)[i]? = some (some v):=e2
  rw[aM9]at e2
  cases ef:fr[i]? with
  |none=>rw[ef]at e2;cases e2
  |some o=>
   rw[ef]at e2
   cases o with
   |none=>cases e2
   |some j=>
    have e2:some ((σ[j]?).join)=some (some v):=e2
    have ej:σ[j]? = some (some v):=by
     cases q:σ[j]? with
     |none=>rw[q]at e2;cases e2
     |some w=>rw[q]at e2;cases w with
      |none=>cases e2
      |some w=>cases e2;rfl
    obtain⟨y,a1,a2,a4⟩:=S.from_ i j ef
    have e1:N[i]? = some x:=e1
    rw[e1]at a1
    cases a1
    have a3:(x,NameKind.free)∈scope.names:=aO4 a4
    have vis:gZ X.env.scope x:=(S.free _ a3 rfl).elim (λz=>.inr (.inl z)) λz=>.inr (.inr z)
    obtain⟨m0,hn0,hl0⟩:=I.loc
    obtain⟨u,r,l⟩:=hl0 j x v a2 ej vis
    refine⟨u,r,.inr ⟨?_,?_⟩⟩
    ·have e3:(relabel scope X.env).names.lookup x=some .local∨(relabel scope X.env).names.lookup x=some .cell∨(relabel scope X.env).names.lookup x=some .free:=e3
     rcases e3 with z|z|z
     ·rcases nU z with y|y
      ·rw[a4]at y;cases y
      ·exact absurd y.2 (by decide)
     ·exact .inl z
     ·exact .inr z
    ·obtain⟨c,hc⟩:=rS (cells:=X.env.cells) scope.names [] (x:=x) (.inl a3)
     refine⟨c,ae5 (λz=>by have:=S.own _ z rfl;rw[a4]at this;cases this) hc,?_⟩
     have hc':=cs hc
     have S1:=S.free (x,.free) a3 rfl
     rcases l with⟨k,_⟩|⟨_,c2,hc2,z⟩
     ·have k:X.env.scope.names.lookup x=some .local:=k
      rcases S1 with q|q<;>(have q:X.env.scope.names.lookup x=_:=q;rw[k]at q;cases q)
     ·rw[hc']at hc2;cases hc2
      obtain⟨oc,ho,hd⟩:=z
      exact⟨oc,old c oc ho,hd⟩
 ·intro x c e
  rcases j7 e with a|⟨_,a⟩
  ·exact⟨_,(hco.empty x c a).1⟩
  ·obtain⟨v,oc,ho,hd⟩:=I.cell x c (cs a)
   exact⟨v,oc,old c oc ho,hd⟩
 ·show upd H D (.lst []) C=none
  rw[b9 (aW7 hDC)];exact I.hok.fresh hC
 ·intro x c e
  show upd H D (.lst []) c=none
  rcases j7 e with a|⟨_,a⟩
  ·rw[b9 (aW7 (Nat.lt_trans hDC (nge a)))];exact I.hok.fresh (aN8 hC (aR3 (nge a)))
  ·have q:=cs a
   rw[b9 (aN6 (aL4 (clt q) hD))]
   exact I.freeC x c q
 ·exact I.hok.laid old hD ⟨aP3 _,[],0,.nil,hacc⟩
 ·show (eL fr σ).length=N.length
  unfold eL;rw[aL2];exact S.len
end
noncomputable def j8 (X:Cx)(ifs:List Expr)(t:TT):Prop:=
 ∀(pins:List (Addr×Obj)) (s:Shared) (σ:St) (H:Hp) (Q:Bool->Hp->Prop),a8 X pins σ H s->t σ H Q->
  wpAny (model X.prog X.w) X.A (forIn ifs true λc r=>if r=true then do let ok <- isTrue c X.env (eval c X.env);pure (ForInStep.yield ok) else pure (ForInStep.yield r)) (TP X pins σ Q) X.xe s
noncomputable def rW:TT:=λ_ H Q=>Q true H
theorem rX {X:Cx}:j8 X [] rW:=λ_ _ _ H _ I h=>wpAny_tests_nil ⟨H,I,h⟩
theorem ae7 {X:Cx}{c:Expr}{t:TT}(h:PT X c t):j8 X [c] t:=λpins s σ H Q I hq=>wpAny_tests_one (h pins s σ H Q I hq)
section
variable {prog:Program}{w:World}{A:Around}
noncomputable def rY (prog:Program)(w:World)(A:Around)(elt tg:Expr)(ifs:List Expr)(it acc:Value)(env:Env)(lost:Value->Shared->Prop)(stop next:Shared->Prop)(s:Shared):Prop:=
 let M:=model prog w
 let tests:Sem Bool:=forIn ifs true λc r=>if r=true then do let ok <- isTrue c env (eval c env);pure (ForInStep.yield ok) else pure (ForInStep.yield r)
 let put:Shared->Prop:=wpAny M A (eval elt env) (λx=>wpAny M A (call (.builtin "list.append") [acc,x]) (λ_=>next) lost) lost
 let taken:Value->Shared->Prop:=λv=>wpAny M A (letOwnedTupleGo tg it v) (λ_=>wpAny M A (assign tg env v) (λ_=>wpAny M A tests (λok s'=>if ok=true then put s' else next s') lost) lost) lost
 wpAny M A (pyNext it) (λr s'=>match r with
  |none=>stop s'
  |some v=>taken v s') lost s
theorem ae8 {R:Result->Shared->Prop}{s:Shared}{elt tg iter:Expr}{ifs:List Expr}{scope:Scope}{pos:Pos}{it acc:Value}{env:Env}(I:Nat->Shared->Prop)(turn:∀n s,I n s->rY prog w A elt tg ifs it acc env (notedBy (model prog w) A env λe=>R (.error e)) (R (.ok .next)) (λs'=>∃m,m<n/\I m s') s)(n:Nat)(h:I n s) :
  codeAny (model prog w) A (.compLoop (.ListComp elt [⟨tg,iter,ifs,0⟩] scope pos) 0 it acc env) R s:=by
 apply codeAny_loop rfl I _ n h
 intro k s1 h1
 change wpAny _ A ((compTurn _ 0 it acc env).onRaise (λx=>do noteFrame x env;theTreesLotGoes x)) _ _ s1
 apply wpAny_noted
 rw[compTurn_list]
 have t:=turn k s1 h1
 unfold rY at t
 apply aK2
 apply wpAny_standAt
 apply aK2
 refine aR0 t (λr s2 h2=>?_) λ_ _ z=>z
 cases r with
 |none=>exact aK7 h2
 |some v=>
  apply aK2
  refine aR0 h2 (λ_ s3 h3=>?_) λ_ _ z=>z
  apply aK2
  refine aR0 h3 (λ_ s4 h4=>?_) λ_ _ z=>z
  apply aK2
  refine aR0 h4 (λok s5 h5=>?_) λ_ _ z=>z
  cases ok with
  |false=>exact aK7 ⟨rfl,h5⟩
  |true=>
   apply aK2
   apply aK2
   refine aR0 h5 (λx s6 h6=>?_) λ_ _ z=>z
   apply aK2
   exact aR0 h6 (λ_ s7 h7=>aK7 (aK7 ⟨rfl,h7⟩)) λ_ _ z=>z
end
noncomputable def nX (g:TG)(tc:TT)(te:TE)(σ0:St)(J:It)(D:Addr)(Q:VK)(W:Nat->Nat->List V->Hp->Prop):Prop:=
 ∀i m acc H',W i m acc H'->H' D=some (.lst acc)/\((J.stop i H'/\Q (.ref D) H')∨(J.go i H'/\∀x H2,J.yld i H' x H2->g x σ0 H2 λσ2 H3=>Wk σ0 σ2/\tc σ2 H3 λb H4=>
  if b=true then te σ2 H4 λv H5=>H5 D=some (.lst acc)/\acc.length<sizeLine/\∃m',m'<m/\W (i+1) m' (acc++[v]) (upd H5 D (.lst (acc++[v]))) else ∃m',m'<m/\W (i+1) m' acc H4))
noncomputable def ae9 (wi:TI)(fr:List (Option Nat))(g:TG)(tc:TT)(te:TE):TE:=λσ H Q=>wi σ H λJ H1=>∀D,H1 D=none->
 ∃W:Nat->Nat->List V->Hp->Prop,(∃m,W 0 m [] (upd H1 D (.lst [])))/\nX g tc te (eL fr σ) J D Q W
section
variable {M:Model}{A:Around}{E:Value→Shared→Prop}{s:Shared}
theorem af0 {scope:Scope}{globals:Addr}{cl:List (Str×Addr)}{qual:Str}{func:Option Addr}{code:Value}{builtins:Addr}{outer:Env}{Q:Env->Shared->Prop}(hQ:∀h',h'.Ns s.heap.objs.size (λ_=>none)->(∀b o,s.heap.get? b=some o->h'.get? b=some o)->CellsOk h' (s.heap.objs.size+1) (cellsFrom (s.heap.objs.size+1) scope.names [])->
   Q (newEnv scope s.heap.objs.size globals (cellsFrom (s.heap.objs.size+1) scope.names cl) qual func code (some outer) builtins) { s with heap:=h' }) :
  wpAny M A (newFunctionEnv scope globals cl [] qual func code (some outer) builtins) Q E s:=by
 simp only[newFunctionEnv,Option.isSome_some,if_true]
 refine aK2 (wpAny_alloc ?_)
 refine aK2 (wpAny_layCells _ (λname kind cells=>by cases hkc:kind==NameKind.cell<;>simp[hkc]) _ _ _ _ ?_)
 have ok:=cellsFrom_ok scope.names (s.heap.push { cls:=.type "dict",data:=.dict #[] }) (s.heap.objs.size+1) [] ⟨λ_ _ hm=>(nomatch hm),List.Pairwise.nil⟩ (by rw[aV6];exact aK8 _)
 rw[aV6]at ok
 rw[show ({ s with heap:=s.heap.push { cls:=.type "dict",data:=.dict #[] } }:Shared).heap.objs.size=s.heap.objs.size+1 from aV6 ..]
 rw[List.forIn_nil]
 refine aK2 (aK7 (aK7 (hQ _ ((Heap.Ns.new s.heap (.type "dict")).keeps (pushCells_keeps _ _)) (λb o e=>pushCells_keeps _ _ b o (aK4 _ e)) ok)))
end
section
variable {X:Cx}{pins:List (Addr×Obj)}{σ:St}{H:Hp}{s:Shared}{scope:Scope}{N:List Str}{fr:List (Option Nat)}{tg iter elt:Expr}{ifs:List Expr}{pos:Pos}{wi:TI}{g:TG}{tc:TT}{te:TE}
structure nY (X:Cx)(scope:Scope)(N:List Str)(tg:Expr)(ifs:List Expr)(elt:Expr)(s:Shared)(H:Hp)(g:TG)(tc:TT)(te:TE):Prop where
 tg:∀(C:Addr) (fp:List Addr),PG (cU X scope N s H C fp λ_ _=>False) tg g
 ifs:∀(C:Addr) (fp:List Addr),j8 (cU X scope N s H C fp λ_ _=>False) ifs tc
 elt:∀(C:Addr) (fp:List Addr),PE (cU X scope N s H C fp λ_ _=>False) elt te
structure nZ (X:Cx)(scope:Scope)(N:List Str)(tg:Expr)(ifs:List Expr)(elt:Expr)(g:TG)(tc:TT)(te:TE):Prop where
 tg:∀(s:Shared) (H:Hp) (C:Addr) (fp:List Addr),PG (cU X scope N s H C fp λ_ _=>False) tg g
 ifs:∀(s:Shared) (H:Hp) (C:Addr) (fp:List Addr),j8 (cU X scope N s H C fp λ_ _=>False) ifs tc
 elt:∀(s:Shared) (H:Hp) (C:Addr) (fp:List Addr),PE (cU X scope N s H C fp λ_ _=>False) elt te
theorem nZ.at (B:nZ X scope N tg ifs elt g tc te)(s:Shared)(H:Hp):nY X scope N tg ifs elt s H g tc te:=⟨B.tg s H,B.ifs s H,B.elt s H⟩
theorem af1 {C:Addr}{fp:List Addr}{E:Value->Shared->Prop}{pins':List (Addr×Obj)}{σ':St}{H':Hp}{s':Shared}(I:a8 X pins σ H s)(hf:∀b∈fp,fJ X pins H b)(I':a8 (cU X scope N s H C fp E) pins' σ' H' s'):a8 X pins σ H' s':=
 I.call' (ch:=fp) I'.os I'.base I'.hok I'.bare λb hb=>⟨(hf b hb).2.2.2.1,(hf b hb).2.1,(hf b hb).2.2.2.2.1,(hf b hb).2.2.2.2.2⟩
theorem xJ {Rr:Value->Addr->Result->Shared->Prop}{J:It}{fp:List Addr}{it:Addr}{tn:Nat->Heap->Prop}{Q:VK}(hc:X.calm=true)(S:eM X scope N fr)(B:nY X scope N tg ifs elt s H g tc te)(I:a8 X pins σ H s)(T:iH X.prog X.w X.K tg J fp it tn)(hst:tn 0 s.heap)(hf:∀b∈fp,fJ X pins H b)(h:∀D,H D=none->∃W:Nat->Nat->List V->Hp->Prop,(∃m,W 0 m [] (upd H D (.lst [])))/\nX g tc te (eL fr σ) J D Q W)(hend:∀(D C:Addr) (s':Shared) (H':Hp) (m:Str->Option Value),s.heap.objs.size<=C->s.heap.objs.size<=D->a8 X pins σ H' s'->s'.heap.Ns C m->H' C=none->Q (.ref D) H'->Rr (.ref D) C (.ok .next) s') :
  wpAny (model X.prog X.w) X.A (newList []) (λacc s₃=>wpAny (model X.prog X.w) X.A (newFunctionEnv scope X.env.globals (dH X.env.cells scope.names []) [] X.env.qual none .none (some X.env)) (λcenv s₄=>
   codeAny (model X.prog X.w) X.A (.compStart (.ListComp elt [⟨tg,iter,ifs,0⟩] scope pos) 0 (.ref it) acc { cenv with scope:=relabel scope X.env }) (Rr acc cenv.locals) s₄) X.xe s₃) X.xe s:=by
 refine aU6 (af0 (λh₁ hns₁ keep₁ hco₁=>?_))
 dsimp only at hns₁ keep₁ hco₁ ⊢
 generalize hH2:s.heap.push { cls:=.type "list",dict:=none,data:=.seq ([]:List Value).toArray }=H2 at hns₁ keep₁ hco₁ ⊢
 have hC:H2.objs.size=s.heap.objs.size+1:=by rw[<- hH2,aV6]
 have hDC:s.heap.objs.size<H2.objs.size:=by rw[hC];exact Nat.lt_succ_self _
 have hCle:s.heap.objs.size<=H2.objs.size:=by rw[hC];exact aY0 _
 have old:∀b o,s.heap.get? b=some o->h₁.get? b=some o:=λb o e=>keep₁ b o (hH2▸aK4 _ e)
 have hacc:h₁.get? s.heap.objs.size=some { cls:=.type "list",data:=.seq #[] 0 }:=keep₁ _ _ (hH2▸aM4 _ rfl)
 have hfl:∀b∈fp,b<s.heap.objs.size:=λb hb=>by obtain⟨o,e,_⟩:=T.obj _ _ hst b hb;exact aL8 e
 obtain⟨W,⟨m0,w0⟩,turn⟩:=h s.heap.objs.size (I.hok.fresh (aK8 _))
 have st1:tn 0 h₁:=T.keep _ _ _ hst λb _ o e=>old b o e
 have fr0:∀b∈fp,upd H s.heap.objs.size (.lst []) b=none:=λb hb=>by rw[b9 (aN6 (hfl b hb))];exact (hf b hb).1
 have stat:∀{H':Hp},(∀b∈fp,H' b=none)->∀b∈fp,fJ (cU X scope N s H H2.objs.size fp λ_ _=>False) [] H' b:=λ{H'} hn b hb=>by
  have f:=hf b hb
  refine⟨hn b hb,aN6 (aL4 (hfl b hb) hCle),λz=>?_,.inl hb,λx c e=>(j7 e).elim (λz=>aW7 (Nat.lt_trans (aL4 (hfl b hb) hCle) (hco₁.empty x c z).2)) λz=>f.2.2.2.2.1 x c (nT scope.names [] (S.cells I) (λ_ _ z=>by simp at z) z.2),λp hp=>absurd (show p∈([]:List (Addr×Obj)) from hp) (by simp)⟩
  rcases aL0.mp (I.stkSub b z) with e|e
  ·exact f.2.1 e
  ·exact f.2.2.1 e
 generalize hX:cU X scope N s H H2.objs.size fp (λ_ _=>False)=Y at stat
 have I0:a8 Y [] (eL fr σ) (upd H s.heap.objs.size (.lst [])) { s with heap:=h₁ }:=hX▸ae6 S I hf hfl (aK8 _) hCle hDC old hns₁ hacc hco₁
 have bt:PG Y tg g:=hX▸B.tg H2.objs.size fp
 have bi:j8 Y ifs tc:=hX▸B.ifs H2.objs.size fp
 have be:PE Y elt te:=hX▸B.elt H2.objs.size fp
 have eP:Y.prog=X.prog:=by rw[<- hX];rfl
 have ew:Y.w=X.w:=by rw[<- hX];rfl
 have eK:Y.K=X.K:=by rw[<- hX];rfl
 have eA:Y.A=X.A:=by rw[<- hX];rfl
 have eE:Y.env=compEnvC scope (fO X scope H2.objs.size) H2.objs.size X.env:=by rw[<- hX];rfl
 have eX:Y.xe=λ_ _=>False:=by rw[<- hX];rfl
 have ec:Y.calm=true:=by rw[<- hX];exact hc
 have never:∀{E:Value->Shared->Prop} (e:Value) (s':Shared),Y.xe e s'->E e s':=λ{E} e s' z=>by rw[eX]at z;exact z.elim
 have out:∀{pins' σ' H' s'},a8 Y pins' σ' H' s'->a8 X pins σ H' s':=λ{_ _ _ _} I'=>af1 (C:=H2.objs.size) (E:=λ_ _=>False) (scope:=scope) (N:=N) I hf (hX▸I')
 have loop:codeAny (model X.prog X.w) X.A (.compLoop (.ListComp elt [⟨tg,iter,ifs,0⟩] scope pos) 0 (.ref it) (.ref s.heap.objs.size) (compEnvC scope (fO X scope H2.objs.size) H2.objs.size X.env))
   (Rr (.ref s.heap.objs.size) H2.objs.size) { s with heap:=h₁ }:=by
  refine ae8 (λn s'=>∃i acc H',a8 Y [] (eL fr σ) H' s'/\tn i s'.heap/\(∀b∈fp,H' b=none)/\W i n acc H') ?_ m0 ⟨0,[],_,I0,st1,fr0,w0⟩
  rintro n s3 ⟨i,acc,H3,I3,st3,fr3,w3⟩
  unfold rY
  dsimp only
  obtain⟨hD3,step⟩:=turn i n acc H3 w3
  rcases step with⟨stop,qn⟩|⟨go,step⟩
  ·have z:=T.done Y eP ew eK ec i [] s3 _ H3 (notedBy (model X.prog X.w) X.A (compEnvC scope (fO X scope H2.objs.size) H2.objs.size X.env) λe s'=>Rr (.ref s.heap.objs.size) H2.objs.size (.error e) s') I3 (stat fr3) st3 stop
   rw[eA]at z
   refine aR z λr s4 ⟨hr,I4⟩=>?_
   subst hr
   obtain⟨m4,hn4,_⟩:=I4.loc
   rw[eE]at hn4
   have f4:=I4.free
   rw[eE]at f4
   exact hend _ _ s4 H3 m4 hCle (aK8 _) (out I4) hn4 f4 qn
  ·have z:=T.item Y eP ew eK ec i [] s3 _ H3 (notedBy (model X.prog X.w) X.A (compEnvC scope (fO X scope H2.objs.size) H2.objs.size X.env) λe s'=>Rr (.ref s.heap.objs.size) H2.objs.size (.error e) s') I3 (stat fr3) st3 go
   rw[eA]at z
   refine aR z λr s4 ⟨u,hr,h4⟩=>?_
   subst hr
   refine aR h4 λ_ s5 ⟨x,H5,I5,r5,y5,st5,fr5⟩=>?_
   have I5':=I5.pinned (stat fr5) (T.obj _ _ st5)
   have q1:=bt _ s5 _ H5 x u _ I5' r5 (step x H5 y5)
   rw[eP,ew,eA,eE]at q1
   refine aR0 q1 (λ_ s6 ⟨σ6,H6,I6,wk,q6⟩=>?_) never
   have q2:=bi _ s6 σ6 H6 _ I6 q6
   rw[eP,ew,eA,eE]at q2
   refine aR0 q2 (λb s7 ⟨H7,I7,q7⟩=>?_) never
   have again:∀{H8:Hp}{s8:Shared}{acc':List V},a8 Y ([]++lG fp s5.heap) σ6 H8 s8->(∃m',m'<n/\W (i+1) m' acc' H8)->∃m,m<n/\∃i acc H',a8 Y [] (eL fr σ) H' s8/\tn i s8.heap/\(∀b∈fp,H' b=none)/\W i m acc H':=λ{H8 s8 acc'} I8 n8=>by
    obtain⟨m',hm,w8⟩:=n8
    refine⟨m',hm,i+1,acc',H8,(I8.unpinned).weak wk.1 wk.2,T.keep _ _ _ st5 λb hb o e=>(I8.pin (b,o) (aN1 _ (aN1 _ (nH hb e)))).1,λb hb=>?_,w8⟩
    obtain⟨o,e,d⟩:=T.obj _ _ st5 b hb
    exact (I8.pin (b,o) (aN1 _ (aN1 _ (nH hb e)))).2.1
   cases b with
   |false=>
    rw[if_neg aL6]at q7 ⊢
    exact again I7 q7
   |true=>
    rw[if_pos rfl]at q7 ⊢
    have q3:=be _ s7 σ6 H7 _ I7 q7
    rw[eP,ew,eA,eE]at q3
    refine aR0 q3 (λv s8 ⟨y,H8,I8,r8,hD8,hz8,q8⟩=>?_) never
    have q4:=wZ _ s8 σ6 H8 (.ref s.heap.objs.size) [y] (.ref s.heap.objs.size) [v] (λ_ H9=>∃m',m'<n/\W (i+1) m' (acc++[y]) H9) I8 rfl (.cons r8 .nil) ⟨_,_,_,rfl,rfl,hD8,hz8,q8⟩
    rw[eP,ew,eA]at q4
    exact aR0 q4 (λ_ s9 ⟨_,H9,I9,_,q9⟩=>again I9 q9) never
 exact codeAny_compStart_list loop (T.self _ 0 _ _ _ st1 loop)
end
section
variable {X:Cx}{scope:Scope}{N:List Str}{fr:List (Option Nat)}{tg iter elt:Expr}{ifs:List Expr}{pos:Pos}{wi:TI}{g:TG}{tc:TT}{te:TE}
theorem a8.drop {pins:List (Addr×Obj)}{σ:St}{H H':Hp}{s s':Shared}{C:Addr}{h':Heap}(I0:a8 X pins σ H s)(hC:s.heap.objs.size<=C){σ':St}(I:a8 X pins σ' H' s')(hn:H' C=none)(sb:Heap.SameBut C s'.heap h'):a8 X pins σ' H' { s' with heap:=h' }:=by
 refine I.turned (t':=s'.toks) (it:=C) (λb o hb e=>(sb.2 b hb).trans e) hn (aW7 (aL4 I0.lt hC)) (.inr (aN8 I0.sz hC)) (λx c e z=>?_) λp hp z=>?_
 ·obtain⟨v,q⟩:=I0.cell x c e
  exact absurd (aL4 q.lt (by rw[z];exact hC)) (aQ5 _)
 ·exact absurd (aL4 (aL8 (I0.pin p hp).1) (by rw[z];exact hC)) (aQ5 _)
theorem xK (hc:X.calm=true)(S:eM X scope N fr)(hi:PI X tg iter wi)(B:nZ X scope N tg ifs elt g tc te)(hs:∀x,foldedSetIterable iter X.env x=pure x:=by intro _;rfl):PE X (.ListComp elt [⟨tg,iter,ifs,0⟩] scope pos) (ae9 wi fr g tc te):=by
 intro pins s σ H Q I h
 rw[eval_ListComp]
 refine wpAny_comprehension_free (use:=none) rfl hs (xH (S.cells I)) S.kind S.names (aR (hi pins s σ H _ I h) λv s1 h1=>aR h1 λitv s2 h2=>?_)
 obtain⟨it,fp,tn,J,H2,e,I2,T,st2,f2,hW⟩:=h2
 subst e
 refine xJ (Rr:=λacc C=>compPost (model X.prog X.w) X.A X.xe none (EP X pins σ Q) acc C) hc S (B.at _ _) I2 T st2 f2 hW ?_
 intro D C s' H' m hC hD I' hns hHC q
 exact⟨m,hns,λh' sb=>⟨.ref D,H',I2.drop hC I' hHC sb,rfl,q⟩⟩
variable {gh:Hp→TG}{tch:Hp→TT}{teh:Hp→TE}
noncomputable def xL (wi:TI)(fr:List (Option Nat))(gh:Hp->TG)(tch:Hp->TT)(teh:Hp->TE):TE:=λσ H Q=>wi σ H λJ H1=>∀D,H1 D=none->
 ∃W:Nat->Nat->List V->Hp->Prop,(∃m,W 0 m [] (upd H1 D (.lst [])))/\nX (gh H1) (tch H1) (teh H1) (eL fr σ) J D Q W
theorem xM (hc:X.calm=true)(S:eM X scope N fr)(hi:PI X tg iter wi)(B:∀(s:Shared) (H:Hp),nY X scope N tg ifs elt s H (gh H) (tch H) (teh H))(hs:∀x,foldedSetIterable iter X.env x=pure x:=by intro _;rfl):PE X (.ListComp elt [⟨tg,iter,ifs,0⟩] scope pos) (xL wi fr gh tch teh):=by
 intro pins s σ H Q I h
 rw[eval_ListComp]
 refine wpAny_comprehension_free (use:=none) rfl hs (xH (S.cells I)) S.kind S.names (aR (hi pins s σ H _ I h) λv s1 h1=>aR h1 λitv s2 h2=>?_)
 obtain⟨it,fp,tn,J,H2,e,I2,T,st2,f2,hW⟩:=h2
 subst e
 refine xJ (Rr:=λacc C=>compPost (model X.prog X.w) X.A X.xe none (EP X pins σ Q) acc C) hc S (B _ _) I2 T st2 f2 hW ?_
 intro D C s' H' m hC hD I' hns hHC q
 exact⟨m,hns,λh' sb=>⟨.ref D,H',I2.drop hC I' hHC sb,rfl,q⟩⟩
end
theorem bI {H:Hp}{p:Addr}(h:H p=none)(o:HO):aB H (upd H p o):=λb u q=>by rw[b9 (fI q h)];exact q
theorem aB.tup {K:ac}{H H':Hp}{a:Addr}{xs:List V}(e:aB H H')(h:aL K H a xs):aL K H' a xs:=by
 rcases h with (h|⟨o,h⟩)|h
 ·exact .inl (.inl (e _ _ h))
 ·exact .inl (.inr ⟨o,e _ _ h⟩)
 ·exact .inr h
noncomputable def CW (H1:Hp)(D:Addr)(n:Nat)(Pv:Nat->List V->Hp->Prop):Nat->Nat->List V->Hp->Prop:=λi m acc H'=>m=n-i/\i<=n/\acc.length<=i/\aB H1 H'/\H' D=some (.lst acc)/\Pv i acc H'
noncomputable def xN (H1:Hp)(D:Addr)(n:Nat)(Pv:Nat->List V->Hp->Prop)(i:Nat)(acc:List V)(v:V)(H5:Hp):Prop:=H5 D=some (.lst acc)/\acc.length<sizeLine/\∃m',m'<n-i/\CW H1 D n Pv (i+1) m' (acc++[v]) (upd H5 D (.lst (acc++[v])))
noncomputable def CNo (H1:Hp)(D:Addr)(n:Nat)(Pv:Nat->List V->Hp->Prop)(i:Nat)(acc:List V)(H4:Hp):Prop:=∃m',m'<n-i/\CW H1 D n Pv (i+1) m' acc H4
structure rZ (H1:Hp)(D:Addr)(n i:Nat)(acc:List V)(H':Hp):Prop where
 lt:i<n
 few:acc.length<=i
 sz:n<=sizeLine
 same:aB H1 H'
 new:H1 D=none
 acc:H' D=some (.lst acc)
theorem rZ.yes {H1:Hp}{D:Addr}{n i:Nat}{acc:List V}{H' H5:Hp}{Pv:Nat->List V->Hp->Prop}{v:V}(c:rZ H1 D n i acc H')(s:aB H' H5)(p:Pv (i+1) (acc++[v]) (upd H5 D (.lst (acc++[v])))):xN H1 D n Pv i acc v H5:=by
 refine⟨s _ _ c.acc,Nat.lt_of_le_of_lt c.few (aL4 c.lt c.sz),_,?_,rfl,c.lt,?_,λb o e=>?_,bP,p⟩
 ·have:=c.lt;omega
 ·rw[aL9,aP2];exact Nat.succ_le_succ c.few
 ·rw[b9 (fI e c.new)];exact s _ _ (c.same _ _ e)
end L2
namespace Srt
open PySem PySem.W PyProof.Rows
noncomputable abbrev G (p:Array Nat)(i:Nat):Nat:=p.getD i 0
noncomputable def PP (n:Nat)(p:Array Nat):Prop:=p.toList.Perm (List.range n)
structure xO (c:Nat->Nat->Bool):Prop where
 asym:∀{i j},c i j=true->c j i=false
 ntr:∀{i j k},c i j=false->c j k=false->c i k=false
section
variable {c:Nat→Nat→Bool}(O:xO c)
noncomputable def Le (c:Nat->Nat->Bool)(i j:Nat):Prop:=c j i=false
include O
theorem le_refl (i:Nat):Le c i i:=by
 unfold Le
 cases h:c i i with
 |false=>rfl
 |true=>have:=O.asym h;rw[h]at this;exact this
theorem le_trans {i j k:Nat}(h1:Le c i j)(h2:Le c j k):Le c i k:=O.ntr h2 h1
end
end Srt
namespace L2
open PySem PySem.Spec PyProof.Rows
theorem sA:∀{xs:List V}{us:List Value} (i:Nat),i<xs.length->aQ xs us->aT (xs.getD i .non) (us.getD i Value.none)
 |_,_,_,h,.nil=>by simp at h
 |_,_,0,_,.cons r _=>by simpa using r
 |_,_,i+1,h,.cons _ t=>by
  have:=sA i (by simpa using h) t
  simpa using this
theorem o0 {α:Type}:∀l:List α,(l.zip l).map (·.2)=l
 |[]=>rfl
 |a::l=>by
  show a::((l.zip l).map (·.2))=a::l
  rw[o0 l]
theorem af2 {prog:Program}{w:World}{A:Around}{E:Value->Shared->Prop}{s:Shared}{a:Addr}{vs:List Value}{n:Nat}{P:PySem.Fin->Shared->Prop}(e:s.heap.get? a=some (seqObj "list" vs.toArray n))(few:vs.length<2)(q:P (.done (.ret .none)) { s with heap:=sortedHeap s.heap a vs vs.toArray }):wpAny (model prog w) A (Builtin.«list.sort» ⟨[.ref a],[]⟩) P E s:=by
 have big:vs.length<=sizeLine:=aN8 (aR3 few) (by decide)
 have la:=aL8 e
 have c:vs.toArray.size<2:=by simpa using few
 have same:(arrOf (SortSt.mk' general' (vs.toArray.zip vs.toArray) #[] 7 none)).map (·.2)=vs.toArray:=by
  change (vs.toArray.zip vs.toArray).map (·.2)=vs.toArray
  apply Array.ext'
  simpa using o0 vs
 obtain⟨k,ek⟩:∃k,(s.heap.update a (Obj.mapSeq λ_=>#[])).get? a=some (seqObj "list" #[] k):=⟨_,get?_update_seq e λ_=>#[]⟩
 have there:(((s.heap.update a (Obj.mapSeq λ_=>#[])).push (seqObj "tuple" vs.toArray 0)).push (seqObj "list" #[] 0)).get? a=some (seqObj "list" #[] k):=
  aK4 _ (aK4 _ ek)
 rw[list_sort_plain]
 apply aK2
 apply listItems_at e rfl
 apply aK2
 refine listUpdate_at e rfl ?_ (by simpa using big) (aP3 _)
 apply aK2
 apply seqEpoch_at ek rfl
 apply aK2
 refine wpAny_newTuple ?_ big
 apply aK2
 refine wpAny_newList ?_ (aP3 _)
 apply aV1
 simp only[c,if_true,StateT.run_pure]
 apply aK2
 apply aK7
 apply aK2
 apply aK7
 apply aK2
 apply seqEpoch_at there rfl
 apply aK2
 refine listUpdate_at there rfl ?_ (aP3 _) (by rw[same,aK5];exact Nat.le_succ_of_le big)
 rw[same]
 simp only[bne_self_eq_false,aN5,aT6]
 exact aK7 q
noncomputable def af3 (K:ac):List V->Hp->VK->Prop:=λxs H Q=>∃a ns,xs = [.ref a]/\aM K H a (ns.map V.int)/\ns.length<64/\∀l (ms:ae),H l=none->ms.Perm ns->ms.Pairwise (· <= ·)->Q (.ref l) (upd H l (.lst (ms.map V.int)))
theorem af4 {X:Cx}:cG X (.builtin "sorted") (af3 X.K):=by
 intro pins s σ H xs us Q I r h
 obtain⟨a,ns,rfl,hs,h64,q⟩:=h
 obtain⟨u,rfl,ru⟩:=eG r
 cases ru
 obtain⟨its,rv,p,hz⟩:=I.list hs
 have hl:=rv.length
 rw[aL2]at hl
 refine sorted_ints p.isList (j5 rv) (by omega) λout ns' a1 a2 a3=>?_
 obtain⟨e,he⟩:=sortedAll_at s.heap its out
 have hn:s.heap.objs.size<=s.heap.objs.size+1:=aY0 _
 have hlen:ns'.length=ns.length:=a2.length_eq
 refine⟨.ref (s.heap.objs.size+1),upd H (s.heap.objs.size+1) (.lst (ns'.map V.int)),I.laid (t':=s.toks) (λ_ _=>sortedAll_old) hn ⟨?_,out.toList,e,nQ a1,by simpa using he⟩,rfl,q _ ns' (I.hok.fresh hn) a2 a3⟩
 rw[aL2,hlen]
 exact aR3 (rQ (by omega))
theorem lO:∀{a b:ae},HT.cD a b=true->HT.cD b a=false
 |[],[],h=>by cases h
 |[],_::_,_=>rfl
 |_::_,[],h=>by cases h
 |x::xs,y::ys,h=>by
  rw[HT.nN]at h ⊢
  by_cases e:x=y
  ·rw[if_pos e]at h;rw[if_pos e.symm];exact lO h
  ·rw[if_neg e]at h;rw[if_neg (Ne.symm e)]
   have:=of_decide_eq_true h
   exact aK9 (by omega)
theorem sB:∀{a b c:ae},HT.cD a b=false->HT.cD b c=false->HT.cD a c=false
 |[],[],c,_,h=>h
 |[],_::_,_,h,_=>by cases h
 |_::_,[],[],_,_=>rfl
 |_::_,[],_::_,_,h=>by cases h
 |_::_,_::_,[],_,_=>rfl
 |x::xs,y::ys,z::zs,h1,h2=>by
  rw[HT.nN]at h1 h2 ⊢
  by_cases e1:x=y
  ·rw[if_pos e1]at h1
   by_cases e2:y=z
   ·rw[if_pos e2]at h2;rw[if_pos (e1.trans e2)];exact sB h1 h2
   ·rw[if_neg e2]at h2;rw[if_neg (by rw[e1];exact e2)];rw[e1];exact h2
  ·rw[if_neg e1]at h1
   have k1:=of_decide_eq_false h1
   by_cases e2:y=z
   ·rw[<- e2,if_neg e1];exact h1
   ·rw[if_neg e2]at h2
    have k2:=of_decide_eq_false h2
    rw[if_neg (by omega)]
    exact aK9 (by omega)
theorem sC:∀{a b:ae},HT.cD a b=false->HT.cD b a=false->a=b
 |[],[],_,_=>rfl
 |[],_::_,h,_=>by cases h
 |_::_,[],_,h=>by cases h
 |x::xs,y::ys,h1,h2=>by
  rw[HT.nN]at h1 h2
  by_cases e:x=y
  ·rw[if_pos e]at h1;rw[if_pos e.symm]at h2;rw[e,sC h1 h2]
  ·rw[if_neg e]at h1;rw[if_neg (Ne.symm e)]at h2
   have:=of_decide_eq_false h1
   have:=of_decide_eq_false h2
   omega
section
variable {prog:Program}{w:World}{A:Around}{s:Shared}{Q:Bool→Shared→Prop}
theorem xP:∀{us ws:List Value}{xs ys:ae} (i:Nat),IntsAre us xs->IntsAre ws ys->Q (HT.cD xs ys) s->PySem.W.KatLex prog w A true (decide (us.length<ws.length)) Q (us.zip ws) i s
 |_,_,_,_,_,.nil,.nil,h=>h
 |_,_,_,_,_,.nil,.cons _ _ _,h=>h
 |_,_,_,_,_,.cons _ _ _,.nil,h=>h
 |_,_,_,_,i,.cons (vs:=us) x t hx,.cons (vs:=ws) y u hy,h=>by
  refine PySem.W.kat_cons (wpAny_eqBool_int ?_)
  rw[HT.nN]at h
  by_cases e:x=y
  ·rw[if_pos e]at h
   have eb:(x==y)=true:=by simpa using e
   rw[eb]
   refine PySem.W.kat_yes ?_
   have e2:decide ((Value.int x t::us).length<(Value.int y u::ws).length)=decide (us.length<ws.length):=by simp
   rw[e2]
   exact xP (i+1) hx hy h
  ·rw[if_neg e]at h
   have eb:(x==y)=false:=by simpa using e
   rw[eb]
   refine PySem.W.kat_no ?_
   cases hi:(true&&i==0) with
   |true=>exact PySem.W.kat_lt_int h
   |false=>exact PySem.W.kat_one _ _ (lt_int h)
end
section
variable {X:Cx}{pins:List (Addr×Obj)}{σ:St}{H:Hp}{s:Shared}{a:Addr}
noncomputable def af5 (H:Hp)(y:V)(k:List aJ):Prop:=∃q,y = .ref q/\H q=some (.tup (k.map kV))
end
section
variable {X:Cx}
theorem af6:cG X (.builtin "isinstance") (λxs H Q=>∃x t n b,xs = [x,.ty n]/\eI X.K H x t/\PySem.W.kitOne X.K t (.type n)=some b/\Q (.bl b) H):=by
 intro pins s σ H xs us Q I r h
 obtain⟨x,t,n,b,rfl,ty,e,q⟩:=h
 obtain⟨u,u',rfl,ru,ru'⟩:=lJ r
 cases ru'
 exact Z0 I ru ty e λtk=>⟨.bl b,H,I.tok tk,rfl,q⟩
end
noncomputable def xQ (outer:List (Str×NameKind))(XN:List Str)(names:List (Str×NameKind))(N:List Str)(fr:List (Option Nat)):Bool:=
 names.all (λy=>!(y.2==.cell)||names.lookup y.1==some .cell)&&names.all (λy=>!(y.2==.local)||names.lookup y.1==some .local) &&
 names.all (λy=>!(y.2==.free)||(outer.lookup y.1==some .cell||outer.lookup y.1==some .free))&&fr.length==N.length &&
 (fr.zip N).all (λp=>match p.1 with
  |none=>true
  |some j=>XN[j]?==some p.2&&names.lookup p.2==some .free)
theorem eM.of {X:Cx}{scope:Scope}{N:List Str}{fr:List (Option Nat)}(hk:scope.kind = .function)(h:xQ X.env.scope.names X.N scope.names N fr=true):eM X scope N fr:=by
 unfold xQ at h
 simp only[aN3]at h
 obtain⟨⟨⟨⟨h1,h2⟩,h3⟩,h4⟩,h5⟩:=h
 refine⟨hk,λy hy e=>?_,λy hy e=>?_,λy hy e=>?_,by simpa using h4,λi j e=>?_⟩
 ·have:=aR4.mp h1 y hy
  rw[e]at this;simpa using this
 ·have:=aR4.mp h2 y hy
  rw[e]at this;simpa using this
 ·have:=aR4.mp h3 y hy
  rw[e]at this;simpa using this
 ·have hl:fr.length=N.length:=by simpa using h4
  have hi:i<fr.length:=(aM0.mp e).1
  have m:(some j,N[i]'(by omega))∈fr.zip N:=by
   have:(fr.zip N)[i]? = some (some j,N[i]'(by omega)):=by
    rw[List.getElem?_zip_eq_some]
    exact⟨e,by simp⟩
   exact aW8 this
  have:=aR4.mp h5 _ m
  simp only[aN3,beq_iff_eq]at this
  exact⟨N[i]'(by omega),by simp,this.1,this.2⟩
noncomputable def o3 (ls:aa)(k:Int):ae:=ls.flatMap λl=>(if l.1=k then [l.2] else [])++(if l.2=k then [l.1] else [])
theorem xR {α:Type}{xs:List α}{i:Int}{v:α}(h0:0<=i)(h:xs[i.toNat]? = some v):atI xs i=some v:=by
 have:=nO h
 rwa [show ((i.toNat:Nat):Int)=i by omega]at this
theorem k7 {n:Nat}(h:n<=16000000):n<sizeLine:=by rw[sizeLine_eq];omega
theorem sD {σ:St}{H:Hp}{A B:Hp->Prop}(h:A H):rW σ H λb H4=>if b=true then A H4 else B H4:=by
 show if true=true then A H else B H
 rw[if_pos rfl];exact h
theorem tyL {K:ac}{H:Hp}{p:Addr}{xs:List V}(h:aM K H p xs):fX K "list" (.ref p) H:=.inl ⟨rfl,xs,h⟩
end L2
namespace Zp
open PySem PyProof.Rows
section
variable {prog:Program}{w:World}{A:Around}{E:Value→Shared→Prop}{s:Shared}
theorem af7 {it t:Addr}{i:Nat}{items:Array Value}{x:Value}{Q:Value->Shared->Prop}(hi:s.heap.IsTupleIter it t i)(ht:s.heap.IsTuple t items)(hx:items[i]? = some x)(q:∀h',h'.IsTupleIter it t (i+1)->Heap.SameBut it s.heap h'->Q x { s with heap:=h' }):wpAny (model prog w) A (Builtin.SmallTypes.nextOf (.ref it)) Q E s:=by
 have T:=hi.typeIs
 obtain⟨o,e1,e2,e3⟩:=hi
 obtain⟨u,f1,_,k,f3⟩:=ht
 have slot:=PySem.F.slot_tuple_iterator_next
 have isref:(Value.ref t==Value.none)=false:=rfl
 unfold Builtin.SmallTypes.nextOf
 apply aK2
 apply aS7 (name:=Str.ofString "__next__") T slot
 apply aT7 slot T PySem.F.entry_tuple_iterator_next _ (PySem.F.args_tuple_iterator_next_1 _)
 change wpAny _ _ (field (.ref it) 0 >>= _) _ _ s
 apply aK2
 refine aS0 e1 e3 (x:=.ref t) rfl ?_
 change wpAny _ _ (if (Value.ref t==Value.none)=true then _ else _) _ _ s
 simp only[isref,aN5,aT6]
 change wpAny _ _ (field (.ref it) 1 >>= _) _ _ s
 apply aK2
 refine aS0 e1 e3 (x:=.int i 0) rfl ?_
 change wpAny _ _ (seqItems? (.ref t) >>= _) _ _ s
 apply aK2
 apply aV7 f1 f3
 simp only[Int.toNat_natCast,hx]
 apply aK2
 refine wpAny_setField e1 e3 (by simp) ?_
 apply aK7
 refine⟨x,rfl,aK7 (q _ ⟨_,Heap.get?_update_self _ e1 (Obj.isFreed_of_fields (Obj.data_mapFields e3 _)),?_,?_⟩ (Heap.SameBut.update ..))⟩
 ·rw[Obj.cls_mapFields];exact e2
 ·rw[Obj.data_mapFields e3];simp[rawInt]
theorem af8 {it t:Addr}{i:Nat}{items:Array Value}{Q:Value->Shared->Prop}(hh:A.handled=none)(hi:s.heap.IsTupleIter it t i)(ht:s.heap.IsTuple t items)(hx:items[i]? = none)(q:∀h' e,Heap.ExtBut it s.heap h'->(∃o,h'.get? e=some o/\o.cls = .type "StopIteration")->E (.ref e) { s with heap:=h' }):wpAny (model prog w) A (Builtin.SmallTypes.nextOf (.ref it)) Q E s:=by
 have T:=hi.typeIs
 obtain⟨o,e1,e2,e3⟩:=hi
 obtain⟨u,f1,_,k,f3⟩:=ht
 have slot:=PySem.F.slot_tuple_iterator_next
 have isref:(Value.ref t==Value.none)=false:=rfl
 unfold Builtin.SmallTypes.nextOf
 apply aK2
 apply aS7 (name:=Str.ofString "__next__") T slot
 apply aT7 slot T PySem.F.entry_tuple_iterator_next _ (PySem.F.args_tuple_iterator_next_1 _)
 change wpAny _ _ (field (.ref it) 0 >>= _) _ _ s
 apply aK2
 refine aS0 e1 e3 (x:=.ref t) rfl ?_
 change wpAny _ _ (if (Value.ref t==Value.none)=true then _ else _) _ _ s
 simp only[isref,aN5,aT6]
 change wpAny _ _ (field (.ref it) 1 >>= _) _ _ s
 apply aK2
 refine aS0 e1 e3 (x:=.int i 0) rfl ?_
 change wpAny _ _ (seqItems? (.ref t) >>= _) _ _ s
 apply aK2
 apply aV7 f1 f3
 simp only[Int.toNat_natCast,hx]
 apply aK2
 apply aV8
 apply aK2
 refine wpAny_setField e1 e3 (by simp) ?_
 apply aK2
 simp only[newExc,newTuple]
 apply aK2
 refine aU6 ?_ (by size_fits)
 apply aK2
 refine wpAny_of_eq (a:=Value.none) (by first|rfl|(simp only[firstArgMember];rfl)) ?_
 refine aU6 ?_ (by size_fits)
 unfold raiseNew
 apply aK2
 apply wpAny_handled
 have quiet:A.in1.handled=none:=hh
 rw[quiet]
 refine wpAny_throw ?_
 exact q _ _ (((Heap.SameBut.update ..).extBut.push _).push _) ⟨_,aM4 _ rfl,rfl⟩
theorem af9 (hh:A.handled=none)(it t:Addr)(ne:t≠it)(items:Array Value):Draws prog w A it [it,t] items.size (λi v=>items[i]? = some v) (λi h=>h.IsTupleIter it t i/\h.IsTuple t items) where
 live:=λ_ _ st=>st.1.elim λo y=>⟨o,y.1⟩
 frame:=λ_ _ _ st k=>⟨st.1.at λo e=>k it aM3 o e,st.2.elim λo y=>⟨o,k t (aM6 _ aM3) o y.1,y.2⟩⟩
 item:=λi s Q E lt st q=>af7 st.1 st.2 (Array.getElem?_eq_getElem lt) λh' again sb=>q _ h' s.toks (Array.getElem?_eq_getElem lt) ⟨again,st.2.elim λo y=>⟨o,sb.extBut t o ne y.1,y.2⟩⟩ sb
 done:=λs Q E st q=>af8 hh st.1 st.2 (Array.getElem?_eq_none (aK8 _)) q
end
structure Ap (z TI TO i1 i2:Addr)(fp1 fp2:List Addr):Prop where
 TIz:TI≠z
 TOz:TO≠z
 TITO:TI≠TO
 z1:z∉fp1
 z2:z∉fp2
 o1:TO∉fp1
 o2:TO∉fp2
 t1:TI∉fp1
 t2:TI∉fp2
 m1:i1∈fp1
 m2:i2∈fp2
 n1:i1∉fp2
 n2:i2∉fp1
structure sE (z TI TO i1 i2:Addr)(St1 St2:Nat->Heap->Prop)(f0:Value)(i j:Nat)(h:Heap):Prop where
 zz:IsZip h z TI TO f0
 ti:IsPair h TI (.ref i1) (.ref i2)
 to_:∃a b,IsPair h TO a b
 s1:St1 i h
 s2:St2 j h
section
variable {prog:Program}{w:World}{A:Around}{E:Value→Shared→Prop}{s:Shared}{z TI TO i1 i2:Addr}{fp1 fp2:List Addr}{n1 n2:Nat}{P1 P2:Nat→Value→Prop}{St1 St2:Nat→Heap→Prop}
theorem k8 (ap:Ap z TI TO i1 i2 fp1 fp2){b:Addr}(h:b∉fp1):b≠i1:=λe=>h (e▸ap.m1)
theorem o4 (ap:Ap z TI TO i1 i2 fp1 fp2){b:Addr}(h:b∉fp2):b≠i2:=λe=>h (e▸ap.m2)
theorem item (D1:Draws prog w A.in1 i1 fp1 n1 P1 St1)(D2:Draws prog w A.in1 i2 fp2 n2 P2 St2)(ap:Ap z TI TO i1 i2 fp1 fp2){i:Nat}(l1:i<n1)(l2:i<n2)(st:sE z TI TO i1 i2 St1 St2 .none i i s.heap){Q:Option Value->Shared->Prop}(q:∀x y h' tk,P1 i x->P2 i y->sE z TI TO i1 i2 St1 St2 (rawInt s.heap.objs.size) (i+1) (i+1) h'->IsPair h' s.heap.objs.size x y->(∀c o,c≠z->c≠TO->c≠i1->c≠i2->s.heap.get? c=some o->h'.get? c=some o)->
   h'.objs.size=s.heap.objs.size+1->Q (some (.ref s.heap.objs.size)) { s with heap:=h',toks:=tk }):wpAny (model prog w) A (pyNext (.ref z)) Q E s:=by
 obtain⟨hz,hti,⟨a,b,hto⟩,h1,h2⟩:=st
 have T:s.TypeIs (.ref z) "zip":=⟨_,hz,rfl⟩
 have slot:=PySem.F.slot_zip_next
 unfold pyNext
 apply aK2
 apply wpAny_attempt
 apply aS7 (name:=Str.ofString "__next__") T slot
 apply aT7 slot T PySem.F.entry_zip_next _ (PySem.F.args_zip_next_1 _)
 change wpAny _ _ (field (.ref z) 2 >>= _) _ _ _
 apply aK2
 refine aS0 hz rfl (x:=.bool false) rfl ?_
 change wpAny _ _ (field (.ref z) 3 >>= _) _ _ _
 apply aK2
 refine aS0 hz rfl (x:=.ref TI) rfl ?_
 apply aK2
 apply aV7 hti rfl
 change wpAny _ _ (Builtin.SmallTypes.ownedTupleIsFree (.ref z) >>= _) _ _ _
 apply aK2
 unfold Builtin.SmallTypes.ownedTupleIsFree
 apply aK2
 refine aS0 hz rfl (x:=.none) rfl (aK7 ?_)
 simp only[if_true]
 apply aK2
 apply aV8
 apply aK2
 refine aS0 hz rfl (x:=.ref TO) rfl ?_
 apply aK2
 refine aV9 hz (by simp) λg1 hz1 sb1=>?_
 have k1:∀c o,c≠z->s.heap.get? c=some o->g1.get? c=some o:=λc o c1 e=>sb1.extBut c o c1 e
 apply aK2
 simp only[List.zipIdx_cons,List.zipIdx_nil,List.forIn_cons,List.forIn_nil]
 apply aK2
 apply aK2
 apply wpAny_onRaise
 change wpAny _ _ (Builtin.SmallTypes.nextOf (.ref i1) >>= _) _ _ _
 apply aK2
 refine D1.item i { s with heap:=g1 } _ _ l1 (D1.frame _ _ _ h1 λc hc o e=>k1 c o (λy=>ap.z1 (y▸hc)) e) λx g2 tk2 px st1 sb2=>aK7 ?_
 have k2:∀c o,c≠z->c≠i1->s.heap.get? c=some o->g2.get? c=some o:=λc o c1 c2 e=>sb2.extBut c o c2 (k1 c o c1 e)
 have to2:IsPair g2 TO a b:=k2 _ _ ap.TOz (k8 ap ap.o1) hto
 apply aK2
 apply aV7 to2 rfl
 apply aK2
 refine wpAny_updateSeq_pair to2 λg3 to3 sb3=>?_
 have to3:IsPair g3 TO x b:=to3
 apply aK2
 apply wpAny_letGo
 apply aK7
 apply aK2
 apply aK2
 apply wpAny_onRaise
 change wpAny _ _ (Builtin.SmallTypes.nextOf (.ref i2) >>= _) _ _ _
 apply aK2
 have k3:∀c o,c≠z->c≠i1->c≠TO->s.heap.get? c=some o->g3.get? c=some o:=λc o c1 c2 c3 e=>sb3.extBut c o c3 (k2 c o c1 c2 e)
 refine D2.item i { s with heap:=g3,toks:=tk2 } _ _ l2 (D2.frame _ _ _ h2 λc hc o e=>k3 c o (λy=>ap.z2 (y▸hc)) (λy=>ap.n1 (y▸hc)) (λy=>ap.o2 (y▸hc)) e) λy g4 tk4 py st2 sb4=>aK7 ?_
 have to4:IsPair g4 TO x b:=sb4.extBut _ _ (o4 ap ap.o2) to3
 apply aK2
 apply aV7 to4 rfl
 apply aK2
 refine wpAny_updateSeq_pair to4 λg5 to5 sb5=>?_
 have to5:IsPair g5 TO x y:=to5
 apply aK2
 apply wpAny_letGo
 apply aK7
 apply aK7
 apply aK2
 apply aV7 to5 rfl
 apply aK2
 refine wpAny_newTuple ?_ (by show 2<=sizeLine;decide)
 have size:g5.objs.size=s.heap.objs.size:=by rw[sb5.1,sb4.1,sb3.1,sb2.1,sb1.1]
 have k5:∀c o,c≠z->c≠TO->c≠i1->c≠i2->s.heap.get? c=some o->g5.get? c=some o:=λc o c1 c2 c3 c4 e=>sb5.extBut c o c2 (sb4.extBut c o c4 (k3 c o c1 c3 c2 e))
 have z5:IsZip g5 z TI TO .ellipsis:=sb5.extBut _ _ (Ne.symm ap.TOz) (sb4.extBut _ _ (o4 ap ap.z2) (sb3.extBut _ _ (Ne.symm ap.TOz) (sb2.extBut _ _ (k8 ap ap.z1) hz1)))
 change wpAny _ _ (Builtin.SmallTypes.ownedTupleHandOut (.ref z) (.ref g5.objs.size) >>= _) _ _ _
 apply aK2
 unfold Builtin.SmallTypes.ownedTupleHandOut
 apply aK2
 have z6:IsZip (g5.push { cls:=.type "tuple",data:=.seq #[x,y] }) z TI TO .ellipsis:=aK4 _ z5
 refine aV9 z6 (by simp) λg7 z7 sb7=>?_
 have z7:IsZip g7 z TI TO (rawInt g5.objs.size):=z7
 refine aV9 z7 (by simp) λg8 z8 sb8=>?_
 have z8:IsZip g8 z TI TO (rawInt g5.objs.size):=z8
 have zlt:z<g5.objs.size:=aL8 z5
 have up:∀c o,c≠z->g5.get? c=some o->g8.get? c=some o:=λc o c1 e=>sb8.extBut c o c1 (sb7.extBut c o c1 (aK4 _ e))
 have p8:IsPair g8 g5.objs.size x y:=sb8.extBut _ _ (aW7 zlt) (sb7.extBut _ _ (aW7 zlt) (aM4 _ rfl))
 have s8:g8.objs.size=g5.objs.size+1:=by rw[sb8.1,sb7.1,aV6]
 have f1:St1 (i+1) g8:=D1.frame _ _ _ st1 λc hc o e=>up c o (λy=>ap.z1 (y▸hc)) (sb5.extBut c o (λy=>ap.o1 (y▸hc)) (sb4.extBut c o (λy=>ap.n2 (y▸hc)) (sb3.extBut c o (λy=>ap.o1 (y▸hc)) e)))
 have f2:St2 (i+1) g8:=D2.frame _ _ _ st2 λc hc o e=>up c o (λy=>ap.z2 (y▸hc)) (sb5.extBut c o (λy=>ap.o2 (y▸hc)) e)
 have ti8:IsPair g8 TI (.ref i1) (.ref i2):=up _ _ ap.TIz (k5 _ _ ap.TIz ap.TITO (k8 ap ap.t1) (o4 ap ap.t2) hti)
 rw[size]at z8 p8 s8
 apply aK7
 refine⟨_,rfl,aK7 ?_⟩
 change Q (some (.ref g5.objs.size)) _
 rw[size]
 exact q x y g8 tk4 px py ⟨z8,ti8,⟨x,y,up _ _ ap.TOz to5⟩,f1,f2⟩ p8 (λc o c1 c2 c3 c4 e=>up c o c1 (k5 c o c1 c2 c3 c4 e)) s8
theorem fin (D1:Draws prog w A.in1 i1 fp1 n1 P1 St1)(D2:Draws prog w A.in1 i2 fp2 n2 P2 St2)(ap:Ap z TI TO i1 i2 fp1 fp2){i:Nat}(le:i=n1∨(i<n1/\i=n2))(st:sE z TI TO i1 i2 St1 St2 .none i i s.heap){Q:Option Value->Shared->Prop}(q:∀h' tk,(∀c o,c≠z->c≠TO->c≠i1->c≠i2->s.heap.get? c=some o->h'.get? c=some o)->Q none { s with heap:=h',toks:=tk }):wpAny (model prog w) A (pyNext (.ref z)) Q E s:=by
 obtain⟨hz,hti,⟨a,b,hto⟩,h1,h2⟩:=st
 have T:s.TypeIs (.ref z) "zip":=⟨_,hz,rfl⟩
 have slot:=PySem.F.slot_zip_next
 unfold pyNext
 apply aK2
 apply wpAny_attempt
 apply aS7 (name:=Str.ofString "__next__") T slot
 apply aT7 slot T PySem.F.entry_zip_next _ (PySem.F.args_zip_next_1 _)
 change wpAny _ _ (field (.ref z) 2 >>= _) _ _ _
 apply aK2
 refine aS0 hz rfl (x:=.bool false) rfl ?_
 change wpAny _ _ (field (.ref z) 3 >>= _) _ _ _
 apply aK2
 refine aS0 hz rfl (x:=.ref TI) rfl ?_
 apply aK2
 apply aV7 hti rfl
 change wpAny _ _ (Builtin.SmallTypes.ownedTupleIsFree (.ref z) >>= _) _ _ _
 apply aK2
 unfold Builtin.SmallTypes.ownedTupleIsFree
 apply aK2
 refine aS0 hz rfl (x:=.none) rfl (aK7 ?_)
 simp only[if_true]
 apply aK2
 apply aV8
 apply aK2
 refine aS0 hz rfl (x:=.ref TO) rfl ?_
 apply aK2
 refine aV9 hz (by simp) λg1 hz1 sb1=>?_
 have k1:∀c o,c≠z->s.heap.get? c=some o->g1.get? c=some o:=λc o c1 e=>sb1.extBut c o c1 e
 apply aK2
 simp only[List.zipIdx_cons,List.zipIdx_nil,List.forIn_cons,List.forIn_nil]
 apply aK2
 apply aK2
 apply wpAny_onRaise
 change wpAny _ _ (Builtin.SmallTypes.nextOf (.ref i1) >>= _) _ _ _
 apply aK2
 have z1:IsZip g1 z TI TO .ellipsis:=hz1
 rcases le with rfl|⟨lt,rfl⟩
 ·refine D1.done { s with heap:=g1 } _ _ (D1.frame _ _ _ h1 λc hc o e=>k1 c o (λy=>ap.z1 (y▸hc)) e) λg2 e eb ex=>?_
  have z2:IsZip g2 z TI TO .ellipsis:=eb _ _ (k8 ap ap.z1) z1
  refine aV9 z2 (by simp) λg3 z3 sb3=>?_
  obtain⟨oe,eo,co⟩:=ex
  have ne:e≠z:=λy=>by
   rw[y,z2]at eo
   have:=aN2 eo
   rw[<- this]at co;exact absurd (show Value.type "zip" = Value.type "StopIteration" from co) (by decide)
  apply aK2
  refine wpAny_isInstance (T:="StopIteration") (b:=true) ⟨oe,sb3.extBut _ _ ne eo,co⟩ isSubtype_stop ?_
  exact aK7 (q g3 s.toks λc o c1 _ c3 _ e=>sb3.extBut c o c1 (eb c o c3 (k1 c o c1 e)))
 ·refine D1.item i { s with heap:=g1 } _ _ lt (D1.frame _ _ _ h1 λc hc o e=>k1 c o (λy=>ap.z1 (y▸hc)) e) λx g2 tk2 px st1 sb2=>aK7 ?_
  have k2:∀c o,c≠z->c≠i1->s.heap.get? c=some o->g2.get? c=some o:=λc o c1 c2 e=>sb2.extBut c o c2 (k1 c o c1 e)
  have to2:IsPair g2 TO a b:=k2 _ _ ap.TOz (k8 ap ap.o1) hto
  apply aK2
  apply aV7 to2 rfl
  apply aK2
  refine wpAny_updateSeq_pair to2 λg3 to3 sb3=>?_
  apply aK2
  apply wpAny_letGo
  apply aK7
  apply aK2
  apply aK2
  apply wpAny_onRaise
  change wpAny _ _ (Builtin.SmallTypes.nextOf (.ref i2) >>= _) _ _ _
  apply aK2
  have k3:∀c o,c≠z->c≠i1->c≠TO->s.heap.get? c=some o->g3.get? c=some o:=λc o c1 c2 c3 e=>sb3.extBut c o c3 (k2 c o c1 c2 e)
  refine D2.done { s with heap:=g3,toks:=tk2 } _ _ (D2.frame _ _ _ h2 λc hc o e=>k3 c o (λy=>ap.z2 (y▸hc)) (λy=>ap.n1 (y▸hc)) (λy=>ap.o2 (y▸hc)) e) λg4 e eb ex=>?_
  have z4:IsZip g4 z TI TO .ellipsis:=eb _ _ (o4 ap ap.z2) (sb3.extBut _ _ (Ne.symm ap.TOz) (sb2.extBut _ _ (k8 ap ap.z1) z1))
  refine aV9 z4 (by simp) λg5 z5 sb5=>?_
  obtain⟨oe,eo,co⟩:=ex
  have ne:e≠z:=λy=>by
   rw[y,z4]at eo
   have:=aN2 eo
   rw[<- this]at co;exact absurd (show Value.type "zip" = Value.type "StopIteration" from co) (by decide)
  apply aK2
  refine wpAny_isInstance (T:="StopIteration") (b:=true) ⟨oe,sb5.extBut _ _ ne eo,co⟩ isSubtype_stop ?_
  exact aK7 (q g5 tk2 λc o c1 c2 c3 c4 e=>sb5.extBut c o c1 (eb c o c4 (k3 c o c1 c3 c2 e)))
end
noncomputable def fC (h:Heap)(t u:Addr):Heap:=
 ((((h.push { cls:=.type "tuple_iterator",data:=.fields #[.ref t,.int 0 0] }).push { cls:=.type "tuple_iterator",data:=.fields #[.ref u,.int 0 0] }).push { cls:=.type "tuple",data:=.seq #[.ref h.objs.size,.ref (h.objs.size+1)] }).push
  { cls:=.type "tuple",data:=.seq #[.none,.none] }).push { cls:=.type "zip",data:=.fields #[.none,.bool false,.bool false,.ref (h.objs.size+2),.ref (h.objs.size+3)] }
theorem ag0 (t u:Addr)(xs ys:Array Value):Meets (Builtin.«zip.__new__» ⟨[.type "zip",.ref t,.ref u],[]⟩) (λ_ R s=>s.heap.IsTuple t xs/\s.heap.IsTuple u ys/\R (.ok (.ret (.ref (s.heap.objs.size+4)))) { s with heap:=fC s.heap t u }):=
 .of_wp λprog w A R s h=>by
  obtain⟨hp,g,d,tk,os⟩:=s
  obtain⟨ht,hu,h⟩:=h
  have sub:=sub_zip
  have a1:Heap.IsTuple (Shared.heap ⟨hp,g,d,tk,os⟩) t xs:=ht
  have a2:Heap.IsTuple (Shared.heap ⟨hp.push { cls:=.type "tuple_iterator",data:=.fields #[.ref t,.int 0 0] },g,d,tk,os⟩) u ys:=hu.elim λo y=>⟨o,aK4 _ y.1,y.2⟩
  wp_walk using wpAny_pyIter_tuple a1,wpAny_pyIter_tuple a2
  have e:∀(o:Obj) (k:Heap),(k.push o).objs.size=k.objs.size+1:=λo k=>aV6 ..
  refine⟨_,rfl,?_⟩
  simp only[fC,e]at h ⊢
  exact h
section
variable {prog:Program}{w:World}{A:Around}{E:Value→Shared→Prop}{s:Shared}
theorem ag1 {t u:Addr}{xs ys:Array Value}{Q:Value->Shared->Prop}(ht:s.heap.IsTuple t xs)(hu:s.heap.IsTuple u ys)(q:∀h',IsZip h' (s.heap.objs.size+4) (s.heap.objs.size+2) (s.heap.objs.size+3) .none->IsPair h' (s.heap.objs.size+2) (.ref s.heap.objs.size) (.ref (s.heap.objs.size+1))->
   IsPair h' (s.heap.objs.size+3) .none .none->h'.IsTupleIter s.heap.objs.size t 0->h'.IsTupleIter (s.heap.objs.size+1) u 0->(∀c o,s.heap.get? c=some o->h'.get? c=some o)->Q (.ref (s.heap.objs.size+4)) { s with heap:=h' }) :
  wpAny (model prog w) A (call (.type "zip") [.ref t,.ref u]) Q E s:=by
 refine callType_new PySem.F.called_zip (by decide) (PySem.F.typeCall_zip_2 _ _) (PySem.F.newCall_zip_2 _ _) (λobj=>PySem.F.args_object_init_3 obj _ _) PySem.F.entry_zip_new (ag0 t u xs ys) ⟨ht,hu,?_⟩
 have e:∀(o:Obj) (k:Heap),(k.push o).objs.size=k.objs.size+1:=λo k=>aV6 ..
 have p0:∀(k:Heap) (o:Obj) (m:Nat),o.isFreed=false->m=k.objs.size->(k.push o).get? m=some o:=λk o m f z=>by rw[z];exact aM4 _ f
 have g0:(fC s.heap t u).get? s.heap.objs.size=some { cls:=.type "tuple_iterator",data:=.fields #[.ref t,.int 0 0] }:=by
  unfold fC
  exact aK4 _ (aK4 _ (aK4 _ (aK4 _ (p0 _ _ _ rfl rfl))))
 have g1:(fC s.heap t u).get? (s.heap.objs.size+1)=some { cls:=.type "tuple_iterator",data:=.fields #[.ref u,.int 0 0] }:=by
  unfold fC
  exact aK4 _ (aK4 _ (aK4 _ (p0 _ _ _ rfl (by simp only[e]))))
 have g2:(fC s.heap t u).get? (s.heap.objs.size+2)=some { cls:=.type "tuple",data:=.seq #[.ref s.heap.objs.size,.ref (s.heap.objs.size+1)] }:=by
  unfold fC
  exact aK4 _ (aK4 _ (p0 _ _ _ rfl (by simp only[e])))
 have g3:(fC s.heap t u).get? (s.heap.objs.size+3)=some { cls:=.type "tuple",data:=.seq #[.none,.none] }:=by
  unfold fC
  exact aK4 _ (p0 _ _ _ rfl (by simp only[e]))
 have g4:(fC s.heap t u).get? (s.heap.objs.size+4)=some { cls:=.type "zip",data:=.fields #[.none,.bool false,.bool false,.ref (s.heap.objs.size+2),.ref (s.heap.objs.size+3)] }:=by
  unfold fC
  exact p0 _ _ _ rfl (by simp only[e])
 refine⟨⟨_,g4,rfl⟩,q _ g4 g2 g3 ⟨_,g0,rfl,rfl⟩ ⟨_,g1,rfl,rfl⟩ λc o z=>?_⟩
 unfold fC
 exact aK4 _ (aK4 _ (aK4 _ (aK4 _ (aK4 _ z))))
end
end Zp
namespace L2
open PySem PySem.Spec PyProof.Rows
noncomputable def sF (K:ac)(a b:Addr):It:=
  ⟨λi H=>∃xs ys x y,aL K H a xs/\aL K H b ys/\xs[i]? = some x/\ys[i]? = some y,
   λi H v H'=>∃T x y,H T=none/\v = .ref T/\H'=upd H T (.tup [x,y])/\∀xs ys,aL K H a xs->aL K H b ys->xs[i]? = some x/\ys[i]? = some y,
   λi H=>∃xs ys,aL K H a xs/\aL K H b ys/\(i=xs.length∨(i<xs.length/\i=ys.length))⟩
noncomputable def Sq (t:Bool)(K:ac)(H:Hp)(a:Addr)(xs:List V):Prop:=match t with
 |true=>aL K H a xs
 |false=>aM K H a xs
noncomputable def fD (t:Bool)(h:Heap)(i a:Addr)(n:Nat):Prop:=match t with
 |true=>h.IsTupleIter i a n
 |false=>h.IsListIter i a n
noncomputable def xS (t:Bool)(h:Heap)(a:Addr)(xs:Array Value):Prop:=match t with
 |true=>h.IsTuple a xs
 |false=>h.IsList a xs
theorem fD.at {h h':Heap}{i a:Addr}{n:Nat}:∀{t:Bool},fD t h i a n->(∀o,h.get? i=some o->h'.get? i=some o)->fD t h' i a n
 |true,x,k=>Heap.IsTupleIter.at x k
 |false,x,k=>Heap.IsListIter.at x k
theorem fD.ob {h:Heap}{i a:Addr}{n:Nat}:∀{t:Bool},fD t h i a n->∃o,h.get? i=some o/\∀v,o.data≠.cell v
 |true,⟨o,f,_,d⟩=>⟨o,f,λv q=>by rw[d]at q;cases q⟩
 |false,⟨o,f,_,d⟩=>⟨o,f,λv q=>by rw[d]at q;cases q⟩
theorem fD.draws {prog:Program}{w:World}{A:Around}:∀(t:Bool) (hh:A.handled=none) (it a:Addr) (ne:a≠it) (items:Array Value),Draws prog w A it [it,a] items.size (λi v=>items[i]? = some v) (λi h=>fD t h it a i/\xS t h a items)
 |true,hh,it,a,ne,items=>Zp.af9 hh it a ne items
 |false,hh,it,a,ne,items=>Draws.list hh it a ne items
section
variable {X:Cx}{pins:List (Addr×Obj)}{σ:St}{H:Hp}{s:Shared}{a:Addr}{xs ys:List V}
theorem Sq.get (I:a8 X pins σ H s):∀{t:Bool},Sq t X.K H a xs->∃us,aQ xs us/\xS t s.heap a us.toArray
 |true,h=>by obtain⟨us,r,p,_⟩:=I.tuple h;exact⟨us,r,p⟩
 |false,h=>by obtain⟨us,r,p,_⟩:=I.list h;exact⟨us,r,p.isList⟩
theorem Sq.inj (I:a8 X pins σ H s):∀{t:Bool},Sq t X.K H a xs->Sq t X.K H a ys->xs=ys
 |true,h,g=>I.tuple_inj h g
 |false,h,g=>I.list_inj h g
theorem Sq.off (I:a8 X pins σ H s)(he:H a=none)(hb:X.base.get? a=none):∀{t:Bool},Sq t X.K H a xs->False
 |true,h=>by
  rcases h with (h|⟨_,h⟩)|⟨o,_,_,h,_⟩
  ·rw[he]at h;cases h
  ·rw[he]at h;cases h
  ·have:=I.ok.mod.kin a o h
   rw[hb]at this;cases this
 |false,h=>by
  rcases h with (h|⟨_,h⟩)|⟨o,_,_,h,_⟩
  ·rw[he]at h;cases h
  ·rw[he]at h;cases h
  ·have:=I.ok.mod.kin a o h
   rw[hb]at this;cases this
end
noncomputable def ag2 (t1 t2:Bool)(K:ac)(a b:Addr):It:=
  ⟨λi H=>∃xs ys x y,Sq t1 K H a xs/\Sq t2 K H b ys/\xs[i]? = some x/\ys[i]? = some y,
   λi H v H'=>∃T x y,H T=none/\v = .ref T/\H'=upd H T (.tup [x,y])/\∀xs ys,Sq t1 K H a xs->Sq t2 K H b ys->xs[i]? = some x/\ys[i]? = some y,
   λi H=>∃xs ys,Sq t1 K H a xs/\Sq t2 K H b ys/\(i=xs.length∨(i<xs.length/\i=ys.length))⟩
structure sG (t1 t2:Bool)(z TI TO i1 i2 a b:Addr)(i:Nat)(h:Heap):Prop where
 zz:IsZip h z TI TO .none
 ti:IsPair h TI (.ref i1) (.ref i2)
 to_:∃x y,IsPair h TO x y
 s1:fD t1 h i1 a i
 s2:fD t2 h i2 b i
theorem xT (t1 t2:Bool){P:Program}{w:World}{K:ac}{elts:List Expr}{k:Nat}{pos:Pos}(a b z TI TO i1 i2:Addr)(d:[z,TI,TO,i1,i2].Nodup) :
  iH P w K (.Tuple elts k pos) (ag2 t1 t2 K a b) [z,TI,TO,i1,i2] z (sG t1 t2 z TI TO i1 i2 a b):=by
 have nd:z≠TI/\z≠TO/\z≠i1/\z≠i2/\TI≠TO/\TI≠i1/\TI≠i2/\TO≠i1/\TO≠i2/\i1≠i2:=by
  simp only[List.nodup_cons,aL0,aM8,aR7,not_or]at d
  obtain⟨⟨a1,a2,a3,a4⟩,⟨b1,b2,b3⟩,⟨c1,c2⟩,e1,_⟩:=d
  exact⟨a1,a2,a3,a4,b1,b2,b3,c1,c2,e1⟩
 obtain⟨n1,n2,n3,n4,n5,n6,n7,n8,n9,n10⟩:=nd
 have offBase:∀{X:Cx}{pins:List (Addr×Obj)}{σ:St}{H:Hp}{s:Shared},a8 X pins σ H s->(∀c∈[z,TI,TO,i1,i2],fJ X pins H c)->∀c∈[z,TI,TO,i1,i2],X.base.get? c=none:=by
  intro X pins σ H s I hf c hc
  cases q:X.base.get? c with
  |none=>rfl
  |some o=>
   rcases (hf c hc).2.2.2.1 with h|h
   ·exact absurd h (I.ok.noex c o q)
   ·exact absurd (aL4 (aL8 q) (aN8 I.ok.bsz h)) (aQ5 _)
 have off:∀{t:Bool}{X:Cx}{pins:List (Addr×Obj)}{σ:St}{H:Hp}{s:Shared}{c:Addr}{zs:List V},a8 X pins σ H s->(∀c∈[z,TI,TO,i1,i2],fJ X pins H c)->Sq t X.K H c zs->c∉[z,TI,TO,i1,i2]:=by
  intro t X pins σ H s c zs I hf hc hm
  exact Sq.off I (hf c hm).1 (offBase I hf c hm) hc
 have ap:∀{c e:Addr},c∉[z,TI,TO,i1,i2]->e∉[z,TI,TO,i1,i2]->Zp.Ap z TI TO i1 i2 [i1,c] [i2,e]:=λ{c e} hc he=>by
  simp only[aL0,aM8,aR7,not_or]at hc he
  obtain⟨c1,c2,c3,c4,c5⟩:=hc
  obtain⟨e1,e2,e3,e4,e5⟩:=he
  have two:∀{q u v:Addr},q≠u->q≠v->q∉[u,v]:=λ{q u v} h1 h2 hm=>by
   simp only[aL0,aM8,aR7]at hm
   exact hm.elim h1 h2
  exact⟨n1.symm,n2.symm,n5,two n3 (Ne.symm c1),two n4 (Ne.symm e1),two n8 (Ne.symm c3),two n9 (Ne.symm e3),two n6 (Ne.symm c2),two n7 (Ne.symm e2),aM3,aM3,two n10 (Ne.symm e4),two n10.symm (Ne.symm c5)⟩
 refine⟨by simp,λi h st c hc=>?_,λi h h' st kp=>?_,?_,?_,λA i s Q E st q=>wpAny_pyIter_zip st.zz q⟩
 ·simp only[aL0,aM8,aR7]at hc
  obtain⟨x,y,to⟩:=st.to_
  rcases hc with rfl|rfl|rfl|rfl|rfl
  ·exact⟨_,st.zz,λv q=>by cases q⟩
  ·exact⟨_,st.ti,λv q=>by cases q⟩
  ·exact⟨_,to,λv q=>by cases q⟩
  ·exact st.s1.ob
  ·exact st.s2.ob
 ·obtain⟨x,y,to⟩:=st.to_
  exact⟨kp z (by simp) _ st.zz,kp TI (by simp) _ st.ti,⟨x,y,kp TO (by simp) _ to⟩,st.s1.at λo e=>kp i1 (by simp) o e,st.s2.at λo e=>kp i2 (by simp) o e⟩
 ·
  intro X hP hw hK hc i pins s σ H E I hf st hg
  subst hP hw hK
  obtain⟨xs,ys,x,y,ha,hb,hx,hy⟩:=hg
  obtain⟨us,ru,pu⟩:=Sq.get I ha
  obtain⟨vs,rv,pv'⟩:=Sq.get I hb
  obtain⟨ux,eux,rux⟩:=ru.get hx
  obtain⟨vy,evy,rvy⟩:=rv.get hy
  have fa:=off I hf ha
  have fb:=off I hf hb
  have hh:X.A.in1.handled=none:=I.ok.hd hc
  have l1:i<us.toArray.size:=by simpa using (aM0.mp eux).1
  have l2:i<vs.toArray.size:=by simpa using (aM0.mp evy).1
  have fa':a≠i1:=λq=>fa (by rw[q];simp)
  have fb':b≠i2:=λq=>fb (by rw[q];simp)
  have D1:=fD.draws t1 (prog:=X.prog) (w:=X.w) hh i1 a fa' us.toArray
  have D2:=fD.draws t2 (prog:=X.prog) (w:=X.w) hh i2 b fb' vs.toArray
  refine Zp.item D1 D2 (ap fa fb) l1 l2 ⟨st.zz,st.ti,st.to_,⟨st.s1,pu⟩,⟨st.s2,pv'⟩⟩ λp q h' tk hp hq st' pr kp sz=>⟨_,rfl,?_⟩
  obtain rfl:p=ux:=by
   have:us.toArray[i]? = some ux:=by simpa using eux
   rw[this]at hp;exact (aN2 hp).symm
  obtain rfl:q=vy:=by
   have:vs.toArray[i]? = some vy:=by simpa using evy
   rw[this]at hq;exact (aN2 hq).symm
  refine wpAny_letOwnedTupleGo_zip (s:={ s with heap:=h',toks:=tk }) st'.zz λg zz sb=>?_
  have hzl:z<s.heap.objs.size:=aL8 st.zz
  have up:∀c o,c≠z->c≠TO->c≠i1->c≠i2->s.heap.get? c=some o->g.get? c=some o:=λc o c1 c2 c3 c4 e=>sb.extBut c o c1 (kp c o c1 c2 c3 c4 e)
  have hT:H s.heap.objs.size=none:=I.hok.fresh (aK8 _)
  have prG:IsPair g s.heap.objs.size p q:=sb.extBut _ _ (aW7 hzl) pr
  have fpn:∀c u,H c=some u->c∉[z,TI,TO,i1,i2]:=λc u e hm=>by rw[(hf c hm).1]at e;cases e
  have upH:∀c o u,H c=some u->s.heap.get? c=some o->g.get? c=some o:=λc o u e z=>by
   have:=fpn c u e
   simp only[aL0,aM8,aR7,not_or]at this
   exact up c o this.1 this.2.2.1 this.2.2.2.1 this.2.2.2.2 z
  have ns:∀m,s.heap.Ns X.env.locals m->g.Ns X.env.locals m:=λm hm=>by
   obtain⟨o,es,ep,e1,e2⟩:=hm
   exact⟨o,es,ep,up _ o (Ne.symm (hf z (by simp)).2.1) (Ne.symm (hf TO (by simp)).2.1) (Ne.symm (hf i1 (by simp)).2.1) (Ne.symm (hf i2 (by simp)).2.1) e1,e2⟩
  have I2:a8 X pins σ (upd H s.heap.objs.size (.tup [x,y])) { s with heap:=g,toks:=tk }:=by
   refine I.step (g':=s.gens) (d':=s.drawn) (ch:=[z,TO,i1,i2]) (λc hc'=>?_) (λc o _ _ hc' e _=>?_) (λc o _ _ hc' e _=>⟨o.slots,?_⟩) (λc o _ e n=>?_) (λc o hc' e=>⟨o,?_⟩)
    (λc zs e=>by rw[b9 (fI e hT)];exact e) (λc u zs e=>by rw[b9 (fI e hT)];exact e) (λc ps e=>⟨#[],by rw[b9 (fI e hT),e];simp⟩) ns (λc u e=>?_) I.bare
   ·have hm:c∈[z,TI,TO,i1,i2]:=by
     simp only[aL0,aM8,aR7]at hc' ⊢
     rcases hc' with h|h|h|h<;>simp[h]
    exact⟨(hf c hm).2.2.2.1,(hf c hm).2.1,(hf c hm).2.2.2.2.1,(hf c hm).2.2.2.2.2⟩
   ·simp only[aL0,aM8,aR7,not_or]at hc'
    exact up c o hc'.1 hc'.2.1 hc'.2.2.1 hc'.2.2.2 e
   ·simp only[aL0,aM8,aR7,not_or]at hc'
    exact up c o hc'.1 hc'.2.1 hc'.2.2.1 hc'.2.2.2 e
   ·rw[b9 (aN6 (aL8 e))];exact n
   ·simp only[aL0,aM8,aR7,not_or]at hc'
    exact up c o hc'.1 hc'.2.1 hc'.2.2.1 hc'.2.2.2 e
   ·by_cases hcT:c=s.heap.objs.size
    ·subst hcT
     rw[bP]at e;cases e
     exact⟨by show 2<=sizeLine;decide,[p,q],.cons rux (.cons rvy .nil),⟨_,prG,rfl,_,rfl⟩,λu e=>by rw[prG]at e;cases e;rfl⟩
    ·rw[b9 hcT]at e
     refine (I.hok c u e).stay (λc' o' hc2 q'=>?_) (λc' q'=>by rw[b9 (fI q' hT)];exact q') λc' zs q'=>by rw[b9 (fI q' hT)];exact q'
     rcases hc2 with rfl|hc2
     ·exact upH _ _ _ e q'
     ·exact upH _ _ _ hc2 q'
  obtain⟨x',y',to'⟩:=st'.to_
  refine⟨.ref s.heap.objs.size,_,I2,rfl,⟨_,x,y,hT,rfl,rfl,λxs' ys' ha' hb'=>?_⟩,⟨zz,sb.extBut _ _ n1.symm st'.ti,⟨x',y',sb.extBut _ _ n2.symm to'⟩,st'.s1.1.at λo e=>sb.extBut _ o n3.symm e,st'.s2.1.at λo e=>sb.extBut _ o n4.symm e⟩,λc hc'=>?_⟩
  ·rw[Sq.inj I ha' ha,Sq.inj I hb' hb];exact⟨hx,hy⟩
  ·obtain⟨o,e,_⟩:∃o,s.heap.get? c=some o/\True:=by
    simp only[aL0,aM8,aR7]at hc'
    obtain⟨x2,y2,to2⟩:=st.to_
    obtain⟨o1,f1,_⟩:=st.s1.ob
    obtain⟨o2,f2,_⟩:=st.s2.ob
    rcases hc' with rfl|rfl|rfl|rfl|rfl
    ·exact⟨_,st.zz,trivial⟩
    ·exact⟨_,st.ti,trivial⟩
    ·exact⟨_,to2,trivial⟩
    ·exact⟨_,f1,trivial⟩
    ·exact⟨_,f2,trivial⟩
   rw[b9 (aN6 (aL8 e))];exact (hf c hc').1
 ·
  intro X hP hw hK hc i pins s σ H E I hf st hg
  subst hP hw hK
  obtain⟨xs,ys,ha,hb,hi⟩:=hg
  obtain⟨us,ru,pu⟩:=Sq.get I ha
  obtain⟨vs,rv,pv'⟩:=Sq.get I hb
  have fa:=off I hf ha
  have fb:=off I hf hb
  have hh:X.A.in1.handled=none:=I.ok.hd hc
  have fa':a≠i1:=λq=>fa (by rw[q];simp)
  have fb':b≠i2:=λq=>fb (by rw[q];simp)
  have D1:=fD.draws t1 (prog:=X.prog) (w:=X.w) hh i1 a fa' us.toArray
  have D2:=fD.draws t2 (prog:=X.prog) (w:=X.w) hh i2 b fb' vs.toArray
  have e1:=ru.length
  have e2:=rv.length
  refine Zp.fin D1 D2 (ap fa fb) (by simp only[aK5];omega) ⟨st.zz,st.ti,st.to_,⟨st.s1,pu⟩,⟨st.s2,pv'⟩⟩ λg tk kp=>⟨rfl,?_⟩
  have fpn:∀c u,H c=some u->c∉[z,TI,TO,i1,i2]:=λc u e hm=>by rw[(hf c hm).1]at e;cases e
  have upH:∀c o u,H c=some u->s.heap.get? c=some o->g.get? c=some o:=λc o u e z=>by
   have:=fpn c u e
   simp only[aL0,aM8,aR7,not_or]at this
   exact kp c o this.1 this.2.2.1 this.2.2.2.1 this.2.2.2.2 z
  have ns:∀m,s.heap.Ns X.env.locals m->g.Ns X.env.locals m:=λm hm=>by
   obtain⟨o,es,ep,e1,e2⟩:=hm
   exact⟨o,es,ep,kp _ o (Ne.symm (hf z (by simp)).2.1) (Ne.symm (hf TO (by simp)).2.1) (Ne.symm (hf i1 (by simp)).2.1) (Ne.symm (hf i2 (by simp)).2.1) e1,e2⟩
  refine I.step (g':=s.gens) (d':=s.drawn) (ch:=[z,TO,i1,i2]) (λc hc'=>?_) (λc o _ _ hc' e _=>?_) (λc o _ _ hc' e _=>⟨o.slots,?_⟩) (λc o _ e n=>n) (λc o hc' e=>⟨o,?_⟩)
   (λc zs e=>e) (λc u zs e=>e) (λc ps e=>⟨#[],by rw[e];simp⟩) ns (λc u e=>?_) I.bare
  ·have hm:c∈[z,TI,TO,i1,i2]:=by
    simp only[aL0,aM8,aR7]at hc' ⊢
    rcases hc' with h|h|h|h<;>simp[h]
   exact⟨(hf c hm).2.2.2.1,(hf c hm).2.1,(hf c hm).2.2.2.2.1,(hf c hm).2.2.2.2.2⟩
  ·simp only[aL0,aM8,aR7,not_or]at hc'
   exact kp c o hc'.1 hc'.2.1 hc'.2.2.1 hc'.2.2.2 e
  ·simp only[aL0,aM8,aR7,not_or]at hc'
   exact kp c o hc'.1 hc'.2.1 hc'.2.2.1 hc'.2.2.2 e
  ·simp only[aL0,aM8,aR7,not_or]at hc'
   exact kp c o hc'.1 hc'.2.1 hc'.2.2.1 hc'.2.2.2 e
  ·refine (I.hok c u e).stay (λc' o' hc2 q'=>?_) (λ_ q'=>q') λ_ _ q'=>q'
   rcases hc2 with rfl|hc2
   ·exact upH _ _ _ e q'
   ·exact upH _ _ _ hc2 q'
noncomputable abbrev ag3:=sG true true
theorem ag4 {P:Program}{w:World}{K:ac}{elts:List Expr}{k:Nat}{pos:Pos}(a b z TI TO i1 i2:Addr)(d:[z,TI,TO,i1,i2].Nodup) :
  iH P w K (.Tuple elts k pos) (sF K a b) [z,TI,TO,i1,i2] z (ag3 z TI TO i1 i2 a b):=xT true true a b z TI TO i1 i2 d
section
variable {X:Cx}
noncomputable def ag5 (K:ac)(ta:TA):TI:=λσ H R=>ta σ H λvs H1=>∃a b xs ys,vs = [.ref a,.ref b]/\aL K H1 a xs/\aL K H1 b ys/\R (sF K a b) H1
theorem ag6 {elts:List Expr}{kt:Nat}{pt:Pos}{a b:Expr}{ta:TA}{p pos:Pos}(hg:Gl X "zip")(hm:X.mg "zip" = none)(ha:PA X [a,b] ta)(hs:starEach [a,b] X.env = [(false,eval a X.env),(false,eval b X.env)]:=by rfl)(hs2:starEach [b] X.env = [(false,eval b X.env)]:=by rfl) :
  PI X (.Tuple elts kt pt) (.Call (.Name "zip" p) [a,b] [] pos) (ag5 X.K ta):=by
 intro pins s σ H R I h
 refine Call_ (iZ I hg hm PyProof.Rows.boot_zip (aT0 (aR (ha pos pins s σ H _ I h) λus s1 ⟨vs,H1,I1,r1,q1⟩=>?_) (by rw[hs,hs2]) (by rw[hs2];rfl)))
 obtain⟨a',b',xs,ys,e,h1,h2,q⟩:=q1
 subst e
 cases r1 with
 |cons r rr=>
  cases rr with
  |cons r' rr=>
   cases rr
   cases r
   cases r'
   obtain⟨us,_,p1,_⟩:=I1.tuple h1
   obtain⟨ws,_,p2,_⟩:=I1.tuple h2
   refine Zp.ag1 p1 p2 λh' z ti to s1' s2' kp=>wpAny_pyIter_zip z ?_
   have fresh:∀k,H1 (s1.heap.objs.size+k)=none:=λk=>I1.hok.fresh (aR5 _ _)
   refine⟨s1.heap.objs.size+4,[s1.heap.objs.size+4,s1.heap.objs.size+2,s1.heap.objs.size+3,s1.heap.objs.size,s1.heap.objs.size+1],_,_,H1,rfl,I1.kept (t':=s1.toks) kp,
    ag4 a' b' _ _ _ _ _ (by simp),⟨z,ti,⟨_,_,to⟩,s1',s2'⟩,λc hc=>?_,q⟩
   simp only[aL0,aM8,aR7]at hc
   rcases hc with rfl|rfl|rfl|rfl|rfl
   ·exact I1.fpOk (aR5 _ _) (fresh 4)
   ·exact I1.fpOk (aR5 _ _) (fresh 2)
   ·exact I1.fpOk (aR5 _ _) (fresh 3)
   ·exact I1.fpOk (aK8 _) (fresh 0)
   ·exact I1.fpOk (aR5 _ _) (fresh 1)
theorem sH (hc:X.calm=true):cG X (.builtin "all") (λxs H Q=>∃(a:Addr) (bs:List Bool),xs = [.ref a]/\aM X.K H a (bs.map V.bl)/\Q (.bl (bs.all id)) H):=by
 intro pins s σ H xs us Q I r h
 obtain⟨a,bs,rfl,hq,q⟩:=h
 obtain⟨u,rfl,ru⟩:=eG r
 cases ru
 obtain⟨its,rv,p,hz⟩:=I.list hq
 have hl:=rv.length
 rw[aL2]at hl
 have hlt:a<s.heap.objs.size:=by obtain⟨o,e,_⟩:=p.isList;exact aL8 e
 refine call_all_walk (wpAny_pyIter_list p.isList ?_)
 have hh:X.A.in1.handled=none:=I.ok.hd hc
 refine⟨s.heap.objs.size,_,_,_,_,_,λi=>bs.getD i false,rfl,Walks.list hh s.heap.objs.size a (aN6 hlt) its.toArray,⟨⟨_,aM4 _ rfl,rfl,rfl⟩,p.isList.push _⟩,?_,λh' tk kp=>?_⟩
 ·intro i v s' Q' E' hP hQ'
  have hi:its[i]? = some v:=by simpa using hP
  have hil:i<bs.length:=by rw[hl];exact (aM0.mp hi).1
  obtain⟨u,e1,e2⟩:=rv.get (i:=i) (x:=.bl bs[i]) (by simp[hil])
  rw[hi]at e1;cases e1
  cases e2
  have:bs.getD i false=bs[i]:=by rw[aL7,aK3 hil];rfl
  have hQ2:Q' (bs.getD i false) s':=hQ'
  rw[this]at hQ2
  exact aW6 hQ2
 ·have all_eq:(List.range its.toArray.size).all (λi=>bs.getD i false)=bs.all id:=by
   rw[aK5,<- hl]
   clear q rv hz hl hq hlt p hh kp
   induction bs with
   |nil=>rfl
   |cons b r ih=>
    rw[aS9,List.range_succ_eq_map,aV2,List.all_map,aV2,<- ih]
    rfl
  rw[all_eq]
  refine⟨.bl (bs.all id),H,I.kept (t':=tk) (h':=h') λb o e=>kp b o (λz=>?_) (aK4 _ e),rfl,q⟩
  rw[aM5.mp z]at e
  exact absurd (aL8 e) (aQ5 _)
end
structure sI (H:Hp)(J:It)(n:Nat)(R:Nat->V->Hp->Prop):Prop where
 go:∀i H',aB H H'->i<n->J.go i H'
 yld:∀i H' x H2,aB H H'->J.yld i H' x H2->i<n->aB H' H2/\R i x H2
 stop:∀H',aB H H'->J.stop n H'
theorem sJ {H1:Hp}{J:It}{n:Nat}{R:Nat->V->Hp->Prop}{g:TG}{tc:TT}{te:TE}{σ0:St}{Q:VK}(O:sI H1 J n R)(Pv:Nat->List V->Hp->Prop)(hn:n<=sizeLine)(h0:∀D,H1 D=none->Pv 0 [] (upd H1 D (.lst [])))(mono:∀i acc H' H2,aB H' H2->Pv i acc H'->Pv i acc H2)(hs:∀i x acc D H',i<n->R i x H'->rZ H1 D n i acc H'->Pv i acc H'->g x σ0 H' λσ2 H3=>Wk σ0 σ2/\tc σ2 H3 λb H4=>
   if b=true then te σ2 H4 λv H5=>xN H1 D n Pv i acc v H5 else CNo H1 D n Pv i acc H4)(hd:∀D acc H',H1 D=none->aB H1 H'->H' D=some (.lst acc)->acc.length<=n->Pv n acc H'->Q (.ref D) H') :
  ∀D,H1 D=none->∃W:Nat->Nat->List V->Hp->Prop,(∃m,W 0 m [] (upd H1 D (.lst [])))/\nX g tc te σ0 J D Q W:=by
 intro D hD
 refine⟨CW H1 D n Pv,⟨n,rfl,aP3 _,aK8 _,bI hD _,bP,h0 D hD⟩,?_⟩
 rintro i m acc H' ⟨rfl,hi,ha,sm,hDa,p⟩
 refine⟨hDa,?_⟩
 by_cases hlt:i<n
 ·refine .inr ⟨O.go i H' sm hlt,λx H2 y=>?_⟩
  obtain⟨s2,r2⟩:=O.yld i H' x H2 sm y hlt
  exact hs i x acc D H2 hlt r2 ⟨hlt,ha,hn,sm.trans s2,hD,s2 _ _ hDa⟩ (mono i acc H' H2 s2 p)
 ·have e:i=n:=by omega
  subst e
  exact .inl ⟨O.stop H' sm,hd D acc H' hD sm hDa ha p⟩
theorem xU {K:ac}{H:Hp}{a b:Addr}{xs ys:List V}(ha:aL K H a xs)(hb:aL K H b ys)(hl:ys.length<=xs.length) :
  sI H (sF K a b) ys.length (λi v H2=>∃T x y,v = .ref T/\H2 T=some (.tup [x,y])/\xs[i]? = some x/\ys[i]? = some y):=by
 refine⟨λi H' sm hi=>⟨xs,ys,xs[i]'(by omega),ys[i],sm.tup ha,sm.tup hb,by simp,by simp⟩,λi H' v H2 sm y hi=>?_,λH' sm=>⟨xs,ys,sm.tup ha,sm.tup hb,by omega⟩⟩
 obtain⟨T,x,y',hT,hv,e,hxy⟩:=y
 subst e
 obtain⟨h1,h2⟩:=hxy xs ys (sm.tup ha) (sm.tup hb)
 exact⟨bI hT _,T,x,y',hv,bP,h1,h2⟩
end L2
namespace HT
open PySem PyProof.Rows
section
variable {prog:Program}{w:World}{A:Around}{E:Value→Shared→Prop}{s:Shared}
theorem ag7 {t sl:Addr}{items:Array Value}{vl vu:Value}{lo hi:Option Int}{Q:Value->Shared->Prop}(ht:IsTup s.heap t items)(hs:s.heap.IsSliceOf sl vl vu .none)(pl:IsPart vl lo)(pu:IsPart vu hi)(h1:aU items.size 0 lo=0)(h2:aU items.size items.size hi=items.size)(h:Q (.ref t) s):wpAny (model prog w) A (getItem (.ref t) (.ref sl)) Q E s:=by
 obtain⟨o,e1,e2,e3⟩:=id hs
 have T:s.TypeIs (.ref sl) "slice":=⟨o,e1,e2⟩
 unfold getItem
 try with_reducible refine aV1 ?_
 first|refine aK2 (aK7 ?_)|skip
 apply aK2
 apply wpAny_sequenceKey ht.typeIs (by decide)
 apply aK2
 apply aS7 (name:=Str.ofString "__getitem__") ht.typeIs aT4
 apply aT7 aT4 ht.typeIs entry_tuple_getitem _ (args_tuple_getitem _ _)
 change wpAny _ _ (Builtin.Tuple.tupleItemsOf (.ref t) >>= _) _ _ s
 apply aK2
 apply tupleItemsOf_ ht
 apply aK2
 apply wpAny_typeOf T
 rw[if_pos (by decide)]
 apply aK2
 apply wL hs pl pu
 rw[h1,h2]
 have yes:((((0:Nat):Int)==0&&(1:Int)==1&&(items.size-0)==items.size)=true):=by simp
 change wpAny _ _ (if ((((0:Nat):Int)==0&&(1:Int)==1&&(items.size-0)==items.size)=true) then _ else _) _ _ s
 rw[if_pos yes]
 apply aK2
 unfold Builtin.Tuple.tupleIsExact
 apply aK2
 apply wpAny_typeOf ht.typeIs
 apply aK7
 change wpAny _ _ (rule "tuple.getitem.whole" >>= λ_=>ret (Value.ref t)) _ _ s
 apply aK2
 apply aV8
 exact aK7 ⟨_,rfl,aK7 h⟩
end
end HT
namespace L2
open PySem PySem.Spec PyProof.Rows
section
variable {X:Cx}
noncomputable def ag8 (K:ac):V->Option Int->Option Int->Hp->VK->Prop:=λx lo hi H Q=>∃a xs,x = .ref a/\aL K H a xs/\(∀p,H p=none->Q (.ref p) (upd H p (.tup (dG xs lo hi))))/\(dG xs lo hi=xs->Q (.ref a) H)
theorem xV:iI X (ag8 X.K):=by
 intro pins s σ H x v vl vu lo hi sl Q I rx hs pl pu h
 obtain⟨a,xs,ex,hx,q1,q2⟩:=h
 by_cases hw:HT.aU xs.length 0 lo=0/\HT.aU xs.length xs.length hi=xs.length
 ·subst ex
  cases rx
  obtain⟨its,r,ht,hz⟩:=I.tuple hx
  have hlen:its.toArray.size=xs.length:=by rw[aK5];exact r.length.symm
  refine⟨"tuple",_,PyProof.Rows.slot_tuple_getitem.lookup,ht.typeIs,?_⟩
  refine HT.ag7 ht hs pl pu (by rw[hlen];exact hw.1) (by rw[hlen];exact hw.2) ⟨.ref a,H,I,rfl,q2 ?_⟩
  unfold dG
  rw[hw.1,hw.2]
  simp
 ·exact aa6 pins s σ H x v vl vu lo hi sl Q I rx hs pl pu ⟨a,xs,ex,hx,hw,q1⟩
end
theorem sK (xs:List V):dG xs (some 1) none=xs.drop 1:=by
 unfold dG
 have e1:HT.aU xs.length 0 (some 1)=min 1 xs.length:=HT.wI xs.length 0 1
 have e2:HT.aU xs.length xs.length none=xs.length:=rfl
 rw[e1,e2]
 cases xs with
 |nil=>rfl
 |cons x r=>
  have:min 1 (x::r).length=1:=by simp
  rw[this]
  simp
noncomputable def sL (K:ac)(a b:Addr):It:=
  ⟨λi H=>∃xs ys x y,aM K H a xs/\aM K H b ys/\xs[i]? = some x/\ys[i]? = some y,
   λi H v H'=>∃T x y,H T=none/\v = .ref T/\H'=upd H T (.tup [x,y])/\∀xs ys,aM K H a xs->aM K H b ys->xs[i]? = some x/\ys[i]? = some y,
   λi H=>∃xs ys,aM K H a xs/\aM K H b ys/\(i=xs.length∨(i<xs.length/\i=ys.length))⟩
noncomputable abbrev ag9:=sG false false
theorem ah0 {P:Program}{w:World}{K:ac}{elts:List Expr}{k:Nat}{pos:Pos}(a b z TI TO i1 i2:Addr)(d:[z,TI,TO,i1,i2].Nodup) :
  iH P w K (.Tuple elts k pos) (sL K a b) [z,TI,TO,i1,i2] z (ag9 z TI TO i1 i2 a b):=xT false false a b z TI TO i1 i2 d
section
variable {X:Cx}
noncomputable def ah1 (K:ac)(ta:TA):TI:=λσ H R=>ta σ H λvs H1=>∃a b xs ys,vs = [.ref a,.ref b]/\aM K H1 a xs/\aM K H1 b ys/\R (sL K a b) H1
theorem ah2 {elts:List Expr}{kt:Nat}{pt:Pos}{a b:Expr}{ta:TA}{p pos:Pos}(hg:Gl X "zip")(hm:X.mg "zip" = none)(ha:PA X [a,b] ta)(hs:starEach [a,b] X.env = [(false,eval a X.env),(false,eval b X.env)]:=by rfl)(hs2:starEach [b] X.env = [(false,eval b X.env)]:=by rfl) :
  PI X (.Tuple elts kt pt) (.Call (.Name "zip" p) [a,b] [] pos) (ah1 X.K ta):=by
 intro pins s σ H R I h
 refine Call_ (iZ I hg hm PyProof.Rows.boot_zip (aT0 (aR (ha pos pins s σ H _ I h) λus s1 ⟨vs,H1,I1,r1,q1⟩=>?_) (by rw[hs,hs2]) (by rw[hs2];rfl)))
 obtain⟨a',b',xs,ys,e,h1,h2,q⟩:=q1
 subst e
 cases r1 with
 |cons r rr=>
  cases rr with
  |cons r' rr=>
   cases rr
   cases r
   cases r'
   obtain⟨us,_,p1,_⟩:=I1.list h1
   obtain⟨ws,_,p2,_⟩:=I1.list h2
   refine call_zip_2 p1.isList p2.isList λh' z ti to s1' s2' _ kp=>wpAny_pyIter_zip z ?_
   have fresh:∀k,H1 (s1.heap.objs.size+k)=none:=λk=>I1.hok.fresh (aR5 _ _)
   refine⟨s1.heap.objs.size+4,[s1.heap.objs.size+4,s1.heap.objs.size+2,s1.heap.objs.size+3,s1.heap.objs.size,s1.heap.objs.size+1],_,_,H1,rfl,I1.kept (t':=s1.toks) kp,
    ah0 a' b' _ _ _ _ _ (by simp),⟨z,ti,⟨_,_,to⟩,s1',s2'⟩,λc hc=>?_,q⟩
   simp only[aL0,aM8,aR7]at hc
   rcases hc with rfl|rfl|rfl|rfl|rfl
   ·exact I1.fpOk (aR5 _ _) (fresh 4)
   ·exact I1.fpOk (aR5 _ _) (fresh 2)
   ·exact I1.fpOk (aR5 _ _) (fresh 3)
   ·exact I1.fpOk (aK8 _) (fresh 0)
   ·exact I1.fpOk (aR5 _ _) (fresh 1)
end
theorem ah3 {K:ac}{H:Hp}{a b:Addr}{xs ys:List V}(ha:aM K H a xs)(hb:aM K H b ys)(hl:ys.length<=xs.length) :
  sI H (sL K a b) ys.length (λi v H2=>∃T x y,v = .ref T/\H2 T=some (.tup [x,y])/\xs[i]? = some x/\ys[i]? = some y):=by
 refine⟨λi H' sm hi=>⟨xs,ys,xs[i]'(by omega),ys[i],sm.seq ha,sm.seq hb,by simp,by simp⟩,λi H' v H2 sm y hi=>?_,λH' sm=>⟨xs,ys,sm.seq ha,sm.seq hb,by omega⟩⟩
 obtain⟨T,x,y',hT,hv,e,hxy⟩:=y
 subst e
 obtain⟨h1,h2⟩:=hxy xs ys (sm.seq ha) (sm.seq hb)
 exact⟨bI hT _,T,x,y',hv,bP,h1,h2⟩
end L2
namespace PP
open PySem L2
inductive PV where
 |non|bl (b:Bool)|int (i:Int)|str (x:Str)|tup (xs:List PV)|lst (xs:List PV)
 |dK (kvs:List (aJ×PV))|dT (kvs:List (List aJ×PV))|scr (ns:ae)|kt (xs:List PV)|exc (c:Str)|fK (kvs:List (aJ×PV))|fT (kvs:List (List aJ×PV))|fL (xs:List PV)
mutual
noncomputable def flat:PV->Bool
 |.tup xs=>flats xs
 |.lst _=>false
 |.dK _=>false
 |.dT _=>false
 |.non=>true
 |.bl _=>true
 |.int _=>true
 |.str _=>true
 |.scr _=>true
 |.kt xs=>flats xs
 |.exc _=>true
 |.fK _=>false
 |.fT _=>false
 |.fL xs=>flats xs
noncomputable def flats:List PV->Bool
 |[]=>true
 |x::r=>flat x&&flats r
end
noncomputable def i9 (K:ac)(H:Hp)(a:Addr)(ns:ae):Prop:=(∃o,H a=some (.frz o (.lst (ns.map V.int)))) ∨
  ∃(o:Obj) (its:Array Value) (n:Nat),K.lookup a=some o/\o.cls = .type "list"/\o.dict=none/\o.data = .seq its n/\its.size<=sizeLine/\aQ (ns.map V.int) its.toList
noncomputable def k9 (K:ac)(a:Addr)(us:List V):Prop:=∃(o:Obj) (its:Array Value) (n:Nat),K.lookup a=some o/\o.cls = .type "tuple"/\o.data = .seq its n/\its.size<=sizeLine/\aQ us its.toList
mutual
inductive aF (K:ac)(M:Addr->Prop)(H:Hp):V->PV->Prop
 |non:aF K M H .non .non
 |bl (b:Bool):aF K M H (.bl b) (.bl b)
 |int (i:Int):aF K M H (.int i) (.int i)
 |str (x:Str):aF K M H (.str x) (.str x)
 |tup {a:Addr}{us:List V}{xs:List PV}:H a=some (.tup us)->Reps K M H us xs->aF K M H (.ref a) (.tup xs)
 |lst {a:Addr}{us:List V}{xs:List PV}:M a->H a=some (.lst us)->Reps K M H us xs->aF K M H (.ref a) (.lst xs)
 |dK {a:Addr}{kvs:List (aJ×V)}{ps:List (aJ×PV)}:M a->H a=some (.dK kvs)->kvs.map (·.1)=ps.map (·.1)->Reps K M H (kvs.map (·.2)) (ps.map (·.2))->aF K M H (.ref a) (.dK ps)
 |dT {a:Addr}{kvs:List (List aJ×V)}{ps:List (List aJ×PV)}:M a->H a=some (.dT kvs)->kvs.map (·.1)=ps.map (·.1)->Reps K M H (kvs.map (·.2)) (ps.map (·.2))->aF K M H (.ref a) (.dT ps)
 |scr {a:Addr}{ns:ae}:i9 K H a ns->aF K M H (.ref a) (.scr ns)
 |kt {a:Addr}{us:List V}{xs:List PV}:k9 K a us->Reps K M H us xs->aF K M H (.ref a) (.kt xs)
 |exc {a C:Addr}{o:Obj}{c:Str}:H a=some (.frz o (.own a))->PySem.W.nsIn K mainGlobals c=some (some (.ref C))->o.cls = .ref C->aF K M H (.ref a) (.exc c)
 |fK {a:Addr}{o:Obj}{kvs:List (aJ×V)}{ps:List (aJ×PV)}:H a=some (.frz o (.dK kvs))->kvs.map (·.1)=ps.map (·.1)->Reps K M H (kvs.map (·.2)) (ps.map (·.2))->aF K M H (.ref a) (.fK ps)
 |fT {a:Addr}{o:Obj}{kvs:List (List aJ×V)}{ps:List (List aJ×PV)}:H a=some (.frz o (.dT kvs))->kvs.map (·.1)=ps.map (·.1)->Reps K M H (kvs.map (·.2)) (ps.map (·.2))->aF K M H (.ref a) (.fT ps)
 |fL {a:Addr}{o:Obj}{us:List V}{xs:List PV}:H a=some (.frz o (.lst us))->Reps K M H us xs->aF K M H (.ref a) (.fL xs)
inductive Reps (K:ac)(M:Addr->Prop)(H:Hp):List V->List PV->Prop
 |nil:Reps K M H [] []
 |cons {v:V}{x:PV}{vs:List V}{xs:List PV}:aF K M H v x->Reps K M H vs xs->Reps K M H (v::vs) (x::xs)
end
structure gI (M M':Addr->Prop)(H H':Hp):Prop where
 lst:∀a us,M a->H a=some (.lst us)->M' a/\H' a=some (.lst us)
 dK:∀a kvs,M a->H a=some (.dK kvs)->M' a/\H' a=some (.dK kvs)
 dT:∀a kvs,M a->H a=some (.dT kvs)->M' a/\H' a=some (.dT kvs)
 tup:∀a us,H a=some (.tup us)->H' a=some (.tup us)
 frz:∀a o u,H a=some (.frz o u)->H' a=some (.frz o u)
theorem i9.keep {K:ac}{H H':Hp}{a:Addr}{ns:ae}(k:∀a o u,H a=some (.frz o u)->H' a=some (.frz o u))(h:i9 K H a ns):i9 K H' a ns:=
 h.elim (λ⟨o,e⟩=>.inl ⟨o,k _ _ _ e⟩) .inr
mutual
theorem aF.keep {K:ac}{M M':Addr->Prop}{H H':Hp}(k:gI M M' H H'):∀{v:V}{x:PV},aF K M H v x->aF K M' H' v x
 |_,_,.non=>.non
 |_,_,.bl b=>.bl b
 |_,_,.int i=>.int i
 |_,_,.str x=>.str x
 |_,_,.tup h r=>.tup (k.tup _ _ h) (Reps.keep k r)
 |_,_,.lst m h r=>.lst (k.lst _ _ m h).1 (k.lst _ _ m h).2 (Reps.keep k r)
 |_,_,.dK m h e r=>.dK (k.dK _ _ m h).1 (k.dK _ _ m h).2 e (Reps.keep k r)
 |_,_,.dT m h e r=>.dT (k.dT _ _ m h).1 (k.dT _ _ m h).2 e (Reps.keep k r)
 |_,_,.scr h=>.scr (h.keep k.frz)
 |_,_,.kt h r=>.kt h (Reps.keep k r)
 |_,_,.exc h e c=>.exc (k.frz _ _ _ h) e c
 |_,_,.fK h e r=>.fK (k.frz _ _ _ h) e (Reps.keep k r)
 |_,_,.fT h e r=>.fT (k.frz _ _ _ h) e (Reps.keep k r)
 |_,_,.fL h r=>.fL (k.frz _ _ _ h) (Reps.keep k r)
theorem Reps.keep {K:ac}{M M':Addr->Prop}{H H':Hp}(k:gI M M' H H'):∀{vs:List V}{xs:List PV},Reps K M H vs xs->Reps K M' H' vs xs
 |_,_,.nil=>.nil
 |_,_,.cons r t=>.cons (aF.keep k r) (Reps.keep k t)
end
mutual
theorem aF.flat {K:ac}{M M':Addr->Prop}{H:Hp}{v:V}{x:PV}(f:flat x=true)(r:aF K M H v x):aF K M' H v x:=by
 cases r with
 |non=>exact .non
 |bl b=>exact .bl b
 |int i=>exact .int i
 |str x=>exact .str x
 |tup h r=>exact .tup h (Reps.flat (by unfold PP.flat at f;exact f) r)
 |lst m h r=>unfold PP.flat at f;cases f
 |dK m h e r=>unfold PP.flat at f;cases f
 |dT m h e r=>unfold PP.flat at f;cases f
 |scr h=>exact .scr h
 |kt h r=>exact .kt h (Reps.flat (by unfold PP.flat at f;exact f) r)
 |exc h e c=>exact .exc h e c
 |fK h e r=>unfold PP.flat at f;cases f
 |fT h e r=>unfold PP.flat at f;cases f
 |fL h r=>exact .fL h (Reps.flat (by unfold PP.flat at f;exact f) r)
theorem Reps.flat {K:ac}{M M':Addr->Prop}{H:Hp}{vs:List V}{xs:List PV}(f:flats xs=true)(r:Reps K M H vs xs):Reps K M' H vs xs:=by
 cases r with
 |nil=>exact .nil
 |cons r t=>
  unfold PP.flats at f
  rw[aN3]at f
  exact .cons (aF.flat f.1 r) (Reps.flat f.2 t)
end
theorem gI.same {M M':Addr->Prop}{H H':Hp}(s:aB H H')(m:∀a,M a->M' a):gI M M' H H':=
 ⟨λa _ h e=>⟨m a h,s _ _ e⟩,λa _ h e=>⟨m a h,s _ _ e⟩,λa _ h e=>⟨m a h,s _ _ e⟩,λ_ _ e=>s _ _ e,λ_ _ _ e=>s _ _ e⟩
theorem aF.same {K:ac}{M M':Addr->Prop}{H H':Hp}{v:V}{x:PV}(r:aF K M H v x)(s:aB H H')(m:∀a,M a->M' a):aF K M' H' v x:=r.keep (.same s m)
theorem Reps.same {K:ac}{M M':Addr->Prop}{H H':Hp}{v:List V}{x:List PV}(r:Reps K M H v x)(s:aB H H')(m:∀a,M a->M' a):Reps K M' H' v x:=r.keep (.same s m)
noncomputable def iK:HO->Bool
 |.lst _=>true
 |.dK _=>true
 |.dT _=>true
 |_=>false
theorem gI.upd {M M':Addr->Prop}{H:Hp}{a:Addr}{o o':HO}(h:H a=some o')(mu:iK o'=true)(m:∀b,M b->b≠a/\M' b):gI M M' H (upd H a o):=
 ⟨λb _ hb e=>⟨(m b hb).2,by rw[b9 (m b hb).1];exact e⟩,λb _ hb e=>⟨(m b hb).2,by rw[b9 (m b hb).1];exact e⟩,λb _ hb e=>⟨(m b hb).2,by rw[b9 (m b hb).1];exact e⟩,
  λb _ e=>by rw[b9 (λz=>by rw[z,h]at e;cases e;cases mu)];exact e,
  λb _ _ e=>by rw[b9 (λz=>by rw[z,h]at e;cases e;cases mu)];exact e⟩
theorem Reps.length {K:ac}{M:Addr->Prop}{H:Hp}:∀{vs:List V}{xs:List PV},Reps K M H vs xs->vs.length=xs.length
 |_,_,.nil=>rfl
 |_,_,.cons _ t=>congrArg (·+1) t.length
theorem Reps.get {K:ac}{M:Addr->Prop}{H:Hp}:∀{vs:List V}{xs:List PV}{i:Nat}{v:V},Reps K M H vs xs->vs[i]? = some v->∃x,xs[i]? = some x/\aF K M H v x
 |_,_,_,_,.nil,e=>by simp at e
 |_,_,0,_,.cons r _,e=>by simp at e;subst e;exact⟨_,rfl,r⟩
 |_,_,i+1,v,.cons _ t,e=>by
  rw[List.getElem?_cons_succ]at e
  obtain⟨x,h1,h2⟩:=t.get e
  exact⟨x,by rw[List.getElem?_cons_succ];exact h1,h2⟩
theorem Reps.at {K:ac}{M:Addr->Prop}{H:Hp}:∀{vs:List V}{xs:List PV}{i:Nat}{x:PV},Reps K M H vs xs->xs[i]? = some x->∃v,vs[i]? = some v/\aF K M H v x
 |_,_,_,_,.nil,e=>by simp at e
 |_,_,0,_,.cons r _,e=>by simp at e;subst e;exact⟨_,rfl,r⟩
 |_,_,i+1,v,.cons _ t,e=>by
  rw[List.getElem?_cons_succ]at e
  obtain⟨x,h1,h2⟩:=t.at e
  exact⟨x,by rw[List.getElem?_cons_succ];exact h1,h2⟩
theorem Reps.append {K:ac}{M:Addr->Prop}{H:Hp}:∀{vs:List V}{xs:List PV}{us:List V}{ys:List PV},Reps K M H vs xs->Reps K M H us ys->Reps K M H (vs++us) (xs++ys)
 |_,_,_,_,.nil,s=>s
 |_,_,_,_,.cons r t,s=>.cons r (t.append s)
theorem Reps.take {K:ac}{M:Addr->Prop}{H:Hp}:∀(n:Nat) {vs:List V}{xs:List PV},Reps K M H vs xs->Reps K M H (vs.take n) (xs.take n)
 |0,_,_,_=>by simp;exact .nil
 |_+1,_,_,.nil=>.nil
 |n+1,_,_,.cons r t=>.cons r (Reps.take n t)
theorem Reps.drop {K:ac}{M:Addr->Prop}{H:Hp}:∀(n:Nat) {vs:List V}{xs:List PV},Reps K M H vs xs->Reps K M H (vs.drop n) (xs.drop n)
 |0,_,_,r=>r
 |_+1,_,_,.nil=>.nil
 |n+1,_,_,.cons _ t=>Reps.drop n t
theorem Reps.eraseIdx {K:ac}{M:Addr->Prop}{H:Hp}:∀(n:Nat) {vs:List V}{xs:List PV},Reps K M H vs xs->Reps K M H (vs.eraseIdx n) (xs.eraseIdx n)
 |_,_,_,.nil=>.nil
 |0,_,_,.cons _ t=>t
 |n+1,_,_,.cons r t=>.cons r (Reps.eraseIdx n t)
noncomputable abbrev intz (ns:ae):List PV:=ns.map PV.int
theorem Reps.intz {K:ac}{M:Addr->Prop}{H:Hp}:∀(ns:ae),Reps K M H (ns.map V.int) (intz ns)
 |[]=>.nil
 |n::r=>.cons (.int n) (Reps.intz r)
theorem Reps.ofInts {K:ac}{M:Addr->Prop}{H:Hp}:∀{ns:ae}{us:List V},Reps K M H us (PP.intz ns)->us=ns.map V.int
 |[],_,.nil=>rfl
 |n::r,_,.cons q t=>by
  cases q
  rw[Reps.ofInts t];rfl
theorem bZ:∀(ns:ae),flats (intz ns)=true
 |[]=>rfl
 |n::r=>by show (flat (.int n)&&flats (intz r))=true;rw[bZ r];rfl
inductive Tg|rd|sh|nw|fr
inductive Slot|sh (g:Bool) (x:PV)|own (x:PV)
noncomputable def Slot.val:Slot->PV
 |.sh _ x=>x
 |.own x=>x
noncomputable def Slot.tag:Slot->Tg
 |.sh true _=>.nw
 |.sh false _=>.sh
 |.own _=>.rd
noncomputable abbrev bB:=List (Option Slot)
noncomputable def Ms (H0:Hp)(W:Addr->Prop):Bool->Addr->Prop
 |false,a=>¬W a
 |true,a=>¬W a/\H0 a=none
noncomputable def Mg (H0:Hp)(W:Addr->Prop)(Hs:Hp):Tg->Addr->Prop
 |.rd,_=>True
 |.sh,a=>¬W a
 |.nw,a=>¬W a/\H0 a=none
 |.fr,a=>Hs a=none
noncomputable def fY (K:ac)(M:Addr->Prop)(H:Hp)(a:Addr):PV->Prop
 |.lst xs=>∃us,H a=some (.lst us)/\Reps K M H us xs
 |.dK ps=>∃kvs,H a=some (.dK kvs)/\kvs.map (·.1)=ps.map (·.1)/\Reps K M H (kvs.map (·.2)) (ps.map (·.2))
 |.dT ps=>∃kvs,H a=some (.dT kvs)/\kvs.map (·.1)=ps.map (·.1)/\Reps K M H (kvs.map (·.2)) (ps.map (·.2))
 |_=>False
noncomputable def xW (K:ac)(H0:Hp)(W:Addr->Prop)(H:Hp)(v:V):Slot->Prop
 |.sh g x=>aF K (Ms H0 W g) H v x
 |.own x=>∃a,v = .ref a/\W a/\fY K (Ms H0 W true) H a x
structure PX (K:ac)(H0:Hp)(W:Addr->Prop)(σ:St)(ρ:bB)(H:Hp):Prop where
 len:ρ.length=σ.length
 same:aB H0 H
 wm:∀a,W a->H0 a=none/\∃o,H a=some o/\iK o=true
 sl:∀(i:Nat) (m:Slot),ρ[i]? = some (some m)->∃v,σ[i]? = some (some v)/\xW K H0 W H v m
 dis:∀(i j:Nat) (x y:PV) (a:Addr),ρ[i]? = some (some (.own x))->ρ[j]? = some (some (.own y))->σ[i]? = some (some (.ref a))->σ[j]? = some (some (.ref a))->i=j
theorem fY.keep {K:ac}{M M':Addr->Prop}{H H':Hp}{a:Addr}(k:gI M M' H H')(ha:∀o,H a=some o->H' a=some o):∀{x:PV},fY K M H a x->fY K M' H' a x
 |.lst _,⟨us,e,r⟩=>⟨us,ha _ e,r.keep k⟩
 |.dK _,⟨us,e,q,r⟩=>⟨us,ha _ e,q,r.keep k⟩
 |.dT _,⟨us,e,q,r⟩=>⟨us,ha _ e,q,r.keep k⟩
theorem fY.at {K:ac}{M:Addr->Prop}{H:Hp}{a:Addr}:∀{x:PV},fY K M H a x->∃o,H a=some o/\iK o=true
 |.lst _,⟨us,e,r⟩=>⟨_,e,rfl⟩
 |.dK _,⟨us,e,q,r⟩=>⟨_,e,rfl⟩
 |.dT _,⟨us,e,q,r⟩=>⟨_,e,rfl⟩
theorem fY.rep {K:ac}{M M':Addr->Prop}{H:Hp}{a:Addr}(m:∀b,M b->M' b)(ha:M' a):∀{x:PV},fY K M H a x->aF K M' H (.ref a) x
 |.lst _,⟨us,e,r⟩=>.lst ha e (r.same (aB.refl _) m)
 |.dK _,⟨us,e,q,r⟩=>.dK ha e q (r.same (aB.refl _) m)
 |.dT _,⟨us,e,q,r⟩=>.dT ha e q (r.same (aB.refl _) m)
section
variable {K:ac}{H0:Hp}{W W':Addr→Prop}{σ:St}{ρ:bB}{H H':Hp}
theorem PX.mono (p:PX K H0 W σ ρ H)(s:aB H H'):PX K H0 W σ ρ H':=by
 refine⟨p.len,p.same.trans s,λa h=>⟨(p.wm a h).1,let ⟨o,e,m⟩:=(p.wm a h).2;⟨o,s _ _ e,m⟩⟩,λi m h=>?_,p.dis⟩
 obtain⟨v,e,r⟩:=p.sl i m h
 refine⟨v,e,?_⟩
 cases m with
 |sh g x=>exact aF.same r s λ_ z=>z
 |own x=>
  obtain⟨a,e1,e2,r⟩:=r
  exact⟨a,e1,e2,r.keep (.same s λ_ z=>z) λ_ z=>s _ _ z⟩
theorem PX.new (p:PX K H0 W σ ρ H){a:Addr}(h:H a=none):¬W a/\H0 a=none:=
 ⟨λz=>(by obtain⟨_,o,e,_⟩:=p.wm a z;rw[h]at e;cases e),p.same.free h⟩
theorem Mg.back {g:Tg}{H1:Hp}(s:aB H H1){a:Addr}(h:Mg H0 W H1 g a):Mg H0 W H g a:=by
 cases g with
 |fr=>exact s.free h
 |rd=>exact h
 |sh=>exact h
 |nw=>exact h
end
noncomputable abbrev PK:=PV->Tg->Prop
noncomputable abbrev aG:=bB->PK->Prop
noncomputable abbrev cI:=bB->(Bool->Prop)->Prop
noncomputable abbrev cE:=bB->(List (PV×Tg)->Prop)->Prop
inductive fZ (K:ac)(H0:Hp)(W:Addr->Prop)(Hs H:Hp):List V->List (PV×Tg)->Prop
 |nil:fZ K H0 W Hs H [] []
 |cons {v:V}{x:PV}{g:Tg}{vs:List V}{xs:List (PV×Tg)}:aF K (Mg H0 W Hs g) H v x->fZ K H0 W Hs H vs xs->fZ K H0 W Hs H (v::vs) ((x,g)::xs)
noncomputable def o7 (K:ac)(H0:Hp)(W:Addr->Prop)(H:Hp)(Q:PK)(Q':VK):Prop:=∀v H' x g,aB H H'->aF K (Mg H0 W H g) H' v x->Q x g->Q' v H'
noncomputable def LE (X:Cx)(t:aG):TE:=λσ H Q'=>∃(W:Addr->Prop) (ρ:bB) (Q:PK),PX X.K X.H₀ W σ ρ H/\t ρ Q/\o7 X.K X.H₀ W H Q Q'
noncomputable def LT (X:Cx)(t:cI):TT:=λσ H Q'=>∃(W:Addr->Prop) (ρ:bB) (Q:Bool->Prop),PX X.K X.H₀ W σ ρ H/\t ρ Q/\∀b H',aB H H'->Q b->Q' b H'
noncomputable def LA (X:Cx)(t:cE):TA:=λσ H Q'=>∃(W:Addr->Prop) (ρ:bB) (Q:List (PV×Tg)->Prop),PX X.K X.H₀ W σ ρ H/\t ρ Q/\∀vs H' xs,aB H H'->fZ X.K X.H₀ W H H' vs xs->Q xs->Q' vs H'
theorem fZ.same {K:ac}{H0:Hp}{W:Addr->Prop}{Hs Hs' H H':Hp}(s:aB H H')(b:aB Hs' Hs):∀{vs:List V}{xs:List (PV×Tg)},fZ K H0 W Hs H vs xs->fZ K H0 W Hs' H' vs xs
 |_,_,.nil=>.nil
 |_,_,.cons r t=>.cons (r.same s λ_ z=>Mg.back b z) (t.same s b)
theorem fZ.any {K:ac}{H0:Hp}{W:Addr->Prop}{Hs H:Hp}:∀{vs:List V}{xs:List (PV×Tg)},fZ K H0 W Hs H vs xs->Reps K (λ_=>True) H vs (xs.map (·.1))
 |_,_,.nil=>.nil
 |_,_,.cons r t=>.cons (r.same (aB.refl _) λ_ _=>trivial) t.any
noncomputable def Nw:Tg->PV->Prop
 |.fr,_=>True
 |.nw,_=>True
 |_,x=>flat x=true
section
variable {K:ac}{H0 Hs H:Hp}{W:Addr→Prop}{σ:St}{ρ:bB}
theorem Nw.rep {g:Tg}{x:PV}{v:V}(px:PX K H0 W σ ρ Hs)(n:Nw g x)(r:aF K (Mg H0 W Hs g) H v x):aF K (Ms H0 W true) H v x:=by
 cases g with
 |fr=>exact r.same (aB.refl _) λa z=>px.new z
 |nw=>exact r.same (aB.refl _) λa z=>z
 |sh=>exact r.flat n
 |rd=>exact r.flat n
theorem xX {v:V}{m:Slot}(r:xW K H0 W H v m):aF K (Mg H0 W Hs m.tag) H v m.val:=by
 cases m with
 |sh g x=>
  cases g with
  |true=>exact aF.same r (aB.refl _) λ_ z=>z
  |false=>exact aF.same r (aB.refl _) λ_ z=>z
 |own x=>
  obtain⟨a,rfl,_,r⟩:=r
  exact r.rep (λ_ _=>trivial) trivial
end
section
variable {X:Cx}{σ:St}{H:Hp}{Q':VK}{ta tb:aG}
noncomputable def a5 (i:Nat):aG:=λρ Q=>∃m,ρ[i]? = some (some m)/\Q m.val m.tag
noncomputable def qC (x:PV):aG:=λ_ Q=>Q x .fr
theorem ah4 {i:Nat}(h:LE X (a5 i) σ H Q'):iY i σ H Q':=by
 obtain⟨W,ρ,Q,px,⟨m,e,q⟩,k⟩:=h
 obtain⟨v,ev,r⟩:=px.sl i m e
 exact⟨v,ev,k v H _ _ (aB.refl _) (xX r) q⟩
theorem lP {x:PV}{v:V}(hr:∀M,aF X.K M H v x)(h:LE X (qC x) σ H Q'):tC v σ H Q':=by
 obtain⟨W,ρ,Q,px,q,k⟩:=h
 exact k v H _ _ (aB.refl _) (hr _) q
noncomputable def cN (X:Cx)(R:PV->Tg->PV->Tg->PK->Prop)(r:R2):Prop:=∀(W:Addr->Prop) (Hs H:Hp) (u v:V) (x y:PV) (g g':Tg) (Q:PK) (Q':VK),aB Hs H->
 (∀a,Hs a=none->¬W a/\X.H₀ a=none)->aF X.K (Mg X.H₀ W Hs g) H u x->aF X.K (Mg X.H₀ W Hs g') H v y->R x g y g' Q->(∀w H' z gz,aB H H'->aF X.K (Mg X.H₀ W Hs gz) H' w z->Q z gz->Q' w H')->r u v H Q'
noncomputable def q2 (R:PV->Tg->PV->Tg->PK->Prop)(ta tb:aG):aG:=λρ Q=>ta ρ λx g=>tb ρ λy g'=>R x g y g' Q
theorem o8 {R:PV->Tg->PV->Tg->PK->Prop}{r:R2}(c:cN X R r)(h:LE X (q2 R ta tb) σ H Q'):lH r (LE X ta) (LE X tb) σ H Q':=by
 obtain⟨W,ρ,Q,px,q,k⟩:=h
 refine⟨W,ρ,_,px,q,λu H1 x g s1 r1 q1=>⟨W,ρ,_,px.mono s1,q1,λv H2 y g' s2 r2 q2=>?_⟩⟩
 exact c W H H2 u v x y g g' Q Q' (s1.trans s2) (λa z=>px.new z) (r1.same s2 λ_ z=>z) (r2.same (aB.refl _) λ_ z=>Mg.back s1 z) q2 λw H' z gz s3 r3 q3=>k w H' z gz ((s1.trans s2).trans s3) r3 q3
noncomputable def RI (C:Int->Int->Prop)(f:Int->Int->PV):PV->Tg->PV->Tg->PK->Prop:=λx _ y _ Q=>∃i j,x = .int i/\y = .int j/\C i j/\Q (f i j) .fr
noncomputable def eN (f:Int->Int->PV):PV->Tg->PV->Tg->PK->Prop:=λx _ y _ Q=>∃i j,x = .int i/\y = .int j/\Q (f i j) .fr
theorem o9 {C:Int->Int->Prop}{f:Int->Int->Int}:cN X (RI C λi j=>.int (f i j)) (rI C λi j=>.int (f i j)):=by
 rintro W Hs H u v x y g g' Q Q' s n r1 r2 ⟨i,j,rfl,rfl,c,q⟩ k
 cases r1;cases r2
 exact⟨i,j,rfl,rfl,c,k _ _ _ _ (aB.refl _) (.int _) q⟩
theorem xY {f:Int->Int->Int}:cN X (eN λi j=>.int (f i j)) (hU λi j=>.int (f i j)):=by
 rintro W Hs H u v x y g g' Q Q' s n r1 r2 ⟨i,j,rfl,rfl,q⟩ k
 cases r1;cases r2
 exact⟨i,j,rfl,rfl,k _ _ _ _ (aB.refl _) (.int _) q⟩
theorem lQ {f:Int->Int->Bool}:cN X (eN λi j=>.bl (f i j)) (hU λi j=>.bl (f i j)):=by
 rintro W Hs H u v x y g g' Q Q' s n r1 r2 ⟨i,j,rfl,rfl,q⟩ k
 cases r1;cases r2
 exact⟨i,j,rfl,rfl,k _ _ _ _ (aB.refl _) (.bl _) q⟩
noncomputable def kB (neg:Bool):PV->Tg->PV->Tg->PK->Prop:=λx _ y _ Q=>(∃i j,x = .int i/\y = .int j/\Q (.bl (if neg=true then !decide (i=j) else decide (i=j))) .fr)∨(∃i j,x = .bl i/\y = .bl j/\Q (.bl (if neg=true then !decide (i=j) else decide (i=j))) .fr)
theorem xZ (i j:Int):decide (V.int i=V.int j)=decide (i=j):=by
 rw[aO9,aL5,aL5];exact⟨λz=>V.int.inj z,λz=>congrArg V.int z⟩
theorem yA (i j:Bool):decide (V.bl i=V.bl j)=decide (i=j):=by
 rw[aO9,aL5,aL5];exact⟨λz=>V.bl.inj z,λz=>congrArg V.bl z⟩
theorem ah5:cN X (kB false) qY:=by
 rintro W Hs H u v x y g g' Q Q' s n r1 r2 (⟨i,j,rfl,rfl,q⟩|⟨i,j,rfl,rfl,q⟩) k
 ·cases r1;cases r2
  exact⟨rfl,by rw[xZ];exact k _ _ _ _ (aB.refl _) (.bl _) q⟩
 ·cases r1;cases r2
  exact⟨rfl,by rw[yA];exact k _ _ _ _ (aB.refl _) (.bl _) q⟩
theorem ah6:cN X (kB true) nJ:=by
 rintro W Hs H u v x y g g' Q Q' s n r1 r2 (⟨i,j,rfl,rfl,q⟩|⟨i,j,rfl,rfl,q⟩) k
 ·cases r1;cases r2
  exact⟨rfl,by rw[xZ];exact k _ _ _ _ (aB.refl _) (.bl _) q⟩
 ·cases r1;cases r2
  exact⟨rfl,by rw[yA];exact k _ _ _ _ (aB.refl _) (.bl _) q⟩
noncomputable def aH (t:aG):cI:=λρ Q=>t ρ λx _=>∃b,x = .bl b/\Q b
theorem sM {t:aG}{Q':Bool->Hp->Prop}(h:LT X (aH t) σ H Q'):LE X t σ H λx H'=>∃k,x = .bl k/\Q' k H':=by
 obtain⟨W,ρ,Q,px,q,k⟩:=h
 refine⟨W,ρ,_,px,q,?_⟩
 rintro v H1 x g s r ⟨b,rfl,q⟩
 cases r
 exact⟨b,rfl,k _ _ s q⟩
noncomputable def oA (t u:cI):cI:=λρ Q=>t ρ λc=>if c=true then u ρ Q else Q false
noncomputable def c9 (t u:cI):cI:=λρ Q=>t ρ λc=>if c=true then Q true else u ρ Q
noncomputable def dI (t:cI):cI:=λρ Q=>t ρ λc=>Q (!c)
variable {t u:cI}{Qb:Bool→Hp→Prop}
theorem ah7 (h:LT X (oA t u) σ H Qb):vH (LT X t) (LT X u) σ H Qb:=by
 obtain⟨W,ρ,Q,px,q,k⟩:=h
 refine⟨W,ρ,_,px,q,λb H1 s1 q1=>?_⟩
 cases b with
 |true=>exact aN ⟨W,ρ,Q,px.mono s1,by simpa using q1,λb H2 s2 q2=>k _ _ (s1.trans s2) q2⟩
 |false=>exact aD (k _ _ s1 (by simpa using q1))
theorem ah8 (h:LT X (c9 t u) σ H Qb):vI (LT X t) (LT X u) σ H Qb:=by
 obtain⟨W,ρ,Q,px,q,k⟩:=h
 refine⟨W,ρ,_,px,q,λb H1 s1 q1=>?_⟩
 cases b with
 |false=>exact aD ⟨W,ρ,Q,px.mono s1,by simpa using q1,λb H2 s2 q2=>k _ _ (s1.trans s2) q2⟩
 |true=>exact aN (k _ _ s1 (by simpa using q1))
theorem ah9 (h:LT X (dI t) σ H Qb):vJ (LT X t) σ H Qb:=by
 obtain⟨W,ρ,Q,px,q,k⟩:=h
 exact⟨W,ρ,_,px,q,λb H1 s1 q1=>k _ _ s1 q1⟩
noncomputable def lR (ta tb:aG):aG:=λρ Q=>ta ρ λx _=>∃c,x = .bl c/\if c=true then tb ρ Q else Q (.bl false) .fr
noncomputable def sN (ta:aG):aG:=λρ Q=>ta ρ λx _=>∃c,x = .bl c/\Q (.bl (!c)) .fr
theorem o7.back {K:ac}{H0:Hp}{W:Addr->Prop}{H H1:Hp}{Q:PK}(k:o7 K H0 W H Q Q')(s:aB H H1):o7 K H0 W H1 Q Q':=λv H' x g s' r q=>k v H' x g (s.trans s') (r.same (aB.refl _) λ_ z=>Mg.back s z) q
theorem ai0 (h:LE X (lR ta tb) σ H Q'):vK (LE X ta) (LE X tb) σ H Q':=by
 obtain⟨W,ρ,Q,px,q,k⟩:=h
 refine⟨W,ρ,_,px,q,?_⟩
 rintro v H1 x g s1 r ⟨c,rfl,q⟩
 cases r
 refine⟨c,rfl,?_⟩
 cases c with
 |true=>exact aN ⟨W,ρ,Q,px.mono s1,by simpa using q,k.back s1⟩
 |false=>exact aD (k _ _ _ _ s1 (.bl _) (by simpa using q))
theorem ai1 (h:LE X (sN ta) σ H Q'):vL (LE X ta) σ H Q':=by
 obtain⟨W,ρ,Q,px,q,k⟩:=h
 refine⟨W,ρ,_,px,q,?_⟩
 rintro v H1 x g s1 r ⟨c,rfl,q⟩
 cases r
 exact⟨c,rfl,k _ _ _ _ s1 (.bl _) q⟩
noncomputable def a9:cE:=λ_ Q=>Q []
noncomputable def a6 (te:aG)(tr:cE):cE:=λρ Q=>te ρ λx g=>tr ρ λxs=>Q ((x,g)::xs)
variable {Qa:List V→Hp→Prop}{tr:cE}
theorem ai2 (h:LA X a9 σ H Qa):lK σ H Qa:=by
 obtain⟨W,ρ,Q,px,q,k⟩:=h
 exact k _ _ _ (aB.refl _) .nil q
theorem ai3 (h:LA X (a6 ta tr) σ H Qa):k6 (LE X ta) (LA X tr) σ H Qa:=by
 obtain⟨W,ρ,Q,px,q,k⟩:=h
 refine⟨W,ρ,_,px,q,λv H1 x g s1 r1 q1=>⟨W,ρ,_,px.mono s1,q1,λvs H2 xs s2 r2 q2=>?_⟩⟩
 exact k _ _ _ (s1.trans s2) (.cons (r1.same s2 λ_ z=>z) (r2.same (aB.refl _) s1)) q2
noncomputable def b7 (t:cE):aG:=λρ Q=>t ρ λxs=>xs.length<=1000/\flats (xs.map (·.1))=true/\Q (.tup (xs.map (·.1))) .fr
noncomputable def eO (t:cE):aG:=λρ Q=>t ρ λxs=>xs.length<=1000/\flats (xs.map (·.1))=true/\Q (.lst (xs.map (·.1))) .fr
theorem fZ.length {K:ac}{H0:Hp}{W:Addr->Prop}{Hs H:Hp}:∀{vs:List V}{xs:List (PV×Tg)},fZ K H0 W Hs H vs xs->vs.length=xs.length
 |_,_,.nil=>rfl
 |_,_,.cons _ t=>congrArg (·+1) t.length
theorem oB {n:Nat}(h:n<=1000):n<=sizeLine:=aR3 (rQ h)
theorem ai4 (h:LE X (b7 tr) σ H Q'):wA (LA X tr) σ H Q':=by
 obtain⟨W,ρ,Q,px,q,k⟩:=h
 refine⟨W,ρ,_,px,q,?_⟩
 rintro vs H1 xs s1 r ⟨hl,n,q⟩
 refine⟨by rw[r.length];exact oB hl,λp hp=>k _ _ _ .fr (s1.trans (bI hp _)) (.tup bP ?_) q⟩
 exact (r.any.flat n).same (bI hp _) λ_ z=>z
theorem ai5 (h:LE X (eO tr) σ H Q'):wB (LA X tr) σ H Q':=by
 obtain⟨W,ρ,Q,px,q,k⟩:=h
 refine⟨W,ρ,_,px,q,?_⟩
 rintro vs H1 xs s1 r ⟨hl,n,q⟩
 refine⟨by rw[r.length];exact oB hl,λp hp=>k _ _ _ .fr (s1.trans (bI hp _)) (.lst (s1.free hp) bP ?_) q⟩
 exact (r.any.flat n).same (bI hp _) λ_ z=>z
noncomputable def cV (X:Cx)(R:List PV->(PV->Prop)->Prop)(r:List V->Hp->VK->Prop):Prop:=∀(H:Hp) (vs:List V) (xs:List PV) (Q:PV->Prop) (Q':VK),Reps X.K (λ_=>True) H vs xs->R xs Q->
 (∀w H' z,aB H H'->aF X.K (λa=>H a=none) H' w z->Q z->Q' w H')->r vs H Q'
noncomputable def aE (R:List PV->(PV->Prop)->Prop)(t:cE):aG:=λρ Q=>t ρ λxs=>R (xs.map (·.1)) λz=>Q z .fr
theorem yB {R:List PV->(PV->Prop)->Prop}{r:List V->Hp->VK->Prop}(c:cV X R r)(h:LE X (aE R tr) σ H Q'):rD r (LA X tr) σ H Q':=by
 obtain⟨W,ρ,Q,px,q,k⟩:=h
 refine⟨W,ρ,_,px,q,λvs H1 xs s1 r1 q1=>c H1 vs _ _ Q' r1.any q1 λw H' z s2 r2 q2=>k w H' z .fr (s1.trans s2) (r2.same (aB.refl _) λ_ z=>s1.free z) q2⟩
end
structure gJ where
 nx:bB->Prop
 rt:PV->Prop
 bk:bB->Prop:=λ_=>False
 ct:bB->Prop:=λ_=>False
noncomputable abbrev aS:=gJ->bB->Prop
noncomputable def Ev (W:Addr->Prop)(H:Hp)(W':Addr->Prop)(H':Hp):Prop:=∀b o,H b=some o->¬W b->H' b=some o/\¬W' b
theorem Ev.trans {W W1 W2:Addr->Prop}{H H1 H2:Hp}(a:Ev W H W1 H1)(b:Ev W1 H1 W2 H2):Ev W H W2 H2:=λc o h n=>let ⟨h1,n1⟩:=a c o h n;b c o h1 n1
theorem Ev.same {W:Addr->Prop}{H H':Hp}(s:aB H H'):Ev W H W H':=λc o h n=>⟨s _ _ h,n⟩
theorem Ev.refl (W:Addr->Prop)(H:Hp):Ev W H W H:=Ev.same (aB.refl _)
structure lS (X:Cx)(W:Addr->Prop)(H:Hp)(D':gJ)(D:cX):Prop where
 nx:∀W' σ' H' ρ',Ev W H W' H'->PX X.K X.H₀ W' σ' ρ' H'->D'.nx ρ'->D.nx σ' H'
 rt:∀v H' x,aB X.H₀ H'->aF X.K (λa=>X.H₀ a=none) H' v x->D'.rt x->D.rt v H'
 bk:∀W' σ' H' ρ',Ev W H W' H'->PX X.K X.H₀ W' σ' ρ' H'->D'.bk ρ'->D.bk σ' H'
 ct:∀W' σ' H' ρ',Ev W H W' H'->PX X.K X.H₀ W' σ' ρ' H'->D'.ct ρ'->D.ct σ' H'
theorem lS.step {X:Cx}{W W1:Addr->Prop}{H H1:Hp}{D':gJ}{D:cX}(k:lS X W H D' D)(e:Ev W H W1 H1):lS X W1 H1 D' D:=
 ⟨λW' σ' H' ρ' e'=>k.nx W' σ' H' ρ' (e.trans e'),k.rt,λW' σ' H' ρ' e'=>k.bk W' σ' H' ρ' (e.trans e'),λW' σ' H' ρ' e'=>k.ct W' σ' H' ρ' (e.trans e')⟩
noncomputable def LS (X:Cx)(t:aS):TS:=λD σ H=>∃(W:Addr->Prop) (ρ:bB) (D':gJ),PX X.K X.H₀ W σ ρ H/\t D' ρ/\lS X W H D' D
theorem fE {α:Type}{l:List α}{i j:Nat}{a b:α}(h:(l.set i a)[j]? = some b):(j=i/\i<l.length/\b=a)∨(j≠i/\l[j]? = some b):=by
 by_cases e:j=i
 ·subst e
  have hl:j<(l.set j a).length:=(aM0.mp h).1
  rw[aQ4]at hl
  rw[aQ1 hl]at h
  exact .inl ⟨rfl,hl,(aN2 h).symm⟩
 ·rw[aM7 (Ne.symm e)]at h
  exact .inr ⟨e,h⟩
section
variable {K:ac}{H0:Hp}{W W':Addr→Prop}{σ:St}{ρ:bB}{H H' Hs:Hp}
theorem PX.setSh {i:Nat}{v:V}{g:Bool}{x:PV}(p:PX K H0 W σ ρ H)(r:aF K (Ms H0 W g) H v x):PX K H0 W (σ.set i (some v)) (ρ.set i (some (.sh g x))) H:=by
 refine⟨by rw[aQ4,aQ4];exact p.len,p.same,p.wm,λj m h=>?_,λj k y z a h1 h2 h3 h4=>?_⟩
 ·rcases fE h with⟨rfl,hl,e⟩|⟨hne,h⟩
  ·cases e
   rw[p.len]at hl
   exact⟨v,aQ1 hl,r⟩
  ·obtain⟨u,e,q⟩:=p.sl j m h
   exact⟨u,by rw[aM7 (Ne.symm hne)];exact e,q⟩
 ·rcases fE h1 with⟨_,_,e⟩|⟨n1,h1⟩
  ·cases e
  ·rcases fE h2 with⟨_,_,e⟩|⟨n2,h2⟩
   ·cases e
   ·rw[aM7 (Ne.symm n1)]at h3
    rw[aM7 (Ne.symm n2)]at h4
    exact p.dis j k y z a h1 h2 h3 h4
theorem PX.setNone {i:Nat}{o:Option V}(p:PX K H0 W σ ρ H):PX K H0 W (σ.set i o) (ρ.set i none) H:=by
 refine⟨by rw[aQ4,aQ4];exact p.len,p.same,p.wm,λj m h=>?_,λj k y z a h1 h2 h3 h4=>?_⟩
 ·rcases fE h with⟨rfl,hl,e⟩|⟨hne,h⟩
  ·cases e
  ·obtain⟨u,e,q⟩:=p.sl j m h
   exact⟨u,by rw[aM7 (Ne.symm hne)];exact e,q⟩
 ·rcases fE h1 with⟨_,_,e⟩|⟨n1,h1⟩
  ·cases e
  ·rcases fE h2 with⟨_,_,e⟩|⟨n2,h2⟩
   ·cases e
   ·rw[aM7 (Ne.symm n1)]at h3
    rw[aM7 (Ne.symm n2)]at h4
    exact p.dis j k y z a h1 h2 h3 h4
noncomputable def kC (W:Addr->Prop)(a:Addr):Addr->Prop:=λb=>W b∨b=a
theorem sO {g:Bool}{a b:Addr}(n:b≠a)(h:Ms H0 W g b):Ms H0 (kC W a) g b:=by
 cases g with
 |true=>exact⟨λz=>z.elim h.1 n,h.2⟩
 |false=>exact λz=>z.elim h n
theorem PX.setOwn {i:Nat}{a:Addr}{x:PV}(p:PX K H0 W σ ρ Hs)(s:aB Hs H)(ha:Hs a=none)(r:fY K (Ms H0 (kC W a) true) H a x):PX K H0 (kC W a) (σ.set i (some (.ref a))) (ρ.set i (some (.own x))) H:=by
 have old:∀b o,Hs b=some o->b≠a:=λb o e z=>by rw[z,ha]at e;cases e
 have kp:∀g,gI (Ms H0 W g) (Ms H0 (kC W a) g) Hs H:=λg=>⟨λb _ m e=>⟨sO (old _ _ e) m,s _ _ e⟩,λb _ m e=>⟨sO (old _ _ e) m,s _ _ e⟩,λb _ m e=>⟨sO (old _ _ e) m,s _ _ e⟩,λ_ _ e=>s _ _ e,λ_ _ _ e=>s _ _ e⟩
 have wa:¬W a:=(p.new ha).1
 refine⟨by rw[aQ4,aQ4];exact p.len,p.same.trans s,λb z=>?_,λj m h=>?_,λj k y z b h1 h2 h3 h4=>?_⟩
 ·rcases z with z|rfl
  ·obtain⟨h1,o,h2,h3⟩:=p.wm b z
   exact⟨h1,o,s _ _ h2,h3⟩
  ·exact⟨(p.new ha).2,r.at⟩
 ·rcases fE h with⟨rfl,hl,e⟩|⟨hne,h⟩
  ·cases e
   rw[p.len]at hl
   exact⟨_,aQ1 hl,a,rfl,.inr rfl,r⟩
  ·obtain⟨u,e,q⟩:=p.sl j m h
   refine⟨u,by rw[aM7 (Ne.symm hne)];exact e,?_⟩
   cases m with
   |sh g y=>exact aF.keep (kp g) q
   |own y=>
    obtain⟨b,e1,e2,q⟩:=q
    exact⟨b,e1,.inl e2,q.keep (kp true) λo z=>s _ _ z⟩
 ·have ne:∀{j:Nat}{y:PV},ρ[j]? = some (some (.own y))->σ[j]?≠some (some (.ref a)):=λ{j y} h1 h2=>by
   obtain⟨u,e,c,e1,e2,_⟩:=p.sl j _ h1
   rw[h2]at e
   cases e
   cases e1
   exact wa e2
  rcases fE h1 with⟨e1,l1,_⟩|⟨n1,h1⟩
  ·rcases fE h2 with⟨e2,_,_⟩|⟨n2,h2⟩
   ·rw[e1,e2]
   ·rw[e1,aQ1 (by rw[<- p.len];exact l1)]at h3
    rw[aM7 (Ne.symm n2)]at h4
    cases h3
    exact absurd h4 (ne h2)
  ·rw[aM7 (Ne.symm n1)]at h3
   rcases fE h2 with⟨e2,l2,_⟩|⟨n2,h2⟩
   ·rw[e2,aQ1 (by rw[<- p.len];exact l2)]at h4
    cases h4
    exact absurd h3 (ne h1)
   ·rw[aM7 (Ne.symm n2)]at h4
    exact p.dis j k y z b h1 h2 h3 h4
theorem Ev.own {a:Addr}(s:aB Hs H)(ha:Hs a=none):Ev W Hs (kC W a) H:=λb o e n=>⟨s _ _ e,λz=>z.elim n λz=>by rw[z,ha]at e;cases e⟩
theorem oC {g:Bool}{a b:Addr}(wa:W a)(h:Ms H0 W g b):b≠a:=by
 cases g with
 |true=>exact λz=>h.1 (by rw[z];exact wa)
 |false=>exact λz=>h (by rw[z];exact wa)
theorem PX.updOwn {i:Nat}{a:Addr}{x y:PV}{o:HO}(p:PX K H0 W σ ρ H)(hi:ρ[i]? = some (some (.own x)))(ha:σ[i]? = some (some (.ref a)))(wa:W a)(mu:iK o=true)(r:fY K (Ms H0 W true) (upd H a o) a y) :
  PX K H0 W σ (ρ.set i (some (.own y))) (upd H a o):=by
 obtain⟨w0,o',e',mu'⟩:=p.wm a wa
 have kp:∀g,gI (Ms H0 W g) (Ms H0 W g) H (upd H a o):=λg=>.upd e' mu' λb m=>⟨oC wa m,m⟩
 refine⟨by rw[aQ4];exact p.len,λb u e=>by rw[b9 (λz=>by rw[z,w0]at e;cases e)];exact p.same _ _ e,λb z=>?_,λj m h=>?_,λj k y' z b h1 h2 h3 h4=>?_⟩
 ·by_cases e:b=a
  ·subst e;exact⟨w0,o,bP,mu⟩
  ·obtain⟨h1,o2,h2,h3⟩:=p.wm b z
   exact⟨h1,o2,by rw[b9 e];exact h2,h3⟩
 ·rcases fE h with⟨rfl,hl,e⟩|⟨hne,h⟩
  ·cases e
   exact⟨_,ha,a,rfl,wa,r⟩
  ·obtain⟨u,e,q⟩:=p.sl j m h
   refine⟨u,e,?_⟩
   cases m with
   |sh g y=>exact aF.keep (kp g) q
   |own y=>
    obtain⟨b,e1,e2,q⟩:=q
    have hb:b≠a:=λz=>by
     subst e1
     rw[z]at e
     exact hne (p.dis j i _ _ a h hi e ha)
    exact⟨b,e1,e2,q.keep (kp true) λo z=>by rw[b9 hb];exact z⟩
 ·have g1:∃y,ρ[j]? = some (some (.own y)):=by
   rcases fE h1 with⟨e,_,_⟩|⟨_,h⟩
   ·exact⟨x,by rw[e];exact hi⟩
   ·exact⟨_,h⟩
  have g2:∃y,ρ[k]? = some (some (.own y)):=by
   rcases fE h2 with⟨e,_,_⟩|⟨_,h⟩
   ·exact⟨x,by rw[e];exact hi⟩
   ·exact⟨_,h⟩
  obtain⟨y1,g1⟩:=g1
  obtain⟨y2,g2⟩:=g2
  exact p.dis j k y1 y2 b g1 g2 h3 h4
theorem Ev.upd {a:Addr}{o:HO}(wa:W a):Ev W H W (upd H a o):=λb u e n=>⟨by rw[b9 (λz=>n (by rw[z];exact wa))];exact e,n⟩
end
section
variable {X:Cx}{σ:St}{H:Hp}{D:cX}{te:aG}{t u:aS}
noncomputable def b6:aS:=λD ρ=>D.nx ρ
noncomputable def aI (t u:aS):aS:=λD ρ=>t { D with nx:=u D } ρ
theorem ai6 (h:LS X b6 D σ H):vN D σ H:=by
 obtain⟨W,ρ,D',px,q,k⟩:=h
 exact k.nx W σ H ρ (Ev.refl _ _) px q
theorem ai7 (h:LS X (aI t u) D σ H):vO (LS X t) (LS X u) D σ H:=by
 obtain⟨W,ρ,D',px,q,k⟩:=h
 exact⟨W,ρ,_,px,q,λW' σ' H' ρ' e px' q'=>⟨W',ρ',D',px',q',k.step e⟩,k.rt,k.bk,k.ct⟩
noncomputable def sP:Tg->PV->Bool
 |.fr,_=>true
 |.nw,_=>true
 |_,x=>flat x
noncomputable def sQ:Tg->PV->Prop
 |.rd,x=>flat x=true
 |_,_=>True
theorem yC {K:ac}{H0 Hs H:Hp}{W:Addr->Prop}{σ:St}{ρ:bB}{g:Tg}{x:PV}{v:V}(px:PX K H0 W σ ρ Hs)(n:sQ g x)(r:aF K (Mg H0 W Hs g) H v x):aF K (Ms H0 W (sP g x)) H v x:=by
 cases g with
 |fr=>exact Nw.rep (g:=.fr) px trivial r
 |nw=>exact Nw.rep (g:=.nw) px trivial r
 |sh=>
  show aF K (Ms H0 W (flat x)) H v x
  cases e:flat x with
  |true=>exact r.flat e
  |false=>exact r.same (aB.refl _) λ_ z=>z
 |rd=>exact r.flat n
noncomputable def bC (i:Nat)(te:aG):aS:=λD ρ=>te ρ λx g=>sQ g x/\D.nx (ρ.set i (some (.sh (sP g x) x)))
theorem ai8 {i:Nat}(h:LS X (bC i te) D σ H):lE (LE X te) (dN i) D σ H:=by
 obtain⟨W,ρ,D',px,q,k⟩:=h
 refine⟨W,ρ,_,px,q,?_⟩
 rintro v H1 x g s r ⟨n,q⟩
 exact k.nx W _ H1 _ (Ev.same s) ((px.mono s).setSh (yC px n r)) q
noncomputable def yD:PV->Bool
 |.lst xs=>flats xs
 |.dK ps=>flats (ps.map (·.2))
 |.dT ps=>flats (ps.map (·.2))
 |_=>false
theorem ai9 {K:ac}{M:Addr->Prop}{H:Hp}{v:V}{x:PV}(r:aF K M H v x)(o:yD x=true):∃a,v = .ref a/\M a/\∀M',fY K M' H a x:=by
 cases r with
 |lst m e r=>exact⟨_,rfl,m,λ_=>⟨_,e,r.flat o⟩⟩
 |dK m e q r=>exact⟨_,rfl,m,λ_=>⟨_,e,q,r.flat o⟩⟩
 |dT m e q r=>exact⟨_,rfl,m,λ_=>⟨_,e,q,r.flat o⟩⟩
 |_=>cases o
noncomputable def kD (i:Nat)(te:aG):aS:=λD ρ=>te ρ λx g=>g = .fr/\yD x=true/\D.nx (ρ.set i (some (.own x)))
theorem aj0 {i:Nat}(h:LS X (kD i te) D σ H):lE (LE X te) (dN i) D σ H:=by
 obtain⟨W,ρ,D',px,q,k⟩:=h
 refine⟨W,ρ,_,px,q,?_⟩
 rintro v H1 x g s r ⟨rfl,o,q⟩
 obtain⟨a,rfl,m,w⟩:=ai9 r o
 exact k.nx _ _ H1 _ (Ev.own s m) (px.setOwn s m (w _)) q
noncomputable def aV (te:aG):aS:=λD ρ=>te ρ λx g=>Nw g x/\D.rt x
theorem aj1 (h:LS X (aV te) D σ H):qN (LE X te) D σ H:=by
 obtain⟨W,ρ,D',px,q,k⟩:=h
 refine⟨W,ρ,_,px,q,?_⟩
 rintro v H1 x g s r ⟨n,q⟩
 exact k.rt v H1 x (px.same.trans s) ((Nw.rep px n r).same (aB.refl _) λ_ z=>z.2) q
noncomputable def Slot.nw:Slot->Prop
 |.own _=>True
 |.sh true _=>True
 |.sh false x=>flat x=true
noncomputable def oD (i:Nat):aS:=λD ρ=>∃m,ρ[i]? = some (some m)/\m.nw/\D.rt m.val
theorem aj2 {i:Nat}(h:LS X (oD i) D σ H):qN (iY i) D σ H:=by
 obtain⟨W,ρ,D',px,⟨m,hi,n,q⟩,k⟩:=h
 obtain⟨v,ev,r⟩:=px.sl i _ hi
 refine⟨v,ev,k.rt v H _ px.same ?_ q⟩
 cases m with
 |own x=>
  obtain⟨a,rfl,wa,r⟩:=r
  exact r.rep (λ_ z=>z.2) (px.wm a wa).1
 |sh g x=>
  cases g with
  |true=>exact aF.same r (aB.refl _) λ_ z=>z.2
  |false=>exact aF.flat n r
noncomputable def aZ (c:cI)(t u:aS):aS:=λD ρ=>c ρ λb=>if b=true then t D ρ else u D ρ
theorem aj3 {c:cI}(h:LS X (aZ c t u) D σ H):vQ (LT X c) (LS X t) (LS X u) D σ H:=by
 obtain⟨W,ρ,D',px,q,k⟩:=h
 refine⟨W,ρ,_,px,q,λb H1 s q1=>?_⟩
 cases b with
 |true=>exact aN ⟨W,ρ,D',px.mono s,by simpa using q1,k.step (Ev.same s)⟩
 |false=>exact aD ⟨W,ρ,D',px.mono s,by simpa using q1,k.step (Ev.same s)⟩
end
theorem lim {n:Nat}(h:n<=16000000):n<=sizeLine:=aR3 (k7 h)
theorem aF.sqT {K:ac}{M:Addr->Prop}{H:Hp}{v:V}{xs:List PV}(r:aF K M H v (.tup xs)):∃a us,v = .ref a/\H a=some (.tup us)/\Reps K M H us xs:=by
 cases r with
 |tup e r=>exact⟨_,_,rfl,e,r⟩
theorem aF.sqL {K:ac}{M:Addr->Prop}{H:Hp}{v:V}{xs:List PV}(r:aF K M H v (.lst xs)):∃a us,v = .ref a/\M a/\H a=some (.lst us)/\Reps K M H us xs:=by
 cases r with
 |lst m e r=>exact⟨_,_,rfl,m,e,r⟩
theorem i9.sqL {K:ac}{H:Hp}{a:Addr}{ns:ae}(h:i9 K H a ns):aM K H a (ns.map V.int):=h.elim (λz=>.inl (.inr z)) .inr
noncomputable def g6:PV->Option (List PV)
 |.tup xs=>some xs
 |.lst xs=>some xs
 |.scr ns=>some (intz ns)
 |.kt xs=>some xs
 |.fL xs=>some xs
 |_=>none
theorem aF.seq {K:ac}{M:Addr->Prop}{H:Hp}{v:V}{x:PV}{xs:List PV}(r:aF K M H v x)(e:g6 x=some xs):∃a us,v = .ref a/\(aM K H a us∨aL K H a us)/\Reps K M H us xs:=by
 cases r with
 |tup h r=>cases e;exact⟨_,_,rfl,.inr (aL.of h),r⟩
 |lst m h r=>cases e;exact⟨_,_,rfl,.inl (aM.of h),r⟩
 |scr h=>cases e;exact⟨_,_,rfl,.inl h.sqL,Reps.intz _⟩
 |kt h r=>cases e;exact⟨_,_,rfl,.inr (.inr h),r⟩
 |fL h r=>cases e;exact⟨_,_,rfl,.inl (.inl (.inr ⟨_,h⟩)),r⟩
 |_=>cases e
section
variable {X:Cx}{σ:St}{H:Hp}{D:cX}{te ti to:aG}{t u:aS}{Q':VK}
theorem _root_.PP.PX.updL {K:ac}{H0:Hp}{W:Addr->Prop}{σ:St}{ρ:bB}{H:Hp}{i:Nat}{a:Addr}{x:PV}{us:List V}{ys:List PV}(p:PX K H0 W σ ρ H)(hi:ρ[i]? = some (some (.own x)))(ha:σ[i]? = some (some (.ref a)))(wa:W a)(r:Reps K (Ms H0 W true) (upd H a (.lst us)) us ys) :
  PX K H0 W σ (ρ.set i (some (.own (.lst ys)))) (upd H a (.lst us)):=p.updOwn hi ha wa rfl (y:=.lst ys) ⟨us,bP,r⟩
noncomputable def lT (i:Nat)(te:aG):aS:=λD ρ=>∃xs,ρ[i]? = some (some (.own (.lst xs)))/\te ρ λx g=>Nw g x/\xs.length<16000000/\D.nx (ρ.set i (some (.own (.lst (xs++[x])))))
theorem aj4 {i:Nat}(h:LS X (lT i te) D σ H):vP (wW X.K "list" wY (iY i) (k6 (LE X te) lK)) D σ H:=by
 obtain⟨W,ρ,D',px,⟨xs,hi,q⟩,k⟩:=h
 obtain⟨v,ev,a,rfl,wa,us,ea,r⟩:=px.sl i _ hi
 refine⟨_,ev,tyL (aM.of ea),W,ρ,_,px,q,?_⟩
 rintro w H1 x g s rx ⟨n,hl,q⟩
 have ea1:=s _ _ ea
 refine⟨a,us,w,rfl,rfl,ea1,k7 (by rw[r.length];omega),?_⟩
 refine k.nx W σ _ _ ((Ev.same s).trans (Ev.upd wa)) ((px.mono s).updL hi ev wa ?_) q
 exact ((r.same s λ_ z=>z).append (.cons (Nw.rep px n rx) .nil)).keep (.upd ea1 rfl λb m=>⟨oC wa m,m⟩)
end
theorem Reps.atI {K:ac}{M:Addr->Prop}{H:Hp}{us:List V}{xs:List PV}{i:Int}{z:PV}(r:Reps K M H us xs)(h:L2.atI xs i=some z):∃v,L2.atI us i=some v/\aF K M H v z:=by
 unfold L2.atI at h ⊢
 rw[r.length]
 cases e:j6 xs.length i with
 |none=>rw[e]at h;cases h
 |some j=>rw[e]at h;exact r.at h
section
variable {X:Cx}{σ:St}{H:Hp}{Q':VK}{ta tb te:aG}{tr:cE}
noncomputable def sR:PV->Tg->PV->Tg->PK->Prop:=λx g y _ Q=>∃xs i z,g6 x=some xs/\y = .int i/\L2.atI xs i=some z/\Q z g
theorem aj5:cN X sR (wR X.K):=by
 rintro W Hs H u v x y g g' Q Q' s n r1 r2 ⟨xs,i,z,e,rfl,hz,q⟩ k
 cases r2
 obtain⟨a,us,rfl,hs,r⟩:=r1.seq e
 obtain⟨v,hv,rv⟩:=r.atI hz
 rcases hs with hs|hs
 ·exact .inl ⟨a,us,i,v,rfl,rfl,hs,hv,k v H z g (aB.refl _) rv q⟩
 ·exact .inr (.inl ⟨a,us,i,v,rfl,rfl,hs,hv,k v H z g (aB.refl _) rv q⟩)
noncomputable def sS:PV->Option Nat
 |.tup xs=>some xs.length
 |.lst xs=>some xs.length
 |.scr ns=>some ns.length
 |.dK ps=>some ps.length
 |.kt xs=>some xs.length
 |.fL xs=>some xs.length
 |_=>none
noncomputable def dJ:List PV->(PV->Prop)->Prop:=λxs Q=>∃x n,xs = [x]/\sS x=some n/\Q (.int n)
theorem Reps.one {K:ac}{M:Addr->Prop}{H:Hp}{vs:List V}{x:PV}(r:Reps K M H vs [x]):∃v,vs = [v]/\aF K M H v x:=by
 cases r with
 |cons r t=>cases t;exact⟨_,rfl,r⟩
theorem Reps.two {K:ac}{M:Addr->Prop}{H:Hp}{vs:List V}{x y:PV}(r:Reps K M H vs [x,y]):∃v w,vs = [v,w]/\aF K M H v x/\aF K M H w y:=by
 cases r with
 |cons r t=>
  obtain⟨w,rfl,q⟩:=t.one
  exact⟨_,_,rfl,r,q⟩
theorem aj6:cV X dJ (λxs H Q=>(∃p ys,xs = [.ref p]/\(aM X.K H p ys∨aL X.K H p ys)/\Q (.int ys.length) H)∨∃a kvs,xs = [V.ref a]/\H a=some (.dK kvs)/\Q (.int kvs.length) H):=by
 rintro H vs xs Q Q' r ⟨x,n,rfl,e,q⟩ k
 obtain⟨v,rfl,r1⟩:=r.one
 have fin:∀{m:Nat},m=n->Q' (.int m) H:=λ{m} z=>by rw[z];exact k _ _ _ (aB.refl _) (.int _) q
 cases r1 with
 |tup h r2=>cases e;exact .inl ⟨_,_,rfl,.inr (aL.of h),fin r2.length⟩
 |lst m h r2=>cases e;exact .inl ⟨_,_,rfl,.inl (aM.of h),fin r2.length⟩
 |scr h=>cases e;exact .inl ⟨_,_,rfl,.inl h.sqL,fin (by rw[aL2])⟩
 |kt h r2=>cases e;exact .inl ⟨_,_,rfl,.inr (.inr h),fin r2.length⟩
 |fL h r2=>cases e;exact .inl ⟨_,_,rfl,.inl (.inl (.inr ⟨_,h⟩)),fin r2.length⟩
 |dK m h e' r=>
  cases e
  refine .inr ⟨_,_,rfl,h,fin ?_⟩
  have:=congrArg List.length e'
  rw[aL2,aL2]at this
  exact this
 |_=>cases e
noncomputable def seqT:PV->Option (List PV)
 |.kt _=>none
 |x=>g6 x
noncomputable def yE:List PV->(PV->Prop)->Prop:=λxs Q=>∃x ys,xs = [x]/\seqT x=some ys/\flats ys=true/\Q (.tup ys)
noncomputable def oE:List PV->(PV->Prop)->Prop:=λxs Q=>∃x ys,xs = [x]/\g6 x=some ys/\flats ys=true/\Q (.lst ys)
theorem aj7:cV X (λxs Q=>yE xs Q/\∀ns,xs≠[.scr ns]) (λxs H Q=>∃p ys,xs = [.ref p]/\((aM X.K H p ys/\∀l,H l=none->Q (.ref l) (upd H l (.tup ys)))∨(aL X.K H p ys/\Q (.ref p) H))):=by
 rintro H vs xs Q Q' r ⟨⟨x,ys,rfl,e,f,q⟩,nsc⟩ k
 obtain⟨v,rfl,r1⟩:=r.one
 cases r1 with
 |tup h r2=>cases e;exact⟨_,_,rfl,.inr ⟨aL.of h,k _ _ _ (aB.refl _) (.tup h (r2.flat f)) q⟩⟩
 |lst m h r2=>cases e;exact⟨_,_,rfl,.inl ⟨aM.of h,λl hl=>k _ _ _ (bI hl _) (.tup bP ((r2.flat f).same (bI hl _) λ_ z=>z)) q⟩⟩
 |scr h=>exact absurd rfl (nsc _)
 |fL h r2=>cases e;exact⟨_,_,rfl,.inl ⟨.inl (.inr ⟨_,h⟩),λl hl=>k _ _ _ (bI hl _) (.tup bP ((r2.flat f).same (bI hl _) λ_ z=>z)) q⟩⟩
 |_=>cases e
theorem aj8:cV X oE (λxs H Q=>∃p ys,xs = [.ref p]/\(aM X.K H p ys∨aL X.K H p ys)/\∀l,H l=none->Q (.ref l) (upd H l (.lst ys))):=by
 rintro H vs xs Q Q' r ⟨x,ys,rfl,e,f,q⟩ k
 obtain⟨v,rfl,r1⟩:=r.one
 obtain⟨a,us,rfl,hs,r2⟩:=r1.seq e
 exact⟨_,_,rfl,hs,λl hl=>k _ _ _ (bI hl _) (.lst hl bP ((r2.flat f).same (bI hl _) λ_ z=>z)) q⟩
noncomputable def sT:List PV->(PV->Prop)->Prop:=λxs Q=>∃bs:List Bool,xs = [.lst (bs.map PV.bl)]/\Q (.bl (bs.all id))
theorem Reps.ofBls {K:ac}{M:Addr->Prop}{H:Hp}:∀{ns:List Bool}{us:List V},Reps K M H us (ns.map PV.bl)->us=ns.map V.bl
 |[],_,.nil=>rfl
 |n::r,_,.cons q t=>by
  cases q
  rw[Reps.ofBls t];rfl
theorem aj9:cV X sT (λxs H Q=>∃(a:Addr) (bs:List Bool),xs = [.ref a]/\aM X.K H a (bs.map V.bl)/\Q (.bl (bs.all id)) H):=by
 rintro H vs xs Q Q' r ⟨bs,rfl,q⟩ k
 obtain⟨v,rfl,r1⟩:=r.one
 obtain⟨a,us,rfl,_,h,r2⟩:=r1.sqL
 obtain rfl:=r2.ofBls
 exact⟨a,bs,rfl,aM.of h,k _ _ _ (aB.refl _) (.bl _) q⟩
noncomputable def oF:List PV->(PV->Prop)->Prop:=λxs Q=>∃i j,xs = [.int i,.int j]/\Q (.int (if j<i then j else i))
noncomputable def lU:List PV->(PV->Prop)->Prop:=λxs Q=>∃i j,xs = [.int i,.int j]/\Q (.int (if j>i then j else i))
theorem ak0:cV X oF (λxs H Q=>∃i j,xs = [.int i,.int j]/\Q (.int (if j<i then j else i)) H):=by
 rintro H vs xs Q Q' r ⟨i,j,rfl,q⟩ k
 obtain⟨v,w,rfl,r1,r2⟩:=r.two
 cases r1;cases r2
 exact⟨i,j,rfl,k _ _ _ (aB.refl _) (.int _) q⟩
theorem ak1:cV X lU (λxs H Q=>∃i j,xs = [.int i,.int j]/\Q (.int (if j>i then j else i)) H):=by
 rintro H vs xs Q Q' r ⟨i,j,rfl,q⟩ k
 obtain⟨v,w,rfl,r1,r2⟩:=r.two
 cases r1;cases r2
 exact⟨i,j,rfl,k _ _ _ (aB.refl _) (.int _) q⟩
noncomputable abbrev c7:=List PV->(PV->Prop)->Prop
noncomputable def lV (K:ac)(p:c7):Sp:=λvs H Q _=>∃xs Qp,Reps K (λ_=>True) H vs xs/\p xs Qp/\∀v H' x,aB H H'->aF K (λa=>H a=none) H' v x->Qp x->Q v H'
theorem ak2 {p:c7}{E:XK}(h:LE X (aE p tr) σ H Q'):rB (lV X.K p) [] E (LA X tr) σ H Q':=by
 obtain⟨W,ρ,Q,px,q,k⟩:=h
 refine⟨W,ρ,_,px,q,λvs H1 xs s1 r1 q1=>⟨_,_,by rw[aO7];exact r1.any,q1,λv H' x s2 r2 q2=>k v H' x .fr (s1.trans s2) (r2.same (aB.refl _) λ_ z=>s1.free z) q2⟩⟩
noncomputable def sU:PV->Bool
 |.non=>true
 |_=>false
noncomputable def sV (neg:Bool):PV->Tg->PV->Tg->PK->Prop:=λx _ y _ Q=>y = .non/\Q (.bl (if neg=true then !sU x else sU x)) .fr
theorem ak3 {K:ac}{M:Addr->Prop}{H:Hp}{v:V}{x:PV}(r:aF K M H v x):decide (v = .non)=sU x:=by
 cases r<;>rfl
theorem ak4:cN X (sV false) (λx y H Q=>y = .non/\Q (.bl (decide (x = .non))) H):=by
 rintro W Hs H u v x y g g' Q Q' s n r1 r2 ⟨rfl,q⟩ k
 cases r2
 exact⟨rfl,by rw[ak3 r1];exact k _ _ _ _ (aB.refl _) (.bl _) q⟩
end
structure oG (K:ac)(H0:Hp)(W:Addr->Prop)(g:Bool)(H1:Hp)(J:It)(xs:List PV):Prop where
 go:∀W' H' i,Ev W H1 W' H'->i<xs.length->J.go i H'
 yld:∀W' H' i v H2,Ev W H1 W' H'->J.yld i H' v H2->i<xs.length->aB H' H2/\∃x,xs[i]? = some x/\aF K (Ms H0 W' g) H2 v x
 stop:∀W' H',Ev W H1 W' H'->J.stop xs.length H'
noncomputable abbrev fP:=bB->(List PV->Bool->Prop)->Prop
noncomputable def LI (X:Cx)(t:fP):TI:=λσ H R=>∃(W:Addr->Prop) (ρ:bB) (Q:List PV->Bool->Prop),PX X.K X.H₀ W σ ρ H/\t ρ Q/\∀J H1 xs g,aB H H1->oG X.K X.H₀ W g H1 J xs->Q xs g->R J H1
theorem Ev.keep {H0:Hp}{W W':Addr->Prop}{H H':Hp}{g:Bool}(e:Ev W H W' H')(tw:∀a,W a->∃o,H a=some o/\iK o=true):gI (Ms H0 W g) (Ms H0 W' g) H H':=by
 have m:∀{a:Addr}{o:HO},Ms H0 W g a->H a=some o->Ms H0 W' g a/\H' a=some o:=λ{a o} z h=>by
  cases g with
  |true=>
   obtain⟨h1,h2⟩:=e a _ h z.1
   exact⟨⟨h2,z.2⟩,h1⟩
  |false=>
   obtain⟨h1,h2⟩:=e a _ h z
   exact⟨h2,h1⟩
 refine⟨λa _ z h=>m z h,λa _ z h=>m z h,λa _ z h=>m z h,λa _ h=>(e a _ h λz=>?_).1,λa _ _ h=>(e a _ h λz=>?_).1⟩
 ·obtain⟨o,h',mu⟩:=tw a z;rw[h]at h';cases h';cases mu
 ·obtain⟨o,h',mu⟩:=tw a z;rw[h]at h';cases h';cases mu
section
variable {X:Cx}{σ:St}{H:Hp}{te:aG}{tr:cE}{R:It→Hp→Prop}
noncomputable def yF (K:ac)(tl:TE):TI:=λσ H R=>tl σ H λx H1=>∃a,x = .ref a/\((∃xs,aM K H1 a xs/\R (qR K a) H1)∨(∃xs,aL K H1 a xs/\R (qS K a) H1))
noncomputable def yG:Tg->List PV->Bool
 |.fr,_=>true
 |.nw,_=>true
 |_,xs=>flats xs
noncomputable def g9 (te:aG):fP:=λρ Q=>te ρ λx g=>∃xs,g6 x=some xs/\(g = .rd->flat x=true)/\Q xs (yG g xs)
theorem sW {K:ac}{H0:Hp}{W:Addr->Prop}{g:Bool}{H1:Hp}{a:Addr}{us:List V}{xs:List PV}(tw:∀a,W a->∃o,H1 a=some o/\iK o=true)(ha:∀W' H',Ev W H1 W' H'->aM K H' a us)(r:Reps K (Ms H0 W g) H1 us xs):oG K H0 W g H1 (qR K a) xs:=by
 have lr:=r.length
 refine⟨λW' H' i e hi=>⟨us,us[i]'(by omega),ha W' H' e,by simp⟩,λW' H' i v H2 e y hi=>?_,λW' H' e=>⟨us,ha W' H' e,by omega⟩⟩
 obtain⟨rfl,y⟩:=y
 obtain⟨x,hx,rx⟩:=r.get (y us (ha W' _ e))
 exact⟨aB.refl _,x,hx,rx.keep (e.keep tw)⟩
theorem yH {K:ac}{H0:Hp}{W:Addr->Prop}{g:Bool}{H1:Hp}{a:Addr}{us:List V}{xs:List PV}(tw:∀a,W a->∃o,H1 a=some o/\iK o=true)(ha:∀W' H',Ev W H1 W' H'->aL K H' a us)(r:Reps K (Ms H0 W g) H1 us xs):oG K H0 W g H1 (qS K a) xs:=by
 have lr:=r.length
 refine⟨λW' H' i e hi=>⟨us,us[i]'(by omega),ha W' H' e,by simp⟩,λW' H' i v H2 e y hi=>?_,λW' H' e=>⟨us,ha W' H' e,by omega⟩⟩
 obtain⟨rfl,y⟩:=y
 obtain⟨x,hx,rx⟩:=r.get (y us (ha W' _ e))
 exact⟨aB.refl _,x,hx,rx.keep (e.keep tw)⟩
theorem lW {K:ac}{H0 Hs H:Hp}{W:Addr->Prop}{σ:St}{ρ:bB}{g:Tg}{us:List V}{xs:List PV}(px:PX K H0 W σ ρ Hs)(hg:g = .rd->flats xs=true)(r:Reps K (Mg H0 W Hs g) H us xs):Reps K (Ms H0 W (yG g xs)) H us xs:=by
 cases g with
 |fr=>exact r.same (aB.refl _) λ_ z=>px.new z
 |nw=>exact r.same (aB.refl _) λ_ z=>z
 |sh=>
  show Reps K (Ms H0 W (flats xs)) H us xs
  cases e:flats xs with
  |true=>exact r.flat e
  |false=>exact r.same (aB.refl _) λ_ z=>z
 |rd=>exact r.flat (hg rfl)
theorem ak5 (h:LI X (g9 te) σ H R):yF X.K (LE X te) σ H R:=by
 obtain⟨W,ρ,Q,px,q,k⟩:=h
 refine⟨W,ρ,_,px,q,?_⟩
 rintro v H1 x g s r ⟨xs,e,hg,q⟩
 have px1:=px.mono s
 have tw:∀a,W a->∃o,H1 a=some o/\iK o=true:=λa z=>(px1.wm a z).2
 cases r with
 |tup h r=>
  cases e
  refine⟨_,rfl,.inr ⟨_,aL.of h,k _ _ _ _ s (yH tw (λW' H' e=>aL.of (e _ _ h λz=>?_).1) (lW px (λz=>by have:=hg z;unfold flat at this;exact this) r)) q⟩⟩
  obtain⟨o,h',mu⟩:=tw _ z;rw[h]at h';cases h';cases mu
 |@lst a us xs' m h r=>
  cases e
  have wa:¬W a:=by
   cases g with
   |fr=>exact (px.new m).1
   |nw=>exact m.1
   |sh=>exact m
   |rd=>have:=hg rfl;unfold flat at this;cases this
  exact⟨_,rfl,.inl ⟨_,aM.of h,k _ _ _ _ s (sW tw (λW' H' e=>aM.of (e _ _ h wa).1) (lW px (λz=>by have:=hg z;unfold flat at this;cases this) r)) q⟩⟩
 |scr h=>
  cases e
  refine⟨_,rfl,.inl ⟨_,h.sqL,k _ _ _ _ s (sW tw (λW' H' e=>(i9.keep (λa o u hz=>(e _ _ hz λz=>?_).1) h).sqL) (lW (g:=g) px (λz=>bZ _) (Reps.intz _))) q⟩⟩
  obtain⟨o,h',mu⟩:=tw _ z;rw[hz]at h';cases h';cases mu
 |kt h r=>
  cases e
  exact⟨_,rfl,.inr ⟨_,.inr h,k _ _ _ _ s (yH tw (λW' H' e=>.inr h) (lW px (λz=>by have:=hg z;unfold flat at this;exact this) r)) q⟩⟩
 |fL h r=>
  cases e
  refine⟨_,rfl,.inl ⟨_,.inl (.inr ⟨_,h⟩),k _ _ _ _ s (sW tw (λW' H' e=>.inl (.inr ⟨_,(e _ _ h λz=>?_).1⟩)) (lW px (λz=>by have:=hg z;unfold flat at this;exact this) r)) q⟩⟩
  obtain⟨o,h',mu⟩:=tw _ z;rw[h]at h';cases h';cases mu
 |_=>cases e
noncomputable def eB (lo:Int)(n:Nat):List PV:=(List.range n).map λ(i:Nat)=>PV.int (lo+(i:Int))
theorem lX (lo:Int)(n:Nat):(eB lo n).length=n:=by unfold eB;rw[aL2,List.length_range]
theorem yI {lo:Int}{n i:Nat}(h:i<n):(eB lo n)[i]? = some (.int (lo+i)):=by unfold eB;rw[aM9,List.getElem?_range h];rfl
noncomputable def iL (te:aG):fP:=λρ Q=>te ρ λx _=>∃j:Int,x = .int j/\-1000000<=j/\j<=1000000/\Q (eB 0 j.toNat) true
noncomputable def sX (ta tb:aG):fP:=λρ Q=>ta ρ λx _=>tb ρ λy _=>∃i j:Int,x = .int i/\y = .int j/\(-1000000<=i/\i<=1000000/\-1000000<=j/\j<=1000000)/\Q (eB i (j-i).toNat) true
theorem yJ {K:ac}{H0:Hp}{W:Addr->Prop}{H1:Hp}(lo:Int)(n:Nat):oG K H0 W true H1 (lF lo n) (eB lo n):=by
 refine⟨λW' H' i e hi=>by rw[lX]at hi;exact hi,λW' H' i v H2 e y hi=>?_,λW' H' e=>by show n<=(eB lo n).length;rw[lX];exact aK8 _⟩
 rw[lX]at hi
 obtain⟨rfl,rfl⟩:=y
 exact⟨aB.refl _,_,yI hi,.int _⟩
theorem ak6 (h:LI X (iL te) σ H R):vU (k6 (LE X te) lK) σ H R:=by
 obtain⟨W,ρ,Q,px,q,k⟩:=h
 refine⟨W,ρ,_,px,q,?_⟩
 rintro v H1 x g s r ⟨j,rfl,h1,h2,q⟩
 cases r
 exact⟨j,rfl,by omega,by omega,k _ _ _ _ s (yJ 0 j.toNat) q⟩
theorem ak7 {ta tb:aG}(h:LI X (sX ta tb) σ H R):vV (k6 (LE X ta) (k6 (LE X tb) lK)) σ H R:=by
 obtain⟨W,ρ,Q,px,q,k⟩:=h
 refine⟨W,ρ,_,px,q,λv H1 x g s r q=>⟨W,ρ,_,px.mono s,q,?_⟩⟩
 rintro w H2 y g' s2 r2 ⟨i,j,rfl,rfl,h,q⟩
 cases r;cases r2
 exact⟨i,j,rfl,by omega,k _ _ _ _ (s.trans s2) (yJ i (j-i).toNat) q⟩
end
noncomputable abbrev gK:=PV->Bool->bB->(bB->Prop)->Prop
noncomputable def kE (K:ac)(own:Nat->Prop)(p:gK)(t:TG):Prop:=∀(H0:Hp) (W:Addr->Prop) (σ:St) (ρ:bB) (H:Hp) (v:V) (x:PV) (g:Bool) (Q:bB->Prop) (Q':St->Hp->Prop),
 PX K H0 W σ ρ H->aF K (Ms H0 W g) H v x->p x g ρ Q->(∀σ' ρ',PX K H0 W σ' ρ' H->(∀i,¬own i->σ'[i]? = σ[i]?)->σ'.length=σ.length->Q ρ'->Q' σ' H)->t v σ H Q'
noncomputable def cO (i:Nat):gK:=λx g ρ Q=>Q (ρ.set i (some (.sh (g||flat x) x)))
theorem oH {K:ac}{H0 H:Hp}{W:Addr->Prop}{v:V}{x:PV}{g:Bool}(r:aF K (Ms H0 W g) H v x):aF K (Ms H0 W (g||flat x)) H v x:=by
 cases g with
 |true=>exact r
 |false=>
  show aF K (Ms H0 W (flat x)) H v x
  cases e:flat x with
  |true=>exact r.flat e
  |false=>exact r
theorem sY (K:ac)(i:Nat):kE K (· = i) (cO i) (dN i):=by
 intro H0 W σ ρ H v x g Q Q' px r q k
 exact k _ _ (px.setSh (oH r)) (λj hj=>by rw[aM7 (Ne.symm hj)]) (aQ4 ..) q
noncomputable def oI (i j:Nat):gK:=λx g ρ Q=>∃y z,x = .tup [y,z]/\Q ((ρ.set i (some (.sh (g||flat y) y))).set j (some (.sh (g||flat z) z)))
theorem ak8 (K:ac)(i j:Nat):kE K (λk=>k=i∨k=j) (oI i j) (lD K 2 (hJ (dN i) (hJ (dN j) lC))):=by
 intro H0 W σ ρ H v x g Q Q' px r q k
 obtain⟨y,z,rfl,q⟩:=q
 obtain⟨a,us,rfl,h,r⟩:=r.sqT
 obtain⟨u1,u2,rfl,r1,r2⟩:=r.two
 refine⟨a,_,rfl,aL.of h,rfl,u1,_,rfl,u2,_,rfl,rfl,k _ _ ((px.setSh (oH r1)).setSh (oH r2)) (λk hk=>?_) (by rw[aQ4,aQ4]) q⟩
 rw[aM7 (λe=>hk (.inr e.symm)),aM7 (λe=>hk (.inl e.symm))]
section
variable {X:Cx}{σ:St}{H:Hp}{D:cX}
noncomputable def fQ (ti:fP)(p:gK)(tb:aS):aS:=λD ρ=>ti ρ λxs g=>∃I:Nat->bB->Prop,I 0 ρ/\(∀i x ρ',xs[i]? = some x->I i ρ'->p x g ρ' λρ2=>tb { D with nx:=I (i+1),ct:=I (i+1),bk:=D.nx } ρ2)/\∀ρ',I xs.length ρ'->D.nx ρ'
theorem ak9 {ti:fP}{p:gK}{g:TG}{tb:aS}{own:Nat->Prop}(hg:kE X.K own p g)(h:LS X (fQ ti p tb) D σ H):vW (LI X ti) g (LS X tb) D σ H:=by
 obtain⟨W,ρ,D',px,q,k⟩:=h
 refine⟨W,ρ,_,px,q,?_⟩
 rintro J H1 xs gb s it ⟨I,i0,turn,fin⟩
 refine⟨λi m σ2 H2=>m=xs.length-i/\i<=xs.length/\∃W2 ρ2,PX X.K X.H₀ W2 σ2 ρ2 H2/\Ev W H1 W2 H2/\I i ρ2,⟨xs.length,by omega,aP3 _,W,ρ,px.mono s,Ev.refl _ _,i0⟩,?_⟩
 rintro i m σ2 H2 ⟨rfl,hi,W2,ρ2,px2,e2,i2⟩
 have e0:Ev W H W2 H2:=(Ev.same s).trans e2
 by_cases hlt:i<xs.length
 ·refine .inr ⟨it.go W2 H2 i e2 hlt,λσ3 H3=>∃W3 ρ3,PX X.K X.H₀ W3 σ3 ρ3 H3/\Ev W H1 W3 H3/\I (i+1) ρ3,λσ3 H3 ⟨W3,ρ3,a,b,c⟩=>⟨xs.length-(i+1),by omega,rfl,hlt,W3,ρ3,a,b,c⟩,λv H3 y=>?_⟩
  obtain⟨s3,x,hx,rx⟩:=it.yld W2 H2 i v H3 e2 y hlt
  refine hg X.H₀ W2 σ2 ρ2 H3 v x gb _ _ (px2.mono s3) rx (turn i x ρ2 hx i2) λσ4 ρ4 px4 _ _ q4=>?_
  have e3:Ev W H1 W2 H3:=e2.trans (Ev.same s3)
  have e3':Ev W H W2 H3:=e0.trans (Ev.same s3)
  exact⟨W2,ρ4,_,px4,q4,λW' σ' H' ρ' e p q=>⟨W',ρ',p,e3.trans e,q⟩,k.rt,λW' σ' H' ρ' e p q=>k.nx W' σ' H' ρ' (e3'.trans e) p q,λW' σ' H' ρ' e p q=>⟨W',ρ',p,e3.trans e,q⟩⟩
 ·have e:i=xs.length:=by omega
  subst e
  exact .inl ⟨it.stop W2 H2 e2,k.nx W2 σ2 H2 ρ2 e0 px2 (fin ρ2 i2)⟩
end
noncomputable def kF (fr:List (Option Nat))(ρ:bB):bB:=fr.map λo=>o.bind λj=>(ρ[j]?).join.map λm=>Slot.sh false m.val
noncomputable def j9 (D:Addr):Addr->Prop:=λa=>a=D
theorem al0 {K:ac}{H0:Hp}{W:Addr->Prop}{σ:St}{ρ:bB}{H1 H':Hp}{D:Addr}{acc:List V}{fr:List (Option Nat)}(px:PX K H0 W σ ρ H1)(hD:H1 D=none)(s:aB H1 H')(ha:H' D=some (.lst acc)) :
  PX K H1 (j9 D) (eL fr σ) (kF fr ρ) H':=by
 have old:∀{a:Addr}{o:HO},H1 a=some o->a≠D:=λ{a o} e z=>by rw[z,hD]at e;cases e
 refine⟨by unfold eL kF;rw[aL2,aL2],s,λa z=>by cases z;exact⟨hD,_,ha,rfl⟩,λi m h=>?_,λi j x y a h1=>?_⟩
 ·unfold kF at h
  rw[aM9]at h
  cases ef:fr[i]? with
  |none=>rw[ef]at h;cases h
  |some o=>
   rw[ef]at h
   cases o with
   |none=>cases h
   |some j=>
    have h:some ((ρ[j]?).join.map λm=>Slot.sh false m.val)=some (some m):=h
    cases er:ρ[j]? with
    |none=>rw[er]at h;cases h
    |some o=>
     rw[er]at h
     cases o with
     |none=>cases h
     |some m0=>
      cases h
      obtain⟨v,ev,r⟩:=px.sl j m0 er
      refine⟨v,?_,?_⟩
      ·unfold eL
       rw[aM9,ef]
       show some ((σ[j]?).join)=_
       rw[ev];rfl
      ·have r':aF K (λ_=>True) H1 v m0.val:=(xX (Hs:=H1) r).same (aB.refl _) λ_ _=>trivial
       exact r'.keep ⟨λa _ _ e=>⟨old e,s _ _ e⟩,λa _ _ e=>⟨old e,s _ _ e⟩,λa _ _ e=>⟨old e,s _ _ e⟩,λ_ _ e=>s _ _ e,λ_ _ _ e=>s _ _ e⟩
 ·unfold kF at h1
  rw[aM9]at h1
  cases ef:fr[i]? with
  |none=>rw[ef]at h1;cases h1
  |some o=>
   rw[ef]at h1
   cases o with
   |none=>cases h1
   |some j=>
    have h1:some ((ρ[j]?).join.map λm=>Slot.sh false m.val)=some (some (Slot.own x)):=h1
    cases er:ρ[j]? with
    |none=>rw[er]at h1;cases h1
    |some o=>
     rw[er]at h1
     cases o with
     |none=>cases h1
     |some m0=>cases h1
section
variable {X:Cx}{σ:St}{H:Hp}{Q':VK}
noncomputable abbrev _root_.L2.Cx.frm (X:Cx)(H1:Hp):Cx:={ X with H₀:=H1 }
noncomputable def gL (ti:fP)(fr:List (Option Nat))(p:gK)(tc:cI)(te:aG):aG:=λρ Q=>ti ρ λxs g=>xs.length<=16000000/\∃I:Nat->List PV->Prop,I 0 []/\
 (∀i x acc,xs[i]? = some x->I i acc->p x false (kF fr ρ) λρ2=>tc ρ2 λb=>if b=true then te ρ2 λy gy=>Nw gy y/\I (i+1) (acc++[y]) else I (i+1) acc)/\∀acc,I xs.length acc->Q (.lst acc) .fr
theorem yK {ti:fP}{fr:List (Option Nat)}{p:gK}{g:TG}{tc:cI}{te:aG}{own:Nat->Prop}(hg:kE X.K own p g)(ho:∀i,own i->fr[i]? = some none)(h:LE X (gL ti fr p tc te) σ H Q') :
  xL (LI X ti) fr (λ_=>g) (λH1=>LT (X.frm H1) tc) (λH1=>LE (X.frm H1) te) σ H Q':=by
 obtain⟨W,ρ,Q,px,q,k⟩:=h
 refine⟨W,ρ,_,px,q,?_⟩
 rintro J H1 xs gb s it ⟨hl,I,i0,turn,fin⟩ D hD
 have px1:=px.mono s
 refine⟨λi m acc H'=>m=xs.length-i/\i<=xs.length/\aB H1 H'/\H' D=some (.lst acc)/\∃ys,Reps X.K (Ms H1 (j9 D) true) H' acc ys/\ys.length<=i/\I i ys,⟨xs.length,by omega,aP3 _,bI hD _,bP,[],.nil,aK8 _,i0⟩,?_⟩
 rintro i m acc H' ⟨rfl,hi,sm,ha,ys,ry,hy,iy⟩
 refine⟨ha,?_⟩
 have ev:Ev W H1 (kC W D) H':=Ev.own sm hD
 by_cases hlt:i<xs.length
 ·refine .inr ⟨it.go _ H' i ev hlt,λv H2 y=>?_⟩
  obtain⟨s2,x,hx,rx⟩:=it.yld _ H' i v H2 ev y hlt
  have ha2:=s2 _ _ ha
  have pxb:PX X.K H1 (j9 D) (eL fr σ) (kF fr ρ) H2:=al0 px1 hD (sm.trans s2) ha2
  have rx':aF X.K (Ms H1 (j9 D) false) H2 v x:=rx.same (aB.refl _) λa z=>by
   cases gb with
   |true=>exact λe=>z.1 (.inr e)
   |false=>exact λe=>z (.inr e)
  refine hg H1 (j9 D) _ _ H2 v x false _ _ pxb rx' (turn i x ys hx iy) λσ2 ρ2 px2 hown hlen q2=>⟨⟨hlen.symm,λj w e=>?_⟩,?_⟩
  ·by_cases oj:own j
   ·have:=ho j oj
    unfold eL at e
    rw[aM9,this]at e
    cases e
   ·rw[hown j oj];exact e
  ·refine⟨j9 D,ρ2,_,px2,q2,λb H4 s4 q4=>?_⟩
   have ha4:=s4 _ _ ha2
   have sm4:=(sm.trans s2).trans s4
   cases b with
   |false=>
    refine aD ⟨xs.length-(i+1),by omega,rfl,hlt,sm4,ha4,ys,ry.same (s2.trans s4) λ_ z=>z,by omega,by simpa using q4⟩
   |true=>
    refine aN ⟨j9 D,ρ2,_,px2.mono s4,by simpa using q4,?_⟩
    rintro w H5 y gy s5 ryy ⟨nw,q5⟩
    have ha5:=s5 _ _ ha4
    have lr:=ry.length
    refine⟨ha5,k7 (by omega),xs.length-(i+1),by omega,rfl,hlt,λb o e=>?_,bP,ys++[y],?_,by rw[aL9,aP2];omega,q5⟩
    ·rw[b9 (λz=>by rw[z,hD]at e;cases e)]
     exact s5 _ _ (sm4 _ _ e)
    ·exact ((ry.same ((s2.trans s4).trans s5) λ_ z=>z).append (.cons (Nw.rep (px2.mono s4) nw ryy) .nil)).keep (.upd ha5 rfl λb m=>⟨m.1,m⟩)
 ·have e:i=xs.length:=by omega
  subst e
  refine .inl ⟨it.stop _ H' ev,k _ H' _ .fr (s.trans sm) (.lst (s.free hD) ha (ry.same (aB.refl _) λ_ z=>s.free z.2)) (fin ys iy)⟩
noncomputable def kG:cI:=λ_ Q=>Q true
theorem al1 {Qb:Bool->Hp->Prop}(h:LT X kG σ H Qb):rW σ H Qb:=by
 obtain⟨W,ρ,Q,px,q,k⟩:=h
 exact k _ _ (aB.refl _) q
end
section
variable {κ:Type}[DecidableEq κ]
noncomputable def cJ (ps:List (κ×PV))(k:κ):Option PV:=(ps.find? λp=>decide (p.1=k)).map (·.2)
noncomputable def dR (ps:List (κ×PV))(k:κ)(x:PV):List (κ×PV):=if (ps.any λp=>decide (p.1=k))=true then ps.map (λp=>if p.1=k then (p.1,x) else p) else ps++[(k,x)]
variable {K:ac}{M:Addr→Prop}{H:Hp}
theorem iA (k:κ):∀{kvs:List (κ×V)}{ps:List (κ×PV)},kvs.map (·.1)=ps.map (·.1)->Reps K M H (kvs.map (·.2)) (ps.map (·.2))->(cJ ps k=none->dA kvs k=none)/\∀x,cJ ps k=some x->∃v,dA kvs k=some v/\aF K M H v x
 |[],[],_,_=>⟨λ_=>rfl,λx h=>by cases h⟩
 |[],_::_,e,_=>by cases e
 |_::_,[],e,_=>by cases e
 |(k1,v)::kvs,(k2,x)::ps,e,r=>by
  injection e with e1 e2
  have e1:k1=k2:=e1
  subst e1
  cases r with
  |cons r t=>
   obtain⟨h1,h2⟩:=iA k e2 t
   unfold cJ dA at h1 h2 ⊢
   by_cases e:k1=k
   ·simp only[aS5,e,decide_true,Option.map_some]
    exact⟨λz=>(by cases z),λy z=>(by cases z;exact⟨v,rfl,r⟩)⟩
   ·simp only[aS5,e,decide_false]
    exact⟨h1,h2⟩
theorem al2 (k:κ){kvs:List (κ×V)}{ps:List (κ×PV)}(e:kvs.map (·.1)=ps.map (·.1)):(kvs.any λp=>decide (p.1=k))=ps.any λp=>decide (p.1=k):=by
 have h1:(kvs.any λp=>decide (p.1=k))=(kvs.map (·.1)).any λz=>decide (z=k):=by rw[List.any_map];rfl
 have h2:(ps.any λp=>decide (p.1=k))=(ps.map (·.1)).any λz=>decide (z=k):=by rw[List.any_map];rfl
 rw[h1,h2,e]
theorem yL (k:κ){w:V}{y:PV}(q:aF K M H w y):∀{kvs:List (κ×V)}{ps:List (κ×PV)},kvs.map (·.1)=ps.map (·.1)->Reps K M H (kvs.map (·.2)) (ps.map (·.2))->
  (kvs.map λkv=>if kv.1=k then (kv.1,w) else kv).map (·.1)=(ps.map λkv=>if kv.1=k then (kv.1,y) else kv).map (·.1)/\Reps K M H ((kvs.map λkv=>if kv.1=k then (kv.1,w) else kv).map (·.2)) ((ps.map λkv=>if kv.1=k then (kv.1,y) else kv).map (·.2))
 |[],[],_,_=>⟨rfl,.nil⟩
 |[],_::_,e,_=>by cases e
 |_::_,[],e,_=>by cases e
 |(k1,v)::kvs,(k2,x)::ps,e,r=>by
  injection e with e1 e2
  have e1:k1=k2:=e1
  subst e1
  cases r with
  |cons r t=>
   obtain⟨h1,h2⟩:=yL k q e2 t
   by_cases e:k1=k
   ·simp only[aO2,e,if_true]
    exact⟨by rw[h1],.cons q h2⟩
   ·simp only[aO2,e,aT6]
    exact⟨by rw[h1],.cons r h2⟩
theorem yM (k:κ){w:V}{y:PV}(q:aF K M H w y){kvs:List (κ×V)}{ps:List (κ×PV)}(e:kvs.map (·.1)=ps.map (·.1))(r:Reps K M H (kvs.map (·.2)) (ps.map (·.2))) :
  (e9 kvs k w).map (·.1)=(dR ps k y).map (·.1)/\Reps K M H ((e9 kvs k w).map (·.2)) ((dR ps k y).map (·.2)):=by
 unfold e9 dR
 rw[al2 k e]
 split
 ·exact yL k q e r
 ·rw[aT3,aT3,aT3,aT3,e]
  exact⟨rfl,r.append (.cons q .nil)⟩
end
noncomputable def kP:aJ->PV
 |.inl i=>.int i
 |.inr x=>.str x
theorem sZ {K:ac}{M:Addr->Prop}{H:Hp}{v:V}{k:aJ}(r:aF K M H v (kP k)):v=kV k:=by
 cases k with
 |inl i=>cases r;rfl
 |inr x=>cases r;rfl
theorem t5 {K:ac}{M:Addr->Prop}{H:Hp}:∀{ks:List aJ}{us:List V},Reps K M H us (ks.map kP)->us=ks.map kV
 |[],_,.nil=>rfl
 |k::r,_,.cons q t=>by rw[sZ q,t5 t];rfl
noncomputable def yN:PV->PV
 |.fK ps=>.dK ps
 |.fT ps=>.dT ps
 |x=>x
noncomputable def yO (x y:PV)(o:Option PV):Prop:=(∃ps k,yN x = .dK ps/\y=kP k/\o=cJ ps k)∨(∃ps k,yN x = .dT ps/\y = .tup (k.map kP)/\o=cJ ps k)
theorem al3 {K:ac}{M M2:Addr->Prop}{H:Hp}{v w:V}{x y:PV}{o:Option PV}(h:yO x y o)(rx:aF K M H v x)(ry:aF K M2 H w y):∃a o',v = .ref a/\i6 H a w o'/\(o=none->o'=none)/\∀z,o=some z->∃u,o'=some u/\aF K M H u z:=by
 rcases h with⟨ps,k,ex,rfl,rfl⟩|⟨ps,k,ex,rfl,rfl⟩
 ·obtain rfl:=sZ ry
  cases rx with
  |dK m h e r=>cases ex;exact⟨_,_,rfl,i6.k h,(iA k e r).1,(iA k e r).2⟩
  |fK h e r=>cases ex;exact⟨_,_,rfl,.inl ⟨_,k,.inr ⟨_,h⟩,rfl,rfl⟩,(iA k e r).1,(iA k e r).2⟩
  |_=>cases ex
 ·obtain⟨b,us,rfl,hb,rb⟩:=ry.sqT
  obtain rfl:=t5 rb
  cases rx with
  |dT m h e r=>cases ex;exact⟨_,_,rfl,i6.t h hb,(iA k e r).1,(iA k e r).2⟩
  |fT h e r=>cases ex;exact⟨_,_,rfl,.inr ⟨_,k,b,.inr ⟨_,h⟩,rfl,hb,rfl⟩,(iA k e r).1,(iA k e r).2⟩
  |_=>cases ex
section
variable {X:Cx}{σ:St}{H:Hp}{D:cX}{tk td te:aG}{Q':VK}
noncomputable def oJ (neg:Bool)(tk td:aG):aG:=λρ Q=>tk ρ λy _=>td ρ λx _=>∃o,yO x y o/\Q (.bl (if neg=true then !o.isSome else o.isSome)) .fr
theorem al4 {α β:Type}{o:Option α}{o':Option β}{P:β->α->Prop}(h1:o=none->o'=none)(h2:∀z,o=some z->∃u,o'=some u/\P u z):o'.isSome=o.isSome:=by
 cases o with
 |none=>rw[h1 rfl];rfl
 |some z=>obtain⟨u,e,_⟩:=h2 z rfl;rw[e];rfl
theorem al5 (h:LE X (oJ true tk td) σ H Q'):xB (LE X tk) (LE X td) σ H Q':=by
 obtain⟨W,ρ,Q,px,q,k⟩:=h
 refine⟨W,ρ,_,px,q,λw H1 y g s r q=>⟨W,ρ,_,px.mono s,q,?_⟩⟩
 rintro v H2 x g' s2 r2 ⟨o,ak,q⟩
 obtain⟨a,o',rfl,dg,h1,h2⟩:=al3 ak r2 (r.same s2 λ_ z=>z)
 refine⟨a,o',rfl,dg,?_⟩
 rw[al4 h1 h2]
 exact k _ _ _ .fr (s.trans s2) (.bl _) q
theorem PX.updD {K:ac}{H0:Hp}{W:Addr->Prop}{σ:St}{ρ:bB}{H:Hp}{i:Nat}{a:Addr}{x:PV}{kvs:List (aJ×V)}{ps:List (aJ×PV)}(p:PX K H0 W σ ρ H)(hi:ρ[i]? = some (some (.own x)))(ha:σ[i]? = some (some (.ref a)))(wa:W a)(r:kvs.map (·.1)=ps.map (·.1)/\Reps K (Ms H0 W true) (upd H a (.dK kvs)) (kvs.map (·.2)) (ps.map (·.2))):PX K H0 W σ (ρ.set i (some (.own (.dK ps)))) (upd H a (.dK kvs)):=p.updOwn hi ha wa rfl (y:=.dK ps) ⟨kvs,bP,r⟩
theorem PX.updT {K:ac}{H0:Hp}{W:Addr->Prop}{σ:St}{ρ:bB}{H:Hp}{i:Nat}{a:Addr}{x:PV}{kvs:List (List aJ×V)}{ps:List (List aJ×PV)}(p:PX K H0 W σ ρ H)(hi:ρ[i]? = some (some (.own x)))(ha:σ[i]? = some (some (.ref a)))(wa:W a)(r:kvs.map (·.1)=ps.map (·.1)/\Reps K (Ms H0 W true) (upd H a (.dT kvs)) (kvs.map (·.2)) (ps.map (·.2))):PX K H0 W σ (ρ.set i (some (.own (.dT ps)))) (upd H a (.dT kvs)):=p.updOwn hi ha wa rfl (y:=.dT ps) ⟨kvs,bP,r⟩
theorem yP {κ α β:Type}{l:List (κ×α)}{m:List (κ×β)}(e:l.map (·.1)=m.map (·.1)):l.length=m.length:=by
 have:=congrArg List.length e
 rw[aL2,aL2]at this
 exact this
noncomputable def t6 (i:Nat)(tk te:aG):aS:=λD ρ=>te ρ λz g=>∃ps,ρ[i]? = some (some (.own (.dK ps)))/\tk ρ λy _=>∃k,y=kP k/\Nw g z/\ps.length<16000000/\D.nx (ρ.set i (some (.own (.dK (dR ps k z)))))
noncomputable def t7 (i:Nat)(tk te:aG):aS:=λD ρ=>te ρ λz g=>∃ps,ρ[i]? = some (some (.own (.dT ps)))/\tk ρ λy _=>∃k,y = .tup (k.map kP)/\Nw g z/\ps.length<16000000/\D.nx (ρ.set i (some (.own (.dT (dR ps k z)))))
theorem al6 {i:Nat}(h:LS X (t6 i tk te) D σ H):rP (iY i) (LE X tk) (LE X te) D σ H:=by
 obtain⟨W,ρ,D',px,q,k⟩:=h
 refine⟨W,ρ,_,px,q,?_⟩
 rintro w H1 z g s rz ⟨ps,hi,q⟩
 obtain⟨v,ev,a,rfl,wa,kvs,ea,e1,r⟩:=(px.mono s).sl i _ hi
 refine⟨_,ev,W,ρ,_,px.mono s,q,?_⟩
 rintro kv H2 y g' s2 ry ⟨kk,rfl,nw,hl,q⟩
 obtain rfl:=sZ ry
 have ea2:=s2 _ _ ea
 refine⟨a,_,rfl,iJ.k ea2 (k7 (by rw[yP e1];omega)),?_⟩
 refine k.nx W σ _ _ ((Ev.same (s.trans s2)).trans (Ev.upd wa)) ((px.mono (s.trans s2)).updD hi ev wa ?_) q
 obtain⟨h1,h2⟩:=yM kk ((Nw.rep px nw rz).same s2 λ_ z=>z) e1 (r.same s2 λ_ z=>z)
 exact⟨h1,h2.keep (.upd ea2 rfl λb m=>⟨oC wa m,m⟩)⟩
theorem al7 {i:Nat}(h:LS X (t7 i tk te) D σ H):rP (iY i) (LE X tk) (LE X te) D σ H:=by
 obtain⟨W,ρ,D',px,q,k⟩:=h
 refine⟨W,ρ,_,px,q,?_⟩
 rintro w H1 z g s rz ⟨ps,hi,q⟩
 obtain⟨v,ev,a,rfl,wa,kvs,ea,e1,r⟩:=(px.mono s).sl i _ hi
 refine⟨_,ev,W,ρ,_,px.mono s,q,?_⟩
 rintro kv H2 y g' s2 ry ⟨kk,rfl,nw,hl,q⟩
 obtain⟨b,us,rfl,hb,rb⟩:=ry.sqT
 obtain rfl:=t5 rb
 have ea2:=s2 _ _ ea
 refine⟨a,_,rfl,iJ.t ea2 hb (k7 (by rw[yP e1];omega)),?_⟩
 refine k.nx W σ _ _ ((Ev.same (s.trans s2)).trans (Ev.upd wa)) ((px.mono (s.trans s2)).updT hi ev wa ?_) q
 obtain⟨h1,h2⟩:=yM kk ((Nw.rep px nw rz).same s2 λ_ z=>z) e1 (r.same s2 λ_ z=>z)
 exact⟨h1,h2.keep (.upd ea2 rfl λb m=>⟨oC wa m,m⟩)⟩
theorem al8 (h:LE X (qC (.dK [])) σ H Q'):xD σ H Q':=by
 obtain⟨W,ρ,Q,px,q,k⟩:=h
 exact λp hp=>k _ _ _ .fr (bI hp _) (.dK hp bP rfl .nil) q
theorem al9 (h:LE X (qC (.dT [])) σ H Q'):xE σ H Q':=by
 obtain⟨W,ρ,Q,px,q,k⟩:=h
 exact λp hp=>k _ _ _ .fr (bI hp _) (.dT hp bP rfl .nil) q
end
noncomputable def cH:Nat->PV->PV->Bool
 |_,.non,.non=>true
 |_,.bl a,.bl b=>a==b
 |_,.int a,.int b=>a==b
 |_,.str a,.str b=>a==b
 |n+1,.tup xs,.tup ys=>(xs.zip ys).all (λp=>cH n p.1 p.2)&&xs.length==ys.length
 |n+1,.lst xs,.lst ys=>(xs.zip ys).all (λp=>cH n p.1 p.2)&&xs.length==ys.length
 |n+1,.kt xs,.kt ys=>(xs.zip ys).all (λp=>cH n p.1 p.2)&&xs.length==ys.length
 |_,_,_=>false
noncomputable def dL:Nat->PV->PV->Bool
 |_,.non,.non=>true
 |_,.bl _,.bl _=>true
 |_,.int _,.int _=>true
 |_,.str _,.str _=>true
 |_,.non,.int _=>true
 |_,.int _,.non=>true
 |n+1,.tup xs,.tup ys=>(xs.zip ys).all (λp=>dL n p.1 p.2)
 |n+1,.lst xs,.lst ys=>(xs.zip ys).all (λp=>dL n p.1 p.2)
 |n+1,.kt xs,.kt ys=>(xs.zip ys).all (λp=>dL n p.1 p.2)
 |_+1,.non,.tup _=>true
 |_+1,.tup _,.non=>true
 |_,_,_=>false
theorem am0 (n:Nat)(a b:Int):cH n (.int a) (.int b)=(a==b):=by cases n<;>rfl
theorem yQ (n:Nat):∀(a b:ae),((((intz a).zip (intz b)).all λp=>cH n p.1 p.2)&&(intz a).length==(intz b).length)=decide (a=b)
 |[],[]=>rfl
 |[],_::_=>by simp
 |_::_,[]=>by simp
 |x::a,y::b=>by
  have ih:=yQ n a b
  simp only[aO2,List.zip_cons_cons,aV2,aS9,am0]at ih ⊢
  by_cases e:x=y
  ·subst e
   have:((intz a).length+1==(intz b).length+1)=((intz a).length==(intz b).length):=by simp
   rw[this,aP1,Bool.true_and,ih]
   simp
  ·have:(x==y)=false:=aT2.mpr e
   rw[this,Bool.false_and,Bool.false_and]
   simp[e]
theorem yR (n:Nat)(a b:ae):cH (n+1) (.tup (intz a)) (.tup (intz b))=decide (a=b):=yQ n a b
theorem yS (n:Nat):∀(a b:ae),(((intz a).zip (intz b)).all λp=>dL n p.1 p.2)=true
 |[],_=>by simp
 |_::_,[]=>by simp
 |x::a,y::b=>by
  simp only[aO2,List.zip_cons_cons,aV2,yS n a b,aX4]
  cases n<;>rfl
theorem yT (n:Nat)(a b:ae):dL (n+1) (.tup (intz a)) (.tup (intz b))=true:=yS n a b
noncomputable def lY (ta:aG):aG:=λρ Q=>ta ρ λx _=>∃i,x = .int i/\Q (.int (-i)) .fr
noncomputable def iM (neg:Bool):PV->Tg->PV->Tg->PK->Prop:=λx _ y _ Q=>∃i ns,x = .int i/\g6 y=some (intz ns)/\Q (.bl (if neg=true then !decide (i∈ns) else decide (i∈ns))) .fr
noncomputable def yU:PV->Option String
 |.non=>some "NoneType"
 |.bl _=>some "bool"
 |.int _=>some "int"
 |.str _=>some "str"
 |.tup _=>some "tuple"
 |.kt _=>some "tuple"
 |.lst _=>some "list"
 |_=>none
noncomputable def gM (K:ac)(n:String)(te:aG):aG:=λρ Q=>te ρ λx _=>∃T b,yU x=some T/\PySem.W.kitOne K (.type T) (.type n)=some b/\Q (.bl b) .fr
noncomputable def t8 (n:Nat)(neg:Bool):PV->Tg->PV->Tg->PK->Prop:=λx _ y _ Q=>((∃xs ys,x = .tup xs/\y = .tup ys)∨(∃xs ys,x = .lst xs/\y = .lst ys))/\dL (n+1) x y=true/\Q (.bl (if neg=true then !cH (n+1) x y else cH (n+1) x y)) .fr
noncomputable abbrev kH:=bB->(Option Int->Prop)->Prop
noncomputable def eQ (xs:List PV)(lo hi:Option Int):List PV:=(xs.drop (HT.aU xs.length 0 lo)).take (HT.aU xs.length xs.length hi-HT.aU xs.length 0 lo)
noncomputable def lZ:PV->List PV->PV
 |.tup _,ys=>.tup ys
 |.kt _,ys=>.tup ys
 |_,ys=>.lst ys
noncomputable def gN:kH:=λ_ Q=>Q none
noncomputable def gO (te:aG):kH:=λρ Q=>te ρ λx _=>∃i,x = .int i/\Q (some i)
noncomputable def gP (te:aG)(tl th:kH):aG:=λρ Q=>te ρ λx _=>tl ρ λlo=>th ρ λhi=>∃xs,seqT x=some xs/\flats xs=true/\Q (lZ x (eQ xs lo hi)) .fr
noncomputable def cY (N:List Str)(xs:List PV):bB:=xs.map (λx=>some (.sh (flat x) x))++List.replicate (N.length-xs.length) none
noncomputable abbrev dM (ta tb:aG):aG:=q2 (eN λi j=>.int (i+j)) ta tb
noncomputable abbrev kI (ta tb:aG):aG:=q2 (eN λi j=>.int (i-j)) ta tb
noncomputable abbrev m3 (ta tb:aG):aG:=q2 (RI lI λi j=>.int (i*j)) ta tb
noncomputable abbrev cW (ta tb:aG):aG:=q2 (RI qW λi j=>.int (i/j)) ta tb
noncomputable abbrev bX (ta tb:aG):aG:=q2 (RI (λ_ j=>0<j) λi j=>.int (i%j)) ta tb
noncomputable abbrev yV (ta tb:aG):aG:=q2 (RI qX λi j=>.int (i^j.toNat)) ta tb
noncomputable abbrev iB (ta tb:aG):aG:=q2 (eN λi j=>.bl (decide (i<j))) ta tb
noncomputable abbrev t9 (ta tb:aG):aG:=q2 (eN λi j=>.bl (decide (j<i))) ta tb
noncomputable abbrev tD (ta tb:aG):aG:=q2 (eN λi j=>.bl (decide (j<=i))) ta tb
noncomputable abbrev fF (ta tb:aG):aG:=q2 (kB false) ta tb
noncomputable abbrev iN (ta tb:aG):aG:=q2 (kB true) ta tb
noncomputable abbrev yW (ta tb:aG):aG:=q2 (sV false) ta tb
noncomputable abbrev aO (ta tb:aG):aG:=q2 sR ta tb
noncomputable def dB:List PV->(PV->Prop)->Prop:=λxs Q=>yE xs Q/\∀ns,xs≠[.scr ns]
noncomputable def yX:aS:=λ_ _=>False
noncomputable def QE (X:Cx)(e:Expr)(t:aG):Prop:=PE X e (LE X t)
noncomputable def QT (X:Cx)(e:Expr)(t:cI):Prop:=PT X e (LT X t)
noncomputable def QW (X:Cx)(e:Expr)(t:cI):Prop:=PW X e (LT X t)
noncomputable def QA (X:Cx)(es:List Expr)(t:cE):Prop:=PA X es (LA X t)
noncomputable def QS (X:Cx)(st:Stmt)(t:aS):Prop:=PS X st (LS X t)
noncomputable def eR (X:Cx)(st:List Stmt)(t:aS):Prop:=cZ X st (LS X t)
noncomputable def QI (X:Cx)(tg iter:Expr)(t:fP):Prop:=PI X tg iter (LI X t)
section
variable {X:Cx}
theorem cA {e:Expr}{t t':TE}(h:PE X e t)(m:∀σ H Q,t' σ H Q->t σ H Q):PE X e t':=λpins s σ H Q I q=>h pins s σ H Q I (m σ H Q q)
theorem oK {e:Expr}{t t':TT}(h:PT X e t)(m:∀σ H Q,t' σ H Q->t σ H Q):PT X e t':=λpins s σ H Q I q=>h pins s σ H Q I (m σ H Q q)
theorem yY {e:Expr}{t t':TT}(h:PW X e t)(m:∀σ H Q,t' σ H Q->t σ H Q):PW X e t':=λwh pins s σ H Q I q=>h wh pins s σ H Q I (m σ H Q q)
theorem yZ {e:List Expr}{t t':TA}(h:PA X e t)(m:∀σ H Q,t' σ H Q->t σ H Q):PA X e t':=λpos pins s σ H Q I q=>h pos pins s σ H Q I (m σ H Q q)
theorem fG {e:Stmt}{t t':TS}(h:PS X e t)(m:∀D σ H,t' D σ H->t D σ H):PS X e t':=λpins s σ H D I q=>h pins s σ H D I (m D σ H q)
theorem tE {e:List Stmt}{t t':TS}(h:cZ X e t)(m:∀D σ H,t' D σ H->t D σ H):cZ X e t':=λpins s σ H D I q=>h pins s σ H D I (m D σ H q)
theorem tF {tg e:Expr}{t t':TI}(h:PI X tg e t)(m:∀σ H R,t' σ H R->t σ H R):PI X tg e t':=λpins s σ H R I q=>h pins s σ H R I (m σ H R q)
variable {a b c e o:Expr}{es cC:List Expr}{ta tb te to tk:aG}{tr:cE}{tA tB' tc:cI}{pos p2 px:Pos}{st:Stmt}{sts:List Stmt}{t u:aS}
theorem qv (i:Nat){x:Str}{pos:Pos}(hN:X.N[i]? = some x:=by rfl)(hv:gZ X.env.scope x:=by first|exact Or.inl rfl|exact Or.inr (Or.inl rfl)|exact Or.inr (Or.inr rfl))(hd:(x==("__debug__":Str))=false:=by decide)(hcd:(x==("__classdict__":Str))=false:=by decide):QE X (.Name x pos) (a5 i):=cA (jY hN hv hd hcd) λ_ _ _=>ah4
theorem aC {i j}:QE X (.Constant (.int i) j pos) (qC (.int i)):=cA qK λ_ _ _=>lP λ_=>.int i
theorem fR {i j}:QE X (.Constant (.bool i) j pos) (qC (.bl i)):=cA T7 λ_ _ _=>lP λ_=>.bl i
theorem iO {j}:QE X (.Constant .none j pos) (qC .non):=cA T8 λ_ _ _=>lP λ_=>.non
theorem bM {i j}:QE X (.Constant (.str i) j pos) (qC (.str i)):=cA T9 λ_ _ _=>lP λ_=>.str i
theorem gQ {op:Operator}{R:PV->Tg->PV->Tg->PK->Prop}{r:R2}(ho:bR X (binaryOp op) r)(cv:cN X R r)(ha:QE X a ta)(hb:QE X b tb):QE X (.BinOp a op b pos) (q2 R ta tb):=cA (X0 ho ha hb) λ_ _ _=>o8 cv
theorem dS (ha:QE X a ta)(hb:QE X b tb):QE X (.BinOp a .Add b pos) (q2 (eN λi j=>.int (i+j)) ta tb):=gQ X2 xY ha hb
theorem kJ (ha:QE X a ta)(hb:QE X b tb):QE X (.BinOp a .Sub b pos) (q2 (eN λi j=>.int (i-j)) ta tb):=gQ X3 xY ha hb
theorem m5 (ha:QE X a ta)(hb:QE X b tb):QE X (.BinOp a .Mult b pos) (q2 (RI lI λi j=>.int (i*j)) ta tb):=gQ X4 o9 ha hb
theorem eS (ha:QE X a ta)(hb:QE X b tb):QE X (.BinOp a .FloorDiv b pos) (q2 (RI qW λi j=>.int (i/j)) ta tb):=gQ X5 o9 ha hb
theorem cL (ha:QE X a ta)(hb:QE X b tb):QE X (.BinOp a .Mod b pos) (q2 (RI (λ_ j=>0<j) λi j=>.int (i%j)) ta tb):=gQ X6 o9 ha hb
theorem z9 (ha:QE X a ta)(hb:QE X b tb):QE X (.BinOp a .Pow b pos) (q2 (RI qX λi j=>.int (i^j.toNat)) ta tb):=gQ X7 o9 ha hb
theorem m6 {op:CmpOp}{R:PV->Tg->PV->Tg->PK->Prop}{r:R2}(ho:bR X (compareOp op) r)(cv:cN X R r)(ha:QE X a ta)(hb:QE X b tb)(hm:behindInMarks op b=false):QE X (.Compare a [op] [b] pos) (q2 R ta tb):=cA (r6 ho ha hb hm) λ_ _ _=>o8 cv
theorem fU {op:CmpOp}{R:PV->Tg->PV->Tg->PK->Prop}{r:R2}(ho:bR X (compareOp op) r)(cv:cN X R r)(ha:QE X a ta)(hb:QE X b tb)(hm:behindInMarks op b=false):QT X (.Compare a [op] [b] pos) (aH (q2 R ta tb)):=oK (Y3 ho ha hb hm) λ_ _ _ h=>o8 cv (sM h)
theorem am1 (ha:QE X a ta)(hb:QE X b tb):QE X (.Compare a [.Lt] [b] pos) (q2 (eN λi j=>.bl (decide (i<j))) ta tb):=m6 nK lQ ha hb (e7 _)
theorem am2 (ha:QE X a ta)(hb:QE X b tb):QE X (.Compare a [.GtE] [b] pos) (q2 (eN λi j=>.bl (decide (j<=i))) ta tb):=m6 w9 lQ ha hb (e7 _)
theorem jA (ha:QE X a ta)(hb:QE X b tb):QT X (.Compare a [.Lt] [b] pos) (aH (q2 (eN λi j=>.bl (decide (i<j))) ta tb)):=fU nK lQ ha hb (e7 _)
theorem zA (ha:QE X a ta)(hb:QE X b tb):QT X (.Compare a [.Gt] [b] pos) (aH (q2 (eN λi j=>.bl (decide (j<i))) ta tb)):=fU Y0 lQ ha hb (e7 _)
theorem zB (ha:QE X a ta)(hb:QE X b tb):QT X (.Compare a [.GtE] [b] pos) (aH (q2 (eN λi j=>.bl (decide (j<=i))) ta tb)):=fU w9 lQ ha hb (e7 _)
theorem gA (ha:QE X a ta)(hb:QE X b tb):QT X (.Compare a [.Eq] [b] pos) (aH (q2 (kB false) ta tb)):=fU qZ ah5 ha hb (e7 _)
theorem jB (ha:QE X a ta)(hb:QE X b tb):QT X (.Compare a [.NotEq] [b] pos) (aH (q2 (kB true) ta tb)):=fU r0 ah6 ha hb (e7 _)
theorem zC (ha:QE X a ta)(hb:QE X b tb):QT X (.Compare a [.Is] [b] pos) (aH (q2 (sV false) ta tb)):=fU Y1 ak4 ha hb (e7 _)
theorem zD (hu:X.A.units+1<cLine)(hk:QE X a tk)(hd:QE X b te)(hm:behindInMarks .NotIn b=false:=by rfl):QT X (.Compare a [.NotIn] [b] pos) (aH (oJ true tk te)):=oK (U0 (ad3 hu hk hd) hm) λ_ _ _ h=>al5 (sM h)
theorem dU (h:QE X e te)(he:∀whole,isTrue e X.env whole=(do let v <- whole;standAt e.pos;holding [v] (truthy v)):=by intro _;rfl):QT X e (aH te):=oK (U1 h he) λ_ _ _ h=>sM h
theorem zE (ha:QT X a tA):QW X (.BoolOp .And [a] pos) tA:=U2 ha
theorem eU (ha:QT X a tA):QW X (.BoolOp .Or [a] pos) tA:=U3 ha
theorem zF (ha:QT X a tA)(hb:QW X (.BoolOp .And (b::cC) pos) tB'):QW X (.BoolOp .And (a::b::cC) pos) (oA tA tB'):=yY (U4 ha hb) λ_ _ _=>ah7
theorem cP (ha:QT X a tA)(hb:QW X (.BoolOp .Or (b::cC) pos) tB'):QW X (.BoolOp .Or (a::b::cC) pos) (c9 tA tB'):=yY (U5 ha hb) λ_ _ _=>ah8
theorem dW (h:QW X e tA):QT X e tA:=PW.pt h
theorem eC (ha:QT X a tA):QT X (.UnaryOp .Not a pos) (dI tA):=oK (U6 ha) λ_ _ _=>ah9
theorem tG {op}(h:QE X a ta):QE X (.BoolOp op [a] pos) ta:=U7 h
theorem tH (ha:QE X a ta)(hb:QE X (.BoolOp .And (b::cC) pos) tb):QE X (.BoolOp .And (a::b::cC) pos) (lR ta tb):=cA (U8 ha hb) λ_ _ _=>ai0
theorem am3 (ha:QE X a ta):QE X (.UnaryOp .Not a pos) (sN ta):=cA (U9 ha) λ_ _ _=>ai1
theorem aA:QA X [] a9:=yZ gH λ_ _ _=>ai2
theorem a7 (ha:QE X e te)(hr:QA X es tr)(hs:starEach (e::es) X.env=(false,eval e X.env)::starEach es X.env:=by rfl):QA X (e::es) (a6 te tr):=yZ (e8 ha hr hs) λ_ _ _=>ai3
theorem bO {x1}(h:QA X es tr):QE X (.Tuple es x1 pos) (b7 tr):=cA (Z1 h) λ_ _ _=>ai4
theorem iP (h:QA X es tr):QE X (.List es pos) (eO tr):=cA (Z2 h) λ_ _ _=>ai5
theorem aW (ha:QE X a ta)(hb:QE X b tb)(hs:wN b:=by exact λ_ _=>rfl):QE X (.Subscript a b pos) (q2 sR ta tb):=cA (ab0 ab4 ha hb hs) λ_ _ _=>o8 aj5
theorem am4:QE X (.Dict [] [] pos) (qC (.dK [])):=cA ad6 λ_ _ _=>al8
theorem am5:QE X (.Dict [] [] pos) (qC (.dT [])):=cA ad7 λ_ _ _=>al9
theorem iQ {x:Str}{id:String}{R:List PV->(PV->Prop)->Prop}{r:List V->Hp->VK->Prop}(hc:cG X (.builtin id) r)(cv:cV X R r)(hg:Gl X x)(hm:X.mg x=none)(hv:bootBuiltins x=some (.builtin id))(ha:QA X (e::es) tr)(hn:x≠"__name__":=by decide)(hdb:(x==("__debug__":Str))=false:=by decide)(he:starEach (e::es) X.env=(false,eval e X.env)::starEach es X.env:=by rfl)(hpl:(backTo pos (starEach es X.env)).any (·.1)=false:=by rfl):QE X (.Call (.Name x p2) (e::es) [] pos) (aE R tr):=cA (lM hc hg hm hv ha hn hdb he hpl) λ_ _ _=>yB cv
theorem tI {x:Str}{T:String}{R:List PV->(PV->Prop)->Prop}{r:List V->Hp->VK->Prop}(hc:cG X (.type T) r)(cv:cV X R r)(hg:Gl X x)(hm:X.mg x=none)(hv:bootBuiltins x=some (.type T))(ha:QA X (e::es) tr)(hn:x≠"__name__":=by decide)(hdb:(x==("__debug__":Str))=false:=by decide)(he:starEach (e::es) X.env=(false,eval e X.env)::starEach es X.env:=by rfl)(hpl:(backTo pos (starEach es X.env)).any (·.1)=false:=by rfl):QE X (.Call (.Name x p2) (e::es) [] pos) (aE R tr):=cA (Z5 hc hg hm hv ha hn hdb he hpl) λ_ _ _=>yB cv
theorem bF:eR X [] b6:=tE V2 λ_ _ _=>ai6
theorem aK (h1:QS X st t)(h2:eR X sts u):eR X (st::sts) (aI t u):=tE (V3 h1 h2) λ_ _ _=>ai7
theorem aP (h1:QS X st t):eR X [st] t:=qM h1
theorem am6:QS X st yX:=fG V7 λ_ _ _ ⟨_,_,_,_,h,_⟩=>h
theorem bJ {i:Nat}{x:Str}(hN:X.N.Nodup)(he:QE X e te)(hi:X.N[i]? = some x:=by rfl)(hx:hG X.env.scope x:=by first|exact Or.inl rfl|exact Or.inr rfl)(hs:swapsWith e (some (.Name x p2)) pos.line X.env=pure false:=by rfl)(hf:X.fn x=true∨X.env.scope.names.lookup x=some .local:=by first|exact .inl rfl|exact .inr rfl) :
  QS X (.Assign [.Name x p2] e pos) (bC i te):=fG (vR hN hi hx he hs hf) λ_ _ _=>ai8
theorem oM {i:Nat}{x:Str}(hN:X.N.Nodup)(he:QE X e te)(hi:X.N[i]? = some x:=by rfl)(hx:hG X.env.scope x:=by first|exact Or.inl rfl|exact Or.inr rfl)(hs:swapsWith e (some (.Name x p2)) pos.line X.env=pure false:=by rfl)(hf:X.fn x=true∨X.env.scope.names.lookup x=some .local:=by first|exact .inl rfl|exact .inr rfl) :
  QS X (.Assign [.Name x p2] e pos) (kD i te):=fG (vR hN hi hx he hs hf) λ_ _ _=>aj0
theorem b8 (he:QE X e te):QS X (.Return (some e) pos) (aV te):=fG (nF he) λ_ _ _=>aj1
theorem zG (i:Nat){x:Str}(hN:X.N[i]? = some x:=by rfl)(hv:gZ X.env.scope x:=by first|exact Or.inl rfl|exact Or.inr (Or.inl rfl)|exact Or.inr (Or.inr rfl))(hd:(x==("__debug__":Str))=false:=by decide)(hcd:(x==("__classdict__":Str))=false:=by decide) :
  QS X (.Return (some (.Name x p2)) pos) (oD i):=fG (nF (jY hN hv hd hcd)) λ_ _ _=>aj2
theorem bD {sa sb:List Stmt}(hc:QT X c tc)(ha:eR X sa t)(hb:eR X sb u):QS X (.If c sa sb pos) (aZ tc t u):=fG (V5 hc ha hb) λ_ _ _=>aj3
theorem tJ (i:Nat){x:Str}{apos cpos xpos:Pos}(he:QE X e te)(hN:X.N[i]? = some x:=by rfl)(hv:gZ X.env.scope x:=by first|exact Or.inl rfl|exact Or.inr (Or.inl rfl)|exact Or.inr (Or.inr rfl))(hd:(x==("__debug__":Str))=false:=by decide)(hcd:(x==("__classdict__":Str))=false:=by decide)(hbase:attributeBase (.Name x xpos) "append" X.env (eval (.Name x xpos) X.env)=eval (.Name x xpos) X.env:=by rfl)(hfew:((backTo cpos (starEach [e] X.env)).all (λx=>!x.1)&&(backToKw cpos (keywordEach [] X.env)).all (λx=>x.1.isSome)&&decide (([e]:List Expr).length+([]:List Keyword).length+(if ([]:List Keyword).isEmpty then 0 else 1)<30))=true:=by rfl)(hline:(apos.endLine==cpos.line)=true:=by rfl)(hs:starEach [e] X.env=(false,eval e X.env)::starEach [] X.env:=by rfl)(hplain:(backTo cpos (starEach [] X.env)).any (·.1)=false:=by rfl)(hsw:swapsWith (.Call (.Attribute (.Name x xpos) "append" apos) [e] [] cpos) none pos.line X.env=pure false:=by rfl) :
  QS X (.Expr (.Call (.Attribute (.Name x xpos) "append" apos) [e] [] cpos) pos) (lT i te):=
 fG (V4 (ac3 PySem.F.plainAttrs_list PySem.F.slot_list_append PySem.F.type_list_append wZ (jY hN hv hd hcd) (e8 he gH hs) hbase hfew hline hs hplain) hsw) λ_ _ _=>aj4
theorem am7 {i:Nat}{x:Str}{xpos tpos:Pos}(hu:X.A.units+1<cLine)(hk:QE X a tk)(he:QE X e te)(hN:X.N[i]? = some x:=by rfl)(hv:gZ X.env.scope x:=by first|exact Or.inl rfl|exact Or.inr (Or.inl rfl)|exact Or.inr (Or.inr rfl))(hd:(x==("__debug__":Str))=false:=by decide)(hcd:(x==("__classdict__":Str))=false:=by decide)(hs:swapsWith e (some (.Subscript (.Name x xpos) a tpos)) pos.line X.env=pure false:=by rfl):QS X (.Assign [.Subscript (.Name x xpos) a tpos] e pos) (t6 i tk te):=fG (xC hu (jY hN hv hd hcd) hk he hs) λ_ _ _=>al6
theorem am8 {i:Nat}{x:Str}{xpos tpos:Pos}(hu:X.A.units+1<cLine)(hk:QE X a tk)(he:QE X e te)(hN:X.N[i]? = some x:=by rfl)(hv:gZ X.env.scope x:=by first|exact Or.inl rfl|exact Or.inr (Or.inl rfl)|exact Or.inr (Or.inr rfl))(hd:(x==("__debug__":Str))=false:=by decide)(hcd:(x==("__classdict__":Str))=false:=by decide)(hs:swapsWith e (some (.Subscript (.Name x xpos) a tpos)) pos.line X.env=pure false:=by rfl):QS X (.Assign [.Subscript (.Name x xpos) a tpos] e pos) (t7 i tk te):=fG (xC hu (jY hN hv hd hcd) hk he hs) λ_ _ _=>al7
theorem am9 {tg l:Expr}{tl:TE}(hl:PE X l tl):PI X tg l (yF X.K tl):=by
 intro pins s σ H R I h
 refine aR (hl pins s σ H _ I h) λv s1 ⟨x,H1,I1,r1,q1⟩=>?_
 obtain⟨a,e,q⟩:=q1
 subst e
 cases r1
 rcases q with⟨xs,hq,q⟩|⟨xs,hq,q⟩
 ·obtain⟨its,rv,p,hz⟩:=I1.list hq
  refine wpAny_pyIter_list p.isList ?_
  refine⟨s1.heap.objs.size,[s1.heap.objs.size],_,_,H1,rfl,I1.kept (t':=s1.toks) λb o e=>aK4 _ e,V9 a _,⟨_,aM4 _ rfl,rfl,rfl⟩,λb hb=>?_,q⟩
  have e:b=s1.heap.objs.size:=by simpa using hb
  subst e
  exact I1.fpOk (aK8 _) (I1.hok.fresh (aK8 _))
 ·obtain⟨its,rv,p,hz⟩:=I1.tuple hq
  refine wpAny_pyIter_tuple (show s1.heap.IsTuple a its.toArray from p) ?_
  refine⟨s1.heap.objs.size,[s1.heap.objs.size],_,_,H1,rfl,I1.kept (t':=s1.toks) λb o e=>aK4 _ e,W0 a _,⟨_,aM4 _ rfl,rfl,rfl⟩,λb hb=>?_,q⟩
  have e:b=s1.heap.objs.size:=by simpa using hb
  subst e
  exact I1.fpOk (aK8 _) (I1.hok.fresh (aK8 _))
theorem iR {tg l:Expr}(hl:QE X l te):QI X tg l (g9 te):=tF (am9 hl) λ_ _ _=>ak5
theorem kK {tg:Expr}(hg:Gl X "range")(hm:X.mg "range" = none)(ha:QE X a ta)(hs:starEach [a] X.env = [(false,eval a X.env)]:=by rfl):QI X tg (.Call (.Name "range" p2) [a] [] pos) (iL ta):=tF (W5 hg hm (e8 ha gH hs) hs) λ_ _ _=>ak6
theorem an0 {tg:Expr}(hg:Gl X "range")(hm:X.mg "range" = none)(ha:QE X a ta)(hb:QE X b tb)(hs:starEach [a,b] X.env = [(false,eval a X.env),(false,eval b X.env)]:=by rfl)(hs2:starEach [b] X.env = [(false,eval b X.env)]:=by rfl) :
  QI X tg (.Call (.Name "range" p2) [a,b] [] pos) (sX ta tb):=tF (W6 hg hm (e8 ha (e8 hb gH hs2) (by rw[hs,hs2])) hs hs2) λ_ _ _=>ak7
theorem an1 {tg:Expr}{body:List Stmt}{ti:fP}{p:gK}{g:TG}{own:Nat->Prop}(hp:PassesOwn (model X.prog X.w) X.A X.env X.xe)(hc:X.calm=true)(hi:QI X tg e ti)(hg:PG X tg g)(ht:kE X.K own p g)(hb:eR X body t)(hs:∀x,foldedSetIterable e X.env x=pure x:=by intro _;rfl):QS X (.For tg e body [] pos) (fQ ti p t):=fG (W8 hp hc hi hg hb hs) λ_ _ _=>ak9 ht
end
section
variable {X:Cx}{pins:List (Addr×Obj)}{σ:St}{H:Hp}{s:Shared}{K:ac}{M M':Addr→Prop}
theorem k9.inj {a:Addr}{us ws:List V}(h:k9 K a us)(h':k9 K a ws):us=ws:=by
 obtain⟨o,its,n,e1,_,e2,_,v⟩:=h
 obtain⟨o',its',n',e1',_,e2',_,v'⟩:=h'
 rw[e1]at e1';cases e1'
 rw[e2]at e2';cases e2'
 exact v.inj v'
theorem Reps.self_of {n:Nat}(ih:∀{v:V}{x y:PV},aF K M H v x->aF K M' H v y->dL n x y=true->cH n x y=true):∀{vs:List V}{xs ys:List PV},Reps K M H vs xs->Reps K M' H vs ys->((xs.zip ys).all λp=>dL n p.1 p.2)=true->(((xs.zip ys).all λp=>cH n p.1 p.2)&&xs.length==ys.length)=true
 |_,_,_,.nil,.nil,_=>rfl
 |_,_,_,.cons r t,.cons r' t',o=>by
  simp only[List.zip_cons_cons,aV2,aN3]at o
  have h1:=ih r r' o.1
  have h2:=Reps.self_of ih t t' o.2
  simp only[List.zip_cons_cons,aV2,h1,Bool.true_and,aS9]at h2 ⊢
  rw[<- h2]
  congr 1
  simp
theorem aF.self:∀(n:Nat) {v:V}{x y:PV},aF K M H v x->aF K M' H v y->dL n x y=true->cH n x y=true:=by
 intro n
 induction n with
 |zero=>
  intro v x y r r' o
  cases r with
  |non=>cases r';rfl
  |bl b=>cases r';exact aP1 b
  |int i=>cases r';exact aP1 i
  |str z=>cases r';exact aP1 z
  |_=>cases o
 |succ n ih=>
  intro v x y r r' o
  cases r with
  |non=>cases r';rfl
  |bl b=>cases r';exact aP1 b
  |int i=>cases r';exact aP1 i
  |str z=>cases r';exact aP1 z
  |tup h rr=>
   cases r' with
   |tup h' rr'=>rw[h]at h';cases h';exact Reps.self_of ih rr rr' o
   |_=>cases o
  |lst _ h rr=>
   cases r' with
   |lst _ h' rr'=>rw[h]at h';cases h';exact Reps.self_of ih rr rr' o
   |_=>cases o
  |kt h rr=>
   cases r' with
   |kt h' rr'=>cases k9.inj h h';exact Reps.self_of ih rr rr' o
   |_=>cases o
  |_=>cases o
theorem Reps.self (n:Nat){vs:List V}{xs ys:List PV}(r:Reps K M H vs xs)(r':Reps K M' H vs ys)(o:((xs.zip ys).all λp=>dL n p.1 p.2)=true):(((xs.zip ys).all λp=>cH n p.1 p.2)&&xs.length==ys.length)=true:=Reps.self_of (aF.self n) r r' o
theorem iC (n:Nat)(xs ys:List PV):(List.range (min xs.length ys.length)).all (λj=>cH n (xs.getD j .non) (ys.getD j .non))=(xs.zip ys).all λp=>cH n p.1 p.2:=by
 rw[aO9]
 simp only[aR4,List.mem_range]
 constructor
 ·intro h p hp
  obtain⟨j,hj,e⟩:=aR9 hp
  have hj':j<min xs.length ys.length:=by simpa using hj
  have:=h j hj'
  rw[List.getElem_zip]at e
  subst e
  have h1:j<xs.length:=by omega
  have h2:j<ys.length:=by omega
  simpa[aL7,h1,h2] using this
 ·intro h j hj
  have h1:j<xs.length:=by omega
  have h2:j<ys.length:=by omega
  have hz:j<(xs.zip ys).length:=by simp;omega
  have:=h _ (aR6 hz)
  rw[List.getElem_zip]at this
  simpa[aL7,h1,h2] using this
theorem tK (I:a8 X pins σ H s):∀(n:Nat) {A:Around}{v w:V}{x y:PV}{a b:Value},A.units+n<cLine->aF X.K M H v x->aF X.K M' H w y->aT v a->aT w b->dL n x y=true->SeqAt.EqAt A s a b (cH n x y):=by
 intro n
 induction n with
 |zero=>
  intro A v w x y a b hu rx ry ra rb o
  cases rx with
  |non=>
   cases ra
   cases ry with
   |non=>cases rb;exact SeqAt.EqAt.same _
   |int i=>obtain⟨t',rfl⟩:=rb;exact SeqAt.EqAt.none_int _ _
   |_=>cases o
  |bl i=>
   cases ra
   cases ry with
   |bl j=>cases rb;exact SeqAt.EqAt.bool_bool _ _
   |_=>cases o
  |int i=>
   obtain⟨t,rfl⟩:=ra
   cases ry with
   |int j=>obtain⟨t',rfl⟩:=rb;exact SeqAt.EqAt.int_int _ _ _ _
   |non=>cases rb;exact SeqAt.EqAt.int_none _ _
   |_=>cases o
  |str i=>
   obtain⟨t,rfl⟩:=ra
   cases ry with
   |str j=>obtain⟨t',rfl⟩:=rb;exact SeqAt.EqAt.str_str _ _ _ _
   |_=>cases o
  |_=>cases o
 |succ n ih=>
  intro A v w x y a b hu rx ry ra rb o
  have items:∀{us ws:List V}{xs ys:List PV}{its its2:List Value},Reps X.K M H us xs->Reps X.K M' H ws ys->aQ us its->aQ ws its2->((xs.zip ys).all λp=>dL n p.1 p.2)=true->
    ∀j (h1:j<its.toArray.size) (h2:j<its2.toArray.size),SeqAt.EqAt A.in1 s its.toArray[j] its2.toArray[j] (cH n (xs.getD j .non) (ys.getD j .non)):=λ{us ws xs ys its its2} r1 r2 v1 v2 ok j h1 h2=>by
   have l1:=v1.length
   have l2:=v2.length
   have m1:=r1.length
   have m2:=r2.length
   have k1:j<its.length:=by simpa using h1
   have k2:j<its2.length:=by simpa using h2
   have j1:j<us.length:=by omega
   have j2:j<ws.length:=by omega
   have i1:j<xs.length:=by omega
   have i2:j<ys.length:=by omega
   obtain⟨u,hu',ru⟩:=v1.get (aK3 j1)
   obtain⟨u2,hu2',ru2⟩:=v2.get (aK3 j2)
   obtain⟨x,hx,rx⟩:=r1.get (aK3 j1)
   obtain⟨y,hy,ry⟩:=r2.get (aK3 j2)
   have e1:its.toArray[j]=u:=by
    rw[aK3 k1]at hu'
    simpa using hu'
   have e2:its2.toArray[j]=u2:=by
    rw[aK3 k2]at hu2'
    simpa using hu2'
   have ok':dL n x y=true:=by
    rw[aR4]at ok
    have hz:j<(xs.zip ys).length:=by simp;omega
    have:=ok _ (aR6 hz)
    rw[List.getElem_zip]at this
    rw[aK3 i1]at hx
    rw[aK3 i2]at hy
    cases hx;cases hy
    exact this
   rw[e1,e2]
   have g1:xs.getD j .non=x:=by rw[aL7,hx];rfl
   have g2:ys.getD j .non=y:=by rw[aL7,hy];rfl
   rw[g1,g2]
   exact ih (by show A.units+1+n<cLine;omega) rx ry ru ru2 ok'
  have huA:A.units<cLine:=by omega
  cases rx with
  |@kt p us xs h1 r1=>
   obtain⟨its,v1,p1,_⟩:=I.tuple (.inr h1)
   cases (show a=Value.ref p from ra)
   cases ry with
   |@kt p2 ws ys h2 r2=>
    obtain⟨its2,v2,p2',_⟩:=I.tuple (.inr h2)
    cases (show b=Value.ref p2 from rb)
    by_cases e:p=p2
    ·subst e
     have:=aF.self (K:=X.K) (M:=M) (M':=M') (n+1) (.kt h1 r1) (.kt h2 r2) o
     rw[this]
     exact SeqAt.EqAt.same _
    ·have:=SeqAt.RcAt.tuples p1 p2' huA (items r1 r2 v1 v2 o)
     refine .of_refs e ?_
     have l1:=v1.length
     have l2:=v2.length
     have m1:=r1.length
     have m2:=r2.length
     rw[aK5,aK5,<- l1,<- l2,m1,m2,iC]at this
     exact this
   |_=>cases o
  |@tup p us xs h1 r1=>
   obtain⟨its,v1,p1,_⟩:=I.tuple (aL.of (K:=X.K) h1)
   cases (show a=Value.ref p from ra)
   cases ry with
   |@tup p2 ws ys h2 r2=>
    obtain⟨its2,v2,p2',_⟩:=I.tuple (aL.of (K:=X.K) h2)
    cases (show b=Value.ref p2 from rb)
    by_cases e:p=p2
    ·subst e
     have:=aF.self (K:=X.K) (M:=M) (M':=M') (n+1) (.tup h1 r1) (.tup h2 r2) o
     rw[this]
     exact SeqAt.EqAt.same _
    ·have:=SeqAt.RcAt.tuples p1 p2' huA (items r1 r2 v1 v2 o)
     refine .of_refs e ?_
     have l1:=v1.length
     have l2:=v2.length
     have m1:=r1.length
     have m2:=r2.length
     rw[aK5,aK5,<- l1,<- l2,m1,m2,iC]at this
     exact this
   |non=>cases rb;exact SeqAt.EqAt.tuple_none p1 huA
   |_=>cases o
  |@lst p us xs _ h1 r1=>
   obtain⟨its,v1,p1,_⟩:=I.list (aM.of (K:=X.K) h1)
   cases (show a=Value.ref p from ra)
   cases ry with
   |@lst p2 ws ys _ h2 r2=>
    obtain⟨its2,v2,p2',_⟩:=I.list (aM.of (K:=X.K) h2)
    cases (show b=Value.ref p2 from rb)
    have l1:=v1.length
    have l2:=v2.length
    have m1:=r1.length
    have m2:=r2.length
    by_cases e:p=p2
    ·subst e
     rw[h1]at h2;cases h2
     have:=Reps.self n r1 r2 o
     show SeqAt.EqAt A s _ _ ((xs.zip ys).all (λp=>cH n p.1 p.2)&&xs.length==ys.length)
     rw[this]
     exact SeqAt.EqAt.same _
    ·refine .of_refs e ?_
     by_cases hl:xs.length=ys.length
     ·have:=SeqAt.RcAt.lists p1.isList p2'.isList (by rw[aK5,aK5];omega) huA (items r1 r2 v1 v2 o)
      have hm:min xs.length ys.length=its.length:=by omega
      rw[aK5,<- hm,iC]at this
      show SeqAt.RcAt A s _ _ ((xs.zip ys).all (λp=>cH n p.1 p.2)&&xs.length==ys.length)
      rw[show (xs.length==ys.length)=true by simpa using hl,aX4]
      exact this
     ·have:=SeqAt.RcAt.lists_lengths (A:=A) p1.isList p2'.isList (by rw[aK5,aK5];simp;omega) huA
      show SeqAt.RcAt A s _ _ ((xs.zip ys).all (λp=>cH n p.1 p.2)&&xs.length==ys.length)
      rw[show (xs.length==ys.length)=false by simpa using hl,Bool.and_false]
      exact this
   |_=>cases o
  |non=>
   cases ra
   cases ry with
   |non=>cases rb;exact SeqAt.EqAt.same _
   |int i=>obtain⟨t',rfl⟩:=rb;exact SeqAt.EqAt.none_int _ _
   |@tup p2 ws ys h2 r2=>
    obtain⟨its2,v2,p2',_⟩:=I.tuple (aL.of (K:=X.K) h2)
    cases (show b=Value.ref p2 from rb)
    exact SeqAt.EqAt.none_tuple p2' huA
   |_=>cases o
  |bl i=>
   cases ra
   cases ry with
   |bl j=>cases rb;exact SeqAt.EqAt.bool_bool _ _
   |_=>cases o
  |int i=>
   obtain⟨t,rfl⟩:=ra
   cases ry with
   |int j=>obtain⟨t',rfl⟩:=rb;exact SeqAt.EqAt.int_int _ _ _ _
   |non=>cases rb;exact SeqAt.EqAt.int_none _ _
   |_=>cases o
  |str i=>
   obtain⟨t,rfl⟩:=ra
   cases ry with
   |str j=>obtain⟨t',rfl⟩:=rb;exact SeqAt.EqAt.str_str _ _ _ _
   |_=>cases o
  |_=>cases o
end
structure Bt (mg:Str->Option Value):Prop where
 len:mg "len" = none
 range:mg "range" = none
 tuple:mg "tuple" = none
 list:mg "list" = none
 sorted:mg "sorted" = none
 all:mg "all" = none
 any:mg "any" = none
 zip:mg "zip" = none
 min:mg "min" = none
 max:mg "max" = none
 sum:mg "sum" = none
 isinst:mg "isinstance" = none
 int:mg "int" = none
 bool:mg "bool" = none
 enum:mg "enumerate" = none
section
variable {X:Cx}{a b c e o:Expr}{es cC:List Expr}{ta tb te to tk:aG}{tr:cE}{tA tB' tc:cI}{pos p2 px:Pos}{st:Stmt}{sts:List Stmt}{t u:aS}
theorem eD (B:Bt X.mg)(ha:QA X [e] tr)(hg:Gl X "len":=by rfl)(he:starEach [e] X.env=(false,eval e X.env)::starEach [] X.env:=by rfl)(hpl:(backTo pos (starEach [] X.env)).any (·.1)=false:=by rfl):QE X (.Call (.Name "len" p2) [e] [] pos) (aE dJ tr):=
 iQ (ab9.or ae4) aj6 hg B.len PySem.boot_len ha (he:=he) (hpl:=hpl)
theorem eV (B:Bt X.mg)(ha:QA X [e] tr)(hg:Gl X "tuple":=by rfl)(he:starEach [e] X.env=(false,eval e X.env)::starEach [] X.env:=by rfl)(hpl:(backTo pos (starEach [] X.env)).any (·.1)=false:=by rfl):QE X (.Call (.Name "tuple" p2) [e] [] pos) (aE dB tr):=
 tI ac1 aj7 hg B.tuple PyProof.Rows.boot_tuple ha (he:=he) (hpl:=hpl)
theorem zH (B:Bt X.mg)(ha:QA X [e] tr)(hg:Gl X "list":=by rfl)(he:starEach [e] X.env=(false,eval e X.env)::starEach [] X.env:=by rfl)(hpl:(backTo pos (starEach [] X.env)).any (·.1)=false:=by rfl):QE X (.Call (.Name "list" p2) [e] [] pos) (aE oE tr):=
 tI ac0 aj8 hg B.list PyProof.Rows.boot_list ha (he:=he) (hpl:=hpl)
theorem an2 (B:Bt X.mg)(hc:X.calm=true)(ha:QA X [e] tr)(hg:Gl X "all":=by rfl)(he:starEach [e] X.env=(false,eval e X.env)::starEach [] X.env:=by rfl)(hpl:(backTo pos (starEach [] X.env)).any (·.1)=false:=by rfl):QE X (.Call (.Name "all" p2) [e] [] pos) (aE sT tr):=
 iQ (sH hc) aj9 hg B.all PyProof.Rows.boot_all ha (he:=he) (hpl:=hpl)
theorem zI (B:Bt X.mg)(hc:X.calm=true)(ha:QA X [a,b] tr)(hg:Gl X "min":=by rfl)(he:starEach [a,b] X.env=(false,eval a X.env)::starEach [b] X.env:=by rfl)(hpl:(backTo pos (starEach [b] X.env)).any (·.1)=false:=by rfl):QE X (.Call (.Name "min" p2) [a,b] [] pos) (aE oF tr):=
 iQ (Y6 hc) ak0 hg B.min PyProof.Rows.boot_min ha (he:=he) (hpl:=hpl)
theorem tL (B:Bt X.mg)(hc:X.calm=true)(ha:QA X [a,b] tr)(hg:Gl X "max":=by rfl)(he:starEach [a,b] X.env=(false,eval a X.env)::starEach [b] X.env:=by rfl)(hpl:(backTo pos (starEach [b] X.env)).any (·.1)=false:=by rfl):QE X (.Call (.Name "max" p2) [a,b] [] pos) (aE lU tr):=
 iQ (Y5 hc) ak1 hg B.max PyProof.Rows.boot_max ha (he:=he) (hpl:=hpl)
theorem zJ (ha:QE X a ta):QE X (.UnaryOp .USub a pos) (lY ta):=cA (X1 X9 ha) λσ H Q' h=>by
 obtain⟨W,ρ,Q,px,q,k⟩:=h
 refine⟨W,ρ,_,px,q,?_⟩
 rintro v H1 x g s r ⟨i,rfl,q⟩
 cases r
 exact⟨i,rfl,k _ _ _ .fr s (.int _) q⟩
theorem zK (x:Int):∀(xs:ae),lN (.int x) (xs.map V.int)=decide (x∈xs)
 |[]=>by simp[lN]
 |y::r=>by
  have ih:=zK x r
  unfold lN at ih ⊢
  rw[aO2,List.any_cons,ih]
  by_cases e:y=x
  ·subst e;simp[fW]
  ·have:fW (.int y) (.int x)=false:=by simpa[fW] using e
   rw[this,Bool.false_or,aO9]
   simp[Ne.symm e]
theorem zL:∀(xs:ae),(xs.map V.int).all i4=true
 |[]=>rfl
 |_::r=>by rw[aO2,aV2,zL r];rfl
theorem zM (neg:Bool):cN X (iM neg) (wU X.K neg):=by
 rintro W Hs H u v x y g g' Q Q' s n r1 r2 ⟨i,ns,rfl,e,q⟩ k
 cases r1
 obtain⟨a,us,rfl,hs,r⟩:=r2.seq e
 obtain rfl:=r.ofInts
 refine⟨a,_,rfl,hs,rfl,zL ns,?_⟩
 have:=k _ _ _ .fr (aB.refl _) (.bl _) q
 rw[zK]
 cases neg<;>exact this
theorem an3 (ha:QE X a ta)(hb:QE X b tb)(hm:behindInMarks .In b=false:=by rfl):QE X (.Compare a [.In] [b] pos) (q2 (iM false) ta tb):=m6 wV (zM false) ha hb hm
theorem zN (ha:QE X a ta)(hb:QE X b tb)(hm:behindInMarks .In b=false:=by rfl):QT X (.Compare a [.In] [b] pos) (aH (q2 (iM false) ta tb)):=fU wV (zM false) ha hb hm
theorem aF.kt_ {K:ac}{M:Addr->Prop}{H:Hp}{v:V}{xs:List PV}(r:aF K M H v (.kt xs)):∃a us,v = .ref a/\k9 K a us/\Reps K M H us xs:=by
 cases r with
 |kt h r=>exact⟨_,_,rfl,h,r⟩
noncomputable def zO (K:ac)(H:Hp)(x:V)(t:Value):Prop:=eI K H x t∨∃a us,x = .ref a/\aL K H a us/\t = .type "tuple"
theorem an4:cG X (.builtin "isinstance") (λxs H Q=>∃x t n b,xs = [x,.ty n]/\zO X.K H x t/\PySem.W.kitOne X.K t (.type n)=some b/\Q (.bl b) H):=by
 intro pins s σ H xs us Q I r h
 obtain⟨x,t,n,b,rfl,ty,e,q⟩:=h
 rcases ty with ty|⟨a,ws,rfl,hs,rfl⟩
 ·exact af6 pins s σ H _ us Q I r ⟨x,t,n,b,rfl,ty,e,q⟩
 obtain⟨u,u',rfl,ru,ru'⟩:=lJ r
 cases ru'
 cases (show u=Value.ref a from ru)
 obtain⟨its,_,⟨o,h1,h2,_⟩,_⟩:=I.tuple hs
 exact aP0 PySem.W.kitx_tuple I.kIn ⟨o,h1,h2⟩ e (λz=>nomatch z) λtk=>⟨.bl b,H,I.tok tk,rfl,q⟩
theorem an5 {K:ac}{M:Addr->Prop}{H:Hp}{v:V}{x:PV}{T:String}(r:aF K M H v x)(e:yU x=some T):zO K H v (.type T):=by
 cases r with
 |non=>cases e;exact .inl .non
 |bl b=>cases e;exact .inl (.bl b)
 |int i=>cases e;exact .inl (.int i)
 |str i=>cases e;exact .inl (.str i)
 |tup h _=>cases e;exact .inl (.tup h)
 |lst _ h _=>cases e;exact .inl (.lst h)
 |kt h _=>cases e;exact .inr ⟨_,_,rfl,.inr h,rfl⟩
 |_=>cases e
theorem tM {x:Str}{n:String}(B:Bt X.mg)(hn:bootBuiltins x=some (.type n))(hm:X.mg x=none)(ha:QE X a ta)(hg:Gl X "isinstance":=by rfl)(hgx:Gl X x:=by rfl)(hx:x≠"__name__":=by decide)(hdx:(x==("__debug__":Str))=false:=by decide)(he:starEach [a,.Name x px] X.env=(false,eval a X.env)::starEach [.Name x px] X.env:=by rfl)(he2:starEach [.Name x px] X.env=(false,eval (.Name x px) X.env)::starEach [] X.env:=by rfl)(hpl:(backTo pos (starEach [.Name x px] X.env)).any (·.1)=false:=by rfl):QE X (.Call (.Name "isinstance" p2) [a,.Name x px] [] pos) (gM X.K n ta):=
 cA (lM an4 hg B.isinst PyProof.Rows.boot_isinstance (e8 ha (e8 (vG (v:=.ty n) hgx hm hn rfl hx hdx) gH he2) he) (he:=he) (hpl:=hpl)) λσ H Q' h=>by
  obtain⟨W,ρ,Q,px,q,k⟩:=h
  refine⟨W,ρ,_,px,q,?_⟩
  rintro v H1 x g s r ⟨T,b,e,kt,q⟩
  exact⟨v,_,n,b,rfl,an5 r e,kt,k _ _ _ .fr s (.bl _) q⟩
theorem an6 (B:Bt X.mg)(ha:QE X a ta)(hg:Gl X "isinstance":=by rfl)(hgx:Gl X "int":=by rfl)(he:starEach [a,.Name "int" px] X.env=(false,eval a X.env)::starEach [.Name "int" px] X.env:=by rfl)(he2:starEach [.Name "int" px] X.env=(false,eval (.Name "int" px) X.env)::starEach [] X.env:=by rfl)(hpl:(backTo pos (starEach [.Name "int" px] X.env)).any (·.1)=false:=by rfl):QE X (.Call (.Name "isinstance" p2) [a,.Name "int" px] [] pos) (gM X.K "int" ta):=tM B PyProof.Rows.boot_int B.int ha (hg:=hg) (hgx:=hgx) (he:=he) (he2:=he2) (hpl:=hpl)
theorem an7 (B:Bt X.mg)(ha:QE X a ta)(hg:Gl X "isinstance":=by rfl)(hgx:Gl X "bool":=by rfl)(he:starEach [a,.Name "bool" px] X.env=(false,eval a X.env)::starEach [.Name "bool" px] X.env:=by rfl)(he2:starEach [.Name "bool" px] X.env=(false,eval (.Name "bool" px) X.env)::starEach [] X.env:=by rfl)(hpl:(backTo pos (starEach [.Name "bool" px] X.env)).any (·.1)=false:=by rfl):QE X (.Call (.Name "isinstance" p2) [a,.Name "bool" px] [] pos) (gM X.K "bool" ta):=tM B PyProof.Rows.boot_bool B.bool ha (hg:=hg) (hgx:=hgx) (he:=he) (he2:=he2) (hpl:=hpl)
theorem oN (B:Bt X.mg)(ha:QE X a ta)(hg:Gl X "isinstance":=by rfl)(hgx:Gl X "tuple":=by rfl)(he:starEach [a,.Name "tuple" px] X.env=(false,eval a X.env)::starEach [.Name "tuple" px] X.env:=by rfl)(he2:starEach [.Name "tuple" px] X.env=(false,eval (.Name "tuple" px) X.env)::starEach [] X.env:=by rfl)(hpl:(backTo pos (starEach [.Name "tuple" px] X.env)).any (·.1)=false:=by rfl):QE X (.Call (.Name "isinstance" p2) [a,.Name "tuple" px] [] pos) (gM X.K "tuple" ta):=tM B PyProof.Rows.boot_tuple B.tuple ha (hg:=hg) (hgx:=hgx) (he:=he) (he2:=he2) (hpl:=hpl)
noncomputable def tN (K:ac)(n:Nat)(neg:Bool):R2:=λv w H Q=>∃x y,aF K (λ_=>True) H v x/\aF K (λ_=>True) H w y/\((∃xs ys,x = .tup xs/\y = .tup ys)∨(∃xs ys,x = .lst xs/\y = .lst ys)∨(∃xs ys,x = .kt xs/\y = .kt ys))/\dL (n+1) x y=true/\Q (.bl (if neg=true then !cH (n+1) x y else cH (n+1) x y)) H
theorem kL {pins:List (Addr×Obj)}{σ:St}{H:Hp}{s:Shared}{M M':Addr->Prop}(I:a8 X pins σ H s){n:Nat}{A:Around}(hu:A.units+(n+1)<cLine){us ws:List V}{xs ys:List PV}{its its2:List Value}(r1:Reps X.K M H us xs)(r2:Reps X.K M' H ws ys)(v1:aQ us its)(v2:aQ ws its2)(ok:((xs.zip ys).all λp=>dL n p.1 p.2)=true):∀j (h1:j<its.toArray.size) (h2:j<its2.toArray.size),SeqAt.EqAt A.in1 s its.toArray[j] its2.toArray[j] (cH n (xs.getD j .non) (ys.getD j .non)):=by
 intro j h1 h2
 have l1:=v1.length
 have l2:=v2.length
 have m1:=r1.length
 have m2:=r2.length
 have k1:j<its.length:=by simpa using h1
 have k2:j<its2.length:=by simpa using h2
 have j1:j<us.length:=by omega
 have j2:j<ws.length:=by omega
 have i1:j<xs.length:=by omega
 have i2:j<ys.length:=by omega
 obtain⟨u,hu',ru⟩:=v1.get (aK3 j1)
 obtain⟨u2,hu2',ru2⟩:=v2.get (aK3 j2)
 obtain⟨x,hx,rx⟩:=r1.get (aK3 j1)
 obtain⟨y,hy,ry⟩:=r2.get (aK3 j2)
 have e1:its.toArray[j]=u:=by
  rw[aK3 k1]at hu'
  simpa using hu'
 have e2:its2.toArray[j]=u2:=by
  rw[aK3 k2]at hu2'
  simpa using hu2'
 have ok':dL n x y=true:=by
  rw[aR4]at ok
  have hz:j<(xs.zip ys).length:=by simp;omega
  have:=ok _ (aR6 hz)
  rw[List.getElem_zip]at this
  rw[aK3 i1]at hx
  rw[aK3 i2]at hy
  cases hx;cases hy
  exact this
 rw[e1,e2]
 have g1:xs.getD j .non=x:=by rw[aL7,hx];rfl
 have g2:ys.getD j .non=y:=by rw[aL7,hy];rfl
 rw[g1,g2]
 exact tK I n (by show A.units+1+n<cLine;omega) rx ry ru ru2 ok'
theorem aK0 (n:Nat)(hu:X.A.units+(n+1)<cLine):bR X (compareOp .Eq) (tN X.K n false):=by
 intro pins s σ H v w a b Q I ra rb h
 obtain⟨x,y,rx,ry,kd,o,q⟩:=h
 have hu0:X.A.units<cLine:=by omega
 rcases kd with⟨xs,ys,rfl,rfl⟩|⟨xs,ys,rfl,rfl⟩|⟨xs,ys,rfl,rfl⟩
 ·obtain⟨p,us,rfl,h1,r1⟩:=rx.sqT
  obtain⟨p2,ws,rfl,h2,r2⟩:=ry.sqT
  cases ra;cases rb
  obtain⟨its,v1,p1,_⟩:=I.tuple (aL.of (K:=X.K) h1)
  obtain⟨its2,v2,p2',_⟩:=I.tuple (aL.of (K:=X.K) h2)
  have l1:=v1.length
  have l2:=v2.length
  have m1:=r1.length
  have m2:=r2.length
  have:=SeqAt.RcAt.tuples p1 p2' hu0 (kL I hu r1 r2 v1 v2 o)
  rw[aK5,aK5,<- l1,<- l2,m1,m2,iC]at this
  exact this _ _ _ _ ⟨.bl _,H,I,rfl,q⟩
 ·obtain⟨p,us,rfl,_,h1,r1⟩:=rx.sqL
  obtain⟨p2,ws,rfl,_,h2,r2⟩:=ry.sqL
  cases ra;cases rb
  obtain⟨its,v1,p1,_⟩:=I.list (aM.of (K:=X.K) h1)
  obtain⟨its2,v2,p2',_⟩:=I.list (aM.of (K:=X.K) h2)
  have l1:=v1.length
  have l2:=v2.length
  have m1:=r1.length
  have m2:=r2.length
  have q:Q (.bl ((xs.zip ys).all (λp=>cH n p.1 p.2)&&xs.length==ys.length)) H:=q
  by_cases hl:xs.length=ys.length
  ·have:=SeqAt.RcAt.lists p1.isList p2'.isList (by rw[aK5,aK5];omega) hu0 (kL I hu r1 r2 v1 v2 o)
   have hm:min xs.length ys.length=its.length:=by omega
   rw[aK5,<- hm,iC]at this
   rw[show (xs.length==ys.length)=true by simpa using hl,aX4]at q
   exact this _ _ _ _ ⟨.bl _,H,I,rfl,q⟩
  ·have:=SeqAt.RcAt.lists_lengths (A:=X.A) p1.isList p2'.isList (by rw[aK5,aK5];simp;omega) hu0
   rw[show (xs.length==ys.length)=false by simpa using hl,Bool.and_false]at q
   exact this _ _ _ _ ⟨.bl _,H,I,rfl,q⟩
 ·obtain⟨p,us,rfl,h1,r1⟩:=rx.kt_
  obtain⟨p2,ws,rfl,h2,r2⟩:=ry.kt_
  cases ra;cases rb
  obtain⟨its,v1,p1,_⟩:=I.tuple (.inr h1)
  obtain⟨its2,v2,p2',_⟩:=I.tuple (.inr h2)
  have l1:=v1.length
  have l2:=v2.length
  have m1:=r1.length
  have m2:=r2.length
  have:=SeqAt.RcAt.tuples p1 p2' hu0 (kL I hu r1 r2 v1 v2 o)
  rw[aK5,aK5,<- l1,<- l2,m1,m2,iC]at this
  exact this _ _ _ _ ⟨.bl _,H,I,rfl,q⟩
theorem an8 (n:Nat)(hu:X.A.units+(n+1)<cLine):bR X (compareOp .NotEq) (tN X.K n true):=by
 intro pins s σ H v w a b Q I ra rb h
 obtain⟨x,y,rx,ry,kd,o,q⟩:=h
 have hu0:X.A.units<cLine:=by omega
 rcases kd with⟨xs,ys,rfl,rfl⟩|⟨xs,ys,rfl,rfl⟩|⟨xs,ys,rfl,rfl⟩
 ·obtain⟨p,us,rfl,h1,r1⟩:=rx.sqT
  obtain⟨p2,ws,rfl,h2,r2⟩:=ry.sqT
  cases ra;cases rb
  obtain⟨its,v1,p1,_⟩:=I.tuple (aL.of (K:=X.K) h1)
  obtain⟨its2,v2,p2',_⟩:=I.tuple (aL.of (K:=X.K) h2)
  have l1:=v1.length
  have l2:=v2.length
  have m1:=r1.length
  have m2:=r2.length
  have:=SeqAt.RcNeAt.tuples p1 p2' hu0 (kL I hu r1 r2 v1 v2 o)
  rw[aK5,aK5,<- l1,<- l2,m1,m2,iC]at this
  exact this _ _ _ _ ⟨.bl _,H,I,rfl,q⟩
 ·obtain⟨p,us,rfl,_,h1,r1⟩:=rx.sqL
  obtain⟨p2,ws,rfl,_,h2,r2⟩:=ry.sqL
  cases ra;cases rb
  obtain⟨its,v1,p1,_⟩:=I.list (aM.of (K:=X.K) h1)
  obtain⟨its2,v2,p2',_⟩:=I.list (aM.of (K:=X.K) h2)
  have l1:=v1.length
  have l2:=v2.length
  have m1:=r1.length
  have m2:=r2.length
  have q:Q (.bl (!((xs.zip ys).all (λp=>cH n p.1 p.2)&&xs.length==ys.length))) H:=q
  by_cases hl:xs.length=ys.length
  ·have:=SeqAt.RcNeAt.lists p1.isList p2'.isList (by rw[aK5,aK5];omega) hu0 (kL I hu r1 r2 v1 v2 o)
   have hm:min xs.length ys.length=its.length:=by omega
   rw[aK5,<- hm,iC]at this
   rw[show (xs.length==ys.length)=true by simpa using hl,aX4]at q
   exact this _ _ _ _ ⟨.bl _,H,I,rfl,q⟩
  ·have:=SeqAt.RcNeAt.lists_lengths (A:=X.A) p1.isList p2'.isList (by rw[aK5,aK5];simp;omega) hu0
   rw[show (xs.length==ys.length)=false by simpa using hl,Bool.and_false]at q
   exact this _ _ _ _ ⟨.bl _,H,I,rfl,q⟩
 ·obtain⟨p,us,rfl,h1,r1⟩:=rx.kt_
  obtain⟨p2,ws,rfl,h2,r2⟩:=ry.kt_
  cases ra;cases rb
  obtain⟨its,v1,p1,_⟩:=I.tuple (.inr h1)
  obtain⟨its2,v2,p2',_⟩:=I.tuple (.inr h2)
  have l1:=v1.length
  have l2:=v2.length
  have m1:=r1.length
  have m2:=r2.length
  have:=SeqAt.RcNeAt.tuples p1 p2' hu0 (kL I hu r1 r2 v1 v2 o)
  rw[aK5,aK5,<- l1,<- l2,m1,m2,iC]at this
  exact this _ _ _ _ ⟨.bl _,H,I,rfl,q⟩
theorem an9 {n:Nat}{neg:Bool}:cN X (t8 n neg) (tN X.K n neg):=by
 rintro W Hs H u v x y g g' Q Q' s n r1 r2 ⟨kd,o,q⟩ k
 exact⟨x,y,r1.same (aB.refl _) λ_ _=>trivial,r2.same (aB.refl _) λ_ _=>trivial,kd.elim .inl λz=>.inr (.inl z),o,k _ _ _ .fr (aB.refl _) (.bl _) q⟩
theorem ao0 (hu:X.A.units+3<cLine)(ha:QE X a ta)(hb:QE X b tb):QT X (.Compare a [.NotEq] [b] pos) (aH (q2 (t8 2 true) ta tb)):=fU (an8 2 hu) an9 ha hb (e7 _)
end
end PP
namespace PP
open PySem L2 PyProof.Rows
noncomputable def LO (X:Cx)(t:kH):TO:=λσ H Q'=>∃(W:Addr->Prop) (ρ:bB) (Q:Option Int->Prop),PX X.K X.H₀ W σ ρ H/\t ρ Q/\∀o H',aB H H'->Q o->Q' o H'
noncomputable def QO (X:Cx)(e:Option Expr)(t:kH):Prop:=PO X e (LO X t)
theorem Reps.cut {K:ac}{M:Addr->Prop}{H:Hp}{us:List V}{xs:List PV}(r:Reps K M H us xs)(lo hi:Option Int):Reps K M H (dG us lo hi) (eQ xs lo hi):=by
 unfold dG eQ
 rw[r.length]
 exact (r.drop _).take _
section
variable {X:Cx}{a b c e o:Expr}{es cC:List Expr}{ta tb te to tk:aG}{tr:cE}{tA tB' tc:cI}{pos p2 px:Pos}{st:Stmt}{sts:List Stmt}{t u:aS}
theorem jC:QO X none gN:=λpins s σ H Q I h=>rE pins s σ H Q I (by
 obtain⟨W,ρ,Q1,px,q,k⟩:=h
 exact k _ _ (aB.refl _) q)
theorem jD (h:QE X e te):QO X (some e) (gO te):=λpins s σ H Q I hq=>rF h pins s σ H Q I (by
 obtain⟨W,ρ,Q1,px,q,k⟩:=hq
 refine⟨W,ρ,_,px,q,?_⟩
 rintro v H1 x g s r ⟨i,rfl,q⟩
 cases r
 exact⟨i,rfl,k _ _ s q⟩)
theorem jE {lo hi:Option Expr}{tl th:kH}{sp:Pos}(he:QE X e te)(hl:QO X lo tl)(hh:QO X hi th):QE X (.Subscript e (.Slice lo hi none sp) pos) (gP te tl th):=cA (rG (wS.or xV) he hl hh) λσ H Q' h=>by
 obtain⟨W,ρ,Q,px,q,k⟩:=h
 refine⟨W,ρ,_,px,q,λv H1 x g s1 r1 q1=>⟨W,ρ,_,px.mono s1,q1,λlo H2 s2 q2=>⟨W,ρ,_,px.mono (s1.trans s2),q2,?_⟩⟩⟩
 rintro hi H3 s3 ⟨xs,e,f,q3⟩
 have S:=(s1.trans s2).trans s3
 have r3:=r1.same (M':=Mg X.H₀ W H g) (s2.trans s3) λ_ z=>z
 cases r3 with
 |tup h r=>
  cases e
  refine .inr ⟨_,_,rfl,aL.of h,λp hp=>k _ _ _ .fr (S.trans (bI hp _)) (.tup bP (((r.flat f).cut lo hi).same (bI hp _) λ_ z=>z)) q3,λec=>k _ _ _ .fr S (.tup h ?_) q3⟩
  have:=(r.flat (M':=Mg X.H₀ W H .fr) f).cut lo hi
  rw[ec]at this
  exact this
 |lst m h r=>
  cases e
  exact .inl ⟨_,_,rfl,aM.of h,λp hp=>k _ _ _ .fr (S.trans (bI hp _)) (.lst (S.free hp) bP (((r.flat f).cut lo hi).same (bI hp _) λ_ z=>z)) q3⟩
 |scr h=>
  cases e
  exact .inl ⟨_,_,rfl,h.sqL,λp hp=>k _ _ _ .fr (S.trans (bI hp _)) (.lst (S.free hp) bP (((Reps.intz _).cut lo hi).same (bI hp _) λ_ z=>z)) q3⟩
 |fL h r=>
  cases e
  exact .inl ⟨_,_,rfl,.inl (.inr ⟨_,h⟩),λp hp=>k _ _ _ .fr (S.trans (bI hp _)) (.lst (S.free hp) bP (((r.flat f).cut lo hi).same (bI hp _) λ_ z=>z)) q3⟩
 |_=>cases e
structure Df (P:Program)(w:World)(K:ac)(mg:Str->Option Value)(base:Heap)(k:Nat)(x:Str)(ps:List Str)(p:c7):Prop where
 ex:∃f fd,cR P w K mg base dQ k f fd ps (lV K p)/\hV K fd ps []/\PySem.W.keepIn K (.ref f)=true/\mg x=some (.ref f)
theorem bK {k j:Nat}{x:Str}{ps:List Str}{p:c7}(d:Df X.prog X.w X.K X.mg X.base k x ps p)(hr:bW j X.A)(ha:QA X (e::es) tr)(hkj:k<=j:=by decide)(hg:Gl X x:=by rfl)(hdb:(x==("__debug__":Str))=false:=by decide)(he:starEach (e::es) X.env=(false,eval e X.env)::starEach es X.env:=by rfl)(hpl:(backTo pos (starEach es X.env)).any (·.1)=false:=by rfl):QE X (.Call (.Name x p2) (e::es) [] pos) (aE p tr):=by
 obtain⟨f,fd,F,b,kp,m⟩:=d.ex
 exact cA (rC F (hr.mono hkj) hg m kp b .nil ae2 ha hdb he hpl) λ_ _ _=>ak2
theorem tO {K:ac}{H:Hp}{N:List Str}{vs:List V}{xs:List PV}(r:Reps K (λ_=>True) H vs xs):PX K H (λ_=>False) (L2.fN N vs) (cY N xs) H:=by
 have lr:=r.length
 have own:∀{i:Nat}{m:Slot},(cY N xs)[i]? = some (some m)->∃x,xs[i]? = some x/\m = .sh (flat x) x:=λ{i m} h=>by
  unfold cY at h
  by_cases hi:i<xs.length
  ·rw[aT5 (by simpa using hi),aM9]at h
   rw[aK3 hi]at h ⊢
   cases h
   exact⟨_,rfl,rfl⟩
  ·rw[aV5 (by simpa using hi),List.getElem?_replicate]at h
   split at h<;>cases h
 refine⟨by unfold L2.fN cY;simp[lr],aB.refl _,λa z=>z.elim,λi m h=>?_,λi j x y a h1=>?_⟩
 ·obtain⟨x,hx,rfl⟩:=own h
  obtain⟨v,hv,rx⟩:=r.at hx
  refine⟨v,?_,oH (g:=false) (rx.same (aB.refl _) λ_ _ z=>z)⟩
  have hi:i<vs.length:=(aM0.mp hv).1
  unfold L2.fN
  rw[aT5 (by simpa using hi),aM9,hv];rfl
 ·obtain⟨x,_,e⟩:=own h1
  cases e
theorem Df.of {P:Program}{w:World}{K:ac}{mg:Str->Option Value}{base:Heap}{k:Nat}{x:Str}{ps N:List Str}{p:c7}{st:Stmt}{f:Addr}{fd:FuncData}(F:eJ K x x st f fd)(m:mg x=some (.ref f))(S:FnScope N ps (aX st))(hb:∀(kV doc pm:Value) (an:Option Addr) (cdv ct:Value) (us:List Value),us.length=ps.length->bindArgs (PySem.W.fnOf x x (i7 st) (dO st) (aX st) .none kV doc pm an cdv ct) ⟨us,[]⟩=pure (ps.zip us))(len:∀xs Q,p xs Q->xs.length=ps.length)(body:∀(cdv:Value) (A:Around) (outer:List Env) (s:Shared) (H:Hp) (E:XK),bW k (A.deeper (envOfC x (aX st) s.heap.objs.size f cdv))->
   ∃t,eR (cS dQ P w K mg base N x (aX st) f cdv A outer s H E).nox (dO st) t/\∀xs Q,p xs Q->t { nx:=λ_=>Q .non,rt:=Q } (cY N xs)):Df P w K mg base (k+1) x ps p:=by
 refine⟨f,fd,F.ok S (λvs H Q E h=>?_) (λcdv A outer s H vs Q E hr h=>?_),F.binds hb,F.kp,m⟩
 ·obtain⟨xs,Qp,r,q,_⟩:=h
  rw[r.length];exact len xs Qp q
 ·obtain⟨xs,Qp,r,q,k⟩:=h
  obtain⟨t,ht,hq⟩:=body cdv A outer s H E hr
  refine⟨_,ht,λ_=>False,cY N xs,_,tO r,hq xs Qp q,?_,?_,?_,?_⟩
  ·exact λW' σ' H' ρ' e px q=>k _ _ _ px.same .non q
  ·exact λv H' x s r q=>k _ _ _ s r q
  ·exact λW' σ' H' ρ' e px q=>q
  ·exact λW' σ' H' ρ' e px q=>q
theorem iD (i:Nat){x:Str}{tp:Pos}{body:List Stmt}{ti:fP}(hN:X.N.Nodup)(hi:QI X (.Name x tp) e ti)(hb:eR X body t)(hx:X.N[i]? = some x:=by rfl)(hl:hG X.env.scope x:=by first|exact Or.inl rfl|exact Or.inr rfl)(hf:X.fn x=true∨X.env.scope.names.lookup x=some .local:=by first|exact .inl rfl|exact .inr rfl)(hp:PassesOwn (model X.prog X.w) X.A X.env X.xe:=by exact PassesOwn.never)(hc:X.calm=true:=by rfl)(hs:∀x,foldedSetIterable e X.env x=pure x:=by intro _;rfl):QS X (.For (.Name x tp) e body [] pos) (fQ ti (cO i) t):=
 an1 hp hc hi (iG hN hx hl hf) (sY _ i) hb hs
noncomputable abbrev gR:Value->Shared->Prop:=λ_ _=>False
section
variable {scope:Scope}{N:List Str}{fr:List (Option Nat)}{x y:Str}{tp xp yp:Pos}{kt:Nat}{iter elt:Expr}{ti:fP}
theorem zP {ifs:List Expr}{tcs:cI}(he:∀(s:Shared) (H:Hp) (C:Addr) (fp:List Addr),QE (cU X scope N s H C fp gR) elt te)(hi:∀(s:Shared) (H:Hp) (C:Addr) (fp:List Addr),j8 (cU X scope N s H C fp gR) ifs (LT (cU X scope N s H C fp gR) tcs))(hN:N.Nodup)(h0:N[0]? = some x)(hl:∀(s:Shared) (H:Hp) (C:Addr) (fp:List Addr),(cU X scope N s H C fp gR).env.scope.names.lookup x=some .local)(s:Shared)(H:Hp) :
  nY X scope N (.Name x tp) ifs elt s H (dN 0) (LT (X.frm H) tcs) (LE (X.frm H) te):=
 ⟨λC fp=>iG (X:=cU X scope N s H C fp gR) hN h0 (.inl (hl s H C fp)) (.inr (hl s H C fp)),λC fp=>hi s H C fp,λC fp=>he s H C fp⟩
theorem ao1 {Y:Cx}:j8 Y [] (LT Y kG):=λpins s σ H Q I h=>rX pins s σ H Q I (al1 h)
theorem zQ (hi:QI X (.Name x tp) iter ti)(he:∀(s:Shared) (H:Hp) (C:Addr) (fp:List Addr),QE (cU X scope N s H C fp gR) elt te)(hc:X.calm=true:=by rfl)(S:eM X scope N fr:=by exact eM.of rfl rfl)(hN:N.Nodup:=by decide +kernel)(h0:N[0]? = some x:=by rfl)(hl:∀(s:Shared) (H:Hp) (C:Addr) (fp:List Addr),(cU X scope N s H C fp gR).env.scope.names.lookup x=some .local:=by intro _ _ _ _;rfl)(hf:fr[0]? = some none:=by rfl)(hs:∀x,foldedSetIterable iter X.env x=pure x:=by intro _;rfl):QE X (.ListComp elt [⟨.Name x tp,iter,[],0⟩] scope pos) (gL ti fr (cO 0) kG te):=
 cA (xM (gh:=λ_=>dN 0) (tch:=λH=>LT (X.frm H) kG) (teh:=λH=>LE (X.frm H) te) hc S hi (zP he (λ_ _ _ _=>ao1) hN h0 hl) hs) λ_ _ _=>yK (sY _ 0) (λi e=>by subst e;exact hf)
theorem oO {c:Expr}{tcs:cI}(hi:QI X (.Name x tp) iter ti)(ht:∀(s:Shared) (H:Hp) (C:Addr) (fp:List Addr),QT (cU X scope N s H C fp gR) c tcs)(he:∀(s:Shared) (H:Hp) (C:Addr) (fp:List Addr),QE (cU X scope N s H C fp gR) elt te)(hc:X.calm=true:=by rfl)(S:eM X scope N fr:=by exact eM.of rfl rfl)(hN:N.Nodup:=by decide +kernel)(h0:N[0]? = some x:=by rfl)(hl:∀(s:Shared) (H:Hp) (C:Addr) (fp:List Addr),(cU X scope N s H C fp gR).env.scope.names.lookup x=some .local:=by intro _ _ _ _;rfl)(hf:fr[0]? = some none:=by rfl)(hs:∀x,foldedSetIterable iter X.env x=pure x:=by intro _;rfl):QE X (.ListComp elt [⟨.Name x tp,iter,[c],0⟩] scope pos) (gL ti fr (cO 0) tcs te):=
 cA (xM (gh:=λ_=>dN 0) (tch:=λH=>LT (X.frm H) tcs) (teh:=λH=>LE (X.frm H) te) hc S hi (zP he (λs H C fp=>ae7 (ht s H C fp)) hN h0 hl) hs) λ_ _ _=>yK (sY _ 0) (λi e=>by subst e;exact hf)
end
end
end PP
namespace SO
open PySem PyProof.Rows
section
variable (rk:Keyed→Int)
noncomputable def Kr (xs:Array Keyed)(i:Nat):Int:=((xs[i]?).map rk).getD 0
noncomputable def Up (xs:Array Keyed)(lo hi:Nat):Prop:=∀i j,lo<=i->i<=j->j<hi->Kr rk xs i<=Kr rk xs j
noncomputable def Dn (xs:Array Keyed)(lo hi:Nat):Prop:=∀i j,lo<=i->i<=j->j<hi->Kr rk xs j<=Kr rk xs i
end
variable {rk:Keyed→Int}
theorem jF {xs ys:Array Keyed}{i j:Nat}(h:xs[i]? = ys[j]?):Kr rk xs i=Kr rk ys j:=by unfold Kr;rw[h]
theorem oP {xs:Array Keyed}{i j:Nat}(hj:j<=xs.size)(k:Nat):Kr rk (mirror xs i j ((j-i)/2)) k=Kr rk xs (if i<=k/\k<j then i+j-1-k else k):=by
 refine jF ?_
 rw[getElem?_mirror_all hj]
 split<;>rfl
theorem tQ {xs:Array Keyed}{i j:Nat}(hj:j<=xs.size)(e:∀k,i<=k->k<j->Kr rk xs k=Kr rk xs (j-1))(k:Nat):Kr rk (mirror xs i j ((j-i)/2)) k=Kr rk xs k:=by
 rw[oP hj]
 split
 ·rename_i h;rw[e k h.1 h.2,e _ (by omega) (by omega)]
 ·rfl
theorem ao2 {xs:Array Keyed}{src d:Nat}(hs:src<xs.size)(hd:d<=src)(k:Nat):Kr rk (bubble xs src d) k=Kr rk xs (if k=src-d then src else if src-d<k/\k<=src then k-1 else k):=by
 refine jF ?_
 rw[getElem?_bubble hs d hd]
 repeat' split
 all_goals rfl
structure SB (κ:SortKind)(a0:Array Keyed)(pd:Array (Nat×Nat×Nat))(st:SortSt):Prop where
 pm:(arrOf st).Perm a0
 kd:kindOf st=κ
 ok:failedOf st=none
 pd:pendingOf st=pd
section
variable {κ:SortKind}{a0:Array Keyed}{pd:Array (Nat×Nat×Nat)}{st:SortSt}{prog:Program}{w:World}{A:Around}{E:Value→Shared→Prop}{s:Shared}{Ok:Keyed→Prop}
theorem SB.sz (h:SB κ a0 pd st):(arrOf st).size=a0.size:=h.pm.size_eq
theorem SB.put (h:SB κ a0 pd st){xs:Array Keyed}(hp:xs.Perm (arrOf st)):SB κ a0 pd (setArr st xs):=⟨hp.trans h.pm,h.kd,h.ok,h.pd⟩
noncomputable def cF (prog:Program)(w:World)(A:Around)(E:Value->Shared->Prop)(s:Shared)(κ:SortKind)(Ok:Keyed->Prop)(rk:Keyed->Int):Prop:=
 ∀(x y:Keyed),Ok x->Ok y->∀(st:SortSt) (Q:Option Bool->SortSt->Prop),kindOf st=κ->Q (some (decide (rk x<rk y))) st->wpS (model prog w) A E s (lt' x y) Q st
noncomputable def bG (Ok:Keyed->Prop)(xs:Array Keyed):Prop:=∀x∈xs,Ok x
theorem SB.all (h:SB κ a0 pd st)(o:bG Ok a0):bG Ok (arrOf st):=λx hx=>o x (h.pm.mem_iff.mp hx)
theorem cM {xs:Array Keyed}{i:Nat}{Q:Keyed->SortSt->Prop}(hi:i<xs.size)(h:Q xs[i] st):wpS (model prog w) A E s (elem' xs i) Q st:=by
 rw[elem'_eq,getElem?_pos xs i hi];exact aL3 h
theorem bY {xs:Array Keyed}{i:Nat}(hi:i<xs.size):Kr rk xs i=rk xs[i]:=by unfold Kr;rw[getElem?_pos xs i hi];rfl
theorem m7 (c:cF prog w A E s κ Ok rk)(o:bG Ok a0)(b:SB κ a0 pd st){i j:Nat}{Q:Option Bool->SortSt->Prop}(hi:i<a0.size)(hj:j<a0.size)(h:Q (some (decide (Kr rk (arrOf st) i<Kr rk (arrOf st) j))) st):wpS (model prog w) A E s (ltAt' i j) Q st:=by
 have hi':i<(arrOf st).size:=by rw[b.sz];exact hi
 have hj':j<(arrOf st).size:=by rw[b.sz];exact hj
 rw[ltAt'_eq]
 refine aK6 (wpS_get (aK6 (cM hi' (aK6 (cM hj' ?_)))))
 refine c _ _ (b.all o _ (aN9 hi')) (b.all o _ (aN9 hj')) st Q b.kd ?_
 rw[<- bY (rk:=rk) hi',<- bY (rk:=rk) hj'];exact h
theorem oQ {i j:Nat}{Q:Unit->SortSt->Prop}(h:Q () (setArr st (mirror (arrOf st) i j ((j-i)/2)))):wpS (model prog w) A E s (reverseSlice' i j) Q st:=by
 rw[reverseSlice'_eq];exact wpS_modify h
noncomputable abbrev CS:=Option (Option Nat)×Nat
noncomputable abbrev DS:=Option (Option Nat)×Nat×Nat
noncomputable def m8 (lo b nrem:Nat):StateT SortSt Sem CS:=forIn [b:nrem] ((none,b):CS) λ_ r=>do
 match <- ltAt' (lo+r.2) (lo+r.2-1) with
 |some q=>if q=true then pure (ForInStep.done (none,r.2)) else pure (ForInStep.yield (none,r.2+1))
 |_=>pure (ForInStep.done (some none,r.2))
noncomputable def tR (lo b nrem:Nat):StateT SortSt Sem DS:=forIn [b:nrem] ((none,b,0):DS) λ_ r=>do
 match <- ltAt' (lo+r.2.1) (lo+r.2.1-1) with
 |some q=>
  if q=true then (if r.2.2>0 then do reverseSlice' (lo+r.2.1-(r.2.2+1)) (lo+r.2.1);pure (ForInStep.yield (none,r.2.1+1,0)) else pure (ForInStep.yield (none,r.2.1+1,0)))
  else do
   match <- ltAt' (lo+r.2.1-1) (lo+r.2.1) with
   |some q=>if q=true then pure (ForInStep.done (none,r.2.1,r.2.2)) else pure (ForInStep.yield (none,r.2.1+1,r.2.2+1))
   |_=>pure (ForInStep.done (some none,r.2.1,r.2.2))
 |_=>pure (ForInStep.done (some none,r.2.1,r.2.2))
theorem zR (c:cF prog w A E s κ Ok rk)(o:bG Ok a0)(b:SB κ a0 pd st){lo n nrem:Nat}{Q:CS->SortSt->Prop}(hz:lo+nrem<=a0.size)(h1:1<=n)(hn:n<=nrem)(u:Up rk (arrOf st) lo (lo+n))(h:∀m,n<=m->m<=nrem->Up rk (arrOf st) lo (lo+m)->(m=nrem∨Kr rk (arrOf st) (lo+m)<Kr rk (arrOf st) (lo+m-1))->Q (none,m) st):wpS (model prog w) A E s (m8 lo n nrem) Q st:=by
 unfold m8
 refine aQ2 (I:=λx r st'=>st'=st/\r=(none,x)/\Up rk (arrOf st) lo (lo+x)) ?_ ?_ ⟨rfl,rfl,u⟩
 ·rintro x r st' hx hx' ⟨rfl,rfl,u'⟩
  refine aK6 (m7 c o b (by omega) (by omega) ?_)
  by_cases hq:Kr rk (arrOf st') (lo+x)<Kr rk (arrOf st') (lo+x-1)
  ·rw[aL1 hq]
   exact aL3 (h x hx (by omega) u' (.inr hq))
  ·rw[aK9 hq]
   refine aL3 ⟨rfl,rfl,λi j hi hij hj=>?_⟩
   rcases aO0 j (lo+x) with z|z
   ·exact u' i j hi hij z
   ·have ej:j=lo+x:=by omega
    subst ej
    rcases aW0 hij with z|z
    ·rw[z];exact aX0 _
    ·have:=u' i (lo+x-1) hi (by omega) (by omega)
     omega
 ·rintro r st' ⟨rfl,rfl,u'⟩
  have em:max n nrem=nrem:=by omega
  rw[em]at u' ⊢
  exact h nrem hn (aK8 _) u' (.inl rfl)
structure m9 (rk:Keyed->Int)(xs ys:Array Keyed)(lo m q:Nat):Prop where
 dn:Dn rk ys lo (lo+m)
 le:q+1<=m
 eq:∀i,lo+m-(q+1)<=i->i<lo+m->Kr rk ys i=Kr rk ys (lo+m-1)
 low:∀i,i<lo->Kr rk ys i=Kr rk xs i
theorem ao3 (c:cF prog w A E s κ Ok rk)(o:bG Ok a0)(b:SB κ a0 pd st){lo n nrem:Nat}{xs:Array Keyed}{Q:DS->SortSt->Prop}(hz:lo+nrem<=a0.size)(h1:1<=n)(hn:n<=nrem)(u:m9 rk xs (arrOf st) lo n 0)(h:∀m q st',SB κ a0 pd st'->n<=m->m<=nrem->m9 rk xs (arrOf st') lo m q->Q (none,m,q) st'):wpS (model prog w) A E s (tR lo n nrem) Q st:=by
 unfold tR
 refine aQ2 (I:=λx r st'=>∃q,r=(none,x,q)/\SB κ a0 pd st'/\m9 rk xs (arrOf st') lo x q) ?_ ?_ ⟨0,rfl,b,u⟩
 ·rintro x r st' hx hx' ⟨q,rfl,b',f⟩
  have sz:=b'.sz
  dsimp only
  refine aK6 (m7 c o b' (by omega) (by omega) ?_)
  by_cases hq:Kr rk (arrOf st') (lo+x)<Kr rk (arrOf st') (lo+x-1)
  ·rw[aL1 hq]
   have nx:∀ys:Array Keyed,(∀k,Kr rk ys k=Kr rk (arrOf st') k)->m9 rk xs ys lo (x+1) 0:=λys e=>by
    refine⟨λi j hi hij hj=>?_,by omega,λi h1 h2=>by rw[show i=lo+(x+1)-1 by omega],λi hi=>(e i).trans (f.low i hi)⟩
    rw[e,e]
    rcases aO0 j (lo+x) with z|z
    ·exact f.dn i j hi hij z
    ·have ej:j=lo+x:=by omega
     subst ej
     rcases aW0 hij with z|z
     ·rw[z];exact aX0 _
     ·have:=f.dn i (lo+x-1) hi (by omega) (by omega)
      omega
   dsimp only
   rw[if_pos rfl]
   by_cases hp:q>0
   ·rw[if_pos hp]
    exact aK6 (oQ (aL3 ⟨0,rfl,b'.put (mirror_perm _ _ _ _),nx _ (tQ (by omega) f.eq)⟩))
   ·rw[if_neg hp]
    exact aL3 ⟨0,rfl,b',nx _ λ_=>rfl⟩
  ·rw[aK9 hq]
   dsimp only
   rw[if_neg aL6]
   refine aK6 (m7 c o b' (by omega) (by omega) ?_)
   by_cases hl:Kr rk (arrOf st') (lo+x-1)<Kr rk (arrOf st') (lo+x)
   ·rw[aL1 hl]
    exact aL3 (h x q st' b' hx (by omega) f)
   ·rw[aK9 hl]
    have ex:Kr rk (arrOf st') (lo+x)=Kr rk (arrOf st') (lo+x-1):=by omega
    refine aL3 ⟨q+1,rfl,b',λi j hi hij hj=>?_,by have:=f.le;omega,λi h1 h2=>?_,f.low⟩
    ·rcases aO0 j (lo+x) with z|z
     ·exact f.dn i j hi hij z
     ·have ej:j=lo+x:=by omega
      subst ej
      rcases aW0 hij with z|z
      ·rw[z];exact aX0 _
      ·rw[ex];exact f.dn i (lo+x-1) hi (by omega) (by omega)
    ·rw[show lo+(x+1)-1=lo+x by omega]
     rcases aO0 i (lo+x) with z|z
     ·rw[ex];exact f.eq i (by omega) z
     ·rw[show i=lo+x by omega]
 ·rintro r st' ⟨q,rfl,b',f⟩
  have em:max n nrem=nrem:=by omega
  rw[em]at f ⊢
  exact h nrem q st' b' hn (aK8 _) f
theorem zS (c:cF prog w A E s κ Ok rk)(o:bG Ok a0)(b:SB κ a0 pd st){lo nrem:Nat}(n:Nat){xs:Array Keyed}{Q:Option Nat->SortSt->Prop}{K:DS->StateT SortSt Sem (Option Nat)}{k:CS->StateT SortSt Sem (Option Nat)}(hz:lo+nrem<=a0.size)(hn:n+1<=nrem)(hK:∀m q,K (none,m,q)=if q>0 then reverseSlice' (lo+m-(q+1)) (lo+m) >>= λ_=>reverseSlice' lo (lo+m) >>= λ_=>m8 lo m nrem >>= k else reverseSlice' lo (lo+m) >>= λ_=>m8 lo m nrem >>= k)(hk:∀m,k (none,m)=pure (some m))(u:m9 rk xs (arrOf st) lo (n+1) 0)(h:∀m st',SB κ a0 pd st'->1<=m->m<=nrem->Up rk (arrOf st') lo (lo+m)->(∀i,i<lo->Kr rk (arrOf st') i=Kr rk xs i)->Q (some m) st'):wpS (model prog w) A E s (liftM (rule "list.sort.descending-run") >>= λ_=>tR lo (n+1) nrem >>= K) Q st:=by
 refine aK6 (wpS_lift (aV8 ⟨rfl,?_⟩))
 refine aK6 (ao3 c o b hz (by omega) hn u λm q st1 b1 m1 m2 f=>?_)
 have fin:∀st2:SortSt,SB κ a0 pd st2->(∀k,Kr rk (arrOf st2) k=Kr rk (arrOf st1) k)->
   wpS (model prog w) A E s (reverseSlice' lo (lo+m) >>= λ_=>m8 lo m nrem >>= k) Q st2:=λst2 b2 e=>by
  have sz:=b2.sz
  have low:∀i,i<lo->Kr rk (mirror (arrOf st2) lo (lo+m) ((lo+m-lo)/2)) i=Kr rk xs i:=λi hi=>by
   rw[oP (by omega),if_neg (by omega),e]
   exact f.low i hi
  refine aK6 (oQ (aK6 (zR (κ:=κ) c o (b2.put (mirror_perm _ _ _ _)) hz (by omega) m2 ?_ λm' h1 h2 up _=>by rw[hk];exact aL3 (h m' _ (b2.put (mirror_perm _ _ _ _)) (by omega) h2 up low))))
  ·intro i j hi hij hj
   show Kr rk (mirror (arrOf st2) lo (lo+m) _) i<=Kr rk (mirror (arrOf st2) lo (lo+m) _) j
   rw[oP (by omega),oP (by omega),if_pos (by omega),if_pos (by omega),e,e]
   exact f.dn _ _ (by omega) (by omega) (by omega)
 rw[hK]
 by_cases hp:q>0
 ·rw[if_pos hp]
  have sz:=b1.sz
  exact aK6 (oQ (fin _ (b1.put (mirror_perm _ _ _ _)) (tQ (by omega) f.eq)))
 ·rw[if_neg hp]
  exact fin st1 b1 λ_=>rfl
theorem ao4 (c:cF prog w A E s κ Ok rk)(o:bG Ok a0)(b:SB κ a0 pd st){lo nrem:Nat}{Q:Option Nat->SortSt->Prop}(hz:lo+nrem<=a0.size)(h1:1<=nrem)(h:∀m st',SB κ a0 pd st'->1<=m->m<=nrem->Up rk (arrOf st') lo (lo+m)->(∀i,i<lo->Kr rk (arrOf st') i=Kr rk (arrOf st) i)->Q (some m) st'):wpS (model prog w) A E s (countRun' lo nrem) Q st:=by
 rw[countRun'_eq]
 refine aK6 (zR (n:=1) c o b hz (aK8 _) h1 (λi j hi hij hj=>by rw[show i=j by omega];exact aX0 _) λn n1 n2 un on=>?_)
 dsimp only
 by_cases en:(n==nrem)=true
 ·rw[if_pos en]
  exact aL3 (h n st b n1 n2 un λ_ _=>rfl)
 ·rw[if_neg en]
  have en':n≠nrem:=by simpa using en
  have lt:=on.resolve_left en'
  have sz:=b.sz
  by_cases g:n>1
  ·rw[if_pos g]
   refine aK6 (m7 c o b (by omega) (by omega) ?_)
   by_cases hq:Kr rk (arrOf st) lo<Kr rk (arrOf st) (lo+n-1)
   ·rw[aL1 hq]
    exact aL3 (h n st b n1 n2 un λ_ _=>rfl)
   ·rw[aK9 hq]
    dsimp only
    rw[if_neg aL6]
    have all:∀k,lo<=k->k<lo+n->Kr rk (arrOf st) k=Kr rk (arrOf st) (lo+n-1):=λk k1 k2=>by
     have a1:=un lo k (aK8 _) k1 k2
     have a2:=un k (lo+n-1) k1 (by omega) (by omega)
     omega
    have sm:=tQ (rk:=rk) (xs:=arrOf st) (i:=lo) (j:=lo+n) (by omega) all
    refine aK6 (oQ (zS (xs:=arrOf st) (κ:=κ) c o (b.put (mirror_perm _ _ _ _)) n hz (by omega) (λ_ _=>rfl) (λ_=>rfl) ⟨λi j hi hij hj=>?_,by omega,λi h1 h2=>by rw[show i=lo+(n+1)-1 by omega],λi _=>sm i⟩ h))
    show Kr rk (mirror (arrOf st) lo (lo+n) _) j<=Kr rk (mirror (arrOf st) lo (lo+n) _) i
    rw[sm,sm]
    rcases aO0 j (lo+n) with z|z
    ·rw[all i hi (by omega),all j (by omega) z];exact aX0 _
    ·have ej:j=lo+n:=by omega
     subst ej
     rcases aW0 hij with z|z
     ·rw[z];exact aX0 _
     ·rw[all i hi (by omega)];exact Int.le_of_lt lt
  ·rw[if_neg g]
   have e1:n=1:=by omega
   subst e1
   refine zS (xs:=arrOf st) c o b 1 hz (by omega) (λ_ _=>rfl) (λ_=>rfl) ⟨λi j hi hij hj=>?_,by omega,λi h1 h2=>by rw[show i=lo+(1+1)-1 by omega],λi _=>rfl⟩ h
   rcases aW0 hij with z|z
   ·rw[z];exact aX0 _
   ·have ei:i=lo+1-1:=by omega
    have ej:j=lo+1:=by omega
    rw[ei,ej];exact Int.le_of_lt lt
theorem ao5 (c:cF prog w A E s κ Ok rk)(o:bG Ok a0)(b:SB κ a0 pd st){lo n q:Nat}{Q:Bool->SortSt->Prop}(hz:lo+n<=a0.size)(hq:q<=n)(u:Up rk (arrOf st) lo (lo+q))(h:∀st',SB κ a0 pd st'->Up rk (arrOf st') lo (lo+n)->(∀i,i<lo->Kr rk (arrOf st') i=Kr rk (arrOf st) i)->Q true st'):wpS (model prog w) A E s (binarySort' lo n q) Q st:=by
 rw[binarySort'_eq]
 refine aK6 (aX1 (aQ2 (I:=λk r st'=>r=(none,())/\SB κ a0 pd st'/\Up rk (arrOf st') lo (lo+min k n)/\∀i,i<lo->Kr rk (arrOf st') i=Kr rk (arrOf st) i)
  (Q:=λr st'=>r=(none,())/\SB κ a0 pd st'/\Up rk (arrOf st') lo (lo+n)/\∀i,i<lo->Kr rk (arrOf st') i=Kr rk (arrOf st) i) ?_ ?_ ?_) ?_)
 ·rintro k r st1 hk hkn ⟨rfl,b1,u1,l1⟩
  rw[show min k n=k by omega]at u1
  have hk0:lo+k<a0.size:=by omega
  have sz:=b1.sz
  refine aK6 (aX1 (aQ2 (I:=λx r st'=>st'=st1/\∃l g,r=(none,l,g)/\l<=g/\g<=k/\g-l<=k-x/\(∀i,i<l->Kr rk (arrOf st1) (lo+i)<=Kr rk (arrOf st1) (lo+k))/\∀i,g<=i->i<k->Kr rk (arrOf st1) (lo+k)<Kr rk (arrOf st1) (lo+i))
   (Q:=λr st'=>st'=st1/\∃l g,r=(none,l,g)/\l<=k/\(∀i,i<l->Kr rk (arrOf st1) (lo+i)<=Kr rk (arrOf st1) (lo+k))/\∀i,l<=i->i<k->Kr rk (arrOf st1) (lo+k)<Kr rk (arrOf st1) (lo+i)) ?_ ?_ ?_) ?_)
  ·rintro x r st2 _ hx ⟨rfl,l,g,rfl,d1,d2,d3,f1,f2⟩
   dsimp only
   by_cases hlg:l >= g
   ·rw[if_pos hlg]
    have e:g=l:=by omega
    subst e
    exact aL3 ⟨rfl,g,g,rfl,d2,f1,f2⟩
   ·rw[if_neg hlg]
    refine aK6 (m7 c o b1 hk0 (by omega) ?_)
    by_cases hc:Kr rk (arrOf st2) (lo+k)<Kr rk (arrOf st2) (lo+(l+g)/2)
    ·rw[aL1 hc]
     refine aL3 ⟨rfl,l,(l+g)/2,rfl,by omega,by omega,by omega,f1,λi i1 i2=>?_⟩
     have:=u1 (lo+(l+g)/2) (lo+i) (by omega) (by omega) (by omega)
     omega
    ·rw[aK9 hc]
     refine aL3 ⟨rfl,(l+g)/2+1,g,rfl,by omega,d2,by omega,λi i1=>?_,f2⟩
     have:=u1 (lo+i) (lo+(l+g)/2) (by omega) (by omega) (by omega)
     omega
  ·rintro r st2 ⟨rfl,l,g,rfl,d1,d2,d3,f1,f2⟩
   have e:g=l:=by omega
   subst e
   exact⟨rfl,g,g,rfl,d2,f1,f2⟩
  ·exact⟨rfl,0,k,rfl,by omega,by omega,by omega,λi hi=>absurd hi (by omega),λi i1 i2=>absurd i1 (by omega)⟩
  ·rintro r st2 ⟨rfl,l,g,rfl,d,f1,f2⟩
   dsimp only
   rw[moveDown'_eq]
   have kb:∀i,Kr rk (bubble (arrOf st2) (lo+k) (lo+k-(lo+l))) i=Kr rk (arrOf st2) (if i=lo+l then lo+k else if lo+l<i/\i<=lo+k then i-1 else i):=λi=>by
    rw[ao2 (by omega) (by omega),show lo+k-(lo+k-(lo+l))=lo+l by omega]
   refine aK6 (wpS_modify (aL3 ⟨rfl,b1.put (bubble_perm _ _ _),λi j hi hij hj=>?_,λi hi=>?_⟩))
   ·show Kr rk (bubble (arrOf st2) (lo+k) (lo+k-(lo+l))) i<=Kr rk (bubble (arrOf st2) (lo+k) (lo+k-(lo+l))) j
    rw[kb,kb]
    rw[show min (k+1) n=k+1 by omega]at hj
    have v1:∀p,lo<=p->p<lo+l->Kr rk (arrOf st2) p<=Kr rk (arrOf st2) (lo+k):=λp p1 p2=>by have:=f1 (p-lo) (by omega);rwa [show lo+(p-lo)=p by omega]at this
    have v2:∀p,lo+l<=p->p<lo+k->Kr rk (arrOf st2) (lo+k)<Kr rk (arrOf st2) p:=λp p1 p2=>by have:=f2 (p-lo) (by omega) (by omega);rwa [show lo+(p-lo)=p by omega]at this
    repeat' split
    all_goals first
     |(exfalso;omega)
     |exact aX0 _
     |exact v1 _ (by omega) (by omega)
     |exact Int.le_of_lt (v2 _ (by omega) (by omega))
     |exact u1 _ _ (by omega) (by omega) (by omega)
   ·show Kr rk (bubble (arrOf st2) (lo+k) (lo+k-(lo+l))) i=_
    rw[kb,if_neg (by omega),if_neg (by omega)]
    exact l1 i hi
 ·rintro r st1 ⟨rfl,b1,u1,l1⟩
  rw[show min (max (max q 1) n) n=n by omega]at u1
  exact⟨rfl,b1,u1,l1⟩
 ·refine⟨rfl,b,λi j hi hij hj=>?_,λ_ _=>rfl⟩
  rcases aO0 j (lo+q) with z|z
  ·exact u i j hi hij z
  ·rw[show i=j by omega];exact aX0 _
 ·rintro r st1 ⟨rfl,b1,u1,l1⟩
  exact aL3 (h st1 b1 u1 l1)
end
noncomputable def iS:Bool->Keyed->Array Keyed->Nat->Nat->Nat->StateT SortSt Sem (Option Nat):=sortPriv% PySem.Builtin.gallop
noncomputable def jG (lf:Bool)(key:Keyed)(xs:Array Keyed)(bs i:Nat):StateT SortSt Sem (Option Bool):=do
 let z <- elem' xs (bs+i)
 if lf then lt' z key else return (<- lt' key z).map (!·)
theorem ao6 (lf:Bool)(key:Keyed)(xs:Array Keyed)(bs n h:Nat):iS lf key xs bs n h=(do
 let mut la:=0
 let mut of:=1
 let mut l:=0
 let mut g:=0
 let some rt <- jG lf key xs bs h|return none
 if rt then
  let mx:=n-h
  for _ in [0:n] do
   if of >= mx then break
   let some mr <- jG lf key xs bs (h+of)|return none
   if !mr then break
   la:=of
   of:=2*of+1
  l:=h+la+1
  g:=h+min of mx
 else
  let mx:=h+1
  for _ in [0:n] do
   if of >= mx then break
   let some fd <- jG lf key xs bs (h-of)|return none
   if fd then break
   la:=of
   of:=2*of+1
  l:=h+1-min of mx
  g:=h-la
 for _ in [0:n] do
  if l >= g then break
  let m:=l+(g-l)/2
  let some mr <- jG lf key xs bs m|return none
  if mr then l:=m+1 else g:=m
 return some g):=rfl
section
variable {rk:Keyed→Int}{κ:SortKind}{st:SortSt}{prog:Program}{w:World}{A:Around}{E:Value→Shared→Prop}{s:Shared}{Ok:Keyed→Prop}
noncomputable def bT (rk:Keyed->Int)(lf:Bool)(key:Keyed)(xs:Array Keyed)(bs i:Nat):Bool:=if lf then decide (Kr rk xs (bs+i)<rk key) else decide (Kr rk xs (bs+i)<=rk key)
theorem oR (c:cF prog w A E s κ Ok rk)(hk:kindOf st=κ){lf:Bool}{key:Keyed}{xs:Array Keyed}{bs i:Nat}{Q:Option Bool->SortSt->Prop}(ok:Ok key)(o:bG Ok xs)(hi:bs+i<xs.size)(h:Q (some (bT rk lf key xs bs i)) st):wpS (model prog w) A E s (jG lf key xs bs i) Q st:=by
 unfold jG
 refine aK6 (cM hi ?_)
 unfold bT at h
 rw[bY hi]at h
 cases lf with
 |true=>
  simp only[if_true]at h ⊢
  exact c _ _ (o _ (aN9 hi)) ok st Q hk h
 |false=>
  simp only[aN5,aT6]at h ⊢
  refine aK6 (c _ _ ok (o _ (aN9 hi)) st _ hk (aL3 ?_))
  have e:(!decide (rk key<rk xs[bs+i]))=decide (rk xs[bs+i]<=rk key):=by
   by_cases z:rk xs[bs+i]<=rk key
   ·rw[aL1 z,aK9 (by omega)];rfl
   ·rw[aK9 z,aL1 (by omega)];rfl
  show Q (some (!decide (rk key<rk xs[bs+i]))) st
  rw[e];exact h
noncomputable abbrev GS:=Option (Option Nat)×Nat×Nat
noncomputable def zT (lf:Bool)(key:Keyed)(xs:Array Keyed)(bs n l g:Nat):StateT SortSt Sem GS:=forIn [0:n] ((none,l,g):GS) λ_ r=>
 if r.2.1 >= r.2.2 then pure (ForInStep.done (none,r.2.1,r.2.2)) else do
  match <- jG lf key xs bs (r.2.1+(r.2.2-r.2.1)/2) with
  |some q=>if q=true then pure (ForInStep.yield (none,r.2.1+(r.2.2-r.2.1)/2+1,r.2.2)) else pure (ForInStep.yield (none,r.2.1,r.2.1+(r.2.2-r.2.1)/2))
  |_=>pure (ForInStep.done (some none,r.2.1,r.2.2))
theorem zU (c:cF prog w A E s κ Ok rk)(hk:kindOf st=κ){lf:Bool}{key:Keyed}{xs:Array Keyed}{bs n l g:Nat}{Q:GS->SortSt->Prop}(ok:Ok key)(o:bG Ok xs)(hz:bs+n<=xs.size)(mono:∀i j,i<=j->j<n->bT rk lf key xs bs j=true->bT rk lf key xs bs i=true)(hlg:l<=g)(hg:g<=n)(h1:∀i,i<l->bT rk lf key xs bs i=true)(h2:∀i,g<=i->i<n->bT rk lf key xs bs i=false)(hq:∀k,k<=n->(∀i,i<k->bT rk lf key xs bs i=true)->(∀i,k<=i->i<n->bT rk lf key xs bs i=false)->Q (none,k,k) st):wpS (model prog w) A E s (zT lf key xs bs n l g) Q st:=by
 unfold zT
 refine aQ2 (I:=λx r st'=>st'=st/\∃l g,r=(none,l,g)/\l<=g/\g<=n/\g-l<=n-x/\(∀i,i<l->bT rk lf key xs bs i=true)/\∀i,g<=i->i<n->bT rk lf key xs bs i=false) ?_ ?_ ⟨rfl,l,g,rfl,hlg,hg,by omega,h1,h2⟩
 ·rintro x r st' _ hx ⟨rfl,l,g,rfl,d1,d2,d3,f1,f2⟩
  dsimp only
  by_cases hc:l >= g
  ·rw[if_pos hc]
   have e:g=l:=by omega
   subst e
   exact aL3 (hq g d2 f1 f2)
  ·rw[if_neg hc]
   refine aK6 (oR c hk ok o (by omega) ?_)
   cases z:bT rk lf key xs bs (l+(g-l)/2) with
   |true=>exact aL3 ⟨rfl,_,_,rfl,by omega,d2,by omega,λi hi=>mono i (l+(g-l)/2) (by omega) (by omega) z,f2⟩
   |false=>
    refine aL3 ⟨rfl,_,_,rfl,by omega,by omega,by omega,f1,λi i1 i2=>?_⟩
    cases y:bT rk lf key xs bs i with
    |false=>rfl
    |true=>rw[mono _ i i1 i2 y]at z;cases z
 ·rintro r st' ⟨rfl,l,g,rfl,d1,d2,d3,f1,f2⟩
  have e:g=l:=by omega
  subst e
  exact hq g d2 f1 f2
theorem kM (c:cF prog w A E s κ Ok rk)(hk:kindOf st=κ){lf:Bool}{key:Keyed}{xs:Array Keyed}{bs n h:Nat}{Q:Option Nat->SortSt->Prop}(ok:Ok key)(o:bG Ok xs)(hh:h<n)(hz:bs+n<=xs.size)(u:Up rk xs bs (bs+n))(hq:∀k,k<=n->(∀i,i<k->bT rk lf key xs bs i=true)->(∀i,k<=i->i<n->bT rk lf key xs bs i=false)->Q (some k) st):wpS (model prog w) A E s (iS lf key xs bs n h) Q st:=by
 have mono:∀i j,i<=j->j<n->bT rk lf key xs bs j=true->bT rk lf key xs bs i=true:=λi j hij hj e=>by
  have:=u (bs+i) (bs+j) (by omega) (by omega) (by omega)
  unfold bT at e ⊢
  cases lf with
  |true=>simp only[if_true,aL5]at e ⊢;omega
  |false=>simp only[aN5,aT6,aL5]at e ⊢;omega
 have monf:∀i j,i<=j->j<n->bT rk lf key xs bs i=false->bT rk lf key xs bs j=false:=λi j hij hj e=>by
  cases z:bT rk lf key xs bs j with
  |false=>rfl
  |true=>rw[mono i j hij hj z]at e;cases e
 rw[ao6]
 refine aK6 (oR c hk ok o (by omega) ?_)
 dsimp only
 cases z:bT rk lf key xs bs h with
 |true=>
  rw[if_pos rfl]
  refine aK6 (aX1 (aQ2 (I:=λx r st'=>st'=st/\∃la of,r=(none,la,of)/\la<of/\x<of/\h+la<n/\bT rk lf key xs bs (h+la)=true)
   (Q:=λr st'=>st'=st/\∃la of,r=(none,la,of)/\la<of/\h+la<n/\bT rk lf key xs bs (h+la)=true/\(of<n-h->bT rk lf key xs bs (h+of)=false)) ?_ ?_ ⟨rfl,0,1,rfl,by omega,by omega,by omega,z⟩) ?_)
  ·rintro x r st' _ hx ⟨rfl,la,of,rfl,d1,d2,d3,f⟩
   dsimp only
   by_cases hc:of >= n-h
   ·rw[if_pos hc]
    exact aL3 ⟨rfl,la,of,rfl,d1,d3,f,λy=>absurd y (by omega)⟩
   ·rw[if_neg hc]
    refine aK6 (oR c hk ok o (by omega) ?_)
    cases y:bT rk lf key xs bs (h+of) with
    |true=>exact aL3 ⟨rfl,of,2*of+1,rfl,by omega,by omega,by omega,y⟩
    |false=>exact aL3 ⟨rfl,la,of,rfl,d1,d3,f,λ_=>y⟩
  ·rintro r st' ⟨rfl,la,of,rfl,d1,d2,d3,f⟩
   exact⟨rfl,la,of,rfl,d1,d3,f,λy=>absurd y (by omega)⟩
  ·rintro r st' ⟨rfl,la,of,rfl,d1,d3,f,ft⟩
   dsimp only
   refine aK6 (zU (l:=h+la+1) (g:=h+min of (n-h)) c hk ok o hz mono (by omega) (by omega) (λi hi=>mono i (h+la) (by omega) d3 f) (λi i1 i2=>?_) λk k1 k2 k3=>aL3 (hq k k1 k2 k3))
   rcases aO0 of (n-h) with y|y
   ·exact monf (h+of) i (by omega) i2 (ft y)
   ·exact absurd i1 (by omega)
 |false=>
  rw[if_neg aL6]
  refine aK6 (aX1 (aQ2 (I:=λx r st'=>st'=st/\∃la of,r=(none,la,of)/\la<of/\x<of/\la<=h/\bT rk lf key xs bs (h-la)=false)
   (Q:=λr st'=>st'=st/\∃la of,r=(none,la,of)/\la<of/\la<=h/\bT rk lf key xs bs (h-la)=false/\(of<h+1->bT rk lf key xs bs (h-of)=true)) ?_ ?_ ⟨rfl,0,1,rfl,by omega,by omega,by omega,z⟩) ?_)
  ·rintro x r st' _ hx ⟨rfl,la,of,rfl,d1,d2,d3,f⟩
   dsimp only
   by_cases hc:of >= h+1
   ·rw[if_pos hc]
    exact aL3 ⟨rfl,la,of,rfl,d1,d3,f,λy=>absurd y (by omega)⟩
   ·rw[if_neg hc]
    refine aK6 (oR c hk ok o (by omega) ?_)
    cases y:bT rk lf key xs bs (h-of) with
    |false=>exact aL3 ⟨rfl,of,2*of+1,rfl,by omega,by omega,by omega,y⟩
    |true=>exact aL3 ⟨rfl,la,of,rfl,d1,d3,f,λ_=>y⟩
  ·rintro r st' ⟨rfl,la,of,rfl,d1,d2,d3,f⟩
   exact⟨rfl,la,of,rfl,d1,d3,f,λy=>absurd y (by omega)⟩
  ·rintro r st' ⟨rfl,la,of,rfl,d1,d3,f,ft⟩
   dsimp only
   refine aK6 (zU (l:=h+1-min of (h+1)) (g:=h-la) c hk ok o hz mono (by omega) (by omega) (λi hi=>?_) (λi i1 i2=>monf (h-la) i i1 i2 f) λk k1 k2 k3=>aL3 (hq k k1 k2 k3))
   rcases aO0 of (h+1) with y|y
   ·exact mono i (h-of) (by omega) (by omega) (ft y)
   ·exact absurd hi (by omega)
end
noncomputable def kN:Nat->StateT SortSt Sem Unit:=sortPriv% PySem.Builtin.setMinGallop
noncomputable def tS:Array Keyed->Array Keyed->StateT SortSt Sem (Array Keyed):=sortPriv% PySem.Builtin.mergeLo
theorem ao7 (g:Nat):kN g=modify (λst=>SortSt.mk' (kindOf st) (arrOf st) (pendingOf st) g (failedOf st)):=rfl
noncomputable abbrev LS:=Option (Array Keyed)×Array Keyed×Nat×Nat×Nat×Nat×Nat
noncomputable abbrev tT:=Option (Array Keyed)×Array Keyed×Nat×Nat×Nat×Nat
noncomputable abbrev LO:=Option (Array Keyed)×Array Keyed×Nat×Nat×Nat
noncomputable def oS (x y o:Array Keyed)(i j mg p q:Nat):StateT SortSt Sem (ForInStep LS):=do
 let v <- elem' x i
 if (i+1+1==x.size)=true then pure (.done (some (o.push v++y.extract j y.size++x.extract (i+1) x.size),o.push v,i+1,j,mg,p,q))
 else if (decide (p<7)&&decide (q<7))=true then pure (.done (none,o.push v,i+1,j,mg,p,q)) else pure (.yield (none,o.push v,i+1,j,mg,p,q))
noncomputable def oT (x y o:Array Keyed)(i j mg p q:Nat):StateT SortSt Sem (ForInStep LS):=do
 let v <- elem' y j
 if (j+1==y.size)=true then pure (.done (some (o.push v++x.extract i x.size++y.extract (j+1) y.size),o.push v,i,j+1,mg,p,q)) else do
  let u <- elem' x i
  match <- iS true u y (j+1) (y.size-(j+1)) 0 with
  |some k=>
   if k>0 then
    if (j+1+k==y.size)=true then pure (.done (some (o.push v++y.extract (j+1) (j+1+k)++x.extract i x.size++y.extract (j+1+k) y.size),o.push v++y.extract (j+1) (j+1+k),i,j+1+k,mg,p,k))
    else oS x y (o.push v++y.extract (j+1) (j+1+k)) i (j+1+k) mg p k
   else oS x y (o.push v) i (j+1) mg p k
  |_=>pure (.done (some (o.push v++x.extract i x.size++y.extract (j+1) y.size),o.push v,i,j+1,mg,p,q))
noncomputable def oU (x y o:Array Keyed)(i j mg p q:Nat):StateT SortSt Sem (ForInStep LS):=do
 kN mg
 let v <- elem' y j
 match <- iS false v x i (x.size-i) 0 with
 |some k=>
  if k>0 then
   if (i+k+1==x.size)=true then pure (.done (some (o++x.extract i (i+k)++y.extract j y.size++x.extract (i+k) x.size),o++x.extract i (i+k),i+k,j,mg,k,q))
   else if (i+k==x.size)=true then pure (.done (some (o++x.extract i (i+k)++x.extract (i+k) x.size++y.extract j y.size),o++x.extract i (i+k),i+k,j,mg,k,q))
   else oT x y (o++x.extract i (i+k)) (i+k) j mg k q
  else oT x y o i j mg k q
 |_=>pure (.done (some (o++x.extract i x.size++y.extract j y.size),o,i,j,mg,p,q))
noncomputable def tU (x y o:Array Keyed)(i j mg p q:Nat):StateT SortSt Sem LS:=forIn [0:x.size+y.size] ((none,o,i,j,mg,p,q):LS) λ_ r=>
 if r.2.2.2.2.1>1 then oU x y r.2.1 r.2.2.1 r.2.2.2.1 (r.2.2.2.2.1-1) r.2.2.2.2.2.1 r.2.2.2.2.2.2 else oU x y r.2.1 r.2.2.1 r.2.2.2.1 r.2.2.2.2.1 r.2.2.2.2.2.1 r.2.2.2.2.2.2
noncomputable def tV (x y o:Array Keyed)(i j mg:Nat):StateT SortSt Sem tT:=forIn [0:x.size+y.size] ((none,o,i,j,0,0):tT) λ_ r=>do
 let v <- elem' y r.2.2.2.1
 let u <- elem' x r.2.2.1
 match <- lt' v u with
 |some q=>
  if q=true then do
   let v <- elem' y r.2.2.2.1
   if (r.2.2.2.1+1==y.size)=true then pure (.done (some (r.2.1.push v++x.extract r.2.2.1 x.size++y.extract (r.2.2.2.1+1) y.size),r.2.1.push v,r.2.2.1,r.2.2.2.1+1,0,r.2.2.2.2.2+1))
   else if r.2.2.2.2.2+1 >= mg then pure (.done (none,r.2.1.push v,r.2.2.1,r.2.2.2.1+1,0,r.2.2.2.2.2+1)) else pure (.yield (none,r.2.1.push v,r.2.2.1,r.2.2.2.1+1,0,r.2.2.2.2.2+1))
  else do
   let u <- elem' x r.2.2.1
   if (r.2.2.1+1+1==x.size)=true then pure (.done (some (r.2.1.push u++y.extract r.2.2.2.1 y.size++x.extract (r.2.2.1+1) x.size),r.2.1.push u,r.2.2.1+1,r.2.2.2.1,r.2.2.2.2.1+1,0))
   else if r.2.2.2.2.1+1 >= mg then pure (.done (none,r.2.1.push u,r.2.2.1+1,r.2.2.2.1,r.2.2.2.2.1+1,0)) else pure (.yield (none,r.2.1.push u,r.2.2.1+1,r.2.2.2.1,r.2.2.2.2.1+1,0))
 |_=>pure (.done (some (r.2.1++x.extract r.2.2.1 x.size++y.extract r.2.2.2.1 y.size),r.2.1,r.2.2.1,r.2.2.2.1,r.2.2.2.2.1,r.2.2.2.2.2))
noncomputable def zV (x y o:Array Keyed)(i j mg:Nat):StateT SortSt Sem LO:=forIn [0:x.size+y.size] ((none,o,i,j,mg):LO) λ_ r=>do
 let u <- tV x y r.2.1 r.2.2.1 r.2.2.2.1 r.2.2.2.2
 match u.1 with
 |some z=>pure (.done (some z,u.2.1,u.2.2.1,u.2.2.2.1,r.2.2.2.2))
 |none=>do
  liftM (rule "list.sort.gallop")
  let v <- tU x y u.2.1 u.2.2.1 u.2.2.2.1 (r.2.2.2.2+1) u.2.2.2.2.1 u.2.2.2.2.2
  match v.1 with
  |some z=>pure (.done (some z,v.2.1,v.2.2.1,v.2.2.2.1,v.2.2.2.2.1))
  |none=>do
   kN (v.2.2.2.2.1+1)
   pure (.yield (none,v.2.1,v.2.2.1,v.2.2.2.1,v.2.2.2.2.1+1))
theorem ao8 (x y:Array Keyed):tS x y=(do
 liftM (rule "list.sort.merge-lo")
 let v <- elem' y 0
 if (1==y.size)=true then pure (#[v]++x.extract 0 x.size++y.extract 1 y.size)
 else if (0+1==x.size)=true then pure (#[v]++y.extract 1 y.size++x.extract 0 x.size)
 else do
  let z <- get
  let r <- zV x y #[v] 0 1 (gallopOf z)
  match r.1 with
  |some z=>pure z
  |none=>unsupported "internal:list.sort.merge-bound"):=by kernel_rfl
section
variable (rk:Keyed→Int)
noncomputable def Sd (l:List Keyed):Prop:=l.Pairwise λa b=>rk a<=rk b
structure MI (xs ys o:List Keyed)(i j:Nat):Prop where
 pm:o.Perm (xs.take i++ys.take j)
 sx:Sd rk (o++xs.drop i)
 sy:Sd rk (o++ys.drop j)
end
variable {rk:Keyed→Int}{xs ys o:List Keyed}{i j:Nat}
theorem Sd.ins {o a b d:List Keyed}(h1:Sd rk (o++a))(h2:Sd rk (o++(b++d)))(h:∀u∈b,∀t∈a,rk u<=rk t):Sd rk ((o++b)++a):=by
 unfold Sd at *
 rw[aN0]
 obtain⟨p1,p2,p3⟩:=aO5.mp h1
 obtain⟨q1,q2,q3⟩:=aO5.mp h2
 obtain⟨r1,r2,r3⟩:=aO5.mp q2
 refine aO5.mpr ⟨p1,aO5.mpr ⟨r1,p2,h⟩,λu hu t ht=>?_⟩
 rcases aS4.mp ht with z|z
 ·exact q3 u hu t (aW5 _ z)
 ·exact p3 u hu t z
theorem MI.ofy (m:MI rk xs ys o i j)(k:Nat)(h:∀u∈(ys.drop j).take k,∀t∈xs.drop i,rk u<=rk t):MI rk xs ys (o++(ys.drop j).take k) i (j+k):=by
 have e:(ys.drop j).take k++ys.drop (j+k)=ys.drop j:=by rw[<- List.drop_drop];exact aO3 k _
 refine⟨?_,Sd.ins m.sx (d:=ys.drop (j+k)) (by rw[e];exact m.sy) h,by rw[aN0,e];exact m.sy⟩
 rw[List.take_add,<- aN0]
 exact m.pm.append_right _
theorem MI.ofx (m:MI rk xs ys o i j)(k:Nat)(h:∀u∈(xs.drop i).take k,∀t∈ys.drop j,rk u<=rk t):MI rk xs ys (o++(xs.drop i).take k) (i+k) j:=by
 have e:(xs.drop i).take k++xs.drop (i+k)=xs.drop i:=by rw[<- List.drop_drop];exact aO3 k _
 refine⟨?_,by rw[aN0,e];exact m.sx,Sd.ins m.sy (d:=xs.drop (i+k)) (by rw[e];exact m.sx) h⟩
 rw[List.take_add]
 refine (m.pm.append_right _).trans ?_
 rw[aN0,aN0]
 exact (aW3).append_left _
theorem MI.fin (m:MI rk xs ys o i j)(h:xs.length<=i∨ys.length<=j):(o++xs.drop i++ys.drop j).Perm (xs++ys)/\Sd rk (o++xs.drop i++ys.drop j):=by
 refine⟨?_,?_⟩
 ·rw[aN0]
  refine (m.pm.append_right _).trans ?_
  have e1:xs=xs.take i++xs.drop i:=(aO3 i xs).symm
  have e2:ys=ys.take j++ys.drop j:=(aO3 j ys).symm
  conv=>rhs;rw[e1,e2]
  rw[aN0,aN0]
  refine List.Perm.append_left _ ?_
  rw[<- aN0,<- aN0]
  exact (aW3).append_right _
 ·rcases h with h|h
  ·rw[List.drop_eq_nil_of_le h,aO7];exact m.sy
  ·rw[List.drop_eq_nil_of_le h,aO7];exact m.sx
theorem MI.lst (m:MI rk xs ys o i j)(h:∀u∈ys,∀t∈xs.drop i,rk u<=rk t):(o++ys.drop j++xs.drop i).Perm (xs++ys)/\Sd rk (o++ys.drop j++xs.drop i):=by
 have m2:=m.ofy ys.length λu hu t ht=>h u (List.mem_of_mem_drop (List.mem_of_mem_take hu)) t ht
 have e:(ys.drop j).take ys.length=ys.drop j:=aQ3 (by simp)
 rw[e]at m2
 have f:=m2.fin (.inr (by omega))
 rw[List.drop_eq_nil_of_le (as:=ys) (i:=j+ys.length) (by omega),aO7]at f
 exact f
theorem zW {x:Array Keyed}{i k:Nat}{u:Keyed}(h:u∈(x.toList.drop i).take k):∃t,t<k/\i+t<x.size/\rk u=Kr rk x (i+t):=by
 obtain⟨t,ht,e⟩:=aR9 h
 have h1:t<k/\i+t<x.size:=by simp at ht;omega
 refine⟨t,h1.1,h1.2,?_⟩
 rw[bY h1.2,<- e]
 simp
theorem mB {x:Array Keyed}{i:Nat}{u:Keyed}(h:u∈x.toList.drop i):∃t,i+t<x.size/\rk u=Kr rk x (i+t):=by
 obtain⟨t,ht,e⟩:=aR9 h
 have h1:i+t<x.size:=by simp at ht;omega
 refine⟨t,h1,?_⟩
 rw[bY h1,<- e]
 simp
theorem Sd.up {x:Array Keyed}(h:Sd rk x.toList)(lo hi:Nat)(hh:hi<=x.size):Up rk x lo hi:=λi j _ hij hj=>by
 rw[bY (by omega:i<x.size),bY (by omega:j<x.size)]
 rcases aW0 hij with z|z
 ·subst z;exact aX0 _
 ·have:=aR8.mp h i j (by simp;omega) (by simp;omega) z
  simpa using this
theorem zX (x:Array Keyed)(i k:Nat):(x.extract i (i+k)).toList=(x.toList.drop i).take k:=by
 simp[List.extract]
theorem oV (x:Array Keyed)(i:Nat):(x.extract i x.size).toList=x.toList.drop i:=by
 simp[List.extract]
 exact aQ3 (by simp)
theorem jH {x:Array Keyed}{i:Nat}(h:i<x.size):[x[i]]=(x.toList.drop i).take 1:=by
 rw[List.drop_eq_getElem_cons (by simpa using h)];simp
structure Gq (st st':SortSt):Prop where
 kd:kindOf st'=kindOf st
 ar:arrOf st'=arrOf st
 pd:pendingOf st'=pendingOf st
 ok:failedOf st'=failedOf st
theorem Gq.refl (st:SortSt):Gq st st:=⟨rfl,rfl,rfl,rfl⟩
section
variable {κ:SortKind}{st:SortSt}{prog:Program}{w:World}{A:Around}{E:Value→Shared→Prop}{s:Shared}{Ok:Keyed→Prop}
theorem oW {st0:SortSt}{g:Nat}{Q:Unit->SortSt->Prop}(q:Gq st0 st)(h:∀st',Gq st0 st'->Q () st'):wpS (model prog w) A E s (kN g) Q st:=by
 rw[ao7];exact wpS_modify (h _ ⟨q.kd,q.ar,q.pd,q.ok⟩)
noncomputable def dC (rk:Keyed->Int)(x y r:Array Keyed):Prop:=r.toList.Perm (x.toList++y.toList)/\Sd rk r.toList
theorem MI.y1 {x y o:Array Keyed}(m:MI rk x.toList y.toList o.toList i j)(hj:j<y.size)(h:∀t,i+t<x.size->rk y[j]<=Kr rk x (i+t)):MI rk x.toList y.toList (o.push y[j]).toList i (j+1):=by
 have:=m.ofy 1 λu hu t ht=>?_
 ·rw[<- jH hj]at this;simpa using this
 ·rw[<- jH hj,aM5]at hu
  subst hu
  obtain⟨q,q1,q2⟩:=mB (rk:=rk) ht
  rw[q2];exact h q q1
theorem MI.x1 {x y o:Array Keyed}(m:MI rk x.toList y.toList o.toList i j)(hi:i<x.size)(h:∀t,j+t<y.size->rk x[i]<=Kr rk y (j+t)):MI rk x.toList y.toList (o.push x[i]).toList (i+1) j:=by
 have:=m.ofx 1 λu hu t ht=>?_
 ·rw[<- jH hi]at this;simpa using this
 ·rw[<- jH hi,aM5]at hu
  subst hu
  obtain⟨q,q1,q2⟩:=mB (rk:=rk) ht
  rw[q2];exact h q q1
theorem MI.yk {x y o:Array Keyed}(m:MI rk x.toList y.toList o.toList i j)(k:Nat)(h:∀p t,p<k->j+p<y.size->i+t<x.size->Kr rk y (j+p)<=Kr rk x (i+t)):MI rk x.toList y.toList (o++y.extract j (j+k)).toList i (j+k):=by
 have:=m.ofy k λu hu t ht=>?_
 ·rw[<- zX]at this;rw[aP5];exact this
 ·obtain⟨p,p1,p2,p3⟩:=zW (rk:=rk) hu
  obtain⟨q,q1,q2⟩:=mB (rk:=rk) ht
  rw[q2,p3];exact h p q p1 p2 q1
theorem MI.xk {x y o:Array Keyed}(m:MI rk x.toList y.toList o.toList i j)(k:Nat)(h:∀p t,p<k->i+p<x.size->j+t<y.size->Kr rk x (i+p)<=Kr rk y (j+t)):MI rk x.toList y.toList (o++x.extract i (i+k)).toList (i+k) j:=by
 have:=m.ofx k λu hu t ht=>?_
 ·rw[<- zX]at this;rw[aP5];exact this
 ·obtain⟨p,p1,p2,p3⟩:=zW (rk:=rk) hu
  obtain⟨q,q1,q2⟩:=mB (rk:=rk) ht
  rw[q2,p3];exact h p q p1 p2 q1
theorem kO {key:Keyed}{xs:Array Keyed}{bs i:Nat}:bT rk false key xs bs i=decide (Kr rk xs (bs+i)<=rk key):=rfl
theorem kQ {key:Keyed}{xs:Array Keyed}{bs i:Nat}:bT rk true key xs bs i=decide (Kr rk xs (bs+i)<rk key):=rfl
noncomputable def GI (rk:Keyed->Int)(x y:Array Keyed)(lb:Nat)(st:SortSt)(c:LS)(st':SortSt):Prop:=Gq st st'/\∃o i j mg p q,c=(none,o,i,j,mg,p,q)/\MI rk x.toList y.toList o.toList i j/\i+1<x.size/\j<y.size/\lb<=i+j
noncomputable def GQ (rk:Keyed->Int)(x y:Array Keyed)(lb:Nat)(st:SortSt)(c:LS)(st':SortSt):Prop:=Gq st st'/\((∃r o i j mg p q,c=(some r,o,i,j,mg,p,q)/\dC rk x y r)∨∃o i j mg p q,c=(none,o,i,j,mg,p,q)/\MI rk x.toList y.toList o.toList i j/\i+1<x.size/\j<y.size/\lb<=i+j)
noncomputable def GR (rk:Keyed->Int)(x y:Array Keyed)(lb:Nat)(st:SortSt)(r:ForInStep LS)(st':SortSt):Prop:=match r with|.done c=>GQ rk x y lb st c st'|.yield c=>GI rk x y lb st c st'
theorem MI.done {x y o:Array Keyed}(m:MI rk x.toList y.toList o.toList i j)(hh:x.size<=i∨y.size<=j):dC rk x y (o++x.extract i x.size++y.extract j y.size):=by
 unfold dC
 rw[aP5,aP5,oV,oV]
 exact m.fin (by simpa using hh)
theorem MI.last {x y o:Array Keyed}(m:MI rk x.toList y.toList o.toList i j)(x0:0<x.size)(hl:∀u∈y.toList,rk u<=rk x[x.size-1])(hh:i+1=x.size):dC rk x y (o++y.extract j y.size++x.extract i x.size):=by
 unfold dC
 rw[aP5,aP5,oV,oV]
 refine m.lst λu hu t ht=>?_
 obtain⟨q,q1,q2⟩:=mB (rk:=rk) ht
 have e:i+q=x.size-1:=by omega
 rw[q2,e,bY (by omega)]
 exact hl u hu
theorem zY {st0:SortSt}{x y o:Array Keyed}{mg p q lb:Nat}(x0:0<x.size)(hl:∀u∈y.toList,rk u<=rk x[x.size-1])(g:Gq st0 st)(m:MI rk x.toList y.toList o.toList i j)(hi:i+1<x.size)(hj:j<y.size)(hb:lb<=i+j)(hm:∀t,j+t<y.size->rk x[i]<=Kr rk y (j+t)):wpS (model prog w) A E s (oS x y o i j mg p q) (GR rk x y lb st0) st:=by
 unfold oS
 have hi':i<x.size:=by omega
 have m':=m.x1 hi' hm
 refine aK6 (cM hi' ?_)
 by_cases he:(i+1+1==x.size)=true
 ·rw[if_pos he]
  have he:i+1+1=x.size:=by simpa using he
  exact aL3 ⟨g,.inl ⟨_,_,_,_,_,_,_,rfl,m'.last x0 hl he⟩⟩
 ·rw[if_neg he]
  have he:i+1+1≠x.size:=by simpa using he
  split
  ·exact aL3 ⟨g,.inr ⟨_,_,_,_,_,_,rfl,m',by omega,hj,by omega⟩⟩
  ·exact aL3 ⟨g,_,_,_,_,_,_,rfl,m',by omega,hj,by omega⟩
theorem zZ (c:cF prog w A E s κ Ok rk){st0:SortSt}(hk:kindOf st0=κ){x y o:Array Keyed}{mg p q lb:Nat}(ox:bG Ok x)(oy:bG Ok y)(sx:Sd rk x.toList)(sy:Sd rk y.toList)(x0:0<x.size)(hl:∀u∈y.toList,rk u<=rk x[x.size-1])(g:Gq st0 st)(m:MI rk x.toList y.toList o.toList i j)(hi:i+1<x.size)(hj:j<y.size)(hb:lb<=i+j)(hm:∀t,i+t<x.size->rk y[j]<=Kr rk x (i+t)):wpS (model prog w) A E s (oT x y o i j mg p q) (GR rk x y lb st0) st:=by
 unfold oT
 have hi':i<x.size:=by omega
 have m':=m.y1 hj hm
 refine aK6 (cM hj ?_)
 by_cases he:(j+1==y.size)=true
 ·rw[if_pos he]
  have he:j+1=y.size:=by simpa using he
  exact aL3 ⟨g,.inl ⟨_,_,_,_,_,_,_,rfl,m'.done (.inr (by omega))⟩⟩
 ·rw[if_neg he]
  have he:j+1≠y.size:=by simpa using he
  refine aK6 (cM hi' (aK6 (kM c (g.kd.trans hk) (ox _ (aN9 hi')) oy (by omega) (by omega) (sy.up _ _ (by omega)) λk k1 k2 k3=>?_)))
  dsimp only
  have ux:=sx.up 0 _ (aK8 x.size)
  have mk:=m'.yk k λp t hp _ ht=>by
   have a1:=k2 p hp
   rw[kQ,aL5]at a1
   have a2:=ux i (i+t) (by omega) (by omega) ht
   rw[bY hi']at a2
   omega
  have km:∀t,j+1+k+t<y.size->rk x[i]<=Kr rk y (j+1+k+t):=λt ht=>by
   have a1:=k3 (k+t) (by omega) (by omega)
   rw[kQ,aQ8,<- Nat.add_assoc]at a1
   omega
  by_cases hk0:k>0
  ·rw[if_pos hk0]
   by_cases hf:(j+1+k==y.size)=true
   ·rw[if_pos hf]
    have hf:j+1+k=y.size:=by simpa using hf
    exact aL3 ⟨g,.inl ⟨_,_,_,_,_,_,_,rfl,mk.done (.inr (by omega))⟩⟩
   ·rw[if_neg hf]
    have hf:j+1+k≠y.size:=by simpa using hf
    exact zY x0 hl g mk hi (by omega) (by omega) km
  ·rw[if_neg hk0]
   have e0:k=0:=by omega
   subst e0
   exact zY x0 hl g m' hi (by omega) (by omega) km
theorem A0 (c:cF prog w A E s κ Ok rk){st0:SortSt}(hk:kindOf st0=κ){x y o:Array Keyed}{mg p q lb:Nat}(ox:bG Ok x)(oy:bG Ok y)(sx:Sd rk x.toList)(sy:Sd rk y.toList)(x0:0<x.size)(hl:∀u∈y.toList,rk u<=rk x[x.size-1])(g:Gq st0 st)(m:MI rk x.toList y.toList o.toList i j)(hi:i+1<x.size)(hj:j<y.size)(hb:lb<=i+j) :
  wpS (model prog w) A E s (oU x y o i j mg p q) (GR rk x y lb st0) st:=by
 unfold oU
 refine aK6 (oW g λst4 q4=>aK6 (cM hj (aK6 (kM c (q4.kd.trans hk) (oy _ (aN9 hj)) ox (by omega) (by omega) (sx.up _ _ (by omega)) λk k1 k2 k3=>?_))))
 dsimp only
 have uy:=sy.up 0 _ (aK8 y.size)
 have mk:=m.xk k λp t hp _ ht=>by
  have a1:=k2 p hp
  rw[kO,aL5]at a1
  have a2:=uy j (j+t) (by omega) (by omega) ht
  rw[bY hj]at a2
  omega
 have km:∀t,i+k+t<x.size->rk y[j]<=Kr rk x (i+k+t):=λt ht=>by
  have a1:=k3 (k+t) (by omega) (by omega)
  rw[kO,aQ8,<- Nat.add_assoc]at a1
  omega
 by_cases hk0:k>0
 ·rw[if_pos hk0]
  by_cases he:(i+k+1==x.size)=true
  ·rw[if_pos he]
   exact aL3 ⟨q4,.inl ⟨_,_,_,_,_,_,_,rfl,mk.last x0 hl (by simpa using he)⟩⟩
  ·rw[if_neg he]
   have he:i+k+1≠x.size:=by simpa using he
   by_cases hf:(i+k==x.size)=true
   ·rw[if_pos hf]
    have hf:i+k=x.size:=by simpa using hf
    exact aL3 ⟨q4,.inl ⟨_,_,_,_,_,_,_,rfl,mk.done (.inl (by omega))⟩⟩
   ·rw[if_neg hf]
    have hf:i+k≠x.size:=by simpa using hf
    exact zZ c hk ox oy sx sy x0 hl q4 mk (by omega) hj (by omega) km
 ·rw[if_neg hk0]
  have e0:k=0:=by omega
  subst e0
  exact zZ c hk ox oy sx sy x0 hl q4 m hi hj hb km
theorem ao9 (c:cF prog w A E s κ Ok rk){st0:SortSt}(hk:kindOf st0=κ){x y o:Array Keyed}{mg p q lb:Nat}(ox:bG Ok x)(oy:bG Ok y)(sx:Sd rk x.toList)(sy:Sd rk y.toList)(x0:0<x.size)(hl:∀u∈y.toList,rk u<=rk x[x.size-1])(g:Gq st0 st)(m:MI rk x.toList y.toList o.toList i j)(hi:i+1<x.size)(hj:j<y.size)(hb:lb<=i+j) :
  wpS (model prog w) A E s (tU x y o i j mg p q) (GQ rk x y lb st0) st:=by
 unfold tU
 refine aQ2 (I:=λ_=>GI rk x y lb st0) ?_ ?_ ⟨g,o,i,j,_,p,q,rfl,m,hi,hj,hb⟩
 ·rintro t c3 st3 _ _ ⟨q3,o,i,j,mg,p,q,rfl,m,hi,hj,pr3⟩
  dsimp only
  split
  ·exact aX1 (A0 c hk ox oy sx sy x0 hl q3 m hi hj pr3) λr _ hr=>by cases r<;>exact hr
  ·exact aX1 (A0 c hk ox oy sx sy x0 hl q3 m hi hj pr3) λr _ hr=>by cases r<;>exact hr
 ·rintro c3 st3 ⟨q3,o,i,j,mg,p,q,rfl,m,hi,hj,pr3⟩
  exact⟨q3,.inr ⟨_,_,_,_,_,_,rfl,m,hi,hj,pr3⟩⟩
theorem ap0 (c:cF prog w A E s κ Ok rk){st0:SortSt}(hk:kindOf st0=κ){x y o:Array Keyed}{mg:Nat}{Q:tT->SortSt->Prop}(ox:bG Ok x)(oy:bG Ok y)(sx:Sd rk x.toList)(sy:Sd rk y.toList)(x0:0<x.size)(hl:∀u∈y.toList,rk u<=rk x[x.size-1])(g:Gq st0 st)(m:MI rk x.toList y.toList o.toList i j)(hi:i+1<x.size)(hj:j<y.size)(h1:∀r o' i' j' p q st',Gq st0 st'->dC rk x y r->Q (some r,o',i',j',p,q) st')(h2:∀o' i' j' p q st',Gq st0 st'->MI rk x.toList y.toList o'.toList i' j'->i'+1<x.size->j'<y.size->i+j+1<=i'+j'->Q (none,o',i',j',p,q) st') :
  wpS (model prog w) A E s (tV x y o i j mg) Q st:=by
 have ux:Up rk x 0 x.size:=sx.up 0 _ (aK8 _)
 have uy:Up rk y 0 y.size:=sy.up 0 _ (aK8 _)
 unfold tV
 refine aQ2 (I:=λt c st'=>Gq st0 st'/\∃o i' j' p q,c=(none,o,i',j',p,q)/\MI rk x.toList y.toList o.toList i' j'/\i'+1<x.size/\j'<y.size/\i+j+t<=i'+j') ?_ ?_ ⟨g,o,i,j,0,0,rfl,m,hi,hj,by omega⟩
 ·rintro t c2 st2 _ ht ⟨q2,o,i',j',p,q,rfl,m,hi,hj,pr2⟩
  dsimp only
  have hi':i'<x.size:=by omega
  refine aK6 (cM hj (aK6 (cM hi' (aK6 (c _ _ (oy _ (aN9 hj)) (ox _ (aN9 hi')) st2 _ (q2.kd.trans hk) ?_)))))
  by_cases hc:rk y[j']<rk x[i']
  ·rw[aL1 hc]
   dsimp only
   rw[if_pos rfl]
   have m':=m.y1 hj λt ht=>by
    have:=ux i' (i'+t) (by omega) (by omega) ht
    rw[bY hi']at this
    omega
   refine aK6 (cM hj ?_)
   by_cases he:(j'+1==y.size)=true
   ·rw[if_pos he]
    have he:j'+1=y.size:=by simpa using he
    exact aL3 (h1 _ _ _ _ _ _ _ q2 (m'.done (.inr (by omega))))
   ·rw[if_neg he]
    have he:j'+1≠y.size:=by simpa using he
    split
    ·exact aL3 (h2 _ _ _ _ _ _ q2 m' hi (by omega) (by omega))
    ·exact aL3 ⟨q2,_,_,_,_,_,rfl,m',hi,by omega,by omega⟩
  ·rw[aK9 hc]
   dsimp only
   rw[if_neg aL6]
   have m':=m.x1 hi' λt ht=>by
    have:=uy j' (j'+t) (by omega) (by omega) ht
    rw[bY hj]at this
    omega
   refine aK6 (cM hi' ?_)
   by_cases he:(i'+1+1==x.size)=true
   ·rw[if_pos he]
    exact aL3 (h1 _ _ _ _ _ _ _ q2 (m'.last x0 hl (by simpa using he)))
   ·rw[if_neg he]
    have he:i'+1+1≠x.size:=by simpa using he
    split
    ·exact aL3 (h2 _ _ _ _ _ _ q2 m' (by omega) hj (by omega))
    ·exact aL3 ⟨q2,_,_,_,_,_,rfl,m',by omega,hj,by omega⟩
 ·rintro c2 st2 ⟨q2,o,i',j',p,q,rfl,m,hi,hj,pr2⟩
  exact h2 _ _ _ _ _ _ q2 m hi hj (by omega)
theorem ap1 (c:cF prog w A E s κ Ok rk)(hk:kindOf st=κ){x y:Array Keyed}{Q:Array Keyed->SortSt->Prop}(ox:bG Ok x)(oy:bG Ok y)(sx:Sd rk x.toList)(sy:Sd rk y.toList)(x0:0<x.size)(y0:0<y.size)(hf:∀t∈x.toList,rk y[0]<=rk t)(hl:∀u∈y.toList,rk u<=rk x[x.size-1])(h:∀r st',Gq st st'->dC rk x y r->Q r st'):wpS (model prog w) A E s (tS x y) Q st:=by
 rw[ao8]
 refine aK6 (wpS_lift (aV8 ⟨rfl,aK6 (cM y0 ?_)⟩))
 have m0:MI rk x.toList y.toList (#[y[0]]:Array Keyed).toList 0 1:=by
  have mm:MI rk x.toList y.toList [] 0 0:=⟨by simp,sx,sy⟩
  have:=mm.ofy 1 λu hu t ht=>?_
  ·rw[<- jH y0]at this;exact this
  ·rw[<- jH y0,aM5]at hu
   subst hu
   exact hf t ht
 by_cases e1:(1==y.size)=true
 ·rw[if_pos e1]
  have e1:1=y.size:=by simpa using e1
  exact aL3 (h _ st (Gq.refl st) (m0.done (.inr (by omega))))
 ·rw[if_neg e1]
  have e1:1≠y.size:=by simpa using e1
  by_cases e2:(0+1==x.size)=true
  ·rw[if_pos e2]
   exact aL3 (h _ st (Gq.refl st) (m0.last x0 hl (by simpa using e2)))
  ·rw[if_neg e2]
   have e2:0+1≠x.size:=by simpa using e2
   refine aK6 (wpS_get ?_)
   unfold zV
   refine aK6 (aX1 (aQ2
    (I:=λn c st'=>Gq st st'/\∃o i j mg,c=(none,o,i,j,mg)/\MI rk x.toList y.toList o.toList i j/\i+1<x.size/\j<y.size/\n+1<=i+j)
    (Q:=λc st'=>Gq st st'/\∃r o i j mg,c=(some r,o,i,j,mg)/\dC rk x y r) ?_ ?_ ⟨Gq.refl st,_,0,1,_,rfl,m0,by omega,by omega,by omega⟩) ?_)
   ·rintro n c1 st1 _ hn ⟨q1,o,i,j,mg,rfl,m,hi,hj,pr⟩
    dsimp only
    refine aK6 (ap0 c hk ox oy sx sy x0 hl q1 m hi hj (λr o' i' j' p q st' g md=>aL3 ⟨g,r,_,_,_,_,rfl,md⟩) λo' i' j' p q st' g m' hi' hj' pr'=>?_)
    refine aK6 (wpS_lift (aV8 ⟨rfl,?_⟩))
    refine aK6 (aX1 (ao9 c hk ox oy sx sy x0 hl g m' hi' hj' pr') ?_)
    rintro c3 st3 ⟨q3,⟨r,o,i3,j3,mg,p,q,rfl,md⟩|⟨o,i3,j3,mg,p,q,rfl,m,hi,hj,pr3⟩⟩
    ·exact aL3 ⟨q3,r,_,_,_,_,rfl,md⟩
    ·exact aK6 (oW q3 λst4 q4=>aL3 ⟨q4,o,i3,j3,_,rfl,m,hi,hj,by omega⟩)
   ·rintro c1 st1 ⟨q1,o,i,j,mg,rfl,m,hi,hj,pr⟩
    exact absurd pr (by omega)
   ·rintro c1 st1 ⟨q1,r,o,i,j,mg,rfl,md⟩
    exact aL3 (h r _ q1 md)
end
noncomputable def tW:Array Keyed->Array Keyed->StateT SortSt Sem (Array Keyed):=sortPriv% PySem.Builtin.mergeHi
noncomputable abbrev LH:=Option (Array Keyed)×Nat×Nat×Array Keyed×Nat×Nat×Nat
noncomputable abbrev tX:=Option (Array Keyed)×Nat×Nat×Array Keyed×Nat×Nat
noncomputable abbrev LP:=Option (Array Keyed)×Nat×Nat×Array Keyed×Nat
noncomputable def oX (x y o:Array Keyed)(i j mg p q:Nat):StateT SortSt Sem (ForInStep LH):=do
 let v <- elem' x (i-1)
 if (i-1==0)=true then pure (.done (some (x.extract 0 (i-1)++y.extract 0 j++(o.push v).reverse),i-1,j,o.push v,mg,p,q))
 else if (decide (p<7)&&decide (q<7))=true then pure (.done (none,i-1,j,o.push v,mg,p,q)) else pure (.yield (none,i-1,j,o.push v,mg,p,q))
noncomputable def oY (x y o:Array Keyed)(i j mg p q:Nat):StateT SortSt Sem (ForInStep LH):=do
 let v <- elem' y (j-1)
 if (j-1==1)=true then pure (.done (some (y.extract 0 (j-1)++x.extract 0 i++(o.push v).reverse),i,j-1,o.push v,mg,p,q)) else do
  let u <- elem' x (i-1)
  match <- iS true u y 0 (j-1) (j-1-1) with
  |some z=>
   if j-1-z>0 then
    if (z==1)=true then pure (.done (some (y.extract 0 z++x.extract 0 i++(o.push v++(y.extract z (j-1)).reverse).reverse),i,z,o.push v++(y.extract z (j-1)).reverse,mg,p,j-1-z))
    else if (z==0)=true then pure (.done (some (x.extract 0 i++y.extract 0 z++(o.push v++(y.extract z (j-1)).reverse).reverse),i,z,o.push v++(y.extract z (j-1)).reverse,mg,p,j-1-z))
    else oX x y (o.push v++(y.extract z (j-1)).reverse) i z mg p (j-1-z)
   else oX x y (o.push v) i (j-1) mg p (j-1-z)
  |_=>pure (.done (some (x.extract 0 i++y.extract 0 (j-1)++(o.push v).reverse),i,j-1,o.push v,mg,p,q))
noncomputable def oZ (x y o:Array Keyed)(i j mg p q:Nat):StateT SortSt Sem (ForInStep LH):=do
 kN mg
 let v <- elem' y (j-1)
 match <- iS false v x 0 i (i-1) with
 |some z=>
  if i-z>0 then
   if (z==0)=true then pure (.done (some (x.extract 0 z++y.extract 0 j++(o++(x.extract z i).reverse).reverse),z,j,o++(x.extract z i).reverse,mg,i-z,q))
   else oY x y (o++(x.extract z i).reverse) z j mg (i-z) q
  else oY x y o i j mg (i-z) q
 |_=>pure (.done (some (x.extract 0 i++y.extract 0 j++o.reverse),i,j,o,mg,p,q))
noncomputable def tY (x y o:Array Keyed)(i j mg p q:Nat):StateT SortSt Sem LH:=forIn [0:x.size+y.size] ((none,i,j,o,mg,p,q):LH) λ_ r=>
 if r.2.2.2.2.1>1 then oZ x y r.2.2.2.1 r.2.1 r.2.2.1 (r.2.2.2.2.1-1) r.2.2.2.2.2.1 r.2.2.2.2.2.2 else oZ x y r.2.2.2.1 r.2.1 r.2.2.1 r.2.2.2.2.1 r.2.2.2.2.2.1 r.2.2.2.2.2.2
noncomputable def tZ (x y o:Array Keyed)(i j mg:Nat):StateT SortSt Sem tX:=forIn [0:x.size+y.size] ((none,i,j,o,0,0):tX) λ_ r=>do
 let v <- elem' y (r.2.2.1-1)
 let u <- elem' x (r.2.1-1)
 match <- lt' v u with
 |some q=>
  if q=true then do
   let u <- elem' x (r.2.1-1)
   if (r.2.1-1==0)=true then pure (.done (some (x.extract 0 (r.2.1-1)++y.extract 0 r.2.2.1++(r.2.2.2.1.push u).reverse),r.2.1-1,r.2.2.1,r.2.2.2.1.push u,r.2.2.2.2.1+1,0))
   else if r.2.2.2.2.1+1 >= mg then pure (.done (none,r.2.1-1,r.2.2.1,r.2.2.2.1.push u,r.2.2.2.2.1+1,0)) else pure (.yield (none,r.2.1-1,r.2.2.1,r.2.2.2.1.push u,r.2.2.2.2.1+1,0))
  else do
   let v <- elem' y (r.2.2.1-1)
   if (r.2.2.1-1==1)=true then pure (.done (some (y.extract 0 (r.2.2.1-1)++x.extract 0 r.2.1++(r.2.2.2.1.push v).reverse),r.2.1,r.2.2.1-1,r.2.2.2.1.push v,0,r.2.2.2.2.2+1))
   else if r.2.2.2.2.2+1 >= mg then pure (.done (none,r.2.1,r.2.2.1-1,r.2.2.2.1.push v,0,r.2.2.2.2.2+1)) else pure (.yield (none,r.2.1,r.2.2.1-1,r.2.2.2.1.push v,0,r.2.2.2.2.2+1))
 |_=>pure (.done (some (x.extract 0 r.2.1++y.extract 0 r.2.2.1++r.2.2.2.1.reverse),r.2.1,r.2.2.1,r.2.2.2.1,r.2.2.2.2.1,r.2.2.2.2.2))
noncomputable def A1 (x y o:Array Keyed)(i j mg:Nat):StateT SortSt Sem LP:=forIn [0:x.size+y.size] ((none,i,j,o,mg):LP) λ_ r=>do
 let u <- tZ x y r.2.2.2.1 r.2.1 r.2.2.1 r.2.2.2.2
 match u.1 with
 |some z=>pure (.done (some z,u.2.1,u.2.2.1,u.2.2.2.1,r.2.2.2.2))
 |none=>do
  liftM (rule "list.sort.gallop")
  let v <- tY x y u.2.2.2.1 u.2.1 u.2.2.1 (r.2.2.2.2+1) u.2.2.2.2.1 u.2.2.2.2.2
  match v.1 with
  |some z=>pure (.done (some z,v.2.1,v.2.2.1,v.2.2.2.1,v.2.2.2.2.1))
  |none=>do
   kN (v.2.2.2.2.1+1)
   pure (.yield (none,v.2.1,v.2.2.1,v.2.2.2.1,v.2.2.2.2.1+1))
theorem ap2 (x y:Array Keyed):tW x y=(do
 liftM (rule "list.sort.merge-hi")
 let v <- elem' x (x.size-1)
 if (x.size-1==0)=true then pure (x.extract 0 (x.size-1)++y.extract 0 y.size++(#[v]:Array Keyed).reverse)
 else if (y.size==1)=true then pure (y.extract 0 y.size++x.extract 0 (x.size-1)++(#[v]:Array Keyed).reverse)
 else do
  let z <- get
  let r <- A1 x y #[v] (x.size-1) y.size (gallopOf z)
  match r.1 with
  |some z=>pure z
  |none=>unsupported "internal:list.sort.merge-bound"):=by kernel_rfl
structure MH (rk:Keyed->Int)(xs ys o:List Keyed)(i j:Nat):Prop where
 pm:o.Perm (xs.drop i++ys.drop j)
 sx:Sd rk (xs.take i++o)
 sy:Sd rk (ys.take j++o)
variable {rk:Keyed→Int}{xs ys o:List Keyed}{i j:Nat}
theorem Sd.insR {o a b d:List Keyed}(h1:Sd rk (a++o))(h2:Sd rk ((d++b)++o))(h:∀t∈a,∀u∈b,rk t<=rk u):Sd rk (a++(b++o)):=by
 unfold Sd at *
 obtain⟨p1,p2,p3⟩:=aO5.mp h1
 obtain⟨q1,q2,q3⟩:=aO5.mp h2
 obtain⟨r1,r2,r3⟩:=aO5.mp q1
 refine aO5.mpr ⟨p1,aO5.mpr ⟨r2,p2,λu hu t ht=>q3 u (aN1 _ hu) t ht⟩,λu hu t ht=>?_⟩
 rcases aS4.mp ht with z|z
 ·exact h u hu t z
 ·exact p3 u hu t z
theorem p5 (l:List Keyed){z j:Nat}(h:z<=j):l.take z++(l.take j).drop z=l.take j:=by
 have e:l.take z=(l.take j).take z:=by rw[List.take_take,Nat.min_eq_left h]
 rw[e];exact aO3 z _
theorem u5 (l:List Keyed){z j:Nat}(h:z<=j):(l.take j).drop z++l.drop j=l.drop z:=by
 rw[aX8,show l.drop j=(l.drop z).drop (j-z) by rw[List.drop_drop,Nat.add_sub_cancel' h]]
 exact aO3 _ _
theorem MH.ofy (m:MH rk xs ys o i j){z:Nat}(hz:z<=j)(h:∀t∈xs.take i,∀u∈(ys.take j).drop z,rk t<=rk u):MH rk xs ys ((ys.take j).drop z++o) i z:=by
 refine⟨?_,Sd.insR m.sx (d:=ys.take z) (by rw[p5 _ hz];exact m.sy) h,by rw[<- aN0,p5 _ hz];exact m.sy⟩
 rw[<- u5 ys hz]
 refine (m.pm.append_left _).trans ?_
 rw[<- aN0,<- aN0]
 exact (aW3).append_right _
theorem MH.ofx (m:MH rk xs ys o i j){z:Nat}(hz:z<=i)(h:∀t∈ys.take j,∀u∈(xs.take i).drop z,rk t<=rk u):MH rk xs ys ((xs.take i).drop z++o) z j:=by
 refine⟨?_,by rw[<- aN0,p5 _ hz];exact m.sx,Sd.insR m.sy (d:=xs.take z) (by rw[p5 _ hz];exact m.sx) h⟩
 rw[<- u5 xs hz,aN0]
 exact m.pm.append_left _
theorem MH.fin (m:MH rk xs ys o i j)(h:i=0∨j=0):(xs.take i++ys.take j++o).Perm (xs++ys)/\Sd rk (xs.take i++ys.take j++o):=by
 refine⟨?_,?_⟩
 ·have e1:xs=xs.take i++xs.drop i:=(aO3 i xs).symm
  have e2:ys=ys.take j++ys.drop j:=(aO3 j ys).symm
  conv=>rhs;rw[e1,e2]
  rw[aN0,aN0]
  refine List.Perm.append_left _ ((m.pm.append_left _).trans ?_)
  rw[<- aN0,<- aN0]
  exact (aW3).append_right _
 ·rcases h with h|h
  ·subst h;simpa using m.sy
  ·subst h;simpa using m.sx
theorem MH.fst (m:MH rk xs ys o i j)(h:∀t∈ys.take j,∀u∈xs,rk t<=rk u):(ys.take j++xs.take i++o).Perm (xs++ys)/\Sd rk (ys.take j++xs.take i++o):=by
 have m2:=m.ofx (aP3 i) λt ht u hu=>h t ht u (List.mem_of_mem_take (List.mem_of_mem_drop hu))
 have f:=m2.fin (.inl rfl)
 simpa using f
theorem mC {x:Array Keyed}{i:Nat}{u:Keyed}(h:u∈x.toList.take i):∃t,t<i/\t<x.size/\rk u=Kr rk x t:=by
 obtain⟨t,ht,e⟩:=aR9 h
 have h1:t<i/\t<x.size:=by simp at ht;omega
 refine⟨t,h1.1,h1.2,?_⟩
 rw[bY h1.2,<- e]
 simp
theorem mD {x:Array Keyed}{z i:Nat}{u:Keyed}(h:u∈(x.toList.take i).drop z):∃t,z<=t/\t<i/\t<x.size/\rk u=Kr rk x t:=by
 obtain⟨t,ht,e⟩:=aR9 h
 have h1:z+t<i/\z+t<x.size:=by simp at ht;omega
 refine⟨z+t,by omega,h1.1,h1.2,?_⟩
 rw[bY h1.2,<- e]
 simp
theorem jI (x:Array Keyed)(z i:Nat):(x.extract z i).toList=(x.toList.take i).drop z:=by
 rw[aX8];simp[List.extract]
theorem p6 (x:Array Keyed)(i:Nat):(x.extract 0 i).toList=x.toList.take i:=by
 simp[List.extract]
theorem mE {x:Array Keyed}{i:Nat}(h:i<x.size):[x[i]]=(x.toList.take (i+1)).drop i:=by
 rw[aX8,jH h,show i+1-i=1 by omega]
section
variable {κ:SortKind}{st:SortSt}{prog:Program}{w:World}{A:Around}{E:Value→Shared→Prop}{s:Shared}{Ok:Keyed→Prop}
theorem MH.y1 {x y o:Array Keyed}(m:MH rk x.toList y.toList o.toList.reverse i (j+1))(hj:j<y.size)(h:∀t,t<i->t<x.size->Kr rk x t<=rk y[j]):MH rk x.toList y.toList (o.push y[j]).toList.reverse i j:=by
 have:=m.ofy (aY0 j) λt ht u hu=>?_
 ·rw[<- mE hj]at this;simpa using this
 ·rw[<- mE hj,aM5]at hu
  subst hu
  obtain⟨q,q1,q2,q3⟩:=mC (rk:=rk) ht
  rw[q3];exact h q q1 q2
theorem MH.x1 {x y o:Array Keyed}(m:MH rk x.toList y.toList o.toList.reverse (i+1) j)(hi:i<x.size)(h:∀t,t<j->t<y.size->Kr rk y t<=rk x[i]):MH rk x.toList y.toList (o.push x[i]).toList.reverse i j:=by
 have:=m.ofx (aY0 i) λt ht u hu=>?_
 ·rw[<- mE hi]at this;simpa using this
 ·rw[<- mE hi,aM5]at hu
  subst hu
  obtain⟨q,q1,q2,q3⟩:=mC (rk:=rk) ht
  rw[q3];exact h q q1 q2
theorem MH.yk {x y o:Array Keyed}(m:MH rk x.toList y.toList o.toList.reverse i j){z:Nat}(hz:z<=j)(h:∀t p,t<i->t<x.size->z<=p->p<j->p<y.size->Kr rk x t<=Kr rk y p):MH rk x.toList y.toList (o++(y.extract z j).reverse).toList.reverse i z:=by
 have:=m.ofy hz λt ht u hu=>?_
 ·rw[<- jI]at this;simpa using this
 ·obtain⟨q,q1,q2,q3⟩:=mC (rk:=rk) ht
  obtain⟨p,p1,p2,p3,p4⟩:=mD (rk:=rk) hu
  rw[q3,p4];exact h q p q1 q2 p1 p2 p3
theorem MH.xk {x y o:Array Keyed}(m:MH rk x.toList y.toList o.toList.reverse i j){z:Nat}(hz:z<=i)(h:∀t p,t<j->t<y.size->z<=p->p<i->p<x.size->Kr rk y t<=Kr rk x p):MH rk x.toList y.toList (o++(x.extract z i).reverse).toList.reverse z j:=by
 have:=m.ofx hz λt ht u hu=>?_
 ·rw[<- jI]at this;simpa using this
 ·obtain⟨q,q1,q2,q3⟩:=mC (rk:=rk) ht
  obtain⟨p,p1,p2,p3,p4⟩:=mD (rk:=rk) hu
  rw[q3,p4];exact h q p q1 q2 p1 p2 p3
theorem MH.done {x y o:Array Keyed}(m:MH rk x.toList y.toList o.toList.reverse i j)(hh:i=0∨j=0):dC rk x y (x.extract 0 i++y.extract 0 j++o.reverse):=by
 unfold dC
 rw[aP5,aP5,p6,p6,Array.toList_reverse]
 exact m.fin hh
theorem MH.frst {x y o:Array Keyed}(m:MH rk x.toList y.toList o.toList.reverse i j)(y0:0<y.size)(hf:∀t∈x.toList,rk y[0]<=rk t)(hh:j=1):dC rk x y (y.extract 0 j++x.extract 0 i++o.reverse):=by
 unfold dC
 rw[aP5,aP5,p6,p6,Array.toList_reverse]
 refine m.fst λt ht u hu=>?_
 subst hh
 obtain⟨q,q1,q2,q3⟩:=mC (rk:=rk) ht
 have e:q=0:=by omega
 subst e
 rw[q3,bY y0]
 exact hf u hu
structure HB (rk:Keyed->Int)(x y:Array Keyed)(lb i j:Nat)(o:Array Keyed):Prop where
 m:MH rk x.toList y.toList o.toList.reverse i j
 i0:0<i
 i1:i<x.size
 j0:1<j
 j1:j<=y.size
 pr:i+j+lb<=x.size+y.size
noncomputable def HI (rk:Keyed->Int)(x y:Array Keyed)(lb:Nat)(st:SortSt)(c:LH)(st':SortSt):Prop:=Gq st st'/\∃i j o mg p q,c=(none,i,j,o,mg,p,q)/\HB rk x y lb i j o
noncomputable def HQ (rk:Keyed->Int)(x y:Array Keyed)(lb:Nat)(st:SortSt)(c:LH)(st':SortSt):Prop:=Gq st st'/\((∃r i j o mg p q,c=(some r,i,j,o,mg,p,q)/\dC rk x y r)∨∃i j o mg p q,c=(none,i,j,o,mg,p,q)/\HB rk x y lb i j o)
noncomputable def HR (rk:Keyed->Int)(x y:Array Keyed)(lb:Nat)(st:SortSt)(r:ForInStep LH)(st':SortSt):Prop:=match r with|.done c=>HQ rk x y lb st c st'|.yield c=>HI rk x y lb st c st'
theorem A2 {st0:SortSt}{x y o:Array Keyed}{i j mg p q lb:Nat}(g:Gq st0 st)(b:HB rk x y lb (i+1) j o)(hm:∀(hi:i<x.size) t,t<j->t<y.size->Kr rk y t<=rk x[i]):wpS (model prog w) A E s (oX x y o (i+1) j mg p q) (HR rk x y lb st0) st:=by
 unfold oX
 obtain⟨m,i0,i1,j0,j1,pr⟩:=b
 have hi':i<x.size:=by omega
 have m':=m.x1 hi' (hm hi')
 simp only[Nat.add_sub_cancel]
 refine aK6 (cM hi' ?_)
 by_cases he:(i==0)=true
 ·rw[if_pos he]
  have he:i=0:=by simpa using he
  exact aL3 ⟨g,.inl ⟨_,_,_,_,_,_,_,rfl,m'.done (.inl he)⟩⟩
 ·rw[if_neg he]
  have he:i≠0:=by simpa using he
  split
  ·exact aL3 ⟨g,.inr ⟨_,_,_,_,_,_,rfl,m',by omega,by omega,j0,j1,by omega⟩⟩
  ·exact aL3 ⟨g,_,_,_,_,_,_,rfl,m',by omega,by omega,j0,j1,by omega⟩
theorem A3 (c:cF prog w A E s κ Ok rk){st0:SortSt}(hk:kindOf st0=κ){x y o:Array Keyed}{i j mg p q lb:Nat}(ox:bG Ok x)(oy:bG Ok y)(sx:Sd rk x.toList)(sy:Sd rk y.toList)(y0:0<y.size)(hf:∀t∈x.toList,rk y[0]<=rk t)(g:Gq st0 st)(b:HB rk x y lb (i+1) (j+1) o)(hm:∀(hj:j<y.size) t,t<i+1->t<x.size->Kr rk x t<=rk y[j]):wpS (model prog w) A E s (oY x y o (i+1) (j+1) mg p q) (HR rk x y lb st0) st:=by
 unfold oY
 obtain⟨m,i0,i1,j0,j1,pr⟩:=b
 have hi':i<x.size:=by omega
 have hj:j<y.size:=by omega
 have m':=m.y1 hj (hm hj)
 simp only[Nat.add_sub_cancel]
 refine aK6 (cM hj ?_)
 by_cases he:(j==1)=true
 ·rw[if_pos he]
  have he:j=1:=by simpa using he
  exact aL3 ⟨g,.inl ⟨_,_,_,_,_,_,_,rfl,m'.frst y0 hf he⟩⟩
 ·rw[if_neg he]
  have he:j≠1:=by simpa using he
  refine aK6 (cM hi' (aK6 (kM c (g.kd.trans hk) (ox _ (aN9 hi')) oy (by omega) (by omega) (sy.up _ _ (by omega)) λz k1 k2 k3=>?_)))
  dsimp only
  have ux:=sx.up 0 _ (aK8 x.size)
  have mk:=m'.yk k1 λt p ht ht' hp hp' _=>by
   have a1:=k3 p hp hp'
   rw[kQ,aQ8,Nat.zero_add]at a1
   have a2:=ux t i (by omega) (by omega) hi'
   rw[bY (i:=i) hi']at a2
   omega
  have km:∀(hi:i<x.size) t,t<z->t<y.size->Kr rk y t<=rk x[i]:=λ_ t ht _=>by
   have a1:=k2 t ht
   rw[kQ,aL5,Nat.zero_add]at a1
   omega
  by_cases hk0:j-z>0
  ·rw[if_pos hk0]
   by_cases h1:(z==1)=true
   ·rw[if_pos h1]
    have h1:z=1:=by simpa using h1
    exact aL3 ⟨g,.inl ⟨_,_,_,_,_,_,_,rfl,mk.frst y0 hf h1⟩⟩
   ·rw[if_neg h1]
    have h1:z≠1:=by simpa using h1
    by_cases h0:(z==0)=true
    ·rw[if_pos h0]
     have h0:z=0:=by simpa using h0
     exact aL3 ⟨g,.inl ⟨_,_,_,_,_,_,_,rfl,mk.done (.inr h0)⟩⟩
    ·rw[if_neg h0]
     have h0:z≠0:=by simpa using h0
     exact A2 g ⟨mk,by omega,i1,by omega,by omega,by omega⟩ km
  ·rw[if_neg hk0]
   have e0:z=j:=by omega
   subst e0
   exact A2 g ⟨m',by omega,i1,by omega,by omega,by omega⟩ km
theorem A4 (c:cF prog w A E s κ Ok rk){st0:SortSt}(hk:kindOf st0=κ){x y o:Array Keyed}{i j mg p q lb:Nat}(ox:bG Ok x)(oy:bG Ok y)(sx:Sd rk x.toList)(sy:Sd rk y.toList)(y0:0<y.size)(hf:∀t∈x.toList,rk y[0]<=rk t)(g:Gq st0 st)(b:HB rk x y lb i (j+1) o) :
  wpS (model prog w) A E s (oZ x y o i (j+1) mg p q) (HR rk x y lb st0) st:=by
 unfold oZ
 obtain⟨m,i0,i1,j0,j1,pr⟩:=b
 have hj:j<y.size:=by omega
 simp only[Nat.add_sub_cancel]
 refine aK6 (oW g λst4 q4=>aK6 (cM hj (aK6 (kM c (q4.kd.trans hk) (oy _ (aN9 hj)) ox (by omega) (by omega) (sx.up _ _ (by omega)) λz k1 k2 k3=>?_))))
 dsimp only
 have uy:=sy.up 0 _ (aK8 y.size)
 have mk:=m.xk k1 λt p ht ht' hp hp' _=>by
  have a1:=k3 p hp hp'
  rw[kO,aQ8,Nat.zero_add]at a1
  have a2:=uy t j (by omega) (by omega) hj
  rw[bY (i:=j) hj]at a2
  omega
 have km:∀(hj:j<y.size) t,t<z->t<x.size->Kr rk x t<=rk y[j]:=λ_ t ht _=>by
  have a1:=k2 t ht
  rw[kO,aL5,Nat.zero_add]at a1
  exact a1
 by_cases hk0:i-z>0
 ·rw[if_pos hk0]
  by_cases he:(z==0)=true
  ·rw[if_pos he]
   exact aL3 ⟨q4,.inl ⟨_,_,_,_,_,_,_,rfl,mk.done (.inl (by simpa using he))⟩⟩
  ·rw[if_neg he]
   have he:z≠0:=by simpa using he
   obtain⟨z2,rfl⟩:∃z2,z=z2+1:=⟨z-1,by omega⟩
   exact A3 c hk ox oy sx sy y0 hf q4 ⟨mk,by omega,by omega,j0,j1,by omega⟩ km
 ·rw[if_neg hk0]
  have e0:z=i:=by omega
  subst e0
  obtain⟨z2,rfl⟩:∃z2,z=z2+1:=⟨z-1,by omega⟩
  exact A3 c hk ox oy sx sy y0 hf q4 ⟨m,i0,i1,j0,j1,pr⟩ km
theorem ap3 (c:cF prog w A E s κ Ok rk){st0:SortSt}(hk:kindOf st0=κ){x y o:Array Keyed}{i j mg p q lb:Nat}(ox:bG Ok x)(oy:bG Ok y)(sx:Sd rk x.toList)(sy:Sd rk y.toList)(y0:0<y.size)(hf:∀t∈x.toList,rk y[0]<=rk t)(g:Gq st0 st)(b:HB rk x y lb i j o) :
  wpS (model prog w) A E s (tY x y o i j mg p q) (HQ rk x y lb st0) st:=by
 unfold tY
 refine aQ2 (I:=λ_=>HI rk x y lb st0) ?_ ?_ ⟨g,i,j,o,_,p,q,rfl,b⟩
 ·rintro t c3 st3 _ _ ⟨q3,i,j,o,mg,p,q,rfl,b3⟩
  obtain⟨j3,rfl⟩:∃j3,j=j3+1:=⟨j-1,by have:=b3.j0;omega⟩
  dsimp only
  split
  ·exact aX1 (A4 c hk ox oy sx sy y0 hf q3 b3) λr _ hr=>by cases r<;>exact hr
  ·exact aX1 (A4 c hk ox oy sx sy y0 hf q3 b3) λr _ hr=>by cases r<;>exact hr
 ·rintro c3 st3 ⟨q3,i,j,o,mg,p,q,rfl,b3⟩
  exact⟨q3,.inr ⟨_,_,_,_,_,_,rfl,b3⟩⟩
theorem ap4 (c:cF prog w A E s κ Ok rk){st0:SortSt}(hk:kindOf st0=κ){x y o:Array Keyed}{i j mg n:Nat}{Q:tX->SortSt->Prop}(ox:bG Ok x)(oy:bG Ok y)(sx:Sd rk x.toList)(sy:Sd rk y.toList)(y0:0<y.size)(hf:∀t∈x.toList,rk y[0]<=rk t)(g:Gq st0 st)(b:HB rk x y n i j o)(h1:∀r i' j' o' p q st',Gq st0 st'->dC rk x y r->Q (some r,i',j',o',p,q) st')(h2:∀i' j' o' p q st',Gq st0 st'->HB rk x y (n+1) i' j' o'->Q (none,i',j',o',p,q) st') :
  wpS (model prog w) A E s (tZ x y o i j mg) Q st:=by
 have ux:Up rk x 0 x.size:=sx.up 0 _ (aK8 _)
 have uy:Up rk y 0 y.size:=sy.up 0 _ (aK8 _)
 unfold tZ
 refine aQ2 (I:=λt c st'=>Gq st0 st'/\∃i j o p q,c=(none,i,j,o,p,q)/\HB rk x y (n+t) i j o) ?_ ?_ ⟨g,i,j,o,0,0,rfl,b⟩
 ·rintro t c2 st2 _ ht ⟨q2,i',j',o,p,q,rfl,m,i0,i1,j0,j1,pr⟩
  obtain⟨i2,rfl⟩:∃i2,i'=i2+1:=⟨i'-1,by omega⟩
  obtain⟨j2,rfl⟩:∃j2,j'=j2+1:=⟨j'-1,by omega⟩
  simp only[Nat.add_sub_cancel]
  have hi:i2<x.size:=by omega
  have hj:j2<y.size:=by omega
  refine aK6 (cM hj (aK6 (cM hi (aK6 (c _ _ (oy _ (aN9 hj)) (ox _ (aN9 hi)) st2 _ (q2.kd.trans hk) ?_)))))
  by_cases hc:rk y[j2]<rk x[i2]
  ·rw[aL1 hc]
   dsimp only
   rw[if_pos rfl]
   have m':=m.x1 hi λt ht _=>by
    have:=uy t j2 (by omega) (by omega) hj
    rw[bY hj]at this
    omega
   refine aK6 (cM hi ?_)
   by_cases he:(i2==0)=true
   ·rw[if_pos he]
    exact aL3 (h1 _ _ _ _ _ _ _ q2 (m'.done (.inl (by simpa using he))))
   ·rw[if_neg he]
    have he:i2≠0:=by simpa using he
    split
    ·exact aL3 (h2 _ _ _ _ _ _ q2 ⟨m',by omega,by omega,j0,j1,by omega⟩)
    ·exact aL3 ⟨q2,_,_,_,_,_,rfl,m',by omega,by omega,j0,j1,by omega⟩
  ·rw[aK9 hc]
   dsimp only
   rw[if_neg aL6]
   have m':=m.y1 hj λt ht _=>by
    have:=ux t i2 (by omega) (by omega) hi
    rw[bY hi]at this
    omega
   refine aK6 (cM hj ?_)
   by_cases he:(j2==1)=true
   ·rw[if_pos he]
    exact aL3 (h1 _ _ _ _ _ _ _ q2 (m'.frst y0 hf (by simpa using he)))
   ·rw[if_neg he]
    have he:j2≠1:=by simpa using he
    split
    ·exact aL3 (h2 _ _ _ _ _ _ q2 ⟨m',i0,i1,by omega,by omega,by omega⟩)
    ·exact aL3 ⟨q2,_,_,_,_,_,rfl,m',i0,i1,by omega,by omega,by omega⟩
 ·rintro c2 st2 ⟨q2,i',j',o,p,q,rfl,m,i0,i1,j0,j1,pr⟩
  exact h2 _ _ _ _ _ _ q2 ⟨m,i0,i1,j0,j1,by omega⟩
theorem ap5 (c:cF prog w A E s κ Ok rk)(hk:kindOf st=κ){x y:Array Keyed}{Q:Array Keyed->SortSt->Prop}(ox:bG Ok x)(oy:bG Ok y)(sx:Sd rk x.toList)(sy:Sd rk y.toList)(x0:0<x.size)(y0:0<y.size)(hf:∀t∈x.toList,rk y[0]<=rk t)(hl:∀u∈y.toList,rk u<=rk x[x.size-1])(h:∀r st',Gq st st'->dC rk x y r->Q r st'):wpS (model prog w) A E s (tW x y) Q st:=by
 rw[ap2]
 refine aK6 (wpS_lift (aV8 ⟨rfl,aK6 (cM (by omega:x.size-1<x.size) ?_)⟩))
 have m0:MH rk x.toList y.toList (#[x[x.size-1]]:Array Keyed).toList.reverse (x.size-1) y.size:=by
  have mm:MH rk x.toList y.toList [] x.size y.size:=⟨by simp,by rw[aQ3 (by simp),aO7];exact sx,by rw[aQ3 (by simp),aO7];exact sy⟩
  have e:=mE (x:=x) (i:=x.size-1) (by omega)
  rw[show x.size-1+1=x.size by omega]at e
  have:=mm.ofx (Nat.sub_le x.size 1) λt ht u hu=>?_
  ·rw[<- e]at this;simpa using this
  ·rw[<- e,aM5]at hu
   subst hu
   exact hl t (List.mem_of_mem_take ht)
 by_cases e1:(x.size-1==0)=true
 ·rw[if_pos e1]
  exact aL3 (h _ st (Gq.refl st) (m0.done (.inl (by simpa using e1))))
 ·rw[if_neg e1]
  have e1:x.size-1≠0:=by simpa using e1
  by_cases e2:(y.size==1)=true
  ·rw[if_pos e2]
   exact aL3 (h _ st (Gq.refl st) (m0.frst y0 hf (by simpa using e2)))
  ·rw[if_neg e2]
   have e2:y.size≠1:=by simpa using e2
   refine aK6 (wpS_get ?_)
   unfold A1
   refine aK6 (aX1 (aQ2
    (I:=λn c st'=>Gq st st'/\∃i j o mg,c=(none,i,j,o,mg)/\HB rk x y (n+1) i j o)
    (Q:=λc st'=>Gq st st'/\∃r i j o mg,c=(some r,i,j,o,mg)/\dC rk x y r) ?_ ?_ ⟨Gq.refl st,_,_,_,_,rfl,m0,by omega,by omega,by omega,by omega,by omega⟩) ?_)
   ·rintro n c1 st1 _ hn ⟨q1,i,j,o,mg,rfl,b⟩
    dsimp only
    refine aK6 (ap4 c hk ox oy sx sy y0 hf q1 b (λr o' i' j' p q st' g md=>aL3 ⟨g,r,_,_,_,_,rfl,md⟩) λi' j' o' p q st' g b'=>?_)
    refine aK6 (wpS_lift (aV8 ⟨rfl,?_⟩))
    refine aK6 (aX1 (ap3 c hk ox oy sx sy y0 hf g b') ?_)
    rintro c3 st3 ⟨q3,⟨r,i3,j3,o,mg,p,q,rfl,md⟩|⟨i3,j3,o,mg,p,q,rfl,b3⟩⟩
    ·exact aL3 ⟨q3,r,_,_,_,_,rfl,md⟩
    ·exact aK6 (oW q3 λst4 q4=>aL3 ⟨q4,i3,j3,o,_,rfl,b3⟩)
   ·rintro c1 st1 ⟨q1,i,j,o,mg,rfl,b⟩
    have:=b.pr
    exact absurd this (by omega)
   ·rintro c1 st1 ⟨q1,r,i,j,o,mg,rfl,md⟩
    exact aL3 (h r _ q1 md)
end
theorem ap6 (i:Nat):mergeAt' i=(do
 let z <- get
 let (some (sa,na,pw),some (sb,nb,_)):=((pendingOf z)[i]?,(pendingOf z)[i+1]?)|unsupported "internal:list.sort.pending"
 set (SortSt.mk' (kindOf z) (arrOf z) (((pendingOf z).setIfInBounds i (sa,na+nb,pw)).eraseIdxIfInBounds (i+1)) (gallopOf z) (failedOf z))
 let some k <- iS false (<- elem' (arrOf z) sb) (arrOf z) sa na 0|return false
 let (sa,na):=(sa+k,na-k)
 if na==0 then return true
 let some nb <- iS true (<- elem' (arrOf z) (sa+na-1)) (arrOf z) sb nb (nb-1)|return false
 if nb==0 then return true
 let x:=(arrOf z).extract sa sb
 let y:=(arrOf z).extract sb (sb+nb)
 let m <- if na<=nb then tS x y else tW x y
 modify λz=>setArr z (m.toList.zipIdx.foldl (λa (p,j)=>a.setIfInBounds (sa+j) p) (arrOf z))
 return (failedOf (<- get)).isNone):=rfl
variable {rk:Keyed→Int}
theorem ap7 {σ:Type}{M:Model}{A:Around}{E:Value->Shared->Prop}{s:Shared}{a b:σ}{Q:PUnit->σ->Prop}(h:Q ⟨⟩ a):wpS M A E s (set a:StateT σ Sem PUnit) Q b:=by
 unfold wpS;rw[StateT.run_set];exact aK7 ⟨rfl,h⟩
theorem A5 (o:Nat):∀(m:List Keyed) (n:Nat) (a:Array Keyed) (t:Nat),o+n+m.length<=a.size->
  ((m.zipIdx n).foldl (λa (p,j)=>a.setIfInBounds (o+j) p) a)[t]? = if o+n<=t/\t<o+n+m.length then m[t-(o+n)]? else a[t]?
 |[],n,a,t,_=>by
  show a[t]? = _
  rw[if_neg (λz=>Nat.not_lt_of_ge z.1 z.2)]
 |p::m,n,a,t,h=>by
  rw[List.zipIdx_cons,List.foldl_cons]
  have h':o+(n+1)+m.length<=(a.setIfInBounds (o+n) p).size:=by rw[Array.size_setIfInBounds];simp at h;omega
  have ih:=A5 o m (n+1) (a.setIfInBounds (o+n) p) t h'
  refine ih.trans ?_
  have hs:o+n<a.size:=by simp at h;omega
  rw[Array.getElem?_setIfInBounds]
  by_cases e:o+n=t
  ·subst e
   rw[if_neg (by omega),if_pos rfl,if_pos hs,if_pos (by simp),Nat.sub_self];rfl
  ·rw[if_neg e]
   by_cases c:o+n<=t/\t<o+n+(p::m).length
   ·rw[if_pos c,if_pos (by simp at c;omega)]
    rw[show t-(o+n)=(t-(o+(n+1)))+1 by omega];rfl
   ·rw[if_neg c,if_neg (by simp at c ⊢;omega)]
theorem A6 {a:Array Keyed}{lo hi:Nat}(u:Up rk a lo hi)(hh:hi<=a.size):Sd rk (a.extract lo hi).toList:=by
 unfold Sd
 rw[aR8]
 intro i j hi' hj hij
 have h2:lo+j<hi:=by simp at hj;omega
 have:=u (lo+i) (lo+j) (by omega) (by omega) h2
 rw[bY (by omega:lo+i<a.size),bY (by omega:lo+j<a.size)]at this
 simpa using this
theorem A7 {a:Array Keyed}{lo mid hi:Nat}(u:Up rk a lo mid)(v:Up rk a mid hi)(h0:lo<mid)(h1:mid<hi)(h:Kr rk a (mid-1)<=Kr rk a mid):Up rk a lo hi:=λi j hi' hij hj=>by
 rcases aO0 j mid with z|z
 ·exact u i j hi' hij z
 ·rcases aO0 i mid with y|y
  ·have a1:=u i (mid-1) hi' (by omega) (by omega)
   have a2:=v mid j (aK8 _) z hj
   omega
  ·exact v i j y hij hj
theorem A8 {a:Array Keyed}{lo hi t:Nat}(h:t<hi-lo)(hh:hi<=a.size):Kr rk (a.extract lo hi) t=Kr rk a (lo+t):=by
 refine jF ?_
 rw[Array.getElem?_extract_of_lt (by omega)]
 exact (getElem?_pos a (lo+t) (by omega)).symm
section
variable {κ:SortKind}{a0:Array Keyed}{pd:Array (Nat×Nat×Nat)}{st:SortSt}{prog:Program}{w:World}{A:Around}{E:Value→Shared→Prop}{s:Shared}{Ok:Keyed→Prop}
theorem ap8 {a m:Array Keyed}{p x e:Nat}(hpx:p<=x)(hxe:x<=e)(he:e<=a.size)(md:dC rk (a.extract p x) (a.extract x e) m) :
  let r:=m.toList.zipIdx.foldl (λa (q,j)=>a.setIfInBounds (p+j) q) a
  r.Perm a/\(∀t,(t<p∨e<=t)->Kr rk r t=Kr rk a t)/\(∀t t',p<=t->t<=t'->t'<e->Kr rk r t<=Kr rk r t')/\∀t,p<=t->t<e->∃t',p<=t'/\t'<e/\Kr rk r t=Kr rk a t':=by
 intro r
 have ml:m.toList.length=e-p:=by
  rw[md.1.length_eq];simp;omega
 have g:∀t,r[t]? = if p<=t/\t<e then m[t-p]? else a[t]?:=λt=>by
  have:=A5 p m.toList 0 a t (by omega)
  rw[show r=(m.toList.zipIdx 0).foldl (λa (q,j)=>a.setIfInBounds (p+j) q) a from rfl,this]
  simp only[Nat.add_zero,ml,show p+(e-p)=e by omega,aS1]
 have ex:(a.extract p x).toList++(a.extract x e).toList=(a.toList.take e).drop p:=by
  rw[jI,jI,aX8,aX8,aX8]
  rw[show x=p+(x-p) by omega,<- List.drop_drop,show p+(x-p)-p=x-p by omega,show e-(p+(x-p))=(e-p)-(x-p) by omega]
  have:=aO3 (x-p) ((a.toList.drop p).take (e-p))
  rw[List.take_take,aX8,Nat.min_eq_left (by omega)]at this
  exact this
 have rl:r.toList=a.toList.take p++(m.toList++a.toList.drop e):=by
  apply List.ext_getElem?
  intro t
  rw[aS1,g]
  rcases aO0 t p with z|z
  ·rw[if_neg (by omega),aT5 (by simp;omega),List.getElem?_take_of_lt z,aS1]
  ·rw[aV5 (by simp;omega)]
   have lp:(a.toList.take p).length=p:=by simp;omega
   rw[lp]
   rcases aO0 t e with y|y
   ·rw[if_pos ⟨z,y⟩,aT5 (by omega),aS1]
   ·rw[if_neg (by omega),aV5 (by omega),ml,List.getElem?_drop,aS1]
    congr 1;omega
 have mp:m.toList.Perm ((a.toList.take e).drop p):=ex▸md.1
 refine⟨?_,λt ht=>jF (by rw[g,if_neg (by omega)]),λt t' h1 h2 h3=>?_,λt h1 h2=>?_⟩
 ·refine Array.perm_iff_toList_perm.mpr ?_
  rw[rl]
  have:a.toList=a.toList.take p++((a.toList.take e).drop p++a.toList.drop e):=by
   rw[u5 _ (by omega:p<=e)];exact (aO3 p _).symm
  conv=>rhs;rw[this]
  exact (mp.append_right _).append_left _
 ·have e1:Kr rk r t=Kr rk m (t-p):=jF (by rw[g,if_pos (by omega)])
  have e2:Kr rk r t'=Kr rk m (t'-p):=jF (by rw[g,if_pos (by omega)])
  rw[e1,e2]
  have ms:m.size=e-p:=by rw[<- ml];simp
  exact md.2.up 0 m.size (aK8 _) (t-p) (t'-p) (by omega) (by omega) (by omega)
 ·have e1:Kr rk r t=Kr rk m (t-p):=jF (by rw[g,if_pos (by omega)])
  have ms:m.size=e-p:=by rw[<- ml];simp
  have hm:t-p<m.size:=by omega
  have mm:m[t-p]∈(a.toList.take e).drop p:=mp.mem_iff.mp (by simp)
  obtain⟨t',q1,q2,q3,q4⟩:=mD (rk:=rk) mm
  exact⟨t',q1,q2,by rw[e1,bY hm];exact q4⟩
theorem ap9 (c:cF prog w A E s κ Ok rk)(o:bG Ok a0)(b:SB κ a0 pd st){i sa na pw sb nb pw':Nat}{Q:Bool->SortSt->Prop}(e1:pd[i]? = some (sa,na,pw))(e2:pd[i+1]? = some (sb,nb,pw'))(hs:sb=sa+na)(n0:0<na)(m0:0<nb)(hz:sb+nb<=a0.size)(u:Up rk (arrOf st) sa sb)(v:Up rk (arrOf st) sb (sb+nb))(h:∀st',SB κ a0 ((pd.setIfInBounds i (sa,na+nb,pw)).eraseIdxIfInBounds (i+1)) st'->Up rk (arrOf st') sa (sb+nb)->(∀t,(t<sa∨sb+nb<=t)->Kr rk (arrOf st') t=Kr rk (arrOf st) t)->Q true st'):wpS (model prog w) A E s (mergeAt' i) Q st:=by
 have sz:=b.sz
 rw[ap6]
 refine aK6 (wpS_get ?_)
 rw[b.pd,e1,e2]
 dsimp only
 refine aK6 (ap7 ?_)
 generalize hst:SortSt.mk' (kindOf st) (arrOf st) ((pd.setIfInBounds i (sa,na+nb,pw)).eraseIdxIfInBounds (i+1)) (gallopOf st) (failedOf st)=st1
 have b1:SB κ a0 ((pd.setIfInBounds i (sa,na+nb,pw)).eraseIdxIfInBounds (i+1)) st1:=by rw[<- hst];exact⟨b.pm,b.kd,b.ok,rfl⟩
 have ar:arrOf st1=arrOf st:=by rw[<- hst]
 have oa:=b.all o
 have hsb:sb<(arrOf st).size:=by omega
 refine aK6 (cM hsb (aK6 (kM c b1.kd (oa _ (aN9 hsb)) oa n0 (by omega) (hs▸u) λk k1 k2 k3=>?_)))
 dsimp only
 have k2':∀t,sa<=t->t<sa+k->Kr rk (arrOf st) t<=Kr rk (arrOf st) sb:=λt t1 t2=>by
  have:=k2 (t-sa) (by omega)
  rw[kO,aL5,show sa+(t-sa)=t by omega]at this
  rw[bY hsb];exact this
 have k3':∀t,sa+k<=t->t<sb->Kr rk (arrOf st) sb<Kr rk (arrOf st) t:=λt t1 t2=>by
  have:=k3 (t-sa) (by omega) (by omega)
  rw[kO,aQ8,show sa+(t-sa)=t by omega]at this
  rw[bY hsb];omega
 by_cases ek:(na-k==0)=true
 ·rw[if_pos ek]
  have ek:na-k=0:=by simpa using ek
  refine aL3 (h st1 b1 ?_ λt _=>by rw[ar])
  rw[ar]
  exact A7 u v (by omega) (by omega) (k2' (sb-1) (by omega) (by omega))
 ·rw[if_neg ek]
  have ek:na-k≠0:=by simpa using ek
  have el:sa+k+(na-k)-1=sb-1:=by omega
  rw[el]
  have hsl:sb-1<(arrOf st).size:=by omega
  refine aK6 (cM hsl (aK6 (kM c b1.kd (oa _ (aN9 hsl)) oa (by omega) (by omega) v λl l1 l2 l3=>?_)))
  dsimp only
  have l2':∀t,sb<=t->t<sb+l->Kr rk (arrOf st) t<Kr rk (arrOf st) (sb-1):=λt t1 t2=>by
   have:=l2 (t-sb) (by omega)
   rw[kQ,aL5,show sb+(t-sb)=t by omega]at this
   rw[bY hsl];exact this
  have l3':∀t,sb+l<=t->t<sb+nb->Kr rk (arrOf st) (sb-1)<=Kr rk (arrOf st) t:=λt t1 t2=>by
   have:=l3 (t-sb) (by omega) (by omega)
   rw[kQ,aQ8,show sb+(t-sb)=t by omega]at this
   rw[bY hsl];omega
  by_cases en:(l==0)=true
  ·rw[if_pos en]
   have en:l=0:=by simpa using en
   subst en
   refine aL3 (h st1 b1 ?_ λt _=>by rw[ar])
   rw[ar]
   exact A7 u v (by omega) (by omega) (l3' sb (by omega) (by omega))
  ·rw[if_neg en]
   have en:l≠0:=by simpa using en
   have sub:∀p e,bG Ok ((arrOf st).extract p e):=λp e z hz=>oa z (by
    have:z∈((arrOf st).extract p e).toList:=Array.mem_toList_iff.mpr hz
    rw[jI]at this
    exact Array.mem_toList_iff.mp (List.mem_of_mem_take (List.mem_of_mem_drop this)))
   have sx:Sd rk ((arrOf st).extract (sa+k) sb).toList:=A6 (λi j h1 h2 h3=>u i j (by omega) h2 h3) (by omega)
   have sy:Sd rk ((arrOf st).extract sb (sb+l)).toList:=A6 (λi j h1 h2 h3=>v i j h1 h2 (by omega)) (by omega)
   have x0:0<((arrOf st).extract (sa+k) sb).size:=by simp;omega
   have y0:0<((arrOf st).extract sb (sb+l)).size:=by simp;omega
   have hf:∀t∈((arrOf st).extract (sa+k) sb).toList,rk ((arrOf st).extract sb (sb+l))[0]<=rk t:=λt ht=>by
    rw[jI]at ht
    obtain⟨t',q1,q2,q3,q4⟩:=mD (rk:=rk) ht
    rw[q4,<- bY (rk:=rk) y0,A8 (by omega) (by omega)]
    exact Int.le_of_lt (k3' t' q1 q2)
   have hl:∀t∈((arrOf st).extract sb (sb+l)).toList,rk t<=rk ((arrOf st).extract (sa+k) sb)[((arrOf st).extract (sa+k) sb).size-1]:=λt ht=>by
    rw[jI]at ht
    obtain⟨t',q1,q2,q3,q4⟩:=mD (rk:=rk) ht
    have e:((arrOf st).extract (sa+k) sb).size=sb-(sa+k):=by simp;omega
    rw[q4,<- bY (rk:=rk) (by omega),A8 (by omega) (by omega),e,show sa+k+(sb-(sa+k)-1)=sb-1 by omega]
    exact Int.le_of_lt (l2' t' q1 q2)
   have fin:∀(m:Array Keyed) (st2:SortSt),Gq st1 st2->dC rk ((arrOf st).extract (sa+k) sb) ((arrOf st).extract sb (sb+l)) m->
     wpS (model prog w) A E s (do modify (λz=>setArr z (m.toList.zipIdx.foldl (λa (p,j)=>a.setIfInBounds (sa+k+j) p) (arrOf z)));return (failedOf (<- get)).isNone) Q st2:=λm st2 g md=>by
    have b2:SB κ a0 ((pd.setIfInBounds i (sa,na+nb,pw)).eraseIdxIfInBounds (i+1)) st2:=⟨by rw[g.ar];exact b1.pm,g.kd.trans b1.kd,g.ok.trans b1.ok,g.pd.trans b1.pd⟩
    have a2:arrOf st2=arrOf st:=g.ar.trans ar
    obtain⟨r1,r2,r3,r4⟩:=ap8 (by omega) (by omega) (by omega) md
    generalize hr:m.toList.zipIdx.foldl (λa (q,j)=>a.setIfInBounds (sa+k+j) q) (arrOf st)=r at r1 r2 r3 r4
    refine aK6 (wpS_modify (aK6 (wpS_get (aL3 ?_))))
    have b3:=b2.put (xs:=m.toList.zipIdx.foldl (λa (q,j)=>a.setIfInBounds (sa+k+j) q) (arrOf st2)) (by rw[a2,hr];exact r1)
    have er:arrOf (setArr st2 (m.toList.zipIdx.foldl (λa (q,j)=>a.setIfInBounds (sa+k+j) q) (arrOf st2)))=r:=by rw[<- hr,a2]
    have tr:(failedOf (setArr st2 (m.toList.zipIdx.foldl (λa (q,j)=>a.setIfInBounds (sa+k+j) q) (arrOf st2)))).isNone=true:=by rw[b3.ok];rfl
    rw[tr]
    refine h _ b3 (λi j hi hij hj=>?_) λt ht=>?_
    ·rw[er]
     have bl:∀t,sa<=t->t<sa+k->∀t',sa+k<=t'->t'<sb+l->Kr rk (arrOf st) t<=Kr rk (arrOf st) t':=λt t1 t2 t' t3 t4=>by
      rcases aO0 t' sb with z|z
      ·exact u t t' t1 (by omega) z
      ·have a1:=k2' t t1 t2
       have a2:=v sb t' (aK8 _) z (by omega)
       omega
     have br:∀t,sb+l<=t->t<sb+nb->∀t',sa+k<=t'->t'<sb+l->Kr rk (arrOf st) t'<=Kr rk (arrOf st) t:=λt t1 t2 t' t3 t4=>by
      rcases aO0 t' sb with z|z
      ·have a1:=u t' (sb-1) (by omega) (by omega) (by omega)
       have a2:=l3' t t1 t2
       omega
      ·exact v t' t z (by omega) t2
     have blr:∀t,sa<=t->t<sa+k->∀t',sb+l<=t'->t'<sb+nb->Kr rk (arrOf st) t<=Kr rk (arrOf st) t':=λt t1 t2 t' t3 t4=>by
      have a1:=bl t t1 t2 (sb-1) (by omega) (by omega)
      have a2:=l3' t' t3 t4
      omega
     rcases aO0 i (sa+k) with z|z
     ·rw[r2 i (.inl z)]
      rcases aO0 j (sa+k) with y|y
      ·rw[r2 j (.inl y)];exact u i j hi hij (by omega)
      ·rcases aO0 j (sb+l) with x|x
       ·obtain⟨t',q1,q2,q3⟩:=r4 j y x
        rw[q3];exact bl i hi z t' q1 q2
       ·rw[r2 j (.inr x)];exact blr i hi z j x hj
     ·rcases aO0 j (sb+l) with x|x
      ·exact r3 i j z hij x
      ·rw[r2 j (.inr x)]
       rcases aO0 i (sb+l) with y|y
       ·obtain⟨t',q1,q2,q3⟩:=r4 i z y
        rw[q3];exact br j x hj t' q1 q2
       ·rw[r2 i (.inr y)];exact v i j (by omega) hij hj
    ·rw[er];exact r2 t (by omega)
   by_cases hle:na-k<=l
   ·rw[if_pos hle]
    exact aK6 (ap1 c b1.kd (sub _ _) (sub _ _) sx sy x0 y0 hf hl λm st2 g md=>fin m st2 g md)
   ·rw[if_neg hle]
    exact aK6 (ap5 c b1.kd (sub _ _) (sub _ _) sx sy x0 y0 hf hl λm st2 g md=>fin m st2 g md)
end
noncomputable def Ch:Nat->List (Nat×Nat)->Nat->Prop
 |a,[],b=>a=b
 |a,(p,n)::r,b=>p=a/\0<n/\Ch (a+n) r b
theorem Ch.split:∀{l l':List (Nat×Nat)}{a b:Nat},Ch a (l++l') b->∃m,Ch a l m/\Ch m l' b
 |[],_,a,_,h=>⟨a,rfl,h⟩
 |(p,n)::l,l',a,b,h=>by
  obtain⟨h1,h2,h3⟩:=h
  obtain⟨m,q1,q2⟩:=Ch.split h3
  exact⟨m,⟨h1,h2,q1⟩,q2⟩
theorem Ch.join:∀{l l':List (Nat×Nat)}{a m b:Nat},Ch a l m->Ch m l' b->Ch a (l++l') b
 |[],_,a,m,_,h,h'=>by cases (show a=m from h);exact h'
 |(p,n)::l,l',a,m,b,h,h'=>⟨h.1,h.2.1,Ch.join h.2.2 h'⟩
theorem Ch.len:∀{l:List (Nat×Nat)}{a b:Nat},Ch a l b->a+l.length<=b
 |[],a,b,h=>by cases (show a=b from h);simp
 |(p,n)::l,a,b,h=>by
  have:=Ch.len h.2.2
  have:=h.2.1
  simp;omega
theorem Ch.mem:∀{l:List (Nat×Nat)}{a b:Nat}{r:Nat×Nat},Ch a l b->r∈l->a<=r.1/\r.1+r.2<=b/\0<r.2
 |(p,n)::l,a,b,r,h,hr=>by
  obtain⟨h1,h2,h3⟩:=h
  have hb:=Ch.len h3
  rcases aL0.mp hr with e|e
  ·subst e
   have h1:p=a:=h1
   refine⟨?_,?_,h2⟩
   ·show a<=p;omega
   ·show p+n<=b;omega
  ·have:=Ch.mem h3 e
   exact⟨by omega,this.2.1,this.2.2⟩
noncomputable def sk (pd:Array (Nat×Nat×Nat)):List (Nat×Nat):=pd.toList.map λr=>(r.1,r.2.1)
theorem p7 (pd:Array (Nat×Nat×Nat)):(sk pd).length=pd.size:=by simp[sk]
structure Rn (rk:Keyed->Int)(a:Array Keyed)(l:List (Nat×Nat))(lo:Nat):Prop where
 ch:Ch 0 l lo
 up:∀r∈l,Up rk a r.1 (r.1+r.2)
variable {rk:Keyed→Int}{κ:SortKind}{a0:Array Keyed}{pd:Array (Nat×Nat×Nat)}{st:SortSt}{prog:Program}{w:World}{A:Around}{E:Value→Shared→Prop}{s:Shared}{Ok:Keyed→Prop}
theorem Rn.same {a b:Array Keyed}{l:List (Nat×Nat)}{lo:Nat}(h:Rn rk a l lo)(e:∀t,t<lo->Kr rk b t=Kr rk a t):Rn rk b l lo:=⟨h.ch,λr hr i j hi hij hj=>by
 have:=(h.ch.mem hr).2.1
 rw[e i (by omega),e j (by omega)]
 exact h.up r hr i j hi hij hj⟩
theorem A9 (c:cF prog w A E s κ Ok rk)(o:bG Ok a0)(b:SB κ a0 pd st){i lo:Nat}{Q:Bool->SortSt->Prop}(hi:i+1<pd.size)(hz:lo<=a0.size)(rn:Rn rk (arrOf st) (sk pd) lo)(h:∀pd' st',SB κ a0 pd' st'->pd'.size+1=pd.size->Rn rk (arrOf st') (sk pd') lo->(∀t,lo<=t->Kr rk (arrOf st') t=Kr rk (arrOf st) t)->Q true st'):wpS (model prog w) A E s (mergeAt' i) Q st:=by
 obtain⟨⟨sa,na,pw⟩,e1⟩:∃r,pd[i]? = some r:=⟨pd[i],getElem?_pos pd i (by omega)⟩
 obtain⟨⟨sb,nb,pw'⟩,e2⟩:∃r,pd[i+1]? = some r:=⟨pd[i+1],getElem?_pos pd (i+1) hi⟩
 have d1:pd.toList=pd.toList.take i++(sa,na,pw)::(sb,nb,pw')::pd.toList.drop (i+2):=by
  have hl:i<pd.toList.length:=by simp;omega
  have hl2:i+1<pd.toList.length:=by simpa using hi
  have g1:pd.toList[i]=(sa,na,pw):=by rw[getElem?_pos pd i (by omega)]at e1;simpa using e1
  have g2:pd.toList[i+1]=(sb,nb,pw'):=by rw[getElem?_pos pd (i+1) hi]at e2;simpa using e2
  have:=aO3 i pd.toList
  rw[List.drop_eq_getElem_cons hl,List.drop_eq_getElem_cons hl2,g1,g2]at this
  exact this.symm
 have li:(pd.toList.take i).length=i:=by simp;omega
 have d2:((pd.setIfInBounds i (sa,na+nb,pw)).eraseIdxIfInBounds (i+1)).toList=pd.toList.take i++(sa,na+nb,pw)::pd.toList.drop (i+2):=by
  have e:((pd.setIfInBounds i (sa,na+nb,pw)).eraseIdxIfInBounds (i+1)).toList=(pd.toList.set i (sa,na+nb,pw)).eraseIdx (i+1):=by
   unfold Array.eraseIdxIfInBounds
   rw[dif_pos (by rw[Array.size_setIfInBounds];exact hi),Array.toList_eraseIdx,Array.toList_setIfInBounds]
  rw[e]
  conv=>lhs;rw[d1]
  rw[List.set_append_right _ _ (by omega),li,Nat.sub_self,List.set_cons_zero,List.eraseIdx_append_of_length_le (by omega),li,show i+1-i=1 by omega]
  rfl
 have k1:sk pd=(pd.toList.take i).map (λr=>(r.1,r.2.1))++(sa,na)::(sb,nb)::(pd.toList.drop (i+2)).map (λr=>(r.1,r.2.1)):=by
  unfold sk;conv=>lhs;rw[d1]
  simp
 have k2:sk ((pd.setIfInBounds i (sa,na+nb,pw)).eraseIdxIfInBounds (i+1))=(pd.toList.take i).map (λr=>(r.1,r.2.1))++(sa,na+nb)::(pd.toList.drop (i+2)).map (λr=>(r.1,r.2.1)):=by
  unfold sk;rw[d2]
  simp
 have ch:=rn.ch
 rw[k1]at ch
 obtain⟨m,c1,c2⟩:=ch.split
 obtain⟨f1,f2,f3,f4,f5⟩:=c2
 have f1:sa=m:=f1
 have f3:sb=m+na:=f3
 have up:=rn.up
 rw[k1]at up
 have lo2:=f5.len
 refine ap9 c o b e1 e2 (by omega) f2 f4 (by omega) (by have:=up (sa,na) (by simp);rw[f3,<- f1];exact this) (up (sb,nb) (by simp)) λst' b' u' fr=>h _ st' b' ?_ ⟨?_,?_⟩ λt ht=>fr t (by omega)
 ·rw[<- p7,<- p7,k1,k2];simp;omega
 ·rw[k2]
  refine c1.join ⟨f1,by omega,?_⟩
  rw[<- Nat.add_assoc];exact f5
 ·intro r hr
  rw[k2]at hr
  rcases aS4.mp hr with z|z
  ·intro p q h1 h2 h3
   have:=(c1.mem z).2.1
   rw[fr p (by omega),fr q (by omega)]
   exact up r (aW5 _ z) p q h1 h2 h3
  ·rcases aL0.mp z with z|z
   ·subst z
    show Up rk (arrOf st') sa (sa+(na+nb))
    rw[show sa+(na+nb)=sb+nb by omega];exact u'
   ·intro p q h1 h2 h3
    have:=(f5.mem z).1
    rw[fr p (by omega),fr q (by omega)]
    exact up r (aN1 _ (aM6 _ (aM6 _ z))) p q h1 h2 h3
noncomputable abbrev RS:=Option Unit×Nat
noncomputable def B0 (sz pw:Nat):StateT SortSt Sem (Option Unit×Unit):=forIn [0:sz] ((none,()):Option Unit×Unit) λ_ _=>do
 let z <- get
 match (if (pendingOf z).size>1 then (pendingOf z)[(pendingOf z).size-2]? else none) with
 |some (_,_,o)=>if o<=pw then pure (.done (none,())) else do
   let q <- mergeAt' ((pendingOf z).size-2)
   if (!q)=true then pure (.done (some (),())) else pure (.yield (none,()))
 |_=>pure (.done (none,()))
noncomputable def jn (sz lo n:Nat):StateT SortSt Sem (ForInStep RS):=do
 let z <- get
 match (pendingOf z).back? with
 |some (s1,n1,_)=>do
  let r <- B0 sz (power' sz (2*s1+n1) (2*s1+n1+n1+n) sz)
  match r.1 with
  |some u=>pure (.done (some u,lo))
  |none=>do
   modify λs=>setPending s ((pendingOf s).modify ((pendingOf s).size-1) λx=>(x.1,x.2.1,power' sz (2*s1+n1) (2*s1+n1+n1+n) sz))
   modify λs=>setPending s ((pendingOf s).push (lo,n,0))
   pure (.yield (none,lo+n))
 |_=>do
  modify λs=>setPending s ((pendingOf s).push (lo,n,0))
  pure (.yield (none,lo+n))
noncomputable def B1 (sz mr lo:Nat):StateT SortSt Sem (ForInStep RS):=if lo >= sz then pure (.done (none,lo)) else do
 match <- countRun' lo (sz-lo) with
 |some n=>
  if n<mr then
   liftM (rule "list.sort.binary-insertion")
   let q <- binarySort' lo (min (sz-lo) mr) n
   if (!q)=true then pure (.done (some (),lo)) else jn sz lo (min (sz-lo) mr)
  else jn sz lo n
 |_=>pure (.done (some (),lo))
noncomputable def B2 (sz:Nat):StateT SortSt Sem (Option Unit×Unit):=forIn [0:sz] ((none,()):Option Unit×Unit) λ_ _=>do
 let z <- get
 if (pendingOf z).size<=1 then pure (.done (none,())) else do
  let q <- mergeAt' (if ((if (pendingOf z).size-2>0 then (pendingOf z)[(pendingOf z).size-2-1]?.map (·.2.1) else none).any (·<((pendingOf z)[(pendingOf z).size-2+1]?.elim 0 (·.2.1))))=true then (pendingOf z).size-2-1 else (pendingOf z).size-2)
  if (!q)=true then pure (.done (some (),())) else pure (.yield (none,()))
theorem aq0:sortRuns'=(do
 let z <- get
 let r <- (forIn [0:(arrOf z).size] ((none,0):RS) λ_ r=>B1 (arrOf z).size (minRun' (arrOf z).size (arrOf z).size 0) r.2)
 match r.1 with
 |some u=>pure u
 |none=>do
  let q <- B2 (arrOf z).size
  match q.1 with
  |some u=>pure u
  |none=>pure ()):=by kernel_rfl
theorem B3 {lo nn:Nat}(n1:0<nn){pd:Array (Nat×Nat×Nat)}{a:Array Keyed}(r:Rn rk a (sk pd) lo)(u:Up rk a lo (lo+nn)):Rn rk a (sk (pd.push (lo,nn,0))) (lo+nn):=by
 have e:sk (pd.push (lo,nn,0))=sk pd++[(lo,nn)]:=by simp[sk]
 refine⟨by rw[e];exact r.ch.join ⟨rfl,n1,rfl⟩,λq hq=>?_⟩
 rw[e]at hq
 rcases aS4.mp hq with z|z
 ·exact r.up q z
 ·rw[aM5]at z
  subst z
  exact u
theorem B4 (c:cF prog w A E s κ Ok rk)(o:bG Ok a0)(b:SB κ a0 pd st){lo n:Nat}{Q:ForInStep RS->SortSt->Prop}(n1:1<=n)(n2:lo+n<=a0.size)(rn:Rn rk (arrOf st) (sk pd) lo)(u:Up rk (arrOf st) lo (lo+n))(h:∀pd' st',SB κ a0 pd' st'->Rn rk (arrOf st') (sk pd') (lo+n)->Q (.yield (none,lo+n)) st'):wpS (model prog w) A E s (jn a0.size lo n) Q st:=by
 unfold jn
 refine aK6 (wpS_get ?_)
 rw[b.pd]
 cases hb:pd.back? with
 |none=>exact aK6 (wpS_modify (aL3 (h (pd.push (lo,n,0)) _ ⟨b.pm,b.kd,b.ok,by show (pendingOf st).push _=_;rw[b.pd]⟩ (B3 n1 rn u))))
 |some q=>
  obtain⟨s1,m1,q3⟩:=q
  dsimp only
  generalize power' a0.size (2*s1+m1) (2*s1+m1+m1+n) a0.size=pw
  unfold B0
  refine aK6 (aX1 (aQ2
   (I:=λ_ r st'=>r=(none,())/\∃pd,SB κ a0 pd st'/\Rn rk (arrOf st') (sk pd) lo/\Up rk (arrOf st') lo (lo+n))
   (Q:=λr st'=>r=(none,())/\∃pd,SB κ a0 pd st'/\Rn rk (arrOf st') (sk pd) lo/\Up rk (arrOf st') lo (lo+n)) ?_ (λ_ _ z=>z) ⟨rfl,pd,b,rn,u⟩) ?_)
  ·rintro t r st4 _ ht ⟨rfl,pd4,b4,r4,u4⟩
   refine aK6 (wpS_get ?_)
   rw[b4.pd]
   cases ho:(if pd4.size>1 then pd4[pd4.size-2]? else none) with
   |none=>exact aL3 ⟨rfl,pd4,b4,r4,u4⟩
   |some z=>
    obtain⟨z1,z2,z3⟩:=z
    have h1:pd4.size>1:=by
     by_cases y:pd4.size>1
     ·exact y
     ·rw[if_neg y]at ho;cases ho
    dsimp only
    by_cases hp:z3<=pw
    ·rw[if_pos hp]
     exact aL3 ⟨rfl,pd4,b4,r4,u4⟩
    ·rw[if_neg hp]
     refine aK6 (A9 c o b4 (by omega) (by omega) r4 λpd5 st5 b5 _ r5 f5=>?_)
     exact aL3 ⟨rfl,pd5,b5,r5,λi j hi hij hj=>by rw[f5 i hi,f5 j (by omega)];exact u4 i j hi hij hj⟩
  ·rintro r st4 ⟨rfl,pd4,b4,r4,u4⟩
   refine aK6 (wpS_modify (aK6 (wpS_modify (aL3 ?_))))
   have e:sk (pd4.modify (pd4.size-1) λx=>(x.1,x.2.1,pw))=sk pd4:=by
    unfold sk
    rw[Array.toList_modify]
    apply List.ext_getElem?
    intro t
    rw[aM9,aM9,List.getElem?_modify]
    cases pd4.toList[t]? with
    |none=>simp
    |some v=>by_cases y:pd4.size-1=t<;>simp[y]
   refine h ((pd4.modify (pd4.size-1) λx=>(x.1,x.2.1,pw)).push (lo,n,0)) _ ⟨b4.pm,b4.kd,b4.ok,?_⟩ (B3 n1 (by rw[e];exact r4) u4)
   show ((pendingOf st4).modify ((pendingOf st4).size-1) λx=>(x.1,x.2.1,pw)).push _=_
   rw[b4.pd]
theorem aq1 (c:cF prog w A E s κ Ok rk)(o:bG Ok a0)(b:SB κ a0 #[] st){Q:Unit->SortSt->Prop}(h2:1<=a0.size)(h:∀st',(arrOf st').Perm a0->failedOf st'=none->Up rk (arrOf st') 0 a0.size->Q () st'):wpS (model prog w) A E s sortRuns' Q st:=by
 rw[aq0]
 refine aK6 (wpS_get ?_)
 rw[b.sz]
 generalize minRun' a0.size a0.size 0=mr
 refine aK6 (aX1 (aQ2
  (I:=λx r st'=>∃lo pd,r=(none,lo)/\x<=lo/\lo<=a0.size/\SB κ a0 pd st'/\Rn rk (arrOf st') (sk pd) lo)
  (Q:=λr st'=>∃pd,r=(none,a0.size)/\SB κ a0 pd st'/\Rn rk (arrOf st') (sk pd) a0.size) ?_ ?_ ⟨0,#[],rfl,aK8 _,aP3 _,b,⟨rfl,λr hr=>absurd hr (by simp[sk])⟩⟩) ?_)
 ·rintro x r st1 _ hx ⟨lo,pd,rfl,xl,lz,b1,rn⟩
  unfold B1
  dsimp only
  by_cases hd:lo >= a0.size
  ·rw[if_pos hd]
   have e:lo=a0.size:=by omega
   subst e
   exact aL3 ⟨pd,rfl,b1,rn⟩
  ·rw[if_neg hd]
   refine aK6 (ao4 c o b1 (by omega) (by omega) λn st2 b2 n1 n2 u2 l2=>?_)
   have rn2:=rn.same l2
   dsimp only
   by_cases hmr:n<mr
   ·rw[if_pos hmr]
    refine aK6 (wpS_lift (aV8 ⟨rfl,?_⟩))
    refine aK6 (ao5 c o b2 (by omega) (by omega) u2 λst3 b3 u3 l3=>?_)
    rw[if_neg (by decide)]
    exact B4 c o b3 (by omega) (by omega) (rn2.same l3) u3 λpd' st' b' r'=>⟨_,pd',rfl,by omega,by omega,b',r'⟩
   ·rw[if_neg hmr]
    exact B4 c o b2 n1 (by omega) rn2 u2 λpd' st' b' r'=>⟨lo+n,pd',rfl,by omega,by omega,b',r'⟩
 ·rintro r st1 ⟨lo,pd,rfl,xl,lz,b1,rn⟩
  have e:lo=a0.size:=by omega
  subst e
  exact⟨pd,rfl,b1,rn⟩
 ·rintro r st1 ⟨pd,rfl,b1,rn⟩
  dsimp only
  unfold B2
  refine aK6 (aX1 (aQ2
   (I:=λt r st'=>r=(none,())/\∃pd,SB κ a0 pd st'/\Rn rk (arrOf st') (sk pd) a0.size/\(pd.size+t<=a0.size∨pd.size<=1))
   (Q:=λr st'=>r=(none,())/\∃pd,SB κ a0 pd st'/\Rn rk (arrOf st') (sk pd) a0.size/\pd.size<=1) ?_ ?_ ⟨rfl,pd,b1,rn,.inl (by have:=rn.ch.len;rw[p7]at this;omega)⟩) ?_)
  ·rintro t r st2 _ ht ⟨rfl,pd,b2,rn2,pr⟩
   refine aK6 (wpS_get ?_)
   rw[b2.pd]
   by_cases h1:pd.size<=1
   ·rw[if_pos h1]
    exact aL3 ⟨rfl,pd,b2,rn2,h1⟩
   ·rw[if_neg h1]
    refine aK6 (A9 c o b2 ?_ (aK8 _) rn2 λpd' st3 b3 sz3 rn3 _=>?_)
    ·split<;>split<;>omega
    ·exact aL3 ⟨rfl,pd',b3,rn3,by omega⟩
  ·rintro r st2 ⟨rfl,pd,b2,rn2,pr⟩
   exact⟨rfl,pd,b2,rn2,by omega⟩
  ·rintro r st2 ⟨rfl,pd,b2,rn2,pr⟩
   refine aL3 (h st2 b2.pm b2.ok ?_)
   have ch:=rn2.ch
   have up:=rn2.up
   rw[<- p7]at pr
   cases e:sk pd with
   |nil=>rw[e]at ch;exact absurd (show 0=a0.size from ch) (by omega)
   |cons r l=>
    rw[e]at ch up pr
    have el:l = []:=List.eq_nil_of_length_eq_zero (by have:=pr;rw[aS9]at this;omega)
    subst el
    obtain⟨p,n⟩:=r
    obtain⟨q1,q2,q3⟩:=ch
    have q1:p=0:=q1
    have q3:0+n=a0.size:=q3
    subst q1
    have:=up (0,n) (by simp)
    rw[<- q3];exact this
end SO
namespace L2
open PySem PySem.Spec PyProof.Rows SO
noncomputable abbrev eW (h:Heap)(a:Addr)(vs:List Value):Heap:=((h.update a (Obj.mapSeq λ_=>#[])).push (seqObj "tuple" vs.toArray 0)).push (seqObj "list" #[] 0)
noncomputable abbrev eY (h:Heap)(vs:List Value):Heap:=((h.push (seqObj "list" #[] 0)).update h.objs.size (Obj.mapSeq (·++vs.toArray))).push (seqObj "list" vs.toArray 0)
theorem aq2 {h:Heap}{vs:List Value}{b:Addr}{o:Obj}(e:h.get? b=some o):(eY h vs).get? b=some o:=by
 have l:=aL8 e
 refine aK4 _ ?_
 rw[Heap.get?_update_ne _ _ _ _ (aN6 l)]
 exact aK4 _ e
theorem aq3 {h:Heap}{vs:List Value}{a b:Addr}{o:Obj}(hb:b≠a)(e:h.get? b=some o):(eW h a vs).get? b=some o:=by
 refine aK4 _ (aK4 _ ?_)
 rw[Heap.get?_update_ne _ _ _ _ hb];exact e
theorem aq4 {prog:Program}{w:World}{A:Around}{E:Value->Shared->Prop}{s:Shared}{a:Addr}{vs:List Value}{n:Nat}{P:PySem.Fin->Shared->Prop}{κ:SortKind}{Ok:Keyed->Prop}{rk:Keyed->Int}(e:s.heap.get? a=some (seqObj "list" vs.toArray n))(h2:2<=vs.length)(big:vs.length<=sizeLine)(hk:∀Q:SortKind->Shared->Prop,Q κ { s with heap:=eW s.heap a vs }->wpAny (model prog w) A (keyKind' vs.toArray) Q E { s with heap:=eW s.heap a vs })(c:cF prog w A E { s with heap:=eW s.heap a vs } κ Ok rk)(o:∀v∈vs,Ok (v,v))(q:∀out:List Value,out.Perm vs->out.Pairwise (λu v=>rk (u,u)<=rk (v,v))->P (.done (.ret .none)) { s with heap:=sortedHeap s.heap a vs out.toArray }):wpAny (model prog w) A (Builtin.«list.sort» ⟨[.ref a],[]⟩) P E s:=by
 have la:=aL8 e
 have cc:¬vs.toArray.size<2:=by simpa using h2
 obtain⟨k,ek⟩:∃k,(s.heap.update a (Obj.mapSeq λ_=>#[])).get? a=some (seqObj "list" #[] k):=⟨_,get?_update_seq e λ_=>#[]⟩
 have there:(eW s.heap a vs).get? a=some (seqObj "list" #[] k):=aK4 _ (aK4 _ ek)
 rw[list_sort_plain]
 apply aK2
 apply listItems_at e rfl
 apply aK2
 refine listUpdate_at e rfl ?_ (by simpa using big) (aP3 _)
 apply aK2
 apply seqEpoch_at ek rfl
 apply aK2
 refine wpAny_newTuple ?_ big
 apply aK2
 refine wpAny_newList ?_ (aP3 _)
 apply aV1
 simp only[cc,aT6]
 apply aK2
 refine hk _ ?_
 have zl:(vs.toArray.zip vs.toArray).toList=vs.zip vs:=by simp
 apply aK2
 refine aR0 (aq1 (a0:=vs.toArray.zip vs.toArray) (Q:=λ_ st'=>(arrOf st').Perm (vs.toArray.zip vs.toArray)/\failedOf st'=none/\Up rk (arrOf st') 0 (vs.toArray.zip vs.toArray).size) c (λx hx=>?_) ⟨Array.Perm.refl _,rfl,rfl,rfl⟩ (by simp;omega) λst' a1 a2 a3=>⟨a1,a2,a3⟩) ?_ λ_ _ z=>z
 ·have hx':x∈vs.zip vs:=by rw[<- zl];exact Array.mem_toList_iff.mpr hx
  obtain⟨y1,y2⟩:=mem_zip_self hx'
  have:=o x.1 y2
  have ex:x=(x.1,x.1):=Prod.ext rfl y1.symm
  rw[ex];exact this
 ·rintro⟨⟨⟩,st'⟩ s' ⟨rfl,pm,ok,up⟩
  have lp:(arrOf st').toList.Perm (vs.zip vs):=by rw[<- zl];exact Array.perm_iff_toList_perm.mp pm
  have out:(arrOf st').map (·.2)=((arrOf st').toList.map (·.2)).toArray:=by apply Array.toList_inj.mp;rw[Array.toList_map]
  have op:((arrOf st').toList.map (·.2)).Perm vs:=by
   have:=lp.map (·.2)
   rw[o0]at this;exact this
  have sz:(arrOf st').size=vs.length:=by rw[pm.size_eq];simp
  dsimp only
  apply aK2
  apply seqEpoch_at there rfl
  apply aK2
  refine listUpdate_at there rfl ?_ (aP3 _) (by rw[Array.size_map,sz];exact Nat.le_succ_of_le big)
  rw[ok]
  simp only[bne_self_eq_false,aN5,aT6]
  refine aK7 ?_
  have hq:=q _ op ?_
  ·rw[<- out]at hq;exact hq
  ·rw[List.pairwise_map,aR8]
   intro i j hi hj hij
   have hi':i<(arrOf st').size:=by simpa using hi
   have hj':j<(arrOf st').size:=by simpa using hj
   have h1:=up i j (aP3 _) (aR3 hij) (by simp;omega)
   rw[bY hi',bY hj']at h1
   have dg:∀x∈(arrOf st').toList,(x.2,x.2)=x:=λx hx=>Prod.ext (mem_zip_self (lp.mem_iff.mp hx)).1.symm rfl
   rw[dg _ (aR6 hi),dg _ (aR6 hj)]
   simpa using h1
theorem aq5 {vs vs':List Value}(h:vs.Perm vs'):∀{xs:List V},aQ xs vs->∃xs',xs'.Perm xs/\aQ xs' vs':=by
 induction h with
 |nil=>intro xs r;exact⟨xs,List.Perm.refl _,r⟩
 |cons v _ ih=>
  intro xs r
  cases r with
  |cons r t=>
   obtain⟨xs',p,r'⟩:=ih t
   exact⟨_::xs',p.cons _,.cons r r'⟩
 |swap u v l=>
  intro xs r
  cases r with
  |cons r t=>cases t with
   |cons r2 t2=>exact⟨_,List.Perm.swap _ _ _,.cons r2 (.cons r t2)⟩
 |trans _ _ ih1 ih2=>
  intro xs r
  obtain⟨x1,p1,r1⟩:=ih1 r
  obtain⟨x2,p2,r2⟩:=ih2 r1
  exact⟨x2,p2.trans p1,r2⟩
end L2
namespace L2
open PySem PySem.Spec PyProof.Rows
theorem bV.at {P:Program}{w:World}{H:Hp}{h:Heap}{a:Addr}{o:HO}(x:bV P w H h a o):∃ob,h.get? a=some ob:=by
 cases o with
 |lst xs=>obtain⟨_,_,_,_,e⟩:=x;exact⟨_,e⟩
 |tup xs=>obtain⟨_,_,_,⟨_,e,_⟩,_⟩:=x;exact⟨_,e⟩
 |dK kvs=>obtain⟨_,_,_,_,_,_,_,e,_⟩:=x;exact⟨_,e⟩
 |dT kvs=>obtain⟨_,_,_,_,_,_,_,e,_⟩:=x;exact⟨_,e⟩
 |set S n=>obtain⟨_,_,_,_,e,_⟩:=x;exact⟨_,e⟩
 |ins C dx fs=>obtain⟨_,_,_,e,_⟩:=x;exact⟨_,e⟩
 |own y=>exact x
 |xd fs=>obtain⟨_,⟨_,_,_,e,_⟩,_⟩:=x;exact⟨_,e⟩
 |rng lo hi=>obtain⟨_,_,_,e⟩:=x;exact⟨_,e⟩
 |frz ob u=>obtain⟨e,_⟩:=x;exact⟨_,e⟩
 |tbl ps=>exact⟨_,x⟩
 |met f y=>exact⟨_,x⟩
 |ext φ=>exact x.2.1
structure jJ (P:Program)(w:World)(outer:List Env)(H:Hp)(s:Shared)(H':Hp)(B:Heap)(a C:Addr)(s':Shared):Prop where
 os:s'.os=s.os
 bare:AllBare s'.gens
 un:Un (bH outer) [] H H' s.heap s'.heap
 hok:bN P w H' s'.heap
 fly:∃a0,Heap.FlyingW B outer a (.ref C) a0 s'.heap
 b0:∀b o,s.heap.get? b=some o->b∉bH outer->∃o',B.get? b=some o'
 b1:∀b o,s.heap.get? b=some o->H b=none->b∉bH outer->B.get? b=some o
 b2:∀b u o,H' b=some u->s'.heap.get? b=some o->B.get? b=some o
noncomputable def dD (P:Program)(w:World):fM:=λouter H s E e s'=>∃(H':Hp) (B:Heap) (a C:Addr),e = .ref a/\jJ P w outer H s H' B a C s'/\E (.ref C) none H'
section
variable {P:Program}{w:World}{outer:List Env}{H H':Hp}{s s':Shared}{B h2:Heap}{a C:Addr}
theorem jJ.fresh (f:jJ P w outer H s H' B a C s'):H' a=none:=by
 cases q:H' a with
 |none=>rfl
 |some u=>
  obtain⟨ob,e⟩:=(f.hok a u q).at
  have z:=f.b2 a u ob q e
  obtain⟨_,_,n,_⟩:=f.fly
  rw[n]at z;cases z
theorem jJ.hok2 (f:jJ P w outer H s H' B a C s')(k:B.StaysIn h2):bN P w H' h2:=λb u e=>
 (f.hok b u e).stay (λc v hc q=>by
  rcases hc with z|z
  ·subst z;exact k _ _ (f.b2 _ _ _ e q)
  ·exact k _ _ (f.b2 _ _ _ z q)) (λ_ q=>q) λ_ _ q=>q
end
section
variable {P:Program}{w:World}{K:ac}{mg:Str→Option Value}{base:Heap}{N:List Str}{qual:Str}{scope:Scope}{f:Addr}{cd:Value}{A:Around}{outer:List Env}{s₀:Shared}{H₀:Hp}{E₀ E₁:XK}
theorem p9 {pins:List (Addr×Obj)}{σ:St}{H:Hp}{s:Shared}(I:a8 (cS (dD P w) P w K mg base N qual scope f cd A outer s₀ H₀ E₀) pins σ H s){b:Addr}{o:Obj}(e:s₀.heap.get? b=some o)(n:b∉bH outer) :
  b∉bH (envOfC qual scope s₀.heap.objs.size f cd::outer):=λz=>by
 rcases aL0.mp (I.stkSub b z) with y|y
 ·have l:=aL8 e
  have y:b=s₀.heap.objs.size:=y
  exact absurd l (by rw[y];exact aQ5 _)
 ·exact n y
theorem aq6 (hE:∀c d H',E₁ c d H'->E₀ c d H'):lL (dD P w) (cS (dD P w) P w K mg base N qual scope f cd A outer s₀ H₀ E₀) E₁:=by
 intro pins σ H s e s' I hx
 obtain⟨H',B,a,C,e1,fl,q⟩:=hx
 subst e1
 have I':=I.call' fl.os fl.un fl.hok fl.bare (ch:=[]) (λb z=>absurd z (by simp))
 obtain⟨a0,fly⟩:=fl.fly
 refine wpAny_leaves_onW I.ok.frames rfl fly λh' fly' up=>?_
 have slot:∀b o,s₀.heap.get? b=some o->b∈bH outer->∃sl,h'.get? b=some { o with slots:=sl }:=λb o e hb=>by
  obtain⟨sl,e1⟩:=I'.base.slot b o e (I.ok.frf b hb) hb (λz=>nomatch z)
  obtain⟨_,o2,e2,nf⟩:=I.ok.funs.mem hb
  rw[show (cS (dD P w) P w K mg base N qual scope f cd A outer s₀ H₀ E₀).s₀=s₀ from rfl,e]at e2
  cases e2
  obtain⟨sl',e3⟩:=up b _ e1 nf
  exact⟨sl',e3⟩
 have old:∀b o,s₀.heap.get? b=some o->H₀ b=none->b∉bH outer->B.get? b=some o:=λb o e n hb=>
  fl.b1 b o (I.base.keep b o e n hb (λz=>nomatch z)) (I.base.free b o e n (λz=>nomatch z)) (p9 I e hb)
 have old0:∀b o,s₀.heap.get? b=some o->b∉bH outer->∃o',B.get? b=some o':=λb o e hb=>by
  obtain⟨o1,e1⟩:=I.base.there b o e (λz=>nomatch z)
  exact fl.b0 b o1 e1 (p9 I e hb)
 refine⟨H',B,a,C,rfl,⟨I'.os,I'.bare,⟨λb o e n hb _=>fly'.1 _ _ (old b o e n hb),λb o e n hb _=>slot b o e hb,λb o e n hx=>I'.base.free b o e n hx,λb o e _=>?_,I'.base.tups,I'.base.frzs,I'.base.tbls⟩,fl.hok2 fly'.1,⟨a0,fly'⟩,old0,old,λb u o e h=>?_⟩,hE _ _ _ q⟩
 ·by_cases hb:b∈bH outer
  ·obtain⟨sl,e1⟩:=slot b o e hb
   exact⟨_,e1⟩
  ·obtain⟨o',e1⟩:=old0 b o e hb
   exact⟨o',fly'.1 _ _ e1⟩
 ·obtain⟨ob,e1⟩:=(fl.hok b u e).at
  have e2:=fl.b2 b u ob e e1
  have e3:=fly'.1 _ _ e2
  have h:h'.get? b=some o:=h
  rw[h]at e3;cases e3;exact e2
theorem aq7 {pins:List (Addr×Obj)}{σ:St}{H:Hp}{s:Shared}{h':Heap}{e C:Addr}{args:List Value}(I:a8 (cS (dD P w) P w K mg base N qual scope f cd A outer s₀ H₀ E₀) pins σ H s)(mx:Heap.MadeExcOf s.heap h' e (.ref C) args)(q:E₀ (.ref C) none H) :
  (cS (dD P w) P w K mg base N qual scope f cd A outer s₀ H₀ E₀).xe (.ref e) { s with heap:=h' }:=by
 have tr:∀b u,H b=some u->b∉bH (envOfC qual scope s₀.heap.objs.size f cd::outer):=λb u z n=>by
  rw[I.stkFree b n]at z;cases z
 have inB:∀b o,s.heap.get? b=some o->b∉bH (envOfC qual scope s₀.heap.objs.size f cd::outer)->(PySem.W.hideAll s.heap (bH (envOfC qual scope s₀.heap.objs.size f cd::outer))).get? b=some o:=λb o z n=>PySem.W.hideAll_get _ z n
 refine wpAny_leaves_madeW (base:=PySem.W.hideAll s.heap (bH (envOfC qual scope s₀.heap.objs.size f cd::outer))) I.ok.frames rfl (λb o z=>PySem.W.of_hideAll _ z) (PySem.W.funFrames_hide I.stack λenv he b hb=>List.mem_filterMap.mpr ⟨env,he,hb⟩) mx λh'' t fly _ _ up=>?_
 have slot:∀b o,s₀.heap.get? b=some o->b∈bH outer->∃sl,h''.get? b=some { o with slots:=sl }:=λb o e hb=>by
  obtain⟨sl,e1⟩:=I.base.slot b o e (I.ok.frf b hb) hb (λz=>nomatch z)
  obtain⟨_,o2,e2,nf⟩:=I.ok.funs.mem hb
  rw[show (cS (dD P w) P w K mg base N qual scope f cd A outer s₀ H₀ E₀).s₀=s₀ from rfl,e]at e2
  cases e2
  obtain⟨sl',e3⟩:=up b _ (mx.keeps _ _ e1) nf
  exact⟨sl',e3⟩
 have old:∀b o,s₀.heap.get? b=some o->H₀ b=none->b∉bH outer->(PySem.W.hideAll s.heap (bH (envOfC qual scope s₀.heap.objs.size f cd::outer))).get? b=some o:=λb o e n hb=>
  inB b o (I.base.keep b o e n hb (λz=>nomatch z)) (p9 I e hb)
 have old0:∀b o,s₀.heap.get? b=some o->b∉bH outer->∃o',(PySem.W.hideAll s.heap (bH (envOfC qual scope s₀.heap.objs.size f cd::outer))).get? b=some o':=λb o e hb=>by
  obtain⟨o1,e1⟩:=I.base.there b o e (λz=>nomatch z)
  exact⟨o1,inB b o1 e1 (p9 I e hb)⟩
 refine⟨H,_,e,C,rfl,⟨I.os,I.bare,⟨λb o e n hb _=>fly.1 _ _ (old b o e n hb),λb o e n hb _=>slot b o e hb,λb o e n hx=>I.base.free b o e n hx,λb o e _=>?_,I.base.tups,I.base.frzs,I.base.tbls⟩,λb u z=>?_,⟨_,fly⟩,old0,old,λb u o z h=>?_⟩,q⟩
 ·by_cases hb:b∈bH outer
  ·obtain⟨sl,e1⟩:=slot b o e hb
   exact⟨_,e1⟩
  ·obtain⟨o',e1⟩:=old0 b o e hb
   exact⟨o',fly.1 _ _ e1⟩
 ·refine (I.hok b u z).stay (λc v hc y=>?_) (λ_ y=>y) λ_ _ y=>y
  rcases hc with z'|z'
  ·subst z';exact fly.1 _ _ (inB _ _ y (tr _ _ z))
  ·exact fly.1 _ _ (inB _ _ y (tr _ _ z'))
 ·obtain⟨ob,e1⟩:=(I.hok b u z).at
  have e2:=inB b ob e1 (tr b u z)
  have e3:=fly.1 _ _ e2
  have h:h''.get? b=some o:=h
  rw[h]at e3;cases e3;exact e2
end
structure kR (X:Cx)(E:XK):Prop where
 pass:lL (dD X.prog X.w) X E
 made:∀(pins:List (Addr×Obj)) (σ:St) (H:Hp) (s:Shared) (h':Heap) (e C:Addr) (args:List Value),a8 X pins σ H s->Heap.MadeExcOf s.heap h' e (.ref C) args->E (.ref C) none H->X.xe (.ref e) { s with heap:=h' }
 own:PassesOwn (model X.prog X.w) X.A X.env X.xe
theorem aq8 {P:Program}{w:World}{K:ac}{mg:Str->Option Value}{base:Heap}{N:List Str}{qual:Str}{scope:Scope}{f:Addr}{cd:Value}{A:Around}{outer:List Env}{s₀:Shared}{H₀:Hp}{E₀ E₁:XK}(hE:∀c d H',E₁ c d H'->E₀ c d H') :
  kR (cS (dD P w) P w K mg base N qual scope f cd A outer s₀ H₀ E₀) E₁:=
 ⟨aq6 hE,λ_ _ _ _ _ _ _ _ I mx q=>aq7 I mx (hE _ _ _ q),PassesOwn.leaving⟩
noncomputable def B5 (E:XK)(C:Addr)(t:TA):TS:=λ_ σ H=>t σ H λvs H1=>vs.length<=sizeLine/\E (.ref C) none H1
theorem aq9 {X:Cx}{E:XK}{x:Str}{C:Addr}{bm:List Value}{B newId initId:String}{np cpos pos:Pos}{e:Expr}{es:List Expr}{t:TA}(hX:kR X E)(hc:X.calm=true)(O:OwnCls x C bm newId X.mg X.base)(FB:ExcBaseFacts B newId initId bm)(ha:PA X (e::es) t)(hg:Gl X x)(hd:(x==("__debug__":Str))=false:=by decide)(he:starEach (e::es) X.env=(false,eval e X.env)::starEach es X.env:=by rfl)(hpl:(backTo cpos (starEach es X.env)).any (·.1)=false:=by rfl) :
  PS X (.Raise (some (.Call (.Name x np) (e::es) [] cpos)) none pos) (B5 E C t):=by
 intro pins s σ H D I h
 obtain⟨tl,Na,nm,qn,bs,hx,sn,sub,ab,col,dd,k0,k1,k2,k3,k5,mN,hC,hN,hni,T⟩:=O.obj
 refine wpAny_Raise_call_subT (nm:=nm) (q:=qn) (N:=Na) (bs:=bs) (bm:=tl) (hdct:=hx) (sn:=sn) (sub:=sub) (ab:=ab) (col:=col) (dd:=dd) (k0:=k0) (k1:=k1) (k2:=k2) (k3:=k3) (k5:=k5) FB (C:=C) (mN:=mN) (T.hasType FB.hasBase) (I.ok.hd hc) (by rw[he];show (false||(backTo cpos (starEach es X.env)).any (·.1))=false;rw[hpl];rfl) hni (lB I hg O.bound ⟨rfl,?_⟩ hd)
 have h1:=ha cpos pins s σ H _ I h
 rw[he]at h1 ⊢
 refine Calls.evalArgs_plain (aR0 h1 (λus s2 h2=>?_) λ_ _ y=>y)
 obtain⟨vs,H2,I2,r,hl,q⟩:=h2
 have r:aQ vs us:=r
 exact⟨rfl,by show us.length<=sizeLine;rw[<- r.length];exact hl,I2.bk _ _ hC,hN.keeps I2.bk,T.keeps I2.bk,λh' e' mx=>hX.made pins σ H2 s2 h' e' C _ I2 mx q⟩
theorem eJ.okX {P:Program}{w:World}{K:ac}{mg:Str->Option Value}{base:Heap}{x qual:Str}{st:Stmt}{f:Addr}{fd:FuncData}{N ps:List Str}{k:Nat}{sp:Sp}(F:eJ K x qual st f fd)(S:FnScope N ps (aX st))(len:∀vs H Q E,sp vs H Q E->vs.length=ps.length)(hbody:∀(cdv:Value) (A:Around) (outer:List Env) (s:Shared) (H:Hp) (vs:List V) (Q:VK) (E:XK),bW k (A.deeper (envOfC qual (aX st) s.heap.objs.size f cdv))->sp vs H Q E->
   ∃t,cZ (cS (dD P w) P w K mg base N qual (aX st) f cdv A outer s H E) (dO st) t/\t { nx:=λ_ H'=>Q .non H',rt:=Q } (fN N vs) H):cR P w K mg base (dD P w) (k+1) f fd ps sp:=by
 obtain⟨oc,od,kV,doc,pm,an,cdv,ct,osl,rfl,lk,hcd⟩:=F.ex
 exact wH lk hcd S len λA outer s H vs Q E hr hsp=>hbody cdv A outer s H vs Q E hr hsp
section
variable {X:Cx}{pins:List (Addr×Obj)}{σ:St}{H H1 H':Hp}{s s1 s':Shared}{B h2:Heap}{a C:Addr}
theorem B6 {oe:Obj}(I:a8 X pins σ H1 s1)(fl:jJ X.prog X.w X.stack H1 s1 H' B a C s')(st:B.StaysIn h2)(up:s'.heap.UpToSlots h2)(he:h2.get? a=some oe) :
  a8 X pins σ (upd H' a (.frz oe (.own a))) { s' with heap:=h2 }:=by
 obtain⟨a0,fly⟩:=fl.fly
 have na:B.get? a=none:=fly.2.1
 have nf:a∉bH X.stack:=λz=>by
  obtain⟨_,o,e,d⟩:=fly.2.2.1.mem z
  obtain⟨o2,vs,e2,_,d2,_⟩:=fly.first
  rw[e]at e2;cases e2
  exact d vs d2
 have nb:∀b o,s1.heap.get? b=some o->b≠a:=λb o e z=>by
  subst z
  obtain⟨o',e'⟩:=fl.b0 _ o e nf
  rw[na]at e';cases e'
 have nt:∀b u,H' b=some u->b≠a:=λb u e z=>by
  subst z;rw[fl.fresh]at e;cases e
 have off:∀b,b≠X.env.locals->b∉X.fs->b∉bH X.stack:=λb n1 n2 z=>(aL0.mp (I.stkSub b z)).elim n1 n2
 have slot:∀b o,s1.heap.get? b=some o->b∈bH X.stack->∃sl,h2.get? b=some { o with slots:=sl }:=λb o e hb=>by
  obtain⟨sl,e1⟩:=fl.un.any e (I.stkFree b hb) (λz=>nomatch z)
  obtain⟨_,o2,e2,d⟩:=I.stack.mem hb
  rw[e]at e2;cases e2
  obtain⟨sl',e3⟩:=up b _ e1 d
  exact⟨sl',e3⟩
 have ns:∀m,s1.heap.Ns X.env.locals m->h2.Ns X.env.locals m:=λm hm=>by
  obtain⟨o,es,ep,e,r⟩:=hm
  obtain⟨sl,e1⟩:=fl.un.any e I.free (λz=>nomatch z)
  exact up.ns ⟨_,es,ep,e1,r⟩
 have hok:bN X.prog X.w (upd H' a (.frz oe (.own a))) h2:=λb u e=>by
  by_cases hb:b=a
  ·subst hb;rw[bP]at e;cases e;exact⟨he,_,he⟩
  ·rw[b9 hb]at e
   exact (fl.hok2 st b u e).stay (λ_ _ _ q=>q) (λc q=>by rw[b9 (nt c _ q)];exact q) λc xs q=>by rw[b9 (nt c _ q)];exact q
 have bare:=fl.bare
 have un:=fl.un
 have b0:=fl.b0
 have b1:=fl.b1
 have os:=fl.os
 clear fl fly up
 obtain⟨hh,g,d,t,os'⟩:=s'
 obtain rfl:os'=s1.os:=os
 show a8 X pins σ _ { s1 with heap:=h2,gens:=g,drawn:=d,toks:=t }
 refine I.step (h':=h2) (g':=g) (d':=d) (t':=t) (ch:=[]) (λ_ z=>nomatch z) (λb o n1 n2 _ e n=>st _ _ (b1 b o e n (off b n1 n2))) (λb o n1 hb _ e n=>?_) (λb o _ e n=>by rw[b9 (nb b o e)];exact un.free b o e n (λz=>nomatch z)) (λb o _ e=>?_)
  (λb xs q=>by rw[b9 (nt b _ (un.tups b xs q))];exact un.tups b xs q) (λb o u q=>by rw[b9 (nt b _ (un.frzs b o u q))];exact un.frzs b o u q) (λb ps q=>by
   obtain⟨more,q'⟩:=un.tbls b ps q
   exact⟨more,by rw[b9 (nt b _ q')];exact q'⟩) ns hok bare
 ·by_cases hs:b∈bH X.stack
  ·exact slot b o e hs
  ·exact⟨o.slots,st _ _ (b1 b o e n hs)⟩
 ·by_cases hb:b∈bH X.stack
  ·obtain⟨sl,e1⟩:=slot b o e hb
   exact⟨_,e1⟩
  ·obtain⟨o',e1⟩:=b0 b o e hb
   exact⟨o',st _ _ e1⟩
noncomputable abbrev Cx.suite (X:Cx)(a:Addr):Cx:={ X with A:=X.A.mark (some (.ref a)),calm:=false,xe:=λ_ _=>False }
theorem Cx.Ok.suite {X:Cx}(ok:X.Ok)(a:Addr):(X.suite a).Ok:=
 ⟨ok.mod,ok.kind,ok.glob,ok.blt,ok.above,ok.inj,ok.has,ok.cab,λz=>Bool.noConfusion z,ok.frames,ok.stk,ok.exf,ok.bs,ok.bsz,ok.noex,ok.exfs,ok.funs,ok.frf⟩
theorem a8.suite (I:a8 X pins σ H s)(a:Addr):a8 (X.suite a) pins σ H s:=⟨I.ok.suite a,I.os,I.bare,I.base,I.loc,I.cell,I.free,I.freeC,I.pin,I.hok,I.len⟩
theorem a8.unsuite (I:a8 (X.suite a) pins σ H s)(ok:X.Ok):a8 X pins σ H s:=⟨ok,I.os,I.bare,I.base,I.loc,I.cell,I.free,I.freeC,I.pin,I.hok,I.len⟩
theorem pA {M:Model}{A:Around}{E:Value->Shared->Prop}{i:Nat}{x:Str}{pos:Pos}{Q:Unit->Shared->Prop}(I:a8 X pins σ H s)(hN:X.N.Nodup)(hi:X.N[i]? = some x)(hk:X.env.scope.names.lookup x=some .local)(h:∀s',a8 X pins (σ.set i none) H s'->Q () s'):wpAny M A (do bindName X.env x .none;unbindBehindTheSuite X.env x pos) Q E s:=by
 obtain⟨m,hn,hl⟩:=id I.loc
 obtain⟨oL,_,_,hoL,_⟩:=id hn
 have ab:∀b o,X.s₀.heap.get? b=some o->b≠X.env.locals:=λb o e=>aN6 (aL4 (aL8 e) I.ok.above)
 refine wpAny_nameGoes_keeps hk hn (by rw[I.ok.kind];rfl) λh' v hn' hs=>?_
 refine h _ ⟨I.ok,I.os,I.bare,⟨λb o e n hb hx=>(hs.2 b (ab b o e)).trans (I.base.keep b o e n hb hx),λb o e n hb hx=>?_,I.base.free,λb o e hx=>?_,I.base.tups,I.base.frzs,I.base.tbls⟩,⟨_,hn',λj y v' e1 e2 e3=>?_⟩,λy c e=>?_,I.free,I.freeC,λp hp=>?_,λb u e=>?_,by simpa using I.len⟩
 ·obtain⟨sl,e1⟩:=I.base.slot b o e n hb hx
  exact⟨sl,(hs.2 b (ab b o e)).trans e1⟩
 ·obtain⟨o',e1⟩:=I.base.there b o e hx
  exact⟨o',(hs.2 b (ab b o e)).trans e1⟩
 ·by_cases hj:j=i
  ·subst hj
   have hjl:j<σ.length:=by rw[I.len];exact (aM0.mp hi).1
   rw[aQ1 hjl]at e2
   cases e2
  ·rw[aM7 (Ne.symm hj)]at e2
   obtain⟨u',r',q⟩:=hl j y v' e1 e2 e3
   refine⟨u',r',?_⟩
   rcases q with⟨k,e⟩|⟨k,c,e,z⟩
   ·have ny:y≠x:=λz=>hj (qI hN e1 (z▸hi))
    exact .inl ⟨k,by simp[ny,e]⟩
   ·exact .inr ⟨k,c,e,z.sameBut hs (I.cne y c e)⟩
 ·obtain⟨w',z⟩:=I.cell y c e
  exact⟨w',z.sameBut hs (I.cne y c e)⟩
 ·obtain⟨e,n,ne,nf,d⟩:=I.pin p hp
  exact⟨(hs.2 p.1 ne).trans e,n,ne,nf,d⟩
 ·refine (I.hok b u e).stay (λc v hc q=>(hs.2 c λz=>?_).trans q) (λ_ q=>q) λ_ _ q=>q
  subst z
  rcases hc with z|z
  ·subst z;rw[I.free]at e;cases e
  ·rw[I.free]at z;cases z
theorem ar0 {M:Model}{A:Around}{E:Value->Shared->Prop}{K:ac}{e C D:Addr}{oe:Obj}{Q:Bool->Shared->Prop}(k:K.In s.heap)(he:s.heap.get? e=some oe)(hc:oe.cls = .ref C)(h1:(PySem.W.clsIn K D).isSome=true)(h2:PySem.W.typeIn K (.ref D)=some (.type "type"))(h3:PySem.W.subIn K (.ref D) (.type "BaseException")=some true)(h4:PySem.W.subIn K (.ref C) (.ref D)=some true)(hq:Q true s):wpAny M A (excMatches (.ref e) (.ref D)) Q E s:=by
 obtain⟨h,g,d,t,os⟩:=s
 have k:K.In h:=k
 have he:h.get? e=some oe:=he
 have l1:PySem.W.Looks M h (isType (.ref D)) true:=by
  unfold PySem.W.clsIn at h1
  split at h1
  ·rename_i c' d' cd' sl' ho
   intro A' Q' E' s' kk q
   unfold isType loadHead
   exact aK2 (wpAny_loadPart (kk _ _ (k _ _ ho)) (aK7 q))
  ·cases h1
 have l2:PySem.W.Looks M h (typeOf (.ref D)) (.type "type"):=PySem.W.looks_typeIn k h2
 have l3:PySem.W.Looks M h (isSubtype (.ref D) (.type "BaseException")) true:=PySem.W.looks_subIn k h3
 have l4:PySem.W.Looks M h (isSubtype (.ref C) (.ref D)) true:=PySem.W.looks_subIn k h4
 have l5:PySem.W.Looks M h (typeOf (.ref e)) (.ref C):=hc▸(PySem.W.Looks.ld he).andThen .now
 have l6:PySem.W.Looks M h (isInstance (.ref D) (.type "tuple")) false:=l2.andThen (PySem.W.Looks.of_pure tc_notTuple)
 have l7:PySem.W.Looks M h (isExcClass (.ref D)) true:=by
  unfold isExcClass
  exact l1.andThen (by simpa using l3)
 have f:=tc_notTuple
 unfold excMatches
 repeat (first|exact hq|(with_reducible refine l2.at ?_)|(with_reducible refine l7.at ?_)|(with_reducible refine l1.at ?_)|(with_reducible refine l3.at ?_)|(with_reducible refine l5.at ?_)|(with_reducible refine l4.at ?_)|wp_step)
end
noncomputable def u6 (D:cX)(i:Nat):cX:={ nx:=λσ H=>D.nx (σ.set i none) H,rt:=D.rt,bk:=λσ H=>D.bk (σ.set i none) H,ct:=λσ H=>D.ct (σ.set i none) H }
section
variable {X:Cx}{pins:List (Addr×Obj)}{σ:St}{H H1 H':Hp}{s s1 s':Shared}{B:Heap}{a C Ch:Addr}{i:Nat}{x n:Str}{np pos hpos:Pos}{b₀:Stmt}{suite:List Stmt}{ts:TS}{D:cX}{cC:List ExceptHandler}
structure u7 (K:ac)(Ch:Addr):Prop where
 c1:(PySem.W.clsIn K Ch).isSome=true
 c2:PySem.W.typeIn K (.ref Ch)=some (.type "type")
 c3:PySem.W.subIn K (.ref Ch) (.type "BaseException")=some true
theorem ar1 (I:a8 X pins σ H1 s1)(fl:jJ X.prog X.w X.stack H1 s1 H' B a C s')(hstk:X.stack=X.env::X.outer/\X.env.frame=some X.env.locals)(hg:Gl X x)(hm:X.mg x=some (.ref Ch))(ct:u7 X.K Ch)(sub:PySem.W.subIn X.K (.ref C) (.ref Ch)=some true)(hN:X.N.Nodup)(hi:X.N[i]? = some n)(hl:X.env.scope.names.lookup n=some .local)(hs:cZ (X.suite a) (b₀::suite) ts)(q:∀oe:Obj,oe.cls = .ref C->ts (u6 D i) (σ.set i (some (.ref a))) (upd H' a (.frz oe (.own a))))(hd:(x==("__debug__":Str))=false) :
  wpAny (model X.prog X.w) X.A (noteFrame (.ref a) X.env) (λ_ s₂=>wpAny (model X.prog X.w) X.A (setFlight (.ref a) none) (λ_ s₃=>wpAny (model X.prog X.w) X.A (handleBy (.ref a) X.env (.ExceptHandler (some (.Name x np)) (some n) (b₀::suite) hpos::cC)) (SP X pins D) X.xe s₃) X.xe s₂) X.xe s':=by
 obtain⟨a0,fly⟩:=fl.fly
 rw[hstk.1]at fly
 refine wpAny_looks_onW (outer:=X.outer) (L:=X.env.locals) (by rw[I.ok.frames,hstk.1]) hstk.2 fly λh4 held up4=>wpAny_landsW held λh5 fly5 up5=>?_
 obtain⟨o5,v5,e5,c5,_⟩:=fly5.first
 have I5:=B6 I fl fly5.1 (up4.trans up5) e5
 refine wpAny_handleBy_cons (codeAny_handlers_test (lB (I5.suite a) hg hm ?_ hd)) (by intro z;cases z)
 refine ar0 I5.kIn e5 c5 ct.c1 ct.c2 ct.c3 sub ?_
 show codeAny (model X.prog X.w) (X.A.mark (some (.ref a))) (.handlers (.ref a) [.ExceptHandler none (some n) (b₀::suite) hpos] X.env) _ _
 refine codeAny_handlers_suite_as (lands_againW fly5 λh6 fly6 up6=>?_)
 obtain⟨o6,v6,e6,c6,_⟩:=fly6.first
 have I6:=B6 I fl fly6.1 ((up4.trans up5).trans up6) e6
 refine qJ I6 hN hi (.inl hl) (v:=.ref a) rfl (λs7 I7=>?_) (.inr hl)
 refine aR0 (hs pins s7 _ _ (u6 D i) (I7.suite a) (q o6 c6)) (λf s8 h8=>?_) λ_ _ z=>z.elim
 show wpAny (model X.prog X.w) X.A (do bindName X.env n .none;unbindBehindTheSuite X.env n hpos) (λ_ s9=>SP X pins D f s9) X.xe s8
 cases f with
 |next=>obtain⟨σ',H',J,q⟩:=h8;exact pA (J.unsuite I.ok) hN hi hl λs9 J9=>⟨_,_,J9,q⟩
 |brk=>obtain⟨σ',H',J,q⟩:=h8;exact pA (J.unsuite I.ok) hN hi hl λs9 J9=>⟨_,_,J9,q⟩
 |cont=>obtain⟨σ',H',J,q⟩:=h8;exact pA (J.unsuite I.ok) hN hi hl λs9 J9=>⟨_,_,J9,q⟩
 |ret u=>obtain⟨v,σ',H',J,r,q⟩:=h8;exact pA (J.unsuite I.ok) hN hi hl λs9 J9=>⟨v,_,_,J9,r,q⟩
end
noncomputable abbrev TB:=cX->XK->St->Hp->Prop
noncomputable def XB (X:Cx)(pins:List (Addr×Obj))(σ:St)(Ex:XK):Value->Shared->Prop:=λe s'=>∃H1 s1,a8 X pins σ H1 s1/\dD X.prog X.w X.stack H1 s1 Ex e s'
noncomputable def PB (X:Cx)(sts:List Stmt)(t:TB):Prop:=
 ∀(pins:List (Addr×Obj)) (s:Shared) (σ:St) (H:Hp) (D:cX) (Ex:XK),a8 X pins σ H s->t D Ex σ H->wpAny (model X.prog X.w) X.A (execs sts X.env) (SP X pins D) (XB X pins σ Ex) s
noncomputable def ar2 (sp:Sp)(t:TA):TB:=λD Ex σ H=>t σ H λvs H1=>sp vs H1 (λ_ H2=>D.nx σ H2) Ex
section
variable {X:Cx}{k:Nat}{f Ch:Addr}{fd:FuncData}{ps:List Str}{sp:Sp}{x n:Str}{p cp pos np hpos:Pos}{e c:Expr}{es:List Expr}{t:TA}{tb ub:TB}{tc:TT}{sa sb body:List Stmt}{i:Nat}{b₀:Stmt}{suite:List Stmt}{ts:TS}
theorem ar3 (F:cR X.prog X.w X.K X.mg X.base (dD X.prog X.w) k f fd ps sp)(hr:bW k X.A)(hg:Gl X x)(hm:X.mg x=some (.ref f))(hk:PySem.W.keepIn X.K (.ref f)=true)(hb:hV X.K fd ps [])(ha:∀E,PA (X.wish E) (e::es) t)(hdb:(x==("__debug__":Str))=false:=by decide)(he:starEach (e::es) X.env=(false,eval e X.env)::starEach es X.env:=by rfl)(hpl:(backTo cp (starEach es X.env)).any (·.1)=false:=by rfl)(hsw:swapsWith (.Call (.Name x p) (e::es) [] cp) none pos.line X.env=pure false:=by rfl) :
  PB X [.Expr (.Call (.Name x p) (e::es) [] cp) pos] (ar2 sp t):=by
 intro pins s σ H D Ex I h
 refine wpAny_execs_cons (wpAny_Expr_any ?_ I.quiet hsw)
 refine wpAny_Call_Name_kw (lB I hg hm ?_ hdb)
 refine PySem.W.callWith_K (h₀:=X.base) I.ok.mod.kin hk (aR (ha (XB X pins σ Ex) cp pins s σ H _ (I.wish _) h) λus s1 h1=>⟨?_,?_⟩) he hpl
 ·obtain⟨_,_,I1,_⟩:=h1
  exact I1.kIn
 ·obtain⟨vs,H1,I1,r,q⟩:=h1
  have I1:=I1.unwish
  have hl:us.length=ps.length:=by rw[<- r.length];exact F.len _ _ _ _ q
  have bd:=hb s1 us I1.kIn (by rw[aO7];exact hl)
  rw[aO7]at bd
  refine wpAny_call (codeAny_mono (F.run X.A X.stack s1 H1 ⟨us,[]⟩ us vs _ Ex hr I1.env0 bd r q) λrs s' hq=>?_)
  cases rs with
  |error ev=>exact⟨H1,s1,I1,hq⟩
  |ok fl=>
   cases fl with
   |ret u=>
    obtain⟨v,H2,I2,_,q2⟩:=I1.after hq
    exact wpAny_execs_nil ⟨σ,H2,I2,q2⟩
   |next=>exact False.elim hq
   |brk=>exact False.elim hq
   |cont=>exact False.elim hq
noncomputable def B7 (K:ac)(Ch:Addr)(i:Nat)(tb:TB)(ts:TS):TS:=λD σ H=>
 tb D (λc _ H'=>∀(a C:Addr) (oe:Obj),c = .ref C->H' a=none->oe.cls = .ref C->PySem.W.subIn K (.ref C) (.ref Ch)=some true/\ts (u6 D i) (σ.set i (some (.ref a))) (upd H' a (.frz oe (.own a)))) σ H
theorem ar4 (hstk:X.stack=X.env::X.outer/\X.env.frame=some X.env.locals)(hb:PB X body tb)(hg:Gl X x)(hm:X.mg x=some (.ref Ch))(ct:u7 X.K Ch)(hN:X.N.Nodup)(hi:X.N[i]? = some n)(hl:X.env.scope.names.lookup n=some .local)(hs:∀a,cZ (X.suite a) (b₀::suite) ts)(hd:(x==("__debug__":Str))=false:=by decide):PS X (.Try body [.ExceptHandler (some (.Name x np)) (some n) (b₀::suite) hpos] [] [] pos) (B7 X.K Ch i tb ts):=by
 intro pins s σ H D I h
 refine wpAny_Try_except (aR0 (hb pins s σ H D _ I h) (λfl s1 q=>?_) (λev s1 q=>?_))
 ·cases fl with
  |next=>exact wpAny_execs_nil q
  |_=>exact q
 ·obtain⟨H1,s2,I1,H',B,a,C,e1,fl,q⟩:=q
  subst e1
  obtain⟨a0,fly⟩:=fl.fly
  obtain⟨o5,_,_,c5,_⟩:=fly.first
  exact ar1 I1 fl hstk hg hm ct (q a C o5 rfl fl.fresh c5).1 hN hi hl (hs a) (λoe hc=>(q a C oe rfl fl.fresh hc).2) hd
end
end L2
namespace L2
open PySem PySem.Spec PyProof.Rows PySem.Calls Builtin Builtin.ObjectAttr Builtin.Getset_descriptor
structure gS (K:ac)(D:Addr):Prop where
 cls:(PySem.W.clsIn K D).isSome=true
 ga:PySem.W.findIn K (.ref D) "__getattribute__" = some (some (.builtin "BaseException.__getattribute__"))
 gt:PySem.W.findIn K (.ref D) "__getattr__" = some none
 fc:PySem.W.findIn K (.ref D) "__class__" = some (some (.builtin "object.__class__"))
 fg:PySem.W.specialIn K (.builtin "object.__class__") "__get__" = some (some (.builtin "getset_descriptor.__get__"))
 ft:PySem.W.takesIn K (.builtin "object.__class__")=some true
 ob:PySem.W.mroIn K D (.type "object")=some true
 be:PySem.W.mroIn K D (.type "BaseException")=some true
noncomputable def iT (h:Heap)(x D:Addr):Prop:=∃ox:Obj,h.get? x=some ox/\ox.cls = .ref D
theorem iT.type {h:Heap}{x D:Addr}{M:Model}(I:iT h x D):PySem.W.Looks M h (typeOf (.ref x)) (.ref D):=by
 obtain⟨ox,e,c⟩:=I
 exact c▸(PySem.W.Looks.ld e).andThen .now
section
variable {prog:Program}{w:World}{A:Around}{E:Value→Shared→Prop}{K:ac}{x D:Addr}{h:Heap}{g:Array GenState}{d:Drawn}{t:Nat}{os:OsState}
theorem ar5 {M:Model}(F:gS K D)(k:K.In h):PySem.W.Looks M h (find (.ref x) (.ref D) "__class__") (.bind (.builtin "getset_descriptor.__get__") (.builtin "object.__class__")):=by
 have L1:=PySem.W.looks_findIn (M:=M) k F.fc
 have L2:=PySem.W.looks_specialIn (M:=M) k F.fg
 have L3:=PySem.W.looks_takesIn (M:=M) k F.ft
 unfold find
 refine L1.andThen (PySem.W.Looks.andThen (a:=some (Value.builtin "getset_descriptor.__get__")) L2 ?_)
 refine PySem.W.Looks.andThen (a:=some (Value.builtin "getset_descriptor.__get__",Value.builtin "object.__class__")) ?_ (PySem.W.Looks.tag .now)
 unfold dataDescriptor?
 exact L3.andThen .now
theorem ar6 {tp:Value}{R:Result->Shared->Prop}(F:gS K D)(k:K.In h)(I:iT h x D)(hq:R (.ok (.ret (.ref D))) ⟨h,g,d,t,os⟩):codeAny (model prog w) A (.call (.builtin "getset_descriptor.__get__") ⟨[.builtin "object.__class__",.ref x,tp],[]⟩) R ⟨h,g,d,t,os⟩:=by
 have L0:=I.type (M:=model prog w)
 have L1:=PySem.W.looks_mroIn (M:=model prog w) k F.ob
 refine codeAny_call_builtin PySem.W.KF.slot_gs.plain PySem.W.KF.entry_gs (PySem.W.KF.slot_gs.check _ _ _ _ _ _ _ _ PySem.W.KF.type_class (PySem.W.KF.args_gs _ _ _) ?_)
 unfold Builtin.«getset_descriptor.__get__» descrGet;rw[PySem.W.dga_obj]
 refine aK2 (aK7 ?_);unfold descrGetter descrCheckInstance descrNameAndClass isInstance
 simp only[PySem.W.KF.owner_class]
 repeat lk
 refine⟨Code.quiet_builtin _ (by decide +kernel),codeAny_builtin PySem.W.KF.entry_class ?_⟩;unfold Builtin.«object.__class__» shownTypeOf
 repeat lk
 exact hq
theorem ar7 {M:Model}{nameV:Value}{Q:Unit->Shared->Prop}(F:gS K D)(k:K.In h)(I:iT h x D)(hq:Q () ⟨h,g,d,t,os⟩):wpAny M A (checkBuiltinCall "BaseException.__getattribute__" ⟨[.ref x,nameV],[]⟩) Q E ⟨h,g,d,t,os⟩:=by
 have kd:builtinKind "BaseException.__getattribute__" = some .slot:=by decide +kernel
 have sp:splitId "BaseException.__getattribute__" = some ("BaseException","__getattribute__"):=by decide +kernel
 have L:PySem.W.Looks M h (isInstance (.ref x) (.type "BaseException")) true:=(I.type (M:=M)).andThen (PySem.W.looks_mroIn k F.be)
 have ha:=PySem.F.args_bexc_ga (.ref x) nameV
 simp only[checkBuiltinCall,kd,sp]
 refine aK2 (L.at ?_)
 repeat (any_goals (first|assumption|wp_step))
theorem ar8 {tk:Tok}{Q:Fin->Shared->Prop}(F:gS K D)(k:K.In h)(I:iT h x D)(hq:Q (.done (.ret (.ref D))) ⟨h,g,d,t,os⟩):wpAny (model prog w) A (Builtin.«object.__getattribute__» ⟨[.ref x,.str "__class__" tk],[]⟩) Q E ⟨h,g,d,t,os⟩:=by
 have L0:=I.type (M:=model prog w)
 have L1:=ar5 (M:=model prog w) F k (x:=x)
 refine aK2 (aK7 (aK2 (aK7 (aK2 (L0.at (aK2 (L1.at ?_)))))))
 show wpAny _ _ (holding [_] (call _ _) >>= ret) _ _ _
 exact aK2 (aV1 (wpAny_call (ar6 F k I (aK7 hq))))
theorem ar9 {tk:Tok}{R:Result->Shared->Prop}(F:gS K D)(k:K.In h)(I:iT h x D)(hq:R (.ok (.ret (.ref D))) ⟨h,g,d,t,os⟩):codeAny (model prog w) A (.call (.builtin "BaseException.__getattribute__") ⟨[.ref x,.str "__class__" tk],[]⟩) R ⟨h,g,d,t,os⟩:=
 codeAny_call_builtin PySem.F.excAttr_ValueError.ga.plain PySem.F.entry_bexc_ga (ar7 F k I (ar8 F k I hq))
theorem as0 {Q:Option Value->Shared->Prop}(F:gS K D)(k:K.In h)(I:iT h x D)(hq:Q (some (.ref D)) ⟨h,g,d,t+1,os⟩):wpAny (model prog w) A (getAttr? (.ref x) "__class__") Q E ⟨h,g,d,t,os⟩:=by
 have L0:=I.type (M:=model prog w)
 have L1:=PySem.W.looks_findIn (M:=model prog w) k F.ga
 have L2:=PySem.W.looks_findIn (M:=model prog w) k F.gt
 have f3:=PySem.F.excAttr_ValueError.ga.bind (.ref x)
 unfold getAttr? getAttrBy? getAttrBy
 refine aK2 (wpAny_mkText (aK2 (wpAny_attempt (aV1 (aK2 (L0.at (aK2 (L1.at ?_))))))))
 have nx:(onTheHeap (Value.ref D)&&Value.builtin "BaseException.__getattribute__"==Value.builtin "object.__getattribute__")=false:=by
  rw[show (Value.builtin "BaseException.__getattribute__"==Value.builtin "object.__getattribute__")=false by decide +kernel,Bool.and_false]
 dsimp only
 rw[if_neg (by rw[nx];decide)]
 unfold getAttrByItsOwn hookBefore
 repeat (any_goals (first|assumption|(with_reducible refine L2.at ?_)|wp_step))
 exact ar9 F k I (PySem.W.handed_on rfl (aK7 hq))
end
theorem as1 {K:ac}{x D:Addr}(F:gS K D):PySem.W.KitX K (.ref x) (.ref D) (λh=>iT h x D) where
 ty:=λ_ _ _ I=>I.type
 it:=λM h k _=>by
  have z:=F.cls
  unfold PySem.W.clsIn at z
  split at z
  ·rename_i c' d' cd' sl' ho
   intro A' Q' E' s' kk q
   unfold isType loadHead
   exact aK2 (wpAny_loadPart (kk _ _ (k _ _ ho)) (aK7 q))
  ·cases z
 ne:=λh tp dd its n sl k htp=>by
  have z:=F.cls
  refine Bool.eq_false_iff.mpr λq=>?_
  obtain rfl:D=tp:=Value.ref.inj (beq_iff_eq.mp q)
  unfold PySem.W.clsIn at z
  split at z
  ·rename_i ho
   have y:=(k _ _ ho).symm.trans htp
   cases y
  ·cases z
 ca:=λ{_ _ _ _ _ s} k I q=>by
  obtain⟨h,g,d,t,os⟩:=s
  exact as0 F k I q
end L2
namespace Core
open PySem L2 PP
noncomputable def gB (ns:ae):Bool:=((ns.zip (ns.drop 1)).map λp=>decide (p.1<p.2)).all id
theorem pB {α β:Type}{l:List α}{f:α->β}{i:Nat}{x:α}(h:l[i]? = some x):(l.take (i+1)).map f=(l.take i).map f++[f x]:=by
 rw[aU7,h];simp
theorem pC:∀{ns:ae},gB ns=true->ns.Pairwise (·<·)
 |[],_=>.nil
 |[x],_=>aU8 _ _
 |x::y::r,h=>by
  have e:gB (x::y::r)=(decide (x<y)&&gB (y::r)):=rfl
  rw[e,aN3]at h
  have ih:=pC h.2
  refine aW1.mpr ⟨λz hz=>?_,ih⟩
  rcases aL0.mp hz with rfl|hz
  ·exact of_decide_eq_true h.1
  ·exact Int.lt_trans (of_decide_eq_true h.1) (List.rel_of_pairwise_cons ih hz)
theorem u8:∀{ns:ae},ns.Pairwise (·<·)->gB ns=true
 |[],_=>rfl
 |[x],_=>rfl
 |x::y::r,h=>by
  have e:gB (x::y::r)=(decide (x<y)&&gB (y::r)):=rfl
  have h':=aW1.mp h
  rw[e,u8 h'.2,aX4]
  exact aL1 (h'.1 y aM3)
noncomputable def kin (ws:ae)(ls:aa)(S:ae)(h:Int):Bool:=!decide (h∈S)&&decide (ws.getD h.toNat 0<=(((o3 ls h).filter λx=>decide (x∈S)).length:Int))
noncomputable def nextOf (ws:ae)(ls:aa)(S:ae):ae:=((List.range ws.length).map λ(i:Nat)=>(i:Int)).filter (kin ws ls S)
noncomputable def mF (ws:ae)(ls:aa)(S:ae):Nat->ae
 |0=>S
 |k+1=>mF ws ls S k++nextOf ws ls (mF ws ls S k)
noncomputable def B8 (ws:ae)(S:ae):Nat:=(((List.range ws.length).map λ(i:Nat)=>(i:Int)).filter λx=>!decide (x∈S)).length
theorem B9 {α:Type}(p q:α->Bool)(h:∀x,q x=true->p x=false):∀L:List α,(L.filter λx=>!p x&&!q x).length+(L.filter q).length=(L.filter λx=>!p x).length
 |[]=>rfl
 |x::r=>by
  have ih:=B9 p q h r
  cases e1:p x with
  |true=>
   have e2:q x=false:=by
    cases e:q x with
    |false=>rfl
    |true=>have:=h x e;rw[e1]at this;cases this
   simp only[aV3,e1,e2,Bool.not_true,Bool.false_and,aN5,aT6]
   exact ih
  |false=>
   cases e2:q x with
   |true=>
    simp only[aV3,e1,e2,Bool.not_true,Bool.not_false,Bool.and_false,aN5,aT6,if_true,aS9]
    omega
   |false=>
    simp only[aV3,e1,e2,Bool.not_false,aX4,aN5,aT6,if_true,aS9]
    omega
noncomputable def after (ws:ae)(ls:aa)(S:ae)(m:Nat):ad:=(List.range m).map λk=>nextOf ws ls (mF ws ls S k)
theorem as2 {ws ns:ae}(hu:ns.Pairwise (·<·))(hin:∀x∈ns,0<=x/\x<(ws.length:Int)):ns.length+B8 ws ns<=ws.length:=by
 have nd:ns.Nodup:=hu.imp λh=>Int.ne_of_lt h
 have sub:ns ⊆ ((List.range ws.length).map λ(i:Nat)=>(i:Int)).filter λx=>decide (x∈ns):=λx hx=>by
  refine List.mem_filter.mpr ⟨aO1.mpr ⟨x.toNat,List.mem_range.mpr ?_,?_⟩,aL1 hx⟩
  ·have:=hin x hx;omega
  ·have:=hin x hx;omega
 have h1:=nd.length_le_of_subset sub
 have h2:=B9 (λ_=>false) (λx=>decide (x∈ns)) (λ_ _=>rfl) ((List.range ws.length).map λ(i:Nat)=>(i:Int))
 have h3:(((List.range ws.length).map λ(i:Nat)=>(i:Int)).filter λx=>!false&&!decide (x∈ns)).length=B8 ws ns:=rfl
 have h4:(((List.range ws.length).map λ(i:Nat)=>(i:Int)).filter λx=>!false).length<=ws.length:=by
  refine aN8 (List.length_filter_le _ _) ?_
  rw[aL2,List.length_range];exact aK8 _
 rw[h3]at h2
 omega
noncomputable def cX (ws:ae)(ls:aa)(ns:ae)(m:Nat):Prop:=(∀k<m,nextOf ws ls (mF ws ls ns k)≠[])/\nextOf ws ls (mF ws ls ns m) = []
theorem mG {ns:ae}{i:Nat}{x:PV}(h:(intz ns)[i]? = some x):∃n,x = .int n/\ns[i]? = some n:=by
 rw[aM9]at h
 cases e:ns[i]? with
 |none=>rw[e]at h;cases h
 |some n=>rw[e]at h;exact⟨n,(aN2 h).symm,rfl⟩
theorem jK {lo:Int}{n i:Nat}{x:PV}(h:(eB lo n)[i]? = some x):x = .int (lo+i)/\i<n:=by
 have hi:i<n:=by
  have:=(aM0.mp h).1
  rwa [lX]at this
 rw[yI hi]at h
 exact⟨(aN2 h).symm,hi⟩
noncomputable def rng (n:Nat):ae:=(List.range n).map λ(i:Nat)=>(i:Int)
theorem u9 {n:Nat}{x:Int}:x∈rng n↔0<=x/\x<(n:Int):=by
 unfold rng
 rw[aO1]
 constructor
 ·rintro⟨i,hi,rfl⟩
  have:=List.mem_range.mp hi
  omega
 ·intro h
  exact⟨x.toNat,List.mem_range.mpr (by omega),by omega⟩
theorem pD {α:Type}{l:List α}{p:α->Bool}{i:Nat}{x:α}(h:l[i]? = some x):(l.take (i+1)).filter p=(l.take i).filter p++(if p x=true then [x] else []):=by
 rw[aU7,h,List.filter_append]
 congr 1
 cases e:p x<;>simp[e]
theorem dX (a b:ae):intz (a++b)=intz a++intz b:=aT3
theorem bU (a:ae):(intz a).length=a.length:=aL2 _
noncomputable def bQ (ws:ae)(ls:aa):PV:=.tup [.tup (intz ws),.tup (ls.map λl=>.tup [.int l.1,.int l.2])]
noncomputable def dE (x:PV)(ns:ae):Prop:=x = .tup (intz ns)∨x = .lst (intz ns)
theorem dE.seq {x:PV}{ns:ae}(h:dE x ns):g6 x=some (intz ns):=by rcases h with rfl|rfl<;>rfl
theorem dE.seqT {x:PV}{ns:ae}(h:dE x ns):seqT x=some (intz ns):=by rcases h with rfl|rfl<;>rfl
theorem gC:∀(ls:aa),flats (ls.map λl=>PV.tup [.int l.1,.int l.2])=true
 |[]=>rfl
 |l::r=>by
  show (flat (.tup [.int l.1,.int l.2])&&flats (r.map λl=>PV.tup [.int l.1,.int l.2]))=true
  rw[gC r];rfl
theorem pE (ws:ae)(ls:aa):flat (bQ ws ls)=true:=by
 show flats [.tup (intz ws),.tup (ls.map λl=>PV.tup [.int l.1,.int l.2])]=true
 show (flat (.tup (intz ws))&&(flat (.tup (ls.map λl=>PV.tup [.int l.1,.int l.2]))&&true))=true
 show (flats (intz ws)&&(flats (ls.map λl=>PV.tup [.int l.1,.int l.2])&&true))=true
 rw[bZ,gC];rfl
theorem mH (ns:ae):flat (.tup (intz ns))=true:=bZ ns
noncomputable def pF:c7:=λxs Q=>∃ws ls,xs = [bQ ws ls]/\Q (.int ws.length)
noncomputable def C0:aS:=(aV (aE dJ (a6 (aO (a5 0) (qC (.int 0))) a9)))
noncomputable abbrev dF (t:aS)(N:List Str)(p:c7):Prop:=∀xs Q,p xs Q->t { nx:=λ_=>Q .non,rt:=Q } (cY N xs)
theorem as3:dF C0 ["web"] pF:=by
 rintro xs Q ⟨ws,ls,rfl,q⟩
 refine⟨_,rfl,_,_,_,rfl,rfl,rfl,_,_,rfl,rfl,trivial,?_⟩
 rw[bU];exact q
noncomputable def uA:c7:=λxs Q=>∃x ns,xs = [x]/\dE x ns/\ns.length<=1000/\Q (.bl (gB ns))
noncomputable def inB (n:Nat)(x:Int):Bool:=decide (0<=x)&&decide (x<(n:Int))
noncomputable def gD:c7:=λxs Q=>∃ws ls n,xs = [bQ ws ls,.int n]/\Q (.bl (inB ws.length n))
noncomputable def C1:aS:=(aV (lR (tD (a5 1) (qC (.int 0))) (iB (a5 1) (aE pF (a6 (a5 0) a9)))))
theorem as4:dF C1 ["web","number"] gD:=by
 rintro xs Q ⟨ws,ls,n,rfl,q⟩
 refine⟨_,rfl,_,_,rfl,rfl,_,rfl,?_⟩
 unfold inB at q
 by_cases h:(0:Int)<=n
 ·rw[aL1 h]at q ⊢
  refine aN ⟨_,rfl,_,rfl,ws,ls,rfl,_,_,rfl,rfl,trivial,?_⟩
  simpa using q
 ·rw[aK9 h]at q ⊢
  exact aD ⟨trivial,by simpa using q⟩
noncomputable def cB (n:Nat)(ns:ae):Bool:=gB ns&&(ns.map (inB n)).all id
noncomputable def pG:c7:=λxs Q=>∃ws ls x ns,xs = [bQ ws ls,x]/\dE x ns/\ns.length<=1000/\Q (.bl (cB ws.length ns))
noncomputable def C2:aS:=(aV (lR (aE uA (a6 (a5 1) a9)) (aE sT (a6 (gL (g9 (a5 1)) [none,some 0] (cO 0) kG (aE gD (a6 (a5 1) (a6 (a5 0) a9)))) a9))))
theorem uB {x:PV}{ns:ae}(h:dE x ns):(Slot.sh (flat x) x).tag = .rd->flat x=true:=by
 cases flat x<;>intro z<;>cases z
theorem as5:dF C2 ["web","numbers"] pG:=by
 rintro xs Q ⟨ws,ls,x,ns,rfl,hx,hl,q⟩
 refine⟨_,rfl,x,ns,rfl,hx,hl,_,rfl,?_⟩
 unfold cB at q
 cases h:gB ns with
 |false=>rw[h]at q;exact aD ⟨trivial,q⟩
 |true=>
  rw[h]at q
  refine aN ⟨_,rfl,_,hx.seq,uB hx,by rw[bU];omega,λi acc=>acc=(((ns.take i).map (inB ws.length)).map PV.bl),rfl,?_,?_⟩
  ·rintro i y acc hy rfl
   obtain⟨n,rfl,hn⟩:=mG hy
   have tk:((ns.take (i+1)).map (inB ws.length)).map PV.bl=((ns.take i).map (inB ws.length)).map PV.bl++[PV.bl (inB ws.length n)]:=by rw[pB hn,aT3];rfl
   exact⟨_,rfl,_,rfl,ws,ls,n,rfl,trivial,tk.symm⟩
  ·rintro acc rfl
   rw[bU,aQ7]
   exact⟨_,rfl,trivial,by simpa using q⟩
theorem dE.noscr {x:PV}{ns:ae}(h:dE x ns):∀ms,([x]:List PV)≠[.scr ms]:=by
 rcases h with rfl|rfl<;>intro ms z<;>cases z
structure DS (ps:List (aJ×PV))(S:ae):Prop where
 has:∀i:Int,(cJ ps (Sum.inl i:aJ)).isSome=decide (i∈S)
 len:ps.length<=S.length
 fl:flats (ps.map (·.2))=true
theorem DS.nil:DS [] []:=⟨λi=>rfl,aK8 _,rfl⟩
section
variable {κ:Type}[DecidableEq κ]
theorem iE {p:κ×PV}{r:List (κ×PV)}{k:κ}(e:p.1=k):cJ (p::r) k=some p.2:=by simp[cJ,aS5,e]
theorem iF {p:κ×PV}{r:List (κ×PV)}{k:κ}(e:¬p.1=k):cJ (p::r) k=cJ r k:=by simp[cJ,aS5,e]
theorem mI (k:κ):∀kvs:List (κ×PV),(kvs.any λkv=>decide (kv.1=k))=(cJ kvs k).isSome
 |[]=>rfl
 |p::r=>by
  rw[List.any_cons]
  by_cases e:p.1=k
  ·simp only[iE e,aL1 e,Bool.true_or,Option.isSome_some]
  ·rw[iF e,aK9 e,Bool.false_or];exact mI k r
theorem C3 (k j:κ)(y:PV):∀kvs:List (κ×PV),cJ (kvs.map λkv=>if kv.1=k then (kv.1,y) else kv) j=(cJ kvs j).map λx=>if j=k then y else x
 |[]=>rfl
 |p::r=>by
  have ih:=C3 k j y r
  rw[aO2]
  by_cases h:p.1=k
  ·rw[if_pos h]
   by_cases e:p.1=j
   ·rw[iE (p:=(p.1,y)) e,iE e,Option.map_some,if_pos (e.symm.trans h)]
   ·rw[iF (p:=(p.1,y)) e,iF e,ih]
  ·rw[if_neg h]
   by_cases e:p.1=j
   ·rw[iE (p:=p) e,iE e,Option.map_some,if_neg (λz=>h (e.trans z))]
   ·rw[iF (p:=p) e,iF e,ih]
theorem C4 (k j:κ)(y:PV):∀kvs:List (κ×PV),cJ kvs k=none->cJ (kvs++[(k,y)]) j=if j=k then some y else cJ kvs j
 |[],_=>by
  by_cases e:k=j
  ·rw[if_pos e.symm];exact iE (p:=(k,y)) e
  ·rw[if_neg (λz=>e z.symm)];exact iF (p:=(k,y)) e
 |p::r,hn=>by
  rw[List.cons_append]
  have hk:¬p.1=k:=λz=>by rw[iE z]at hn;cases hn
  rw[iF hk]at hn
  have ih:=C4 k j y r hn
  by_cases e:p.1=j
  ·rw[iE e,iE e,if_neg (λz=>hk (e.trans z))]
  ·rw[iF e,iF e,ih]
theorem as6 (kvs:List (κ×PV))(k j:κ)(y:PV):cJ (dR kvs k y) j=if j=k then some y else cJ kvs j:=by
 unfold dR
 by_cases a:(kvs.any λkv=>decide (kv.1=k))=true
 ·rw[if_pos a,C3]
  rw[mI]at a
  by_cases e:j=k
  ·obtain⟨x,hx⟩:=Option.isSome_iff_exists.mp a
   rw[if_pos e,e,hx,Option.map_some,if_pos rfl]
  ·rw[if_neg e]
   cases cJ kvs j with
   |none=>rfl
   |some x=>rw[Option.map_some,if_neg e]
 ·rw[if_neg a]
  refine C4 k j y kvs ?_
  rw[mI]at a
  cases q:cJ kvs k with
  |none=>rfl
  |some x=>rw[q]at a;exact (a rfl).elim
theorem as7 (kvs:List (κ×PV))(k:κ)(v:PV):(dR kvs k v).length<=kvs.length+1:=by
 unfold dR
 split
 ·rw[aL2];omega
 ·rw[aL9,aS9,List.length_nil];omega
end
theorem C5:∀(xs:List PV),flats xs=true↔∀x∈xs,flat x=true
 |[]=>by simp[flats]
 |x::r=>by
  unfold flats
  rw[aN3,C5 r];simp
theorem as8 {κ:Type}[DecidableEq κ]{ps:List (κ×PV)}{k:κ}{v:PV}{p:κ×PV}(h:p∈dR ps k v):p.2=v∨p∈ps:=by
 unfold dR at h
 split at h
 ·obtain⟨q,hq,e⟩:=aO1.mp h
  split at e
  ·subst e;exact .inl rfl
  ·subst e;exact .inr hq
 ·rcases aS4.mp h with h|h
  ·exact .inr h
  ·rw[aM5.mp h];exact .inl rfl
theorem as9 {κ:Type}[DecidableEq κ]{ps:List (κ×PV)}{k:κ}{v:PV}(h:flats (ps.map (·.2))=true)(hv:flat v=true):flats ((dR ps k v).map (·.2))=true:=by
 rw[C5]at h ⊢
 intro x hx
 obtain⟨p,hp,rfl⟩:=aO1.mp hx
 rcases as8 hp with e|e
 ·rw[e];exact hv
 ·exact h _ (aO1.mpr ⟨p,e,rfl⟩)
theorem DS.put {ps:List (aJ×PV)}{S:ae}(h:DS ps S)(x:Int)(v:PV)(hv:flat v=true):DS (dR ps (Sum.inl x:aJ) v) (S++[x]):=by
 refine⟨λi=>?_,?_,as9 h.fl hv⟩
 ·rw[as6]
  by_cases e:i=x
  ·subst e;rw[if_pos rfl];simp
  ·rw[if_neg (λz=>e (Sum.inl.inj z)),h.has]
   simp[e]
 ·have:=as7 ps (Sum.inl x:aJ) v
  have:=h.len
  rw[aL9,aP2];omega
noncomputable def pH:c7:=λxs Q=>∃x ns,xs = [x]/\dE x ns/\ns.length<=1000/\∀ps,DS ps ns->Q (.dK ps)
noncomputable def C6:aS:=(aI (kD 1 (qC (.dK [])))
 (aI (fQ (g9 (a5 0)) (cO 2)
  (t6 1 (a5 2) (qC (.bl true))))
 (oD 1)))
theorem at0:dF C6 ["hearths","inside","hearth"] pH:=by
 rintro xs Q ⟨x,ns,rfl,hx,hl,q⟩
 refine⟨rfl,rfl,_,rfl,_,hx.seq,uB hx,λi ρ=>∃y ps,ρ = [some (.sh (flat x) x),some (.own (.dK ps)),y]/\DS ps (ns.take i),⟨none,[],rfl,DS.nil⟩,?_,?_⟩
 ·rintro i y ρ hy ⟨y0,ps,rfl,d⟩
  obtain⟨n,rfl,hn⟩:=mG hy
  have hlen:=d.len
  rw[aQ6]at hlen
  refine⟨_,rfl,_,rfl,Sum.inl n,rfl,trivial,by omega,_,_,rfl,?_⟩
  rw[aU7,hn]
  exact d.put n _ rfl
 ·rintro ρ ⟨y,ps,rfl,d⟩
  rw[bU,aQ7]at d
  exact⟨_,rfl,trivial,q ps d⟩
theorem pI {ws:ae}{h:Int}(h0:0<=h)(h1:h<(ws.length:Int)):atI (intz ws) h=some (.int (ws.getD h.toNat 0)):=by
 refine xR h0 ?_
 have:h.toNat<ws.length:=by omega
 rw[aM9,aL7,aK3 this];rfl
noncomputable def tups (rs:ad):List PV:=rs.map λr=>PV.tup (intz r)
theorem mJ {n:Nat}{ns:ae}(h:cB n ns=true):gB ns=true/\∀x∈ns,0<=x/\x<(n:Int):=by
 unfold cB at h
 rw[aN3,aR4]at h
 refine⟨h.1,λx hx=>?_⟩
 have:=h.2 _ (aO1.mpr ⟨x,hx,rfl⟩)
 unfold inB at this
 simpa using this
theorem mK {n:Nat}{ns:ae}(h:cB n ns=true):ns.length<=n:=by
 obtain⟨h1,h2⟩:=mJ h
 have:=as2 (ws:=List.replicate n (0:Int)) (pC h1) (by rw[List.length_replicate];exact h2)
 rw[List.length_replicate]at this
 omega
theorem at2 (g:Tg)(n:Int):Nw g (.int n):=by cases g<;>first|exact trivial|rfl
noncomputable def mL (x:PV)(ns:ae):Prop:=x = .scr ns∨x = .lst (intz ns)
theorem mL.seq {x:PV}{ns:ae}(h:mL x ns):g6 x=some (intz ns):=by rcases h with rfl|rfl<;>rfl
theorem mL.len {x:PV}{ns:ae}(h:mL x ns):sS x=some ns.length:=by
 rcases h with rfl|rfl
 ·rfl
 ·show some (intz ns).length=_
  rw[bU]
noncomputable def eZ:c7:=λxs Q=>∃x ns k,xs = [x,.int k]/\mL x ns/\0<=k/\Q (.int (ns.getD k.toNat 0))
noncomputable def C7:aS:=(aI (aZ (aH (iB (a5 1) (aE dJ (a6 (a5 0) a9)))) (aV (aO (a5 0) (a5 1))) b6)
 (aV (qC (.int 0))))
theorem at3:dF C7 ["script","k"] eZ:=by
 rintro xs Q ⟨x,ns,k,rfl,hx,h0,q⟩
 refine⟨_,rfl,_,rfl,_,_,rfl,hx.len,_,_,rfl,rfl,_,rfl,?_⟩
 by_cases h:k<(ns.length:Int)
 ·rw[aL1 h]
  exact aN ⟨_,rfl,_,rfl,_,_,_,hx.seq,rfl,pI h0 h,at2 _ _,q⟩
 ·rw[aK9 h]
  rw[aL7,List.getElem?_eq_none (by omega)]at q
  exact aD ⟨trivial,q⟩
noncomputable def aY (ls:aa):List PV:=ls.map λl=>PV.tup [.int l.1,.int l.2]
theorem gT (ls:aa):(aY ls).length=ls.length:=aL2 _
noncomputable abbrev si (n:Int):Option Slot:=some (.sh true (.int n))
noncomputable def pJ:c7:=λxs Q=>∃i,xs = [.int i]/\Q (.bl true)
noncomputable def C8 (K:ac):aS:=(aV (lR (gM K "int" (a5 0)) (sN (gM K "bool" (a5 0)))))
noncomputable def kS:c7:=λxs Q=>∃y ns ms,xs = [.tup (intz ns),y]/\dE y ms/\ns.length<=1000/\ms.length<=1000/\Q (.bl (decide (ns=ms)))
noncomputable def C9 (K:ac):aS:=(aI (aZ (c9 (dI (aH (gM K "tuple" (a5 0)))) (aH (iN (aE dJ (a6 (a5 0) a9)) (aE dJ (a6 (a5 1) a9))))) (aV (qC (.bl false))) b6)
 (aI (fQ (iL (aE dJ (a6 (a5 1) a9))) (cO 2)
  (aZ (c9 (dI (aH (aE pJ (a6 (aO (a5 0) (a5 2)) a9)))) (aH (iN (aO (a5 0) (a5 2)) (aO (a5 1) (a5 2))))) (aV (qC (.bl false))) b6))
 (aV (qC (.bl true)))))
theorem dE.len {x:PV}{ns:ae}(h:dE x ns):sS x=some ns.length:=by
 rcases h with rfl|rfl<;>(show some (intz ns).length=_;rw[bU])
theorem at5 {K:ac}(kt:PySem.W.kitOne K (.type "tuple") (.type "tuple")=some true):dF (C9 K) ["found","due","k"] kS:=by
 rintro xs Q ⟨y,ns,ms,rfl,hy,hn,hm,q⟩
 refine⟨_,rfl,_,_,rfl,kt,_,rfl,aD ⟨_,rfl,_,_,rfl,rfl,_,rfl,_,_,rfl,hy.len,.inl ⟨_,_,rfl,rfl,_,rfl,?_⟩⟩⟩
 rw[bU]
 by_cases hl:ns.length=ms.length
 ·show if (!decide ((ns.length:Int)=(ms.length:Int)))=true then _ else _
  rw[aL1 (by omega)]
  refine aD ⟨_,rfl,_,_,rfl,hy.len,_,rfl,by omega,by omega,λi ρ=>∃z,ρ = [some (.sh true (.tup (intz ns))),some (.sh (flat y) y),z]/\ns.take i=ms.take i,⟨none,?_,rfl⟩,?_,?_⟩
  ·show cY _ _=_
   unfold cY
   show [some (Slot.sh (flat (.tup (intz ns))) (.tup (intz ns))),_,_]=_
   rw[mH]
  ·rintro i z ρ hz ⟨z0,rfl,e⟩
   obtain⟨rfl,hi⟩:=jK hz
   have i1:i<ms.length:=by simpa using hi
   have i2:i<ns.length:=by omega
   have e0:(0:Int)+(i:Int)=(i:Int):=by omega
   have a1:atI (intz ns) ((0:Int)+(i:Int))=some (.int ns[i]):=by rw[e0];exact nO (by rw[aM9,aK3 i2];rfl)
   have a2:atI (intz ms) ((0:Int)+(i:Int))=some (.int ms[i]):=by rw[e0];exact nO (by rw[aM9,aK3 i1];rfl)
   refine⟨_,rfl,_,rfl,_,_,_,rfl,rfl,a1,_,rfl,_,rfl,aD ⟨_,rfl,_,rfl,_,_,_,rfl,rfl,a1,_,rfl,_,rfl,_,_,_,hy.seq,rfl,a2,.inl ⟨_,_,rfl,rfl,_,rfl,?_⟩⟩⟩
   by_cases h:ns[i]=ms[i]
   ·show if (!decide (ns[i]=ms[i]))=true then _ else _
    rw[aL1 h]
    refine aD ⟨_,rfl,?_⟩
    rw[aU7,aU7,e,aK3 i1,aK3 i2,h]
   ·show if (!decide (ns[i]=ms[i]))=true then _ else _
    rw[aK9 h]
    refine aN ⟨trivial,?_⟩
    rw[aK9 (λz=>h (by subst z;rfl))]at q
    exact q
  ·rintro ρ ⟨z,rfl,e⟩
   rw[lX]at e
   have:ns=ms:=by
    have h1:ns.take ((ms.length:Int).toNat)=ns:=aQ3 (by omega)
    have h2:ms.take ((ms.length:Int).toNat)=ms:=aQ3 (by omega)
    rw[h1,h2]at e;exact e
   rw[aL1 this]at q
   exact⟨trivial,q⟩
 ·show if (!decide ((ns.length:Int)=(ms.length:Int)))=true then _ else _
  rw[aK9 (by omega)]
  refine aN ⟨trivial,?_⟩
  rw[aK9 (λz=>hl (by rw[z]))]at q
  exact q
theorem at6 {K:ac}(k1:PySem.W.kitOne K (.type "int") (.type "int")=some true)(k2:PySem.W.kitOne K (.type "int") (.type "bool")=some false):dF (C8 K) ["found"] pJ:=by
 rintro xs Q ⟨i,rfl,q⟩
 exact⟨_,rfl,_,_,rfl,k1,_,rfl,aN ⟨_,rfl,_,_,rfl,k2,_,rfl,trivial,q⟩⟩
theorem uC {ls:aa}{i:Nat}{x:PV}(h:(aY ls)[i]? = some x):∃l,x = .tup [.int l.1,.int l.2]/\ls[i]? = some l:=by
 unfold aY at h
 rw[aM9]at h
 cases e:ls[i]? with
 |none=>rw[e]at h;cases h
 |some n=>rw[e]at h;exact⟨n,(aN2 h).symm,rfl⟩
end Core
namespace PP
open PySem L2 PyProof.Rows
section
variable {X:Cx}{a b e:Expr}{ta tb te:aG}{tr:cE}{pos p2 p3 pos2:Pos}
noncomputable def uD:V->Int
 |.int i=>i
 |_=>0
noncomputable def jL (H:Hp):V->ae
 |.ref a=>match H a with
  |some (.tup us)=>us.map uD
  |_=>[]
 |_=>[]
theorem at7 {H:Hp}{a:Addr}{ns:ae}(h:H a=some (.tup (ns.map V.int))):jL H (.ref a)=ns:=by
 show (match H a with|some (.tup us)=>us.map uD|_=>[])=ns
 rw[h]
 show (ns.map V.int).map uD=ns
 rw[List.map_map]
 exact List.map_id _
theorem E1 {K:ac}{M:Addr->Prop}{H:Hp}:∀{us:List V}{ys:ad},Reps K M H us (ys.map λr=>PV.tup (intz r))->us.map (jL H)=ys/\∀u∈us,∃b,u = .ref b/\H b=some (.tup ((jL H u).map V.int))
 |_,[],.nil=>⟨rfl,λu h=>nomatch h⟩
 |_,y::ys,.cons r t=>by
  obtain⟨a,us,rfl,h,r1⟩:=r.sqT
  obtain rfl:=r1.ofInts
  obtain⟨h1,h2⟩:=E1 t
  have hk:=at7 h
  refine⟨by rw[aO2,h1,hk],λu hu=>?_⟩
  rcases aL0.mp hu with rfl|hu
  ·exact⟨a,rfl,by rw[hk];exact h⟩
  ·exact h2 u hu
theorem E2 {K:ac}{M:Addr->Prop}{H:Hp}:∀{us:List V},(∀u∈us,∃b,u = .ref b/\H b=some (.tup ((jL H u).map V.int)))->Reps K M H us ((us.map (jL H)).map λr=>PV.tup (intz r))
 |[],_=>.nil
 |u::us,h=>by
  obtain⟨b,rfl,hb⟩:=h u aM3
  exact .cons (.tup hb (Reps.intz _)) (E2 λv hv=>h v (aM6 _ hv))
end
noncomputable def E3 (K:ac):Sp:=λvs H Q _=>∃(a:Addr) (ns:ae),vs = [.ref a]/\(aL K H a (ns.map V.int)∨aM K H a (ns.map V.int))/\ns.length<=1000/\∀H',aB H H'->Q (.bl (Core.gB ns)) H'
section
variable {P:Program}{w:World}{K:ac}{mg:Str→Option Value}{base:Heap}{f:Addr}{fd:FuncData}{k:Nat}
theorem at8 (F:cR P w K mg base dQ k f fd ["things"] (E3 K))(b:hV K fd ["things"] [])(kp:PySem.W.keepIn K (.ref f)=true)(m:mg "rises" = some (.ref f)):Df P w K mg base k "rises" ["things"] Core.uA:=by
 refine⟨f,fd,F.imp λvs H Q E h=>?_,b,kp,m⟩
 obtain⟨xs,Qp,r,⟨x,ns,rfl,hx,hl,q⟩,k⟩:=h
 obtain⟨v,rfl,r1⟩:=r.one
 rcases hx with rfl|rfl
 ·obtain⟨a,us,rfl,h,r2⟩:=r1.sqT
  obtain rfl:=r2.ofInts
  exact⟨a,ns,rfl,.inl (aL.of h),hl,λH' s=>k _ H' _ s (.bl _) q⟩
 ·obtain⟨a,us,rfl,_,h,r2⟩:=r1.sqL
  obtain rfl:=r2.ofInts
  exact⟨a,ns,rfl,.inr (aM.of h),hl,λH' s=>k _ H' _ s (.bl _) q⟩
end
end PP
namespace Core
open PySem L2 PP
noncomputable def two (l:Int×Int):ae:=[l.1,l.2]
noncomputable def mM (r:ae):Int×Int:=(r.getD 0 0,r.getD 1 0)
theorem jM (ls:aa):aY ls=(ls.map two).map λr=>PV.tup (intz r):=by
 unfold aY
 rw[List.map_map];rfl
theorem E4 {zs:ad}{ls:aa}(h:zs.Perm (ls.map two)):∃ls':aa,zs=ls'.map two/\ls'.Perm ls:=by
 refine⟨zs.map mM,?_,?_⟩
 ·rw[List.map_map]
  have:∀z∈zs,(two ∘ mM) z=z:=λz hz=>by
   obtain⟨l,_,rfl⟩:=aO1.mp (h.mem_iff.mp hz)
   rfl
  rw[List.map_congr_left this,List.map_id']
 ·have:=h.map mM
  rw[List.map_map]at this
  have e:ls.map (mM ∘ two)=ls:=by
   have:∀l∈ls,(mM ∘ two) l=id l:=λl _=>rfl
   rw[List.map_congr_left this,List.map_id]
  rw[e]at this
  exact this
theorem kT (ws:ae)(ls:aa):flats [.tup (intz ws),.tup (aY ls)]=true:=pE ws ls
noncomputable def fH (l:Int×Int):List aJ:=[Sum.inl l.1,Sum.inl l.2]
theorem at9 (ns:ae){k:Int}(h:0<=k):eQ (intz ns) (some k) none=intz (ns.drop k.toNat):=by
 unfold eQ
 have e1:HT.aU (intz ns).length 0 (some k)=min k.toNat (intz ns).length:=by
  have:=HT.wI (intz ns).length 0 k.toNat
  rw[show ((k.toNat:Nat):Int)=k by omega]at this
  exact this
 have e2:HT.aU (intz ns).length (intz ns).length none=(intz ns).length:=rfl
 rw[e1,e2,bU]
 rw[aQ3 (by rw[aP7,bU];omega)]
 show _=List.map PV.int _
 rw[List.map_drop]
 by_cases hk:k.toNat<=ns.length
 ·rw[Nat.min_eq_left hk]
 ·rw[Nat.min_eq_right (by omega),List.drop_of_length_le (by rw[bU];omega),List.drop_of_length_le (by rw[bU];omega)]
structure uE (i:Int)(ms:ae):Prop where
 up:ms.Pairwise (·<·)
 inn:∀x∈ms,0<=x/\x<i
 len:(ms.length:Int)<=i
theorem uE.set {n:Nat}{ms:ae}(h:uE (n:Int) ms):cB n ms=true:=by
 unfold cB
 rw[u8 h.up,Bool.true_and,aR4]
 intro b hb
 obtain⟨x,hx,rfl⟩:=aO1.mp hb
 have:=h.inn x hx
 unfold inB
 simp[this]
theorem au0:∀{a b:ae},a.Perm b->a.Pairwise (· <= ·)->b.Pairwise (· <= ·)->a=b:=by
 intro a b h ha hb
 exact h.eq_of_pairwise (λx y _ _ h1 h2=>Int.le_antisymm h1 h2) ha hb
noncomputable def E5:c7:=λxs Q=>∃ns:ae,xs = [.scr ns]/\ns.length<=63/\Q (.bl true)
structure au1 (K:ac):Prop where
 ii:PySem.W.kitOne K (.type "int") (.type "int")=some true
 ib:PySem.W.kitOne K (.type "int") (.type "bool")=some false
 tt:PySem.W.kitOne K (.type "tuple") (.type "tuple")=some true
 ll:PySem.W.kitOne K (.type "list") (.type "list")=some true
 bb:PySem.W.kitOne K (.type "bool") (.type "bool")=some true
theorem pK (K:ac):au1 K:=by
 have same:∀n:String,PySem.W.kitMeta n=true->True:=λ_ _=>trivial
 refine⟨?_,?_,?_,?_,?_⟩
 ·unfold PySem.W.kitOne;rw[if_pos (by decide)]
 ·have e:(if PySem.W.kitMeta "bool" = true then (fastBuiltinMro "int").map (·.contains (Value.type "bool")) else none)=some false:=by decide +kernel
  unfold PySem.W.kitOne
  rw[if_neg (by decide)]
  exact e
 ·unfold PySem.W.kitOne;rw[if_pos (by decide)]
 ·unfold PySem.W.kitOne;rw[if_pos (by decide)]
 ·unfold PySem.W.kitOne;rw[if_pos (by decide)]
end Core
namespace PP
open PySem L2 PyProof.Rows
theorem au2 {P:Program}{w:World}{K:ac}{mg:Str->Option Value}{base:Heap}{k:Nat}{x:Str}{ps N:List Str}{p:c7}{st:Stmt}{f:Addr}{fd:FuncData}(F:eJ K x x st f fd)(S:FnScope N ps (aX st))(len:∀xs Q,p xs Q->xs.length=ps.length)(body:∀(cdv:Value) (A:Around) (outer:List Env) (s:Shared) (H:Hp) (E:XK),bW k (A.deeper (envOfC x (aX st) s.heap.objs.size f cdv))->
   ∃t,eR (cS dQ P w K mg base N x (aX st) f cdv A outer s H E).nox (dO st) t/\∀xs Q,p xs Q->t { nx:=λ_=>Q .non,rt:=Q } (cY N xs)):cR P w K mg base dQ (k+1) f fd ps (lV K p):=by
 refine F.ok S (λvs H Q E h=>?_) (λcdv A outer s H vs Q E hr h=>?_)
 ·obtain⟨xs,Qp,r,q,_⟩:=h
  rw[r.length];exact len xs Qp q
 ·obtain⟨xs,Qp,r,q,k⟩:=h
  obtain⟨t,ht,hq⟩:=body cdv A outer s H E hr
  refine⟨_,ht,λ_=>False,cY N xs,_,tO r,hq xs Qp q,?_,?_,?_,?_⟩
  ·exact λW' σ' H' ρ' e px q=>k _ _ _ px.same .non q
  ·exact λv H' x s r q=>k _ _ _ s r q
  ·exact λW' σ' H' ρ' e px q=>q
  ·exact λW' σ' H' ρ' e px q=>q
noncomputable def pL (K:ac):Sp:=λvs H Q _=>∃(a:Addr) (ns:ae),vs = [.ref a]/\i9 K H a ns/\ns.length<=63/\∀H',Q (.bl true) H'
theorem au3 {P:Program}{w:World}{K:ac}{mg:Str->Option Value}{base:Heap}{k:Nat}{f:Addr}{fd:FuncData}(F:cR P w K mg base dQ k f fd ["script"] (lV K Core.E5)):cR P w K mg base dQ k f fd ["script"] (pL K):=
 F.imp λvs H Q E h=>by
  obtain⟨a,ns,rfl,hs,hl,q⟩:=h
  refine⟨[.scr ns],λz=>z = .bl true,.cons (.scr hs) .nil,⟨ns,rfl,hl,rfl⟩,?_⟩
  rintro v H' x _ r rfl
  cases r
  exact q H'
theorem au4 {K:ac}{H:Hp}{a:Addr}{ns:ae}(hO:nR H)(h:aM K H a (ns.map V.int)):i9 K H a ns:=by
 rcases h with (h|⟨o,h⟩)|h
 ·rcases hO a with e|⟨o,xs,e⟩<;>(rw[h]at e;cases e)
 ·exact .inl ⟨o,h⟩
 ·exact .inr h
end PP
namespace PyProof.Rows
open PySem
section
variable {prog:Program}{w:World}{A:Around}{E:Value→Shared→Prop}{s:Shared}
theorem E6 {l:Addr}{vs:List Value}{Q:List Value->Shared->Prop}(hl:s.heap.IsTuple l vs.toArray)(h:Q vs { s with heap:=(s.heap.push (seqObj "list" #[] 0)).update s.heap.objs.size (Obj.mapSeq (·++vs.toArray)) })(hsz:vs.length<=sizeLine) :
  wpAny (model prog w) A (collect (.ref l)) Q E s:=by
 obtain⟨o,ho,hc,n,hd⟩:=id hl
 unfold collect
 refine aK2 (wpAny_runValue (codeAny_builtin entry_proto_collect' ?_))
 show wpAny _ _ (do again (.builtin "list.__iadd__" ⟨[<- newList [],.ref l],[]⟩)) _ _ s
 refine aK2 (wpAny_newList (aK7 ⟨Code.quiet_builtin _ (by decide +kernel),codeAny_builtin entry_list_iadd' ?_⟩))
 show wpAny _ _ (Builtin.List.listExtendWith (.ref s.heap.objs.size) (.ref l) (.ref s.heap.objs.size)) _ _ { s with heap:=s.heap.push (seqObj "list" #[] 0) }
 unfold Builtin.List.listExtendWith
 have ho':(s.heap.push (seqObj "list" #[] 0)).get? l=some o:=aK4 _ ho
 refine aK2 (wpAny_typeOf (T:="tuple") ⟨o,ho',hc⟩ ?_)
 have ht:(Value.type "tuple"==Value.type "tuple")=true:=by rfl
 rw[if_pos (by rw[ht];simp)]
 refine aK2 (listItems_at ho' hd ?_)
 refine aK2 (listItems_at (xs:=#[]) (n:=0) (aM4 _ rfl) rfl ?_)
 rw[if_neg (by simp)]
 refine aK2 (listUpdate_at (xs:=#[]) (n:=0) (aM4 _ rfl) rfl ?_ (aP3 _) (by show (#[]++vs.toArray).size<=sizeLine+1;simp only[Array.size_append,aK5,List.length_nil];omega))
 refine aK7 ?_
 show wpAny (model prog w) A (do
   let o <- load s.heap.objs.size
   match o.data with
   |.seq xs _=>pure xs.toList
   |_=>unsupported "internal:collect") Q E { s with heap:=(s.heap.push (seqObj "list" #[] 0)).update s.heap.objs.size (Obj.mapSeq (·++vs.toArray)) }
 refine aK2 (wpAny_load (get?_update_seq (aM4 _ rfl) _) ?_)
 show wpAny _ _ (pure ((#[]:Array Value)++vs.toArray).toList) Q E _
 rw[show ((#[]:Array Value)++vs.toArray).toList=vs by simp]
 exact aK7 h
theorem au5 {l:Addr}{vs:List Value}{ns:ae}{Q:Value->Shared->Prop}(hl:s.heap.IsTuple l vs.toArray)(hI:IntsAre vs ns)(h64:vs.length<64)(h:∀(out:Array Value) (ns':ae),IntsAre out.toList ns'->ns'.Perm ns->ns'.Pairwise (· <= ·)->Q (.ref (s.heap.objs.size+1)) { s with heap:=sortedAll s.heap vs out }) :
  wpAny (model prog w) A (call (.builtin "sorted") [.ref l]) Q E s:=by
 have hsl:vs.length<=sizeLine:=aN8 (aR3 h64) (by decide)
 refine Calls.call_function_entry kind_sorted plain_sorted entry_sorted (args_sorted1 _) ?_
 unfold Builtin.«sorted»
 refine aK2 (m:=checkCount "sorted" 1 1 _) (aK7 ?_)
 refine aK2 (E6 hl ?_ hsl)
 refine aK2 (wpAny_newList ?_)
 have hsz:((s.heap.push (seqObj "list" #[] 0)).update s.heap.objs.size (Obj.mapSeq (·++vs.toArray))).objs.size=s.heap.objs.size+1:=by
  rw[Heap.size_update,size_push']
 have hoL:(((s.heap.push (seqObj "list" #[] 0)).update s.heap.objs.size (Obj.mapSeq (·++vs.toArray))).push (seqObj "list" vs.toArray 0)).get? (s.heap.objs.size+1)=some (seqObj "list" vs.toArray 0):=by
  rw[<- hsz];exact aM4 _ rfl
 show wpAny _ _ _ _ _ { s with heap:=((s.heap.push (seqObj "list" #[] 0)).update s.heap.objs.size (Obj.mapSeq (·++vs.toArray))).push (seqObj "list" vs.toArray 0) }
 rw[hsz]
 refine aK2 (aV1 (aT7 slot_list_sort ⟨_,hoL,rfl⟩ entry_list_sort (list_sort_tree hoL hI h64 λout ns' a1 a2 a3=>⟨_,rfl,?_⟩) (args_list_sort _)))
 exact aK7 ⟨_,rfl,h out ns' a1 a2 a3⟩
end
end PyProof.Rows
namespace PP
open PySem L2 PyProof.Rows
section
variable {X:Cx}{a b e:Expr}{ta tb te:aG}{tr:cE}{pos p2:Pos}
theorem au6:cG X (.builtin "sorted") (λxs H Q=>∃a ns,xs = [.ref a]/\(aM X.K H a (ns.map V.int)∨aL X.K H a (ns.map V.int))/\ns.length<64/\∀l (ms:ae),H l=none->ms.Perm ns->ms.Pairwise (· <= ·)->Q (.ref l) (upd H l (.lst (ms.map V.int)))):=by
 intro pins s σ H xs us Q I r h
 obtain⟨a,ns,rfl,hs,h64,q⟩:=h
 rcases hs with hs|hs
 ·exact af4 pins s σ H _ us Q I r ⟨a,ns,rfl,hs,h64,q⟩
 obtain⟨u,rfl,ru⟩:=eG r
 cases ru
 obtain⟨its,rv,p,hz⟩:=I.tuple hs
 have hl:=rv.length
 rw[aL2]at hl
 refine au5 p (j5 rv) (by omega) λout ns' a1 a2 a3=>?_
 obtain⟨e,he⟩:=sortedAll_at s.heap its out
 have hn:s.heap.objs.size<=s.heap.objs.size+1:=aY0 _
 have hlen:ns'.length=ns.length:=a2.length_eq
 refine⟨.ref (s.heap.objs.size+1),upd H (s.heap.objs.size+1) (.lst (ns'.map V.int)),I.laid (t':=s.toks) (λ_ _=>sortedAll_old) hn ⟨?_,out.toList,e,nQ a1,by simpa using he⟩,rfl,q _ ns' (I.hok.fresh hn) a2 a3⟩
 rw[aL2,hlen]
 exact aR3 (rQ (by omega))
noncomputable def mO:List PV->(PV->Prop)->Prop:=λxs Q=>∃x ns,xs = [x]/\g6 x=some (intz ns)/\ns.length<64/\∀ms:ae,ms.Perm ns->ms.Pairwise (· <= ·)->Q (.lst (intz ms))
theorem au7:cV X mO (λxs H Q=>∃a ns,xs = [.ref a]/\(aM X.K H a (ns.map V.int)∨aL X.K H a (ns.map V.int))/\ns.length<64/\∀l (ms:ae),H l=none->ms.Perm ns->ms.Pairwise (· <= ·)->Q (.ref l) (upd H l (.lst (ms.map V.int)))):=by
 rintro H vs xs Q Q' r ⟨x,ns,rfl,e,hl,q⟩ k
 obtain⟨v,rfl,r1⟩:=r.one
 obtain⟨a,us,rfl,hs,r2⟩:=r1.seq e
 obtain rfl:=r2.ofInts
 exact⟨a,ns,rfl,hs,hl,λl ms hl' p o=>k _ _ _ (bI hl' _) (.lst hl' bP (Reps.intz ms)) (q ms p o)⟩
theorem E7 (B:Bt X.mg)(ha:QA X [e] tr)(hg:Gl X "sorted":=by rfl)(he:starEach [e] X.env=(false,eval e X.env)::starEach [] X.env:=by rfl)(hpl:(backTo pos (starEach [] X.env)).any (·.1)=false:=by rfl):QE X (.Call (.Name "sorted" p2) [e] [] pos) (aE mO tr):=
 iQ au6 au7 hg B.sorted PyProof.Rows.boot_sorted ha (he:=he) (hpl:=hpl)
noncomputable def E8:PV->Tg->PV->Tg->PK->Prop:=λx _ y _ Q=>∃xs ys,x = .lst xs/\y = .lst ys/\flats xs=true/\flats ys=true/\xs.length+ys.length<=16000000/\Q (.lst (xs++ys)) .fr
noncomputable abbrev E9 (ta tb:aG):aG:=q2 E8 ta tb
theorem au8:cN X E8 x3:=by
 rintro W Hs H u v x y g g' Q Q' s n r1 r2 ⟨xs,ys,rfl,rfl,f1,f2,hl,q⟩ k
 obtain⟨a,us,rfl,_,h1,q1⟩:=r1.sqL
 obtain⟨b,ws,rfl,_,h2,q2⟩:=r2.sqL
 have l1:=q1.length
 have l2:=q2.length
 refine⟨a,b,us,ws,rfl,rfl,h1,h2,lim (by omega),λp hp=>k _ _ _ .fr (bI hp _) (.lst (s.free hp) bP (((q1.flat f1).append (q2.flat f2)).same (bI hp _) λ_ z=>z)) q⟩
theorem au9 (ha:QE X a ta)(hb:QE X b tb):QE X (.BinOp a .Add b pos) (E9 ta tb):=gQ ac6 au8 ha hb
end
end PP
namespace Zp
open PySem PyProof.Rows
theorem av0 (t b:Addr)(xs ys:Array Value)(n n2:Nat)(dd dd2:Option Addr)(sl sl2:Array (Option Value))(hx:xs.isEmpty=true):Meets (Builtin.«tuple.__add__» ⟨[.ref t,.ref b],[]⟩)
  (λ_ R s=>s.heap.get? t=some { cls:=.type "tuple",dict:=dd,data:=.seq xs n,slots:=sl }/\s.heap.get? b=some { cls:=.type "tuple",dict:=dd2,data:=.seq ys n2,slots:=sl2 }/\R (.ok (.ret (.ref b))) s):=
 .of_wp λprog w A R s h=>by
  obtain⟨h1,h2,h⟩:=h
  have sub:isSubtype (Value.type "tuple") (Value.type "tuple")=pure true:=rfl
  wp_walk
  exact⟨_,rfl,h⟩
end Zp
namespace L2
open PySem PySem.Spec PyProof.Rows
section
variable {X:Cx}
noncomputable def F0 (K:ac):R2:=λx y H Q=>∃a b xs ys,x = .ref a/\y = .ref b/\aL K H a xs/\aL K H b ys/\xs.length+ys.length<=sizeLine/\
 (xs = []->Q (.ref b) H)/\(xs≠[]->ys = []->Q (.ref a) H)/\(xs≠[]->ys≠[]->∀p,H p=none->Q (.ref p) (upd H p (.tup (xs++ys))))
theorem av1:bR X (binaryOp .Add) (F0 X.K):=by
 intro pins s σ H x y v u Q I rx ry h
 obtain⟨a,b,xs,ys,ex,ey,ha,hb,hz,q0,q1,q2⟩:=h
 by_cases hx:xs = []
 ·subst ex ey
  cases rx
  cases ry
  obtain⟨its,r1,p1,_⟩:=I.tuple ha
  obtain⟨its2,r2,p2,_⟩:=I.tuple hb
  have hi:its = []:=r1.nil_iff.mpr hx
  obtain⟨⟨cls,dd,data,sl⟩,ho,hc,n,hd⟩:=id p1
  obtain⟨⟨cls2,dd2,data2,sl2⟩,ho2,hc2,n2,hd2⟩:=id p2
  simp only at hc hd hc2 hd2
  subst hc hd hc2 hd2
  exact concat_meets ⟨_,ho,rfl⟩ ⟨_,ho2,rfl⟩ noFill_tuple_add seq_tuple_add PySem.F.slot_tuple_add PySem.F.entry_tuple_add (PySem.F.args_tuple_add_2 _ _)
   (Zp.av0 a b its.toArray its2.toArray n n2 dd dd2 sl sl2 (by simp[hi])) ⟨ho,ho2,⟨.ref b,H,I,rfl,q0 hx⟩⟩
 ·exact aa8 pins s σ H x y v u Q I rx ry ⟨a,b,xs,ys,ex,ey,ha,hb,hx,hz,q1 hx,q2 hx⟩
end
end L2
namespace PP
open PySem L2 PyProof.Rows
section
variable {X:Cx}{a b e o f:Expr}{ta tb te td tk tx:aG}{pos p2 apos cpos:Pos}{σ:L2.St}{H:Hp}{Q':VK}
theorem av2 {x:Str}{n:Int}{t:Nat}(hg:Gl X x)(hm:X.mg x=some (.int n t))(hd:(x==("__debug__":Str))=false:=by decide):QE X (.Name x pos) (qC (.int n)):=
 cA (qL (v:=.int n) hg hm ⟨t,rfl⟩ hd) λ_ _ _=>lP λ_=>.int n
end
section
variable {X:Cx}{a b:Expr}{ta tb:aG}{pos:Pos}
noncomputable def F1:PV->Tg->PV->Tg->PK->Prop:=λx _ y _ Q=>∃xs ys,x = .tup xs/\y = .tup ys/\flats xs=true/\flats ys=true/\xs.length+ys.length<=16000000/\Q (.tup (xs++ys)) .fr
noncomputable abbrev eF (ta tb:aG):aG:=q2 F1 ta tb
theorem av3:cN X F1 (F0 X.K):=by
 rintro W Hs H u v x y g g' Q Q' s n r1 r2 ⟨xs,ys,rfl,rfl,f1,f2,hl,q⟩ k
 obtain⟨a,us,rfl,h1,q1⟩:=r1.sqT
 obtain⟨b,ws,rfl,h2,q2⟩:=r2.sqT
 have l1:=q1.length
 have l2:=q2.length
 refine⟨a,b,us,ws,rfl,rfl,aL.of h1,aL.of h2,lim (by omega),λz=>?_,λ_ z=>?_,λ_ _ p hp=>k _ _ _ .fr (bI hp _) (.tup bP (((q1.flat f1).append (q2.flat f2)).same (bI hp _) λ_ z=>z)) q⟩
 ·obtain rfl:xs = []:=by cases xs with
   |nil=>rfl
   |cons _ _=>rw[z]at l1;cases l1
  exact k _ _ _ .fr (aB.refl _) (.tup h2 (q2.flat f2)) q
 ·obtain rfl:ys = []:=by cases ys with
   |nil=>rfl
   |cons _ _=>rw[z]at l2;cases l2
  rw[aO7]at q
  exact k _ _ _ .fr (aB.refl _) (.tup h1 (q1.flat f1)) q
theorem gU (ha:QE X a ta)(hb:QE X b tb):QE X (.BinOp a .Add b pos) (eF ta tb):=gQ av1 av3 ha hb
end
end PP
namespace Core
open PySem L2 PP
section
variable {ws:ae}{ls:aa}{os ns:ae}
noncomputable def av4 (ws:ae)(ls:aa)(T:ae):Prop:=∀h∈rng ws.length,kin ws ls T h=false
end
noncomputable def F2:Option Int->PV
 |none=>.non
 |some h=>.int h
theorem jN {i:Nat}{h:Int}{g:Bool}{ρ:bB}{Q:bB->Prop}(q:Q (ρ.set i (some (.sh true (.int h))))):cO i (.int h) g ρ Q:=by
 show Q (ρ.set i (some (.sh (g||true) (.int h))))
 rw[Bool.or_true];exact q
noncomputable def av5 (ns S:ae):Int:=(ns.length:Int)-(((ns.filter λx=>decide (x∈S)).length:Nat):Int)
noncomputable def pM:c7:=λxs Q=>∃x ns y ms,xs = [x,y]/\dE x ns/\dE y ms/\ns.length<=10000/\ms.length<=1000/\Q (.tup (intz (ns.filter λz=>!decide (z∈ms))))
noncomputable def F3:aS:=(aI (bC 2 (aE pH (a6 (a5 1) a9)))
 (aV (aE dB (a6 (gL (g9 (a5 0)) [none,some 2] (cO 0) (aH (oJ true (a5 0) (a5 1))) (a5 0)) a9))))
theorem av6:dF F3 ["hearths","some","gone"] pM:=by
 rintro xs Q ⟨x,ns,y,ms,rfl,hx,hy,hl,hm,q⟩
 refine⟨_,rfl,y,ms,rfl,hy,hm,λps d=>⟨trivial,?_⟩⟩
 refine⟨_,rfl,_,hx.seq,uB hx,by rw[bU];omega,λi acc=>acc=intz ((ns.take i).filter λz=>!decide (z∈ms)),rfl,?_,?_⟩
 ·rintro i z acc hz rfl
  obtain⟨n,rfl,hn⟩:=mG hz
  have tk:=pD (p:=λz=>!decide (z∈ms)) hn
  refine⟨_,rfl,_,rfl,_,.inl ⟨ps,Sum.inl n,rfl,rfl,rfl⟩,_,rfl,?_⟩
  show if (!(cJ ps (Sum.inl n:aJ)).isSome)=true then _ else _
  rw[d.has n]
  by_cases h:n∈ms
  ·rw[aL1 h]at tk ⊢
   refine aD ?_
   show _=intz (List.filter _ (List.take (i+1) ns))
   rw[tk];exact congrArg intz (aO7 _).symm
  ·rw[aK9 h]at tk ⊢
   refine aN ⟨_,rfl,trivial,?_⟩
   show _=intz (List.filter _ (List.take (i+1) ns))
   rw[tk,dX];rfl
 ·rintro acc rfl
  rw[bU,aQ7]
  exact⟨⟨_,_,rfl,rfl,bZ _,trivial,q⟩,λns z=>by cases z⟩
noncomputable def av7 (ws:ae)(ls:aa)(S:ae)(h:Int):Bool:=decide (av5 (o3 ls h) S<ws.getD h.toNat 0)
noncomputable def stay (ws:ae)(ls:aa)(S:ae):ae:=S.filter (av7 ws ls S)
theorem av8 {n:Nat}{S:ae}(h:cB n S=true)(p:Int->Bool):cB n (S.filter p)=true:=by
 obtain⟨h1,h2⟩:=mJ h
 have u:uE (n:Int) (S.filter p):=⟨(pC h1).filter p,λx hx=>h2 x (List.mem_filter.mp hx).1,by
  have:=mK h
  have:=List.length_filter_le p S
  omega⟩
 exact u.set
theorem av9 {xs:List PV}{w:Int}(h:0<=w):eQ xs none (some w)=xs.take w.toNat:=by
 unfold eQ
 rw[HT.Z7,List.drop_zero,Nat.sub_zero]
 have:HT.aU xs.length xs.length (some w)=min w.toNat xs.length:=by
  show (if w<0 then (w+(xs.length:Int)).toNat else min w.toNat xs.length)=_
  rw[if_neg (by omega)]
 rw[this,<- List.take_take,aQ7]
theorem aw0 {ns:ae}{w:Int}(h:0<=w):eQ (intz ns) none (some w)=intz (ns.take w.toNat):=by
 rw[av9 h];exact List.map_take.symm
theorem o0 {ls:aa}{wts:ae}(e:wts.length=ls.length):(ls.zip wts).map (·.2)=wts:=by
 rw[List.map_snd_zip];omega
section
variable {ws:ae}{ls:aa}{ns wts:ae}{m:Nat}
noncomputable def loose (ls:aa)(wts ns:ae):List ((Int×Int)×Int):=(ls.zip wts).filter λz=>!(decide (z.1.1∈ns)&&decide (z.1.2∈ns))
end
end Core
namespace PP
open PySem L2 PyProof.Rows
section
variable {X:Cx}{a b e:Expr}{ta tb te:aG}{D:cX}{σ:L2.St}{H:Hp}{pos p2:Pos}
noncomputable def pN (p:gK)(te:aG):aS:=λD ρ=>te ρ λx g=>sQ g x/\p x (sP g x) ρ λρ2=>D.nx ρ2
theorem aw1 {p:gK}{g:TG}{own:Nat->Prop}(hg:kE X.K own p g)(h:LS X (pN p te) D σ H):lE (LE X te) g D σ H:=by
 obtain⟨W,ρ,D',px,q,k⟩:=h
 refine⟨W,ρ,_,px,q,?_⟩
 rintro v H1 x gt s r ⟨st,q⟩
 refine hg X.H₀ W σ ρ H1 v x _ _ _ (px.mono s) (yC px st r) q λσ' ρ' px' _ _ q'=>?_
 exact k.nx W σ' H1 ρ' (Ev.same s) px' q'
theorem F4 (i j:Nat){x y:Str}{tp xp yp:Pos}{kt:Nat}(hN:X.N.Nodup)(he:QE X e te)(hx:X.N[i]? = some x:=by rfl)(hy:X.N[j]? = some y:=by rfl)(hlx:hG X.env.scope x:=by first|exact Or.inl rfl|exact Or.inr rfl)(hly:hG X.env.scope y:=by first|exact Or.inl rfl|exact Or.inr rfl)(hfx:X.fn x=true∨X.env.scope.names.lookup x=some .local:=by first|exact .inl rfl|exact .inr rfl)(hfy:X.fn y=true∨X.env.scope.names.lookup y=some .local:=by first|exact .inl rfl|exact .inr rfl)(hc:X.calm=true:=by rfl)(hs:swapsWithSole [.Tuple [.Name x xp,.Name y yp] kt tp] e pos.line X.env=pure false:=by rfl)(hw:swappedStores [.Tuple [.Name x xp,.Name y yp] kt tp] e X.env=pure none:=by rfl):QS X (.Assign [.Tuple [.Name x xp,.Name y yp] kt tp] e pos) (pN (oI i j) te):=by
 have g:PG X (.Tuple [.Name x xp,.Name y yp] kt tp) (lD X.K 2 (hJ (dN i) (hJ (dN j) lC))):=qP hc (jZ (iG hN hx hlx hfx) (jZ (iG hN hy hly hfy) qO))
 exact fG (V8 he g hs hw) λ_ _ _=>aw1 (ak8 _ i j)
end
noncomputable abbrev dY:=(Str->Prop)->c7
noncomputable def EX (K:ac)(H0:Hp)(Ep:Str->Prop):XK:=λc d H'=>d=none/\aB H0 H'/\∃n C,c = .ref C/\PySem.W.nsIn K mainGlobals n=some (some (.ref C))/\Ep n
noncomputable def F5 (K:ac)(p:dY):Sp:=λvs H Q E=>∃xs Qp Ep,Reps K (λ_=>True) H vs xs/\p Ep xs Qp/\(∀v H' x,aB H H'->aF K (λa=>H a=none) H' v x->Qp x->Q v H')/\
 ∀n C H',aB H H'->PySem.W.nsIn K mainGlobals n=some (some (.ref C))->Ep n->E (.ref C) none H'
structure cK (P:Program)(w:World)(K:ac)(mg:Str->Option Value)(base:Heap)(k:Nat)(x:Str)(ps:List Str)(p:dY):Prop where
 ex:∃f fd,cR P w K mg base (dD P w) k f fd ps (F5 K p)/\hV K fd ps []/\PySem.W.keepIn K (.ref f)=true/\mg x=some (.ref f)
section
variable {X:Cx}{σ:L2.St}{H:Hp}{D:cX}{tr:cE}{Q':VK}{a b c e:Expr}{es:List Expr}{pos p2 cp np hp:Pos}{t:aS}{te:aG}{tc:cI}
noncomputable def kU (Ep:Str->Prop)(p:dY)(t:cE):aG:=aE (p Ep) t
theorem F6 {p:dY}{Ep:Str->Prop}(h:LE X (kU Ep p tr) σ H Q'):rB (F5 X.K p) [] (EX X.K X.H₀ Ep) (LA X tr) σ H Q':=by
 obtain⟨W,ρ,Q,px,q,k⟩:=h
 refine⟨W,ρ,_,px,q,λvs H1 xs s1 r1 q1=>⟨_,_,Ep,by rw[aO7];exact r1.any,q1,λv H' x s2 r2 q2=>k v H' x .fr (s1.trans s2) (r2.same (aB.refl _) λ_ z=>s1.free z) q2,λn C H' s2 z1 z2=>⟨rfl,(px.same.trans s1).trans s2,n,C,rfl,z1,z2⟩⟩⟩
theorem pO {Ep:Str->Prop}{k j:Nat}{x:Str}{ps:List Str}{p:dY}(hX:kR X (EX X.K X.H₀ Ep))(d:cK X.prog X.w X.K X.mg X.base k x ps p)(hr:bW j X.A)(ha:QA X (e::es) tr)(hkj:k<=j:=by decide)(hg:Gl X x:=by rfl)(hdb:(x==("__debug__":Str))=false:=by decide)(he:starEach (e::es) X.env=(false,eval e X.env)::starEach es X.env:=by rfl)(hpl:(backTo pos (starEach es X.env)).any (·.1)=false:=by rfl):QE X (.Call (.Name x p2) (e::es) [] pos) (kU Ep p tr):=by
 obtain⟨f,fd,F,b,kp,m⟩:=d.ex
 exact cA (rC F (hr.mono hkj) hg m kp b .nil hX.pass ha hdb he hpl) λ_ _ _=>F6
theorem aw2 {k j:Nat}{x:Str}{ps:List Str}{p:dY}(d:cK X.prog X.w X.K X.mg X.base k x ps p)(hr:bW j X.A)(ha:QA X (e::es) tr)(hkj:k<=j:=by decide)(hg:Gl X x:=by rfl)(hdb:(x==("__debug__":Str))=false:=by decide)(he:starEach (e::es) X.env=(false,eval e X.env)::starEach es X.env:=by rfl)(hpl:(backTo pos (starEach es X.env)).any (·.1)=false:=by rfl):QE X (.Call (.Name x p2) (e::es) [] pos) (aE (p λ_=>False) tr):=by
 obtain⟨f,fd,F,b,kp,m⟩:=d.ex
 refine cA (rC F (E:=EX X.K X.H₀ λ_=>False) (hr.mono hkj) hg m kp b .nil (λ_ _ _ _ _ _ _ h=>?_) ha hdb he hpl) λ_ _ _ h=>F6 (Ep:=λ_=>False) h
 obtain⟨_,_,_,_,_,_,_,_,_,_,_,_,z⟩:=h
 exact z.elim
noncomputable def gV (Ep:Str->Prop)(n:Str)(t:cE):aS:=λ_ ρ=>t ρ λxs=>xs.length<=1000/\Ep n
theorem aw3 {Ep:Str->Prop}{n:Str}{C:Addr}(hn:PySem.W.nsIn X.K mainGlobals n=some (some (.ref C)))(h:LS X (gV Ep n tr) D σ H):B5 (EX X.K X.H₀ Ep) C (LA X tr) D σ H:=by
 obtain⟨W,ρ,D',px,q,k⟩:=h
 exact⟨W,ρ,_,px,q,λvs H1 xs s1 r z=>⟨by rw[r.length];exact oB z.1,rfl,px.same.trans s1,n,C,rfl,hn,z.2⟩⟩
structure Xc (K:ac)(mg:Str->Option Value)(base:Heap)(n:Str):Prop where
 ex:∃C B newId initId bm,OwnCls n C bm newId mg base/\ExcBaseFacts B newId initId bm/\PySem.W.nsIn K mainGlobals n=some (some (.ref C))
theorem jO {Ep:Str->Prop}{n:Str}(hX:kR X (EX X.K X.H₀ Ep))(x:Xc X.K X.mg X.base n)(ha:QA X (e::es) tr)(hc:X.calm=true:=by rfl)(hg:Gl X n:=by rfl)(hd:(n==("__debug__":Str))=false:=by decide)(he:starEach (e::es) X.env=(false,eval e X.env)::starEach es X.env:=by rfl)(hpl:(backTo cp (starEach es X.env)).any (·.1)=false:=by rfl):QS X (.Raise (some (.Call (.Name n np) (e::es) [] cp)) none pos) (gV Ep n tr):=by
 obtain⟨C,B,newId,initId,bm,O,FB,hn⟩:=x.ex
 exact fG (aq9 hX hc O FB ha hg hd he hpl) λ_ _ _=>aw3 hn
noncomputable abbrev kW:=gJ->(Str->Prop)->bB->Prop
noncomputable def LB (X:Cx)(t:kW):TB:=λD Ex σ H=>∃(W:Addr->Prop) (ρ:bB) (D':gJ) (Ep:Str->Prop),PX X.K X.H₀ W σ ρ H/\t D' Ep ρ/\lS X W H D' D/\∀n C H',aB H H'->PySem.W.nsIn X.K mainGlobals n=some (some (.ref C))->Ep n->Ex (.ref C) none H'
noncomputable def QB (X:Cx)(sts:List Stmt)(t:kW):Prop:=PB X sts (LB X t)
theorem pbI {sts:List Stmt}{t t':TB}(h:PB X sts t)(m:∀D Ex σ H,t' D Ex σ H->t D Ex σ H):PB X sts t':=λpins s σ H D Ex I q=>h pins s σ H D Ex I (m D Ex σ H q)
noncomputable def F7 (p:dY)(t:cE):kW:=λD Ep ρ=>t ρ λxs=>p Ep (xs.map (·.1)) λ_=>D.nx ρ
theorem aw4 {k j:Nat}{x:Str}{ps:List Str}{p:dY}(d:cK X.prog X.w X.K X.mg X.base k x ps p)(hr:bW j X.A)(ha:∀E,QA (X.wish E) (e::es) tr)(hkj:k<=j:=by decide)(hg:Gl X x:=by rfl)(hdb:(x==("__debug__":Str))=false:=by decide)(he:starEach (e::es) X.env=(false,eval e X.env)::starEach es X.env:=by rfl)(hpl:(backTo cp (starEach es X.env)).any (·.1)=false:=by rfl)(hsw:swapsWith (.Call (.Name x p2) (e::es) [] cp) none pos.line X.env=pure false:=by rfl):QB X [.Expr (.Call (.Name x p2) (e::es) [] cp) pos] (F7 p tr):=by
 obtain⟨f,fd,F,b,kp,m⟩:=d.ex
 refine pbI (ar3 (t:=LA X tr) F (hr.mono hkj) hg m kp b (λE=>ha E) hdb he hpl hsw) λD Ex σ H h=>?_
 obtain⟨W,ρ,D',Ep,px,q,k,ke⟩:=h
 exact⟨W,ρ,_,px,q,λvs H1 xs s1 r q1=>⟨_,_,Ep,r.any,q1,λv H' x s2 r2 q2=>k.nx W σ H' ρ (Ev.same (s1.trans s2)) (px.mono (s1.trans s2)) q2,λn C H' s2 z1 z2=>ke n C H' (s1.trans s2) z1 z2⟩⟩
noncomputable def F8 (D:gJ)(i:Nat):gJ:={ nx:=λρ=>D.nx (ρ.set i none),rt:=D.rt,bk:=λρ=>D.bk (ρ.set i none),ct:=λρ=>D.ct (ρ.set i none) }
noncomputable def jP:List Str:=["BadWeb","BadSet","BadOrder","BadPrices","BadBoard","BadDeed","NotWood","NoPaper","NoSuch","TooMany","NoText","OddRound"]
noncomputable def jQ (n m:Str):Option Bool:=if jP.contains n then some (n==m||m=="HearthError"||m=="ValueError") else none
noncomputable def uF (m:Str)(i:Nat)(tb:kW)(ts:aS):aS:=λD ρ=>tb D (λn=>jQ n m=some true/\ts (F8 D i) (ρ.set i (some (.sh true (.exc n))))) ρ
theorem aw5 {m:Str}{Ch:Addr}{i:Nat}{tb:kW}{ts:aS}(hs:∀n C,jQ n m=some true->PySem.W.nsIn X.K mainGlobals n=some (some (.ref C))->PySem.W.subIn X.K (.ref C) (.ref Ch)=some true)(h:LS X (uF m i tb ts) D σ H):B7 X.K Ch i (LB X tb) (LS X ts) D σ H:=by
 obtain⟨W,ρ,D',px,q,k⟩:=h
 refine⟨W,ρ,D',_,px,q,k,λn C H' s z1 z2 a C' oe hc na hcl=>?_⟩
 cases hc
 refine⟨hs n C z2.1 z1,W,_,F8 D' i,(px.mono (s.trans (bI na _))).setSh (g:=true) (.exc bP z1 hcl),z2.2,?_⟩
 have k':=k.step (Ev.same (W:=W) (s.trans (bI na (.frz oe (.own a)))))
 exact⟨λW' σ' H2 ρ' ev px' q'=>k'.nx W' _ H2 _ ev px'.setNone q',k'.rt,λW' σ' H2 ρ' ev px' q'=>k'.bk W' _ H2 _ ev px'.setNone q',λW' σ' H2 ρ' ev px' q'=>k'.ct W' _ H2 _ ev px'.setNone q'⟩
structure uG (K:ac)(mg:Str->Option Value)(m:Str):Prop where
 ex:∃Ch,mg m=some (.ref Ch)/\u7 K Ch/\∀n C,jQ n m=some true->PySem.W.nsIn K mainGlobals n=some (some (.ref C))->PySem.W.subIn K (.ref C) (.ref Ch)=some true
theorem aw6 (i:Nat){m n:Str}{b₀:Stmt}{suite body:List Stmt}{tb:kW}{ts:aS}(ct:uG X.K X.mg m)(hN:X.N.Nodup)(hb:QB X body tb)(hs:∀a,eR (X.suite a) (b₀::suite) ts)(hstk:X.stack=X.env::X.outer/\X.env.frame=some X.env.locals:=by exact⟨rfl,rfl⟩)(hi:X.N[i]? = some n:=by rfl)(hl:X.env.scope.names.lookup n=some .local:=by rfl)(hg:Gl X m:=by rfl)(hd:(m==("__debug__":Str))=false:=by decide):QS X (.Try body [.ExceptHandler (some (.Name m np)) (some n) (b₀::suite) hp] [] [] pos) (uF m i tb ts):=by
 obtain⟨Ch,hm,c,sub⟩:=ct.ex
 exact fG (ar4 (ts:=LS X ts) hstk hb hg hm c hN hi hl (λa=>tE (hs a) λ_ _ _ ⟨W,ρ,D',px,q,k⟩=>⟨W,ρ,D',px,q,⟨k.nx,k.rt,k.bk,k.ct⟩⟩) hd) λ_ _ _=>aw5 sub
noncomputable def fX:V->Value
 |.ref a=>.ref a
 |.ty n=>.type n
 |_=>.none
noncomputable def aw7 (K:ac):List V->Hp->VK->Prop:=λxs H Q=>∃v v2 b,xs = [v,v2]/\fX v2≠.none/\((∃a o C,v = .ref a/\H a=some (.frz o (.own a))/\o.cls = .ref C/\gS K C/\PySem.W.kitOne K (.ref C) (fX v2)=some b)∨(v = .non/\PySem.W.kitOne K (.type "NoneType") (fX v2)=some b))/\Q (.bl b) H
theorem aw8:cG X (.builtin "isinstance") (aw7 X.K):=by
 intro pins s σ H xs us Q I r h
 obtain⟨v,v2,b,rfl,hv,hk,q⟩:=h
 obtain⟨u,u',rfl,ru,ru'⟩:=lJ r
 obtain rfl:u'=fX v2:=by
  cases v2<;>first|exact ru'|exact absurd rfl hv
 rcases hk with⟨a,o,C,rfl,hH,hc,F,e⟩|⟨rfl,e⟩
 ·obtain⟨h1,_⟩:=I.hok a _ hH
  cases (show u=Value.ref a from ru)
  exact aP0 (as1 F) I.kIn ⟨o,h1,hc⟩ e (λz=>nomatch z) λtk=>⟨.bl b,H,I.tok tk,rfl,q⟩
 ·cases (show u=Value.none from ru)
  exact aP0 PySem.W.kitx_none I.kIn trivial e (λz=>nomatch z) λtk=>⟨.bl b,H,I.tok tk,rfl,q⟩
noncomputable def aw9 (m:Str):PV->Option Bool
 |.exc n=>jQ n m
 |.non=>some false
 |_=>none
noncomputable def jR (m:Str)(te:aG):aG:=λρ Q=>te ρ λx _=>∃b,aw9 m x=some b/\Q (.bl b) .fr
structure uH (K:ac)(m:Str)(v2:V):Prop where
 nn:fX v2≠.none
 ex:∀n C b,PySem.W.nsIn K mainGlobals n=some (some (.ref C))->jQ n m=some b->gS K C/\PySem.W.kitOne K (.ref C) (fX v2)=some b
 no:PySem.W.kitOne K (.type "NoneType") (fX v2)=some false
theorem F9 {x:Str}{v2:V}{px:Pos}(B:Bt X.mg)(A:uH X.K x v2)(hx:PE X (.Name x px) (tC v2))(ha:QE X a te)(hg:Gl X "isinstance":=by rfl)(he:starEach [a,.Name x px] X.env=(false,eval a X.env)::starEach [.Name x px] X.env:=by rfl)(he2:starEach [.Name x px] X.env=(false,eval (.Name x px) X.env)::starEach [] X.env:=by rfl)(hpl:(backTo pos (starEach [.Name x px] X.env)).any (·.1)=false:=by rfl):QE X (.Call (.Name "isinstance" p2) [a,.Name x px] [] pos) (jR x te):=
 cA (lM aw8 hg B.isinst PyProof.Rows.boot_isinstance (e8 ha (e8 hx gH he2) he) (he:=he) (hpl:=hpl)) λσ H Q' h=>by
  obtain⟨W,ρ,Q,px,q,k⟩:=h
  refine⟨W,ρ,_,px,q,?_⟩
  rintro v H1 y g s r ⟨b,e,q⟩
  refine⟨v,v2,b,rfl,A.nn,?_,k _ _ _ .fr s (.bl _) q⟩
  cases r with
  |exc h z c=>
   obtain⟨F,kt⟩:=A.ex _ _ _ z e
   exact .inl ⟨_,_,_,rfl,h,c,F,kt⟩
  |non=>cases e;exact .inr ⟨rfl,A.no⟩
  |_=>cases e
end
section
variable {X:Cx}{a:Expr}{pos p2 px:Pos}{te:aG}
structure jS (K:ac)(mg:Str->Option Value)(m:Str):Prop where
 ex:∃C,mg m=some (.ref C)/\uH K m (.ref C)
structure uI (K:ac)(mg:Str->Option Value):Prop where
 mg:mg "ValueError" = none
 is:uH K "ValueError" (.ty "ValueError")
theorem uJ {x:Str}(B:Bt X.mg)(A:jS X.K X.mg x)(ha:QE X a te)(hgx:Gl X x:=by rfl)(hdx:(x==("__debug__":Str))=false:=by decide)(hg:Gl X "isinstance":=by rfl)(he:starEach [a,.Name x px] X.env=(false,eval a X.env)::starEach [.Name x px] X.env:=by rfl)(he2:starEach [.Name x px] X.env=(false,eval (.Name x px) X.env)::starEach [] X.env:=by rfl)(hpl:(backTo pos (starEach [.Name x px] X.env)).any (·.1)=false:=by rfl):QE X (.Call (.Name "isinstance" p2) [a,.Name x px] [] pos) (jR x te):=by
 obtain⟨C,m,i⟩:=A.ex
 exact F9 B i (qL hgx m rfl hdx) ha hg he he2 hpl
theorem ax0 (B:Bt X.mg)(A:uI X.K X.mg)(ha:QE X a te)(hgx:Gl X "ValueError":=by rfl)(hg:Gl X "isinstance":=by rfl)(he:starEach [a,.Name "ValueError" px] X.env=(false,eval a X.env)::starEach [.Name "ValueError" px] X.env:=by rfl)(he2:starEach [.Name "ValueError" px] X.env=(false,eval (.Name "ValueError" px) X.env)::starEach [] X.env:=by rfl)(hpl:(backTo pos (starEach [.Name "ValueError" px] X.env)).any (·.1)=false:=by rfl):QE X (.Call (.Name "isinstance" p2) [a,.Name "ValueError" px] [] pos) (jR "ValueError" te):=
 F9 B A.is (vG (v:=.ty "ValueError") hgx A.mg PyProof.Rows.Boot.«ValueError» rfl (by decide) (by decide)) ha hg he he2 hpl
end
structure iU (K:ac)(C:Addr):Prop where
 cls:PySem.W.isClsIn K C=true
 ty:PySem.W.typeIn K (.ref C)=some (.type "type")
 ga:PySem.W.findIn K (.ref C) "__getattribute__" = some (some (.builtin "BaseException.__getattribute__"))
 gt:PySem.W.findIn K (.ref C) "__getattr__" = some none
 fc:PySem.W.findIn K (.ref C) "__class__" = some (some (.builtin "object.__class__"))
 fg:PySem.W.specialIn K (.builtin "object.__class__") "__get__" = some (some (.builtin "getset_descriptor.__get__"))
 ft:PySem.W.takesIn K (.builtin "object.__class__")=some true
 ob:PySem.W.mroIn K C (.type "object")=some true
 be:PySem.W.mroIn K C (.type "BaseException")=some true
theorem iU.exc {K:ac}{C:Addr}(h:iU K C):gS K C:=⟨h.cls,h.ga,h.gt,h.fc,h.fg,h.ft,h.ob,h.be⟩
theorem G0 {K:ac}{h₀:Heap}{mg:Str->Option Value}{x:Str}{C:Addr}{bmB:List Value}{newId:String}(X:K.In h₀)(m:mg x=some (.ref C))(q:PySem.W.excIn K C bmB newId=true):OwnCls x C bmB newId mg h₀:=by
 refine⟨m,?_⟩
 unfold PySem.W.excIn at q
 split at q
 case h_2=>cases q
 rename_i dd cd sl ho
 split at q
 case h_2=>cases q
 rename_i C' bm k0 k1 k2 k3 n k5 hm hs
 simp only[aN3,beq_iff_eq,Bool.not_eq_true']at q
 obtain⟨⟨⟨⟨⟨rfl,rfl⟩,dl⟩,ht⟩,hok⟩,hni⟩:=q
 obtain⟨nm,bs,mro,ns,qn,hd,sn,sub,ab,col,del⟩:=cd
 dsimp only at hm dl hok hni
 subst hm dl
 obtain rfl:sl = #[k0,k1,k2,k3,some (.builtin n),k5]:=by
  obtain⟨l⟩:=sl
  exact congrArg Array.mk hs
 exact⟨bm,ns,nm,qn,bs,hd,sn,sub,ab,col,dd,k0,k1,k2,k3,k5,_,X _ _ ho,.of_isNs (PySem.W.isNs_of_in X hok),PySem.W.nsMap_none_of_in X hok hni,PySem.W.tail_of_in X ht⟩
theorem mP {n m:Str}{b:Bool}(h:jQ n m=some b):n∈jP/\b=(n==m||m=="HearthError"||m=="ValueError"):=by
 unfold jQ at h
 split at h
 ·rename_i z
  exact⟨by simpa using z,by cases h;rfl⟩
 ·cases h
theorem kX {K:ac}{C D:Addr}{b:Bool}(hd:iU K D)(ne:(C==D)=false)(s:PySem.W.subIn K (.ref C) (.ref D)=some b):PySem.W.kitOne K (.ref C) (.ref D)=some b:=by
 have ne':(Value.ref C==Value.ref D)=false:=by
  rw[aT2]at ne ⊢
  exact λz=>ne (Value.ref.inj z)
 have c:=hd.cls
 unfold PySem.W.isClsIn at c
 unfold PySem.W.kitOne PySem.W.kitCls
 rw[if_neg (by rw[ne'];decide)]
 dsimp only
 rw[if_pos (by rw[c,hd.ty];decide)]
 exact s
theorem uK {K:ac}{C:Addr}:PySem.W.kitOne K (.ref C) (.ref C)=some true:=by
 unfold PySem.W.kitOne
 rw[if_pos (aP1 _)]
theorem uL {K:ac}{C:Addr}(s:PySem.W.subIn K (.ref C) (.type "ValueError")=some true):PySem.W.kitOne K (.ref C) (.type "ValueError")=some true:=by
 unfold PySem.W.kitOne PySem.W.kitCls
 rw[if_neg (λz=>by cases beq_iff_eq.mp z)]
 dsimp only
 rw[if_pos (by decide +kernel)]
 exact s
theorem uM {K:ac}{D:Addr}(hd:iU K D)(s:PySem.W.subIn K (.type "NoneType") (.ref D)=some false):PySem.W.kitOne K (.type "NoneType") (.ref D)=some false:=by
 have c:=hd.cls
 unfold PySem.W.isClsIn at c
 unfold PySem.W.kitOne PySem.W.kitCls
 rw[if_neg (λz=>by cases beq_iff_eq.mp z)]
 dsimp only
 rw[if_pos (by rw[c,hd.ty];decide)]
 exact s
theorem ax1 {K:ac}:PySem.W.kitOne K (.type "NoneType") (.type "ValueError")=some false:=by
 have e:(if PySem.W.kitMeta "ValueError" = true then (fastBuiltinMro "NoneType").map (·.contains (Value.type "ValueError")) else none)=some false:=by decide +kernel
 unfold PySem.W.kitOne
 rw[if_neg (by decide)]
 exact e
theorem cK.of {P:Program}{w:World}{K:ac}{mg:Str->Option Value}{base:Heap}{k:Nat}{x:Str}{ps N:List Str}{p:dY}{st:Stmt}{f:Addr}{fd:FuncData}(F:eJ K x x st f fd)(m:mg x=some (.ref f))(S:FnScope N ps (aX st))(hb:∀(kV doc pm:Value) (an:Option Addr) (cdv ct:Value) (us:List Value),us.length=ps.length->bindArgs (PySem.W.fnOf x x (i7 st) (dO st) (aX st) .none kV doc pm an cdv ct) ⟨us,[]⟩=pure (ps.zip us))(t:(Str->Prop)->aS)(len:∀Ep xs Q,p Ep xs Q->xs.length=ps.length)(rd:∀Ep xs Q,p Ep xs Q->t Ep { nx:=λ_=>Q .non,rt:=Q } (cY N xs))(body:∀(cdv:Value) (A:Around) (outer:List Env) (s:Shared) (H:Hp) (E:XK) (Ep:Str->Prop),bW k (A.deeper (envOfC x (aX st) s.heap.objs.size f cdv))->kR (cS (dD P w) P w K mg base N x (aX st) f cdv A outer s H E) (EX K H Ep)->
   eR (cS (dD P w) P w K mg base N x (aX st) f cdv A outer s H E) (dO st) (t Ep)):cK P w K mg base (k+1) x ps p:=by
 refine⟨f,fd,F.okX S (λvs H Q E h=>?_) (λcdv A outer s H vs Q E hr h=>?_),F.binds hb,F.kp,m⟩
 ·obtain⟨xs,Qp,Ep,r,q,_⟩:=h
  rw[r.length];exact len Ep xs Qp q
 ·obtain⟨xs,Qp,Ep,r,q,k,ke⟩:=h
  have ht:=body cdv A outer s H E Ep hr (aq8 λc d H' z=>?_)
  ·refine⟨_,ht,λ_=>False,cY N xs,_,tO r,rd Ep xs Qp q,?_,?_,?_,?_⟩
   ·exact λW' σ' H' ρ' e px q=>k _ _ _ px.same .non q
   ·exact λv H' x s r q=>k _ _ _ s r q
   ·exact λW' σ' H' ρ' e px q=>q
   ·exact λW' σ' H' ρ' e px q=>q
  ·obtain⟨rfl,s1,n,C,rfl,z1,z2⟩:=z
   exact ke n C H' s1 z1 z2
end PP
namespace Core
open PySem L2 PP
noncomputable abbrev mQ (t:(Str->Prop)->aS)(N:List Str)(p:dY):Prop:=∀Ep xs Q,p Ep xs Q->t Ep { nx:=λ_=>Q .non,rt:=Q } (cY N xs)
noncomputable def pP:dY:=λEp xs Q=>∃ws ls x ns,xs = [bQ ws ls,x]/\dE x ns/\ns.length<=1000/\(cB ws.length ns=true->Q (.tup (intz ns)))/\(cB ws.length ns=false->Ep "BadSet")
noncomputable def G1 (Ep:Str->Prop):aS:=(aI (aZ (dI (aH (aE pG (a6 (a5 0) (a6 (a5 1) a9))))) (gV Ep "BadSet" (a6 (qC (.str "a set is of rising hearths of the web")) a9)) b6)
 (aV (aE dB (a6 (a5 1) a9))))
theorem ax2:mQ G1 ["web","hearths"] pP:=by
 rintro Ep xs Q ⟨ws,ls,x,ns,rfl,hx,hl,q1,q2⟩
 refine⟨_,rfl,_,rfl,ws,ls,x,ns,rfl,hx,hl,_,rfl,?_⟩
 cases h:cB ws.length ns with
 |true=>exact aD ⟨_,rfl,⟨_,_,rfl,hx.seqT,bZ _,trivial,q1 h⟩,hx.noscr⟩
 |false=>exact aN ⟨by decide,q2 h⟩
end Core
namespace PP
open PySem L2
theorem pQ {us:List Value}(h:us.length=1):∃a,us = [a]:=List.length_eq_one_iff.mp h
theorem uN {us:List Value}(h:us.length=2):∃a b,us = [a,b]:=by
 cases us with
 |nil=>cases h
 |cons a r=>
  obtain⟨b,rfl⟩:=pQ (us:=r) (by simpa using h)
  exact⟨a,b,rfl⟩
theorem G2 {us:List Value}(h:us.length=3):∃a b c,us = [a,b,c]:=by
 cases us with
 |nil=>cases h
 |cons a r=>
  obtain⟨b,c,rfl⟩:=uN (us:=r) (by simpa using h)
  exact⟨a,b,c,rfl⟩
end PP
namespace Core
open PySem L2 PP
section
variable {ws:ae}{ls:aa}
noncomputable def cne (ws:ae)(ls:aa)(S:ae):Bool:=!decide (S = [])&&decide (stay ws ls S=S)
theorem ax3 {a b:ad}(h:a.Perm b)(ha:a.Pairwise λu v=>HT.cD v u=false)(hb:b.Pairwise λu v=>HT.cD v u=false):a=b:=
 h.eq_of_pairwise (λx y _ _ h1 h2=>sC h2 h1) ha hb
theorem ax4 {a b:Int×Int}(e:two a=two b):a=b:=by
 unfold two at e
 injection e with e1 e2
 injection e2 with e2 _
 exact Prod.ext e1 e2
end
end Core
namespace PP
open PySem L2
section
variable {X:Cx}{a b:Expr}{ta tb:aG}{pos:Pos}
theorem G3 {K:ac}{M M':Addr->Prop}{H:Hp}{v:V}{m n:ae}(r1:aF K M H v (.tup (intz m)))(r2:aF K M' H v (.tup (intz n))):m=n:=by
 obtain⟨p,us,rfl,h1,q1⟩:=r1.sqT
 obtain⟨p2,ws,e,h2,q2⟩:=r2.sqT
 cases e
 rw[h1]at h2
 cases h2
 have:=(q1.ofInts).symm.trans q2.ofInts
 exact (List.map_inj_right λ_ _ e=>by cases e;rfl).mp this
end
end PP
namespace Core
open PySem L2 PP
noncomputable def far (ns S:ae):Bool:=decide (((S.filter λx=>decide (x∈ns)).length:Int)=0)
noncomputable def ax5 (ls:aa)(S U:ae):Prop:=∀x∈U,∀y∈o3 ls x,y∈S->y∈U
noncomputable def ax6 (ls:aa)(S:ae)(h:Int):ae:=S.filter λx=>@decide (∀U:ae,ax5 ls S U->h∈U->x∈U) (Classical.propDecidable _)
section
variable {ws:ae}{ls:aa}{S:ae}{n:Nat}{h x:Int}
noncomputable def ax7 (ls:aa)(S:ae)(h:Int):Bool:=decide ((ax6 ls S h).head? = some h)
noncomputable def ax8 (ls:aa)(S:ae):ae:=S.filter (ax7 ls S)
end
noncomputable def G4 (ws:ae)(ls:aa):ae->ae->Bool
 |_,[]=>true
 |B,h::R=>inB ws.length h&&(kin ws ls B h&&G4 ws ls (B++[h]) R)
end Core
namespace Raw
open PySem PySem.W PySem.Calls PyProof.Rows
theorem uO {xs:List Nat}(a:xs.Pairwise (·<·)){i k:Nat}(hk:k<xs.length)(h:i<=k):xs.getD i 0<=xs.getD k 0:=by
 rcases aO0 i k with z|z
 ·have:=aR8.mp a i k (by omega) hk z
  rw[aL7,aL7,aK3 (by omega),aK3 hk]
  exact aR3 this
 ·rw[Nat.le_antisymm h z];exact aK8 _
theorem ax9 {xs:Array Nat}{i j:Nat}(h:i<xs.size):xs.getD i j=xs.toList.getD i 0:=by
 rw[aL7,aS1,Array.getD_eq_getD_getElem?,Array.getElem?_eq_getElem h];rfl
theorem uP {xs:Array Nat}{j:Nat}(a:xs.toList.Pairwise (·<·)):∀(fuel lo hi:Nat),lo<=hi->hi<=xs.size->hi-lo<=fuel->(∀i,i<lo->xs.toList.getD i 0<j)->(∀i,hi<=i->i<xs.size->j<=xs.toList.getD i 0)->
  SetTable.below.go xs j fuel lo hi<=xs.size/\(∀i,i<SetTable.below.go xs j fuel lo hi->xs.toList.getD i 0<j)/\∀i,SetTable.below.go xs j fuel lo hi<=i->i<xs.size->j<=xs.toList.getD i 0
 |0,lo,hi,h1,h2,h3,h4,h5=>by
  have e:lo=hi:=by omega
  subst e
  exact⟨h2,h4,h5⟩
 |fuel+1,lo,hi,h1,h2,h3,h4,h5=>by
  have sz:xs.toList.length=xs.size:=aP4
  unfold SetTable.below.go
  by_cases lt:lo<hi
  ·rw[if_pos lt]
   dsimp only
   have m1:lo<=(lo+hi)/2:=by omega
   have m2:(lo+hi)/2<hi:=by omega
   rw[ax9 (by omega)]
   by_cases c:xs.toList.getD ((lo+hi)/2) 0<j
   ·rw[if_pos c]
    exact uP a fuel _ _ (by omega) h2 (by omega) (λi hi'=>Nat.lt_of_le_of_lt (uO a (by omega) (by omega)) c) h5
   ·rw[if_neg c]
    exact uP a fuel _ _ (by omega) (by omega) (by omega) h4 λi h6 h7=>aN8 (Nat.le_of_not_lt c) (uO a (by omega) h6)
  ·rw[if_neg lt]
   have e:lo=hi:=by omega
   subst e
   exact⟨h2,h4,h5⟩
theorem ay0 {xs:Array Nat}{j:Nat}(a:xs.toList.Pairwise (·<·)):SetTable.below xs j<=xs.size/\(∀i,i<SetTable.below xs j->xs.toList.getD i 0<j)/\∀i,SetTable.below xs j<=i->i<xs.size->j<=xs.toList.getD i 0:=
 uP a xs.size 0 xs.size (aP3 _) (aK8 _) (by omega) (λi h=>absurd h (Nat.not_lt_zero _)) λi h1 h2=>absurd h2 (by omega)
theorem ay1 {α:Type}(xs:Array α)(p:Nat)(x:α):(SetTable.insertAt xs p x).toList=xs.toList.take p++x::xs.toList.drop p:=by
 unfold SetTable.insertAt
 simp
 exact aQ3 (by simp)
theorem ay2 {xs:Array Nat}{j:Nat}(a:xs.toList.Pairwise (·<·))(ne:xs[SetTable.below xs j]?≠some j):(SetTable.insertAt xs (SetTable.below xs j) j).toList.Pairwise (·<·):=by
 obtain⟨b1,b2,b3⟩:=ay0 (j:=j) a
 have sz:xs.toList.length=xs.size:=aP4
 rw[ay1]
 refine aO5.mpr ⟨a.sublist (List.take_sublist _ _),aW1.mpr ⟨λx hx=>?_,a.sublist (List.drop_sublist _ _)⟩,λx hx y hy=>?_⟩
 ·obtain⟨i,hi,e⟩:=aR9 hx
  rw[aP7]at hi
  rw[List.getElem_drop]at e
  have h1:=b3 (SetTable.below xs j) (aK8 _) (by omega)
  have h2:=uO a (i:=SetTable.below xs j) (k:=SetTable.below xs j+i) (by omega) (by omega)
  have h3:xs.toList.getD (SetTable.below xs j+i) 0=x:=by rw[aL7,aK3 (by omega),e];rfl
  rcases aO0 j x with z|z
  ·exact z
  ·exfalso
   have h4:xs.toList.getD (SetTable.below xs j) 0=j:=by omega
   rw[aL7,aK3 (by omega)]at h4
   refine ne ?_
   rw[<- aS1,aK3 (by omega)]
   exact congrArg some h4
 ·have hx':x<j:=by
   obtain⟨i,hi,e⟩:=aR9 hx
   rw[aQ6]at hi
   rw[List.getElem_take]at e
   have:=b2 i (by omega)
   rw[aL7,aK3 (by omega),e]at this
   exact this
  rcases aL0.mp hy with e|hy
  ·rw[e];exact hx'
  ·obtain⟨i,hi,e⟩:=aR9 hy
   rw[aP7]at hi
   rw[List.getElem_drop]at e
   have:=b3 (SetTable.below xs j+i) (by omega) (by omega)
   rw[aL7,aK3 (by omega),e]at this
   exact aL4 hx' this
structure gE (b:Bool)(t:SetTable):Prop where
 asc:t.place.toList.Pairwise (·<·)
 dm:t.dummies = #[]
 led:t.led=b
theorem G5 (j:Nat):SetTable.has #[] j=false:=by
 unfold SetTable.has
 simp
theorem G6 {t:SetTable}(dm:t.dummies = #[]){h:Int}{j:Nat}{d:Option Nat}:∀(fuel:Nat) (p:SetTable.Probe),p.dummy=none->SetTable.probe.go t (λ_=>h+1) h fuel p=some (.empty j d)->d=none/\t.slot j = .empty
 |0,p,_,e=>by cases e
 |fuel+1,p,hp,e=>by
  unfold SetTable.probe.go at e
  have adv:∀p:SetTable.Probe,p.dummy=none->(t.advance p).dummy=none:=λp hp=>by
   unfold SetTable.advance
   split<;>exact hp
  cases hs:t.slot p.j with
  |empty=>
   rw[hs]at e
   cases e
   exact⟨hp,hs⟩
  |dummy=>
   exfalso
   unfold SetTable.slot at hs
   dsimp only at hs
   rw[dm,G5]at hs
   split at hs<;>cases hs
  |live i=>
   rw[hs]at e
   dsimp only at e
   rw[if_neg (by simp;omega)]at e
   exact G6 dm fuel _ (adv p hp) e
theorem ay3 {t:SetTable}(dm:t.dummies = #[]){h:Int}{sl:Nat}{d:Bool}(e:t.freeSlot h=some (sl,d)):t.slot sl = .empty:=by
 unfold SetTable.freeSlot at e
 split at e
 ·rename_i j dummy hm
  obtain⟨e1,e2⟩:=G6 dm _ _ rfl hm
  subst e1
  cases e
  exact e2
 ·cases e
theorem pR {b:Bool}{t:SetTable}(h:gE b t)(n:Nat):gE b (t.standIn n):=⟨by
 show (Array.range n).toList.Pairwise (·<·)
 rw[Array.toList_range];exact List.pairwise_lt_range,rfl,h.led⟩
theorem ay4 {b:Bool}{t:SetTable}(h:gE b t){j:Nat}(hs:t.slot j = .empty):gE b (t.put j).1:=by
 refine⟨?_,?_,h.led⟩
 ·refine ay2 h.asc λe=>?_
  unfold SetTable.slot at hs
  dsimp only at hs
  rw[if_pos (by rw[e];exact aP1 _)]at hs
  cases hs
 ·show (if SetTable.has t.dummies j then SetTable.eraseAt t.dummies (SetTable.below t.dummies j) else t.dummies) = #[]
  rw[h.dm,G5];rfl
theorem ay5 {b:Bool}{t:SetTable}(h:gE b t)(es:Array (Int×Value))(k:Int)(x:Value):gE b (layNew t es k x).2.1:=by
 unfold layNew
 split
 ·rename_i sl wd e
  have p:=ay4 h (ay3 h.dm e)
  show gE b (SetTable.orStandIn _ _)
  unfold SetTable.orStandIn
  split
  ·exact p
  ·exact pR p _
 ·exact pR h _
theorem ay6 {b:Bool}{t:SetTable}(h:gE b t)(es:Array (Int×Value))(n:Nat):gE b (relayAll t es n).2.1:=by
 unfold relayAll
 split
 ·rename_i t' order e
  dsimp only
  split
  ·show gE b t'
   unfold SetTable.relaid SetTable.laid at e
   cases hc:SetTable.layClean (SetTable.sizeAbove n-1) (es.map (·.1)) with
   |none=>rw[hc]at e;cases e
   |some owner=>
    rw[hc]at e
    cases e
    refine⟨?_,rfl,h.led⟩
    show (List.map _ _).Pairwise (·<·)
    refine List.pairwise_map.mpr (List.Pairwise.filterMap _ (R:=(·<·)) ?_ List.pairwise_lt_range)
    intro i i' hlt x hx y hy
    cases ho:owner.getD i none with
    |none=>rw[ho]at hx;cases hx
    |some v=>
     rw[ho]at hx
     cases ho2:owner.getD i' none with
     |none=>rw[ho2]at hy;cases hy
     |some v2=>
      rw[ho2]at hy
      cases hx;cases hy
      exact hlt
  ·exact pR h _
 ·exact pR h _
theorem G7 {us vs:List Value}(p:us.Perm vs):∀{ns:ae},IntsAre vs ns->∃ms,IntsAre us ms/\ms.Perm ns:=by
 induction p with
 |nil=>intro ns h;exact⟨ns,h,List.Perm.refl _⟩
 |cons x _ ih=>
  intro ns h
  cases h with
  |cons n t r=>
   obtain⟨ms,h1,h2⟩:=ih r
   exact⟨n::ms,.cons n t h1,h2.cons n⟩
 |swap x y l=>
  intro ns h
  cases h with
  |cons n t r=>
   cases r with
   |cons n' t' r=>
    exact⟨n'::n::_,.cons n' t' (.cons n t r),List.Perm.swap _ _ _⟩
 |trans _ _ ih1 ih2=>
  intro ns h
  obtain⟨ms,h1,h2⟩:=ih2 h
  obtain⟨ms',h3,h4⟩:=ih1 h1
  exact⟨ms',h3,h4.trans h2⟩
theorem G8:∀{us:List Value}{ns:ae},IntsAre us ns->∀(k:Int) (t:Nat),IntsAre (us++[.int k t]) (ns++[k])
 |_,_,.nil,k,t=>.cons k t .nil
 |_,_,.cons n u r,k,t=>.cons n u (G8 r k t)
theorem pS:∀{us:List Value}{ns:ae},IntsAre us ns->∀k:Int,k∈ns↔∃t,Value.int k t∈us
 |_,_,.nil,k=>⟨(λh=>nomatch h),(λ⟨_,h⟩=>nomatch h)⟩
 |_,_,.cons n u r,k=>by
  constructor
  ·intro h
   rcases aL0.mp h with e|h
   ·exact⟨u,by rw[e];exact aM3⟩
   ·obtain⟨t,ht⟩:=(pS r k).mp h
    exact⟨t,aM6 _ ht⟩
  ·rintro⟨t,h⟩
   rcases aL0.mp h with e|h
   ·cases e;exact aM3
   ·exact aM6 _ ((pS r k).mpr ⟨t,h⟩)
noncomputable abbrev mR (es:Array (Int×Value))(ep:Nat)(t:SetTable):Obj:={ cls:=.type "set",dict:=none,data:=.set es ep t,slots:=#[] }
section
variable {prog:Program}{w:World}{A:Around}{E:Value→Shared→Prop}{s:Shared}
noncomputable def ay7 (prog:Program)(w:World)(es:Array (Int×Value))(t:SetTable)(ms:ae):Prop:=ElemsOf (intKind prog w) es.toList/\IntsAre (es.toList.map (·.2)) ms/\es.size<scanBound/\t.fits es.size=true/\gE (!w.params.followText "set-order") t
noncomputable def G9 (prog:Program)(w:World)(h:Heap)(a:Addr)(ms:ae):Prop:=∃es ep t,h.get? a=some (mR es ep t)/\ay7 prog w es t ms
theorem J0 {h:Heap}{a:Addr}{es es':Array (Int×Value)}{ep:Nat}{t t':SetTable}(ho:h.get? a=some (mR es ep t)):(h.update a (Obj.putSet es' t')).get? a=some (mR es' (ep+1) t'):=by
 have:=Heap.get?_update_self (Obj.putSet es' t') ho (by rw[putSet_of es' t' (rfl:(mR es ep t).data=_)];rfl)
 rw[putSet_of es' t' (rfl:(mR es ep t).data=_)]at this
 exact this
theorem add_int {a:Addr}{ms:ae}{k:Int}{u:Nat}{Q:Bool->Shared->Prop}(hS:G9 prog w s.heap a ms)(room:ms.length+1<scanBound)(h:∀b h' ms',Heap.SameBut a s.heap h'->G9 prog w h' a ms'->(k∈ms->ms'.Perm ms)->(k∉ms->ms'.Perm (ms++[k]))->Q b { s with heap:=h' }) :
  wpAny (model prog w) A (setAddHashed a (.int k u) ((intKind prog w).hash k)) Q E s:=by
 obtain⟨es,ep,t,ho,hel,hi,hb,hf,tk⟩:=hS
 have key:(intKind prog w).is k (.int k u)=true:=intKind_is _ _ _ _
 have ln:ms.length=es.size:=by
  have:=IntsAre.length hi
  rw[aL2,aP4]at this
  exact this.symm
 have isk:∀v,(intKind prog w).is k v=true->∃u,v = .int k u:=λv hv=>Value.isInt_shape hv
 unfold setAddHashed setAddHashedIn
 refine aV1 (aK2 (wpAny_setState_of ho rfl hf ?_))
 dsimp only
 rw[byScan_of (knd:=intKind prog w) (x:=.int k u) rfl hb hel,if_pos rfl]
 unfold setAddByScan
 refine aK2 (aK2 (aV8 ?_))
 refine aK2 (wpAny_setScan_of key ho rfl hf hel ?_)
 cases hr:List.findIdx? (λe=>(intKind prog w).is k e.2) es.toList with
 |some j=>
  dsimp only
  obtain⟨hj,hp,_⟩:=List.findIdx?_eq_some_iff_getElem.mp hr
  have km:k∈ms:=by
   obtain⟨u',e⟩:=isk _ hp
   exact (pS hi k).mpr ⟨u',by rw[<- e];exact aO1.mpr ⟨_,aR6 hj,rfl⟩⟩
  have e:s={ s with heap:=s.heap }:=by cases s;rfl
  rw[e]
  exact aK7 (aK7 (h _ s.heap ms (Heap.SameBut.refl a s.heap) ⟨es,ep,t,ho,hel,hi,hb,hf,tk⟩ (λ_=>List.Perm.refl _) λn=>absurd km n))
 |none=>
  dsimp only
  have km:k∉ms:=λz=>by
   obtain⟨u',hm⟩:=(pS hi k).mp z
   obtain⟨e,he,e2⟩:=aO1.mp hm
   have:=List.findIdx?_eq_none_iff.mp hr e he
   rw[e2,intKind_is _ _ _ _]at this;cases this
  have lp:=layNew_perm t es ((intKind prog w).hash k) (.int k u)
  have lf:=layNew_fits t es ((intKind prog w).hash k) (.int k u)
  have lk:=ay5 tk es ((intKind prog w).hash k) (.int k u)
  generalize hL:layNew t es ((intKind prog w).hash k) (.int k u)=L at lp lf lk ⊢
  obtain⟨es1,t1,wd,gave⟩:=L
  dsimp only at lp lf lk ⊢
  rw[Array.toList_push]at lp
  have el1:ElemsOf (intKind prog w) es1.toList:=(hel.push key rfl).perm lp
  have sz1:es1.size=es.size+1:=by rw[<- aP4,lp.length_eq,aL9,aP4];rfl
  obtain⟨ms1,i1,p1⟩:∃ms1,IntsAre (es1.toList.map (·.2)) ms1/\ms1.Perm (ms++[k]):=G7 (lp.map (·.2)) (by rw[aT3];exact G8 hi k u)
  have hb1:es1.size<scanBound:=by omega
  have gw:∀(b:Bool) (s₁:Shared) (Q':Unit->Shared->Prop),Q' () s₁->wpAny (model prog w) A (match b with|true=>rule "set.scan.the-table-gave-way" |false=>pure ()) Q' E s₁:=λb s₁ Q' hq=>by
   cases b
   ·exact aK7 hq
   ·exact aV8 hq
  refine aK2 (gw _ _ _ ?_)
  split<;>(
   show wpAny _ _ (storeSet a es1 t1 >>= _) _ _ _
   simp only[↓reduceIte]
   refine aK2 (wpAny_storeSet_of ho rfl ?_ (fits_of_scanBound hb1))
   have ho1:=J0 (es':=es1) (t':=t1) ho
   have sb1:=Heap.SameBut.update s.heap a (Obj.putSet es1 t1)
   split
   ·have rp:=relayAll_perm t1 es1 (SetTable.grown es1.size)
    have rf:=relayAll_fits t1 es1 (SetTable.grown es1.size)
    have rk:=ay6 lk es1 (SetTable.grown es1.size)
    generalize relayAll t1 es1 (SetTable.grown es1.size)=L at rp rf rk ⊢
    obtain⟨es2,t2,gave2⟩:=L
    dsimp only at rp rf rk ⊢
    have sz2:es2.size=es1.size:=by rw[<- aP4,rp.length_eq,aP4]
    obtain⟨ms2,i2,p2⟩:=G7 (rp.map (·.2)) i1
    refine aK2 (gw _ _ _ ?_)
    refine aK2 (wpAny_storeSet_of ho1 rfl ?_ (fits_of_scanBound (by omega)))
    exact aK7 (aK7 (h _ _ ms2 (sb1.trans (Heap.SameBut.update _ a _)) ⟨es2,_,t2,J0 ho1,el1.perm rp,i2,by omega,rf,rk⟩ (λz=>absurd z km) λ_=>p2.trans p1))
   ·exact aK7 (aK7 (h _ _ ms1 sb1 ⟨es1,_,t1,ho1,el1,i1,hb1,lf,lk⟩ (λz=>absurd z km) λ_=>p1)))
end
end Raw
namespace PP
open PySem L2
section
variable {X:Cx}{a b:Expr}{ta tb:aG}{pos:Pos}
noncomputable def J1 (K:ac):R2:=λx y H Q=>∃p us ns,∃rs:ad,y = .ref p/\H p=some (.tup us)/\aF K (λ_=>True) H x (.tup (intz ns))/\Reps K (λ_=>True) H us (rs.map λr=>PV.tup (intz r))/\Q (.bl (decide (ns∈rs))) H
open Classical in
theorem ay8 (hu:X.A.units+3<cLine):bR X (compareOp .In) (J1 X.K):=by
 intro pins s σ H x y v u Q I rx ry h
 obtain⟨p,us,ns,rs,rfl,hp,rn,rr,q⟩:=h
 cases ry
 obtain⟨its,r,pl,hz⟩:=I.tuple (aL.of (K:=X.K) hp)
 obtain⟨px,ws,rfl,hx,qx⟩:=rn.sqT
 have lr:=r.length
 have lp:=rr.length
 rw[aL2]at lp
 let f:Value->Bool:=λw=>decide (∃v',aT v' w/\aF X.K (λ_=>True) H v' (.tup (intz ns)))
 have key:∀j (w:Value),its[j]? = some w->∃m,rs[j]? = some m/\SeqAt.EqAt X.A.in1 s w v (decide (m=ns))/\(f w=decide (m=ns)):=λj w hw=>by
  have hj:=(aM0.mp hw).1
  have h1:j<us.length:=by omega
  obtain⟨w',hw',rw'⟩:=r.get (aK3 h1)
  rw[hw]at hw'
  cases hw'
  obtain⟨m',hm',rm⟩:=rr.get (aK3 h1)
  rw[aM9]at hm'
  cases hm:rs[j]? with
  |none=>rw[hm]at hm';cases hm'
  |some m=>
   rw[hm]at hm'
   cases hm'
   refine⟨m,hm,?_,?_⟩
   ·have:=tK I 2 (A:=X.A.in1) (by show X.A.units+1+2<cLine;omega) rm rn rw' rx (by exact yT 1 m ns)
    rw[yR 1]at this
    exact this
   ·have:(∃v',aT v' w/\aF X.K (λ_=>True) H v' (.tup (intz ns)))↔m=ns:=by
     refine⟨λ⟨v',h1',h2'⟩=>?_,λe=>⟨_,rw',by rw[<- e];exact rm⟩⟩
     obtain⟨p1,w1,e1,_,_⟩:=rm.sqT
     obtain⟨p2,w2,e2,_,_⟩:=h2'.sqT
     rw[e1]at rw' rm
     rw[e2]at h1' h2'
     cases rw'
     cases h1'
     exact G3 rm h2'
    show decide _=decide _
    exact decide_eq_decide.mpr this
 refine SeqAt.in_tupleAt f pl (λw hw=>?_) ⟨.bl _,H,I,rfl,?_⟩
 ·have hw:w∈its:=by simpa using hw
  obtain⟨j,hj⟩:=aU4 hw
  obtain⟨m,_,h1,h2⟩:=key j w hj
  rw[h2];exact h1
 ·have:its.toArray.any f=decide (ns∈rs):=by
   rw[show its.toArray.any f=its.any f by simp,aO9,List.any_eq_true,aL5]
   refine⟨λ⟨w,hw,e⟩=>?_,λh=>?_⟩
   ·obtain⟨j,hj⟩:=aU4 hw
    obtain⟨m,hm,_,h2⟩:=key j w hj
    rw[h2,aL5]at e
    rw[<- e];exact aW8 hm
   ·obtain⟨j,hj⟩:=aU4 h
    have hl:=(aM0.mp hj).1
    obtain⟨m,hm,_,h2⟩:=key j its[j] (aK3 (by omega))
    rw[hj]at hm
    cases hm
    exact⟨its[j]'(by omega),aR6 _,by rw[h2];exact aL1 rfl⟩
  rw[this]
  exact q
noncomputable def mS:PV->Tg->PV->Tg->PK->Prop:=λx _ y _ Q=>∃ns,∃rs:ad,x = .tup (intz ns)/\y = .tup (rs.map λr=>PV.tup (intz r))/\Q (.bl (decide (ns∈rs))) .fr
theorem ay9:cN X mS (J1 X.K):=by
 rintro W Hs H u v x y g g' Q Q' s n r1 r2 ⟨ns,rs,rfl,rfl,q⟩ k
 obtain⟨p,us,rfl,h,r⟩:=r2.sqT
 exact⟨p,us,ns,rs,rfl,h,r1.same (aB.refl _) (λ_ _=>trivial),r.same (aB.refl _) (λ_ _=>trivial),k _ _ _ .fr (aB.refl _) (.bl _) q⟩
theorem J2 (hu:X.A.units+3<cLine)(ha:QE X a ta)(hb:QE X b tb)(hm:behindInMarks .In b=false:=by rfl):QE X (.Compare a [.In] [b] pos) (q2 mS ta tb):=m6 (ay8 hu) ay9 ha hb hm
end
end PP
namespace L2
open PySem PySem.Spec PyProof.Rows
theorem az0 {a b c:ae}(h1:HT.cD a b=true)(h2:HT.cD b c=true):HT.cD a c=true:=by
 cases e:HT.cD a c with
 |true=>rfl
 |false=>
  have ca:=sB (lO h2) (lO h1)
  have:=sC e ca
  subst this
  have:=lO h1
  rw[h2]at this;cases this
theorem uQ {α:Type}{p q:α->Bool}:∀{l:List α},(∀x∈l,p x=true->q x=true)->(l.filter p).length<=(l.filter q).length
 |[],_=>aK8 _
 |x::l,h=>by
  have ih:=uQ (l:=l) λy hy=>h y (aM6 _ hy)
  have hx:=h x aM3
  rw[aV3,aV3]
  cases ep:p x with
  |false=>cases q x<;>simp<;>omega
  |true=>rw[hx ep];simp;omega
theorem J3 {α:Type}{p q:α->Bool}:∀{l:List α},(∀x∈l,p x=true->q x=true)->(∃x∈l,q x=true/\p x=false)->(l.filter p).length<(l.filter q).length
 |[],_,e=>by obtain⟨_,z,_⟩:=e;cases z
 |x::l,h,e=>by
  have hx:=h x aM3
  have h':∀y∈l,p y=true->q y=true:=λy hy=>h y (aM6 _ hy)
  have le:=uQ h'
  rw[aV3,aV3]
  obtain⟨y,hy,qy,py⟩:=e
  rcases aL0.mp hy with rfl|hy
  ·rw[qy,py];simp;omega
  ·have ih:=J3 h' ⟨y,hy,qy,py⟩
   cases ep:p x with
   |false=>cases q x<;>simp<;>omega
   |true=>rw[hx ep];simp;omega
noncomputable def jT (ys:ad)(x:ae):Nat:=(ys.filter λy=>HT.cD y x).length
theorem J4 {ys:ad}{u v:ae}(hu:u∈ys)(hv:v∈ys):HT.cD u v=decide ((jT ys u:Int)<(jT ys v:Int)):=by
 have irr:∀a:ae,HT.cD a a=false:=λa=>by
  cases e:HT.cD a a with
  |false=>rfl
  |true=>have:=lO e;rw[e]at this;cases this
 cases e:HT.cD u v with
 |true=>
  have:jT ys u<jT ys v:=J3 (λx _ h=>az0 h e) ⟨u,hu,e,irr u⟩
  exact (aL1 (by omega)).symm
 |false=>
  have:jT ys v<=jT ys u:=uQ λx _ h=>by
   cases e2:HT.cD x u with
   |true=>rfl
   |false=>have:=sB e2 e;rw[h]at this;cases this
  exact (aK9 (by omega)).symm
end L2
namespace L2
open PySem PySem.Spec PyProof.Rows SO
section
variable {prog:Program}{w:World}{A:Around}{E:Value→Shared→Prop}{s:Shared}
structure kY (h:Heap)(v:Value)(ns:ae):Prop where
 at_:∃b ob us n,v = .ref b/\h.get? b=some ob/\ob.cls = .type "tuple"/\ob.data = .seq (List.toArray us) n/\IntsAre us ns
noncomputable def uR (h:Heap)(v:Value):ae:=match v with
 |.ref b=>match h.get? b with
  |some ob=>match ob.data with
   |.seq us _=>us.toList.map numOf
   |_=>[]
  |none=>[]
 |_=>[]
theorem J5:∀{us:List Value}{ns:ae},IntsAre us ns->us.map numOf=ns
 |_,_,.nil=>rfl
 |_,_,.cons _ _ h=>by rw[aO2,J5 h];rfl
theorem kY.ints {h:Heap}{v:Value}{ns:ae}(z:kY h v ns):uR h v=ns:=by
 obtain⟨b,ob,us,n,rfl,e2,_,e4,e5⟩:=z.at_
 unfold uR
 dsimp only
 rw[e2];dsimp only
 rw[e4];exact J5 e5
noncomputable def kZ (h:Heap)(ys:ad)(x:Keyed):Int:=(jT ys (uR h x.1):Int)
end
end L2
namespace L2
open PySem PySem.Spec PyProof.Rows
section
variable {X:Cx}
theorem az1 (hc:X.calm=true):cG X (.builtin "min") (λxs H Q=>∃(a:Addr) (ns:ae),xs = [.ref a]/\aM X.K H a (ns.map V.int)/\ns≠[]/\∀M:Int,M∈ns->(∀x∈ns,M<=x)->Q (.int M) H):=by
 intro pins s σ H xs us Q I r h
 obtain⟨a,ns,rfl,hq,ne,q⟩:=h
 obtain⟨u,rfl,ru⟩:=eG r
 cases ru
 obtain⟨its,rv,p,hz⟩:=I.list hq
 have ia:=j5 rv
 obtain⟨ys,ey⟩:=ia.allInts.items
 have en:ns=ys.toList.map (·.1):=by
  have e1:=nums_intItems ys
  rw[<- ey]at e1
  exact ia.numsOf.symm.trans e1
 have pos:0<ys.size:=Nat.pos_of_ne_zero λz=>ne (by rw[en,aT9 z];rfl)
 have hl:s.heap.IsList a (intItems ys):=ey▸p.isList
 refine min_intList (I.ok.hd hc) hl pos λv h' tk ev old=>?_
 obtain⟨t,rfl⟩:=intItems_at ev
 have best:=argBest_lt (numAt ys) (ys.size-1)
 have mem:∀x:Int,x∈ns↔∃j,j<ys.size/\numAt ys j=x:=λx=>by
  rw[en]
  constructor
  ·intro z
   obtain⟨j,hj,e⟩:=mem_getD z
   exact⟨j,by simpa using hj,by rw[numAt_eq];exact e⟩
  ·rintro⟨j,hj,rfl⟩
   rw[numAt_eq]
   exact getD_mem (by simpa using hj)
 refine⟨.int _,H,I.kept (t':=tk) (h':=h') old,⟨t,rfl⟩,q _ ?_ λx hx=>?_⟩
 ·exact (mem _).mpr ⟨_,by have:=best.1;omega,rfl⟩
 ·obtain⟨j,hj,rfl⟩:=(mem x).mp hx
  exact best.2 j (by omega)
end
end L2
namespace PP
open PySem L2
section
variable {X:Cx}{e:Expr}{tr:cE}{pos p2:Pos}
noncomputable def J6:List PV->(PV->Prop)->Prop:=λxs Q=>∃ns:ae,xs = [.lst (intz ns)]/\ns≠[]/\∀M:Int,M∈ns->(∀x∈ns,M<=x)->Q (.int M)
theorem az2:cV X J6 (λxs H Q=>∃(a:Addr) (ns:ae),xs = [.ref a]/\aM X.K H a (ns.map V.int)/\ns≠[]/\∀M:Int,M∈ns->(∀x∈ns,M<=x)->Q (.int M) H):=by
 rintro H vs xs Q Q' r ⟨ns,rfl,ne,q⟩ k
 obtain⟨v,rfl,r1⟩:=r.one
 obtain⟨a,us,rfl,_,h,r2⟩:=r1.sqL
 rw[r2.ofInts]at h
 exact⟨a,ns,rfl,aM.of h,ne,λM m1 m2=>k _ _ _ (aB.refl _) (.int M) (q M m1 m2)⟩
end
end PP
namespace L2
open PySem PySem.Spec PyProof.Rows
section
variable {X:Cx}
theorem az3 (hc:X.calm=true):cG X (.builtin "max") (λxs H Q=>∃(a:Addr) (ns:ae),xs = [.ref a]/\aM X.K H a (ns.map V.int)/\ns≠[]/\∀M:Int,M∈ns->(∀x∈ns,x<=M)->Q (.int M) H):=by
 intro pins s σ H xs us Q I r h
 obtain⟨a,ns,rfl,hq,ne,q⟩:=h
 obtain⟨u,rfl,ru⟩:=eG r
 cases ru
 obtain⟨its,rv,p,hz⟩:=I.list hq
 have ia:=j5 rv
 obtain⟨ys,ey⟩:=ia.allInts.items
 have en:ns=ys.toList.map (·.1):=by
  have e1:=nums_intItems ys
  rw[<- ey]at e1
  exact ia.numsOf.symm.trans e1
 have pos:0<ys.size:=Nat.pos_of_ne_zero λz=>ne (by rw[en,aT9 z];rfl)
 have hl:s.heap.IsList a (intItems ys):=ey▸p.isList
 refine max_intList (I.ok.hd hc) hl pos λv h' tk ev old=>?_
 obtain⟨t,rfl⟩:=intItems_at ev
 have best:=argBest_gt (numAt ys) (ys.size-1)
 have mem:∀x:Int,x∈ns↔∃j,j<ys.size/\numAt ys j=x:=λx=>by
  rw[en]
  constructor
  ·intro z
   obtain⟨j,hj,e⟩:=mem_getD z
   exact⟨j,by simpa using hj,by rw[numAt_eq];exact e⟩
  ·rintro⟨j,hj,rfl⟩
   rw[numAt_eq]
   exact getD_mem (by simpa using hj)
 refine⟨.int _,H,I.kept (t':=tk) (h':=h') old,⟨t,rfl⟩,q _ ?_ λx hx=>?_⟩
 ·exact (mem _).mpr ⟨_,by have:=best.1;omega,rfl⟩
 ·obtain⟨j,hj,rfl⟩:=(mem x).mp hx
  exact best.2 j (by omega)
end
end L2
namespace PP
open PySem L2
section
variable {X:Cx}{a b e o:Expr}{ta tb te to:aG}{tr:cE}{pos p2 apos cpos:Pos}{σ:St}{H:Hp}{Q':VK}
noncomputable def J7:List PV->(PV->Prop)->Prop:=λxs Q=>∃ns:ae,xs = [.lst (intz ns)]/\ns≠[]/\∀M:Int,M∈ns->(∀x∈ns,x<=M)->Q (.int M)
theorem az4:cV X J7 (λxs H Q=>∃(a:Addr) (ns:ae),xs = [.ref a]/\aM X.K H a (ns.map V.int)/\ns≠[]/\∀M:Int,M∈ns->(∀x∈ns,x<=M)->Q (.int M) H):=by
 rintro H vs xs Q Q' r ⟨ns,rfl,ne,q⟩ k
 obtain⟨v,rfl,r1⟩:=r.one
 obtain⟨a,us,rfl,_,h,r2⟩:=r1.sqL
 rw[r2.ofInts]at h
 exact⟨a,ns,rfl,aM.of h,ne,λM m1 m2=>k _ _ _ (aB.refl _) (.int M) (q M m1 m2)⟩
noncomputable def pT:List PV->(PV->Prop)->Prop:=λxs Q=>(∃i,xs = [.int i]/\Q (.int i))∨∃k,xs = [.bl k]/\Q (.int (if k then 1 else 0))
theorem az5:cV X pT (λxs H Q=>(∃i,xs = [.int i]/\Q (.int i) H)∨∃k,xs = [.bl k]/\Q (.int (if k then 1 else 0)) H):=by
 rintro H vs xs Q Q' r (⟨i,rfl,q⟩|⟨i,rfl,q⟩) k
 ·obtain⟨v,rfl,r1⟩:=r.one
  cases r1
  exact .inl ⟨i,rfl,k _ _ _ (aB.refl _) (.int _) q⟩
 ·obtain⟨v,rfl,r1⟩:=r.one
  cases r1
  exact .inr ⟨i,rfl,k _ _ _ (aB.refl _) (.int _) q⟩
theorem J8 (B:Bt X.mg)(ha:QA X [e] tr)(hg:Gl X "int":=by rfl)(he:starEach [e] X.env=(false,eval e X.env)::starEach [] X.env:=by rfl)(hpl:(backTo pos (starEach [] X.env)).any (·.1)=false:=by rfl):QE X (.Call (.Name "int" p2) [e] [] pos) (aE pT tr):=
 tI Y7 az5 hg B.int PyProof.Rows.boot_int ha (he:=he) (hpl:=hpl)
open Classical in
theorem az6 {A:Around}(hu:A.units+2<cLine){pins:List (Addr×Obj)}{s:Shared}{H:Hp}{us:List V}{its:List Value}{rs:ad}{ns:ae}{x:V}{v:Value}(I:a8 X pins σ H s)(rx:aT x v)(r:aQ us its)(rn:aF X.K (λ_=>True) H x (.tup (intz ns)))(rr:Reps X.K (λ_=>True) H us (rs.map λr=>PV.tup (intz r))):∃f:Value->Bool,∀(j:Nat) (w:Value),its[j]? = some w->∃m,rs[j]? = some m/\SeqAt.EqAt A s w v (f w)/\f w=decide (m=ns):=by
 have lr:=r.length
 have lp:=rr.length
 rw[aL2]at lp
 refine⟨λw=>decide (∃v',aT v' w/\aF X.K (λ_=>True) H v' (.tup (intz ns))),λj w hw=>?_⟩
 have hj:=(aM0.mp hw).1
 have h1:j<us.length:=by omega
 obtain⟨w',hw',rw'⟩:=r.get (aK3 h1)
 rw[hw]at hw'
 cases hw'
 obtain⟨m',hm',rm⟩:=rr.get (aK3 h1)
 rw[aM9]at hm'
 cases hm:rs[j]? with
 |none=>rw[hm]at hm';cases hm'
 |some m=>
  rw[hm]at hm'
  cases hm'
  have e2:(decide (∃v',aT v' w/\aF X.K (λ_=>True) H v' (.tup (intz ns))))=decide (m=ns):=by
   have:(∃v',aT v' w/\aF X.K (λ_=>True) H v' (.tup (intz ns)))↔m=ns:=by
    refine⟨λ⟨v',h1',h2'⟩=>?_,λe=>⟨_,rw',by rw[<- e];exact rm⟩⟩
    obtain⟨p1,w1,e1,_,_⟩:=rm.sqT
    obtain⟨p2,w2,e2,_,_⟩:=h2'.sqT
    rw[e1]at rw' rm
    rw[e2]at h1' h2'
    cases rw'
    cases h1'
    exact G3 rm h2'
   exact decide_eq_decide.mpr this
  refine⟨m,rfl,?_,e2⟩
  show SeqAt.EqAt A s w v (decide _)
  rw[e2]
  have:=tK I 2 (A:=A) hu rm rn rw' rx (by exact yT 1 m ns)
  rw[yR 1]at this
  exact this
noncomputable def K0 (K:ac):R2:=λx y H Q=>∃p us ns,∃rs:ad,y = .ref p/\H p=some (.lst us)/\aF K (λ_=>True) H x (.tup (intz ns))/\Reps K (λ_=>True) H us (rs.map λr=>PV.tup (intz r))/\Q (.bl (!decide (ns∈rs))) H
theorem az7 (hu:X.A.units+3<cLine):bR X (compareOp .NotIn) (K0 X.K):=by
 intro pins s σ H x y v u Q I rx ry h
 obtain⟨p,us,ns,rs,rfl,hp,rn,rr,q⟩:=h
 cases ry
 obtain⟨its,r,pl,hz⟩:=I.list (aM.of (K:=X.K) hp)
 have lr:=r.length
 have lp:=rr.length
 rw[aL2]at lp
 obtain⟨f,key⟩:=az6 (A:=X.A.in1) (by show X.A.units+1+2<cLine;omega) I rx r rn rr
 refine SeqAt.notIn_listAt f pl.isList (λw hw=>?_) ⟨.bl _,H,I,rfl,?_⟩
 ·have hw:w∈its:=by simpa using hw
  obtain⟨j,hj⟩:=aU4 hw
  obtain⟨m,_,h1,h2⟩:=key j w hj
  exact h1
 ·have:its.toArray.any f=decide (ns∈rs):=by
   rw[show its.toArray.any f=its.any f by simp,aO9,List.any_eq_true,aL5]
   refine⟨λ⟨w,hw,e⟩=>?_,λh=>?_⟩
   ·obtain⟨j,hj⟩:=aU4 hw
    obtain⟨m,hm,_,h2⟩:=key j w hj
    rw[h2,aL5]at e
    rw[<- e];exact aW8 hm
   ·obtain⟨j,hj⟩:=aU4 h
    have hl:=(aM0.mp hj).1
    obtain⟨m,hm,_,h2⟩:=key j its[j] (aK3 (by omega))
    rw[hj]at hm
    cases hm
    exact⟨its[j]'(by omega),aR6 _,by rw[h2];exact aL1 rfl⟩
  rw[this]
  exact q
noncomputable def uS:PV->Tg->PV->Tg->PK->Prop:=λx _ y _ Q=>∃ns,∃rs:ad,x = .tup (intz ns)/\y = .lst (rs.map λr=>PV.tup (intz r))/\Q (.bl (!decide (ns∈rs))) .fr
theorem az8:cN X uS (K0 X.K):=by
 rintro W Hs H u v x y g g' Q Q' s n r1 r2 ⟨ns,rs,rfl,rfl,q⟩ k
 obtain⟨p,us,rfl,_,h,r⟩:=r2.sqL
 exact⟨p,us,ns,rs,rfl,h,r1.same (aB.refl _) (λ_ _=>trivial),r.same (aB.refl _) (λ_ _=>trivial),k _ _ _ .fr (aB.refl _) (.bl _) q⟩
theorem az9 (hu:X.A.units+3<cLine)(ha:QE X a ta)(hb:QE X b tb)(hm:behindInMarks .NotIn b=false:=by rfl):QT X (.Compare a [.NotIn] [b] pos) (aH (q2 uS ta tb)):=fU (az7 hu) az8 ha hb hm
end
section
variable {X:Cx}{a b e:Expr}{ta tb te:aG}{tr:cE}{pos:Pos}{σ:St}{H:Hp}{Q':VK}{es:List Expr}
noncomputable def K1:PV->Tg->PV->Tg->PK->Prop:=λx _ y _ Q=>∃i j:Str,x = .str i/\y = .str j/\i.length+j.length<=1000/\Q (.str (i++j)) .fr
noncomputable abbrev K2 (ta tb:aG):aG:=q2 K1 ta tb
theorem aA0:cN X K1 (λx y H Q=>∃i j:Str,x = .str i/\y = .str j/\i.length+j.length<=sizeLine/\Q (.str (i++j)) H):=by
 rintro W Hs H u v x y g g' Q Q' s n r1 r2 ⟨i,j,rfl,rfl,h,q⟩ k
 cases r1;cases r2
 exact⟨i,j,rfl,rfl,oB h,k _ _ _ _ (aB.refl _) (.str _) q⟩
theorem aA1 (ha:QE X a ta)(hb:QE X b tb):QE X (.BinOp a .Add b pos) (K2 ta tb):=gQ Y4 aA0 ha hb
noncomputable def K3:R2:=λx y H Q=>∃(i:Str) (k:Bool),x = .str i/\y = .int (if k then 1 else 0)/\Q (.str (if k then i else Str.empty)) H
theorem aA2:bR X (binaryOp .Mult) K3:=by
 intro pins s σ H x y v u Q I rx ry h
 obtain⟨i,k,rfl,rfl,q⟩:=h
 obtain⟨t,rfl⟩:=rx
 obtain⟨t',rfl⟩:=ry
 cases k with
 |true=>exact SB.mul (n:=1) ⟨by decide,λ_ z=>by simp at z,λ_ z=>by simp at z⟩ λt' tk=>⟨.str i,H,I.tok _,⟨t',by simp[Txt.mul]⟩,q⟩
 |false=>exact SB.mul (n:=0) ⟨by decide,λz=>absurd (by decide) z,λz=>absurd (by decide) z⟩ λt' tk=>⟨.str Str.empty,H,I.tok _,⟨t',by simp[Txt.mul]⟩,q⟩
noncomputable def K4:PV->Tg->PV->Tg->PK->Prop:=λx _ y _ Q=>∃(i:Str) (k:Bool),x = .str i/\y = .int (if k then 1 else 0)/\Q (.str (if k then i else Str.empty)) .fr
noncomputable abbrev uT (ta tb:aG):aG:=q2 K4 ta tb
theorem aA3:cN X K4 K3:=by
 rintro W Hs H u v x y g g' Q Q' s n r1 r2 ⟨i,j,rfl,rfl,q⟩ k
 cases r1;cases r2
 exact⟨i,j,rfl,rfl,k _ _ _ _ (aB.refl _) (.str _) q⟩
theorem K5 (ha:QE X a ta)(hb:QE X b tb):QE X (.BinOp a .Mult b pos) (uT ta tb):=gQ aA2 aA3 ha hb
noncomputable def bL (neg:Bool):PV->Tg->PV->Tg->PK->Prop:=λx _ y _ Q=>∃i j:Str,x = .str i/\y = .str j/\Q (.bl (if neg=true then !decide (i=j) else decide (i=j))) .fr
theorem K6 (i j:Str):decide (V.str i=V.str j)=decide (i=j):=by
 rw[aO9,aL5,aL5];exact⟨λz=>V.str.inj z,λz=>congrArg V.str z⟩
theorem aA4:cN X (bL true) nJ:=by
 rintro W Hs H u v x y g g' Q Q' s n r1 r2 ⟨i,j,rfl,rfl,q⟩ k
 cases r1;cases r2
 exact⟨rfl,by rw[K6];exact k _ _ _ _ (aB.refl _) (.bl _) q⟩
theorem K7:cN X (bL false) qY:=by
 rintro W Hs H u v x y g g' Q Q' s n r1 r2 ⟨i,j,rfl,rfl,q⟩ k
 cases r1;cases r2
 exact⟨rfl,by rw[K6];exact k _ _ _ _ (aB.refl _) (.bl _) q⟩
theorem aA5 (ha:QE X a ta)(hb:QE X b tb):QT X (.Compare a [.NotEq] [b] pos) (aH (q2 (bL true) ta tb)):=fU r0 aA4 ha hb (e7 _)
theorem pU (ha:QE X a ta)(hb:QE X b tb):QE X (.Compare a [.Eq] [b] pos) (q2 (bL false) ta tb):=m6 qZ K7 ha hb (e7 _)
theorem fA (ha:QE X a ta)(hb:QE X b tb):QT X (.Compare a [.Eq] [b] pos) (aH (q2 (bL false) ta tb)):=fU qZ K7 ha hb (e7 _)
end
end PP
namespace Core
open PySem L2 PP
noncomputable def jU (h:Int):ae->ae
 |[]=>[h]
 |a::r=>if h<=a then h::a::r else a::jU h r
theorem uU (h:Int):∀A:ae,(jU h A).Perm (A++[h])
 |[]=>List.Perm.refl _
 |a::r=>by
  show (if h<=a then h::a::r else a::jU h r).Perm _
  split
  ·exact aW3 (l₁:=[h]) (l₂:=a::r)
  ·exact (uU h r).cons a
theorem K8 (h:Int):∀{A:ae},A.Pairwise (· <= ·)->(jU h A).Pairwise (· <= ·)
 |[],_=>aU8 _ _
 |a::r,p=>by
  have p':=aW1.mp p
  show (if h<=a then h::a::r else a::jU h r).Pairwise _
  split
  ·rename_i z
   exact aW1.mpr ⟨λx hx=>by
    rcases aL0.mp hx with rfl|hx
    ·exact z
    ·exact Int.le_trans z (p'.1 x hx),p⟩
  ·rename_i z
   exact aW1.mpr ⟨λx hx=>by
    rcases aS4.mp ((uU h r).mem_iff.mp hx) with hx|hx
    ·exact p'.1 x hx
    ·rw[aM5]at hx;omega,K8 h p'.2⟩
theorem aA6 {motive:ae->Prop}(z:motive [])(sn:∀L x,motive L->motive (L++[x])):∀L,motive L:=λL=>by
 have:∀R:ae,motive R.reverse:=by
  intro R
  induction R with
  |nil=>exact z
  |cons x r ih=>rw[List.reverse_cons];exact sn _ _ ih
 have:=this L.reverse
 rwa [List.reverse_reverse]at this
noncomputable def jV (O:ae):ae:=O.foldl (λA h=>jU h A) []
theorem aA7 (O:ae)(h:Int):jV (O++[h])=jU h (jV O):=by unfold jV;rw[List.foldl_append];rfl
theorem uV:∀O:ae,(jV O).Perm O/\(jV O).Pairwise (· <= ·):=by
 refine aA6 ⟨List.Perm.refl _,.nil⟩ ?_
 rintro O h ⟨i1,i2⟩
 rw[aA7]
 exact⟨(uU h _).trans (i1.append_right [h]),K8 h i2⟩
theorem K9 {O ms:ae}(p:ms.Perm O)(s:ms.Pairwise (· <= ·)):ms=jV O:=au0 (p.trans (uV O).1.symm) s (uV O).2
noncomputable def xO (ws:ae)(ls:aa)(ns R:ae):Prop:=G4 ws ls ns R=true/\av4 ws ls (ns++R)
end Core
namespace L2
open PySem PySem.Spec PyProof.Rows PP
section
variable {prog:Program}{w:World}{A:Around}{R:Result→Shared→Prop}{I S:Addr}{n:Nat}{l:Addr}{its:Array Value}{s0:Shared}{bt:Nat→Nat→Bool}
noncomputable abbrev at_ (s:Shared)(h:Heap)(k:Nat):Shared:={ s with heap:=h,toks:=k }
noncomputable abbrev aA8 (g h:Heap):Prop:=∀b o,g.get? b=some o->h.get? b=some o
noncomputable def cF (prog:Program)(w:World)(A:Around)(s0:Shared)(its:Array Value)(bt:Nat->Nat->Bool):Prop:=
 ∀(i j:Nat) (v u:Value) (h:Heap) (k:Nat) (Q E:Value->Shared->Prop),its[i]? = some v->its[j]? = some u->aA8 s0.heap h->Q (.bool (bt i j)) (at_ s0 h k)->wpAny (model prog w) A (richCompare .Lt v u) Q E (at_ s0 h k)
end
end L2
namespace Core
open PySem L2 PP
noncomputable def FB (L:ad)(f:ae->Int)(r:ae):Prop:=∃i,L[i]? = some r/\(∀(j:Nat) (s:ae),j<i->L[j]? = some s->f s<f r)/\∀s∈L,f s<=f r
end Core
namespace L2
open PySem PySem.Spec PyProof.Rows
section
variable {prog:Program}{w:World}{A:Around}{E:Value→Shared→Prop}{s:Shared}{l:Addr}{xs:Array (Int×Tok)}
theorem L4 {Q:Value->Shared->Prop}(hl:s.heap.IsTuple l (intItems xs))(h:∀h2:Heap,(h2.IsTupleIter s.heap.objs.size l 0/\h2.IsTuple l (intItems xs))->(∀b∈[s.heap.objs.size,l],b<h2.objs.size)->l≠s.heap.objs.size->(∀b o,s.heap.get? b=some o->b∉[s.heap.objs.size]/\h2.get? b=some o)->Q (.ref s.heap.objs.size) { s with heap:=h2 }):wpAny (model prog w) A (pyIter (.ref l)) Q E s:=by
 have lb:l<s.heap.objs.size:=by obtain⟨_,e,_⟩:=hl;exact aL8 e
 refine wpAny_pyIter_tuple hl (h _ ⟨⟨_,aM4 _ rfl,rfl,rfl⟩,hl.push _⟩ (λb hb=>?_) (aN6 lb) λb o e=>⟨λhm=>?_,aK4 _ e⟩)
 ·rw[aV6]
  rcases aL0.mp hb with rfl|hb
  ·exact Nat.lt_succ_self _
  ·rw[aM5.mp hb];exact Nat.lt_succ_of_lt lb
 ·rw[aM5.mp hm]at e
  exact absurd (aL8 e) (aQ5 _)
theorem aA9 {Q:Value->Shared->Prop}(hh:A.handled=none)(hl:s.heap.IsTuple l (intItems xs))(hne:0<xs.size)(h:∀v h' tk,(intItems xs)[argBest (λi j=>decide (numAt xs i>numAt xs j)) (xs.size-1)]? = some v->(∀b o,s.heap.get? b=some o->h'.get? b=some o)->Q v { s with heap:=h',toks:=tk }):wpAny (model prog w) A (call (.builtin "max") [.ref l]) Q E s:=by
 refine call_max_walk (L4 hl λh2 st hfp ne old=>?_)
 exact⟨_,_,_,_,_,_,_,rfl,Walks.tuple (A:=A.in1) hh _ l ne (intItems xs),st,hfp,by simpa[intItems] using hne,CmpOf.ints_gt (numAt xs) (λ_ _=>intItems_at),λv h' tk hP hk=>h v h' tk (by simpa[intItems] using hP) λb o e=>hk b o (old b o e).1 (old b o e).2⟩
theorem aB0 {Q:Value->Shared->Prop}(hh:A.handled=none)(hl:s.heap.IsTuple l (intItems xs))(hne:0<xs.size)(h:∀v h' tk,(intItems xs)[argBest (λi j=>decide (numAt xs i<numAt xs j)) (xs.size-1)]? = some v->(∀b o,s.heap.get? b=some o->h'.get? b=some o)->Q v { s with heap:=h',toks:=tk }):wpAny (model prog w) A (call (.builtin "min") [.ref l]) Q E s:=by
 refine call_min_walk (L4 hl λh2 st hfp ne old=>?_)
 exact⟨_,_,_,_,_,_,_,rfl,Walks.tuple (A:=A.in1) hh _ l ne (intItems xs),st,hfp,by simpa[intItems] using hne,CmpOf.ints_lt (numAt xs) (λ_ _=>intItems_at),λv h' tk hP hk=>h v h' tk (by simpa[intItems] using hP) λb o e=>hk b o (old b o e).1 (old b o e).2⟩
end
section
variable {X:Cx}
theorem aB1 (hc:X.calm=true):cG X (.builtin "max") (λxs H Q=>∃(a:Addr) (ns:ae),xs = [.ref a]/\aL X.K H a (ns.map V.int)/\ns≠[]/\∀M:Int,M∈ns->(∀x∈ns,x<=M)->Q (.int M) H):=by
 intro pins s σ H xs us Q I r h
 obtain⟨a,ns,rfl,hq,ne,q⟩:=h
 obtain⟨u,rfl,ru⟩:=eG r
 cases ru
 obtain⟨its,rv,p,hz⟩:=I.tuple hq
 have ia:=j5 rv
 obtain⟨ys,ey⟩:=ia.allInts.items
 have en:ns=ys.toList.map (·.1):=by
  have e1:=nums_intItems ys
  rw[<- ey]at e1
  exact ia.numsOf.symm.trans e1
 have pos:0<ys.size:=Nat.pos_of_ne_zero λz=>ne (by rw[en,aT9 z];rfl)
 have hl:s.heap.IsTuple a (intItems ys):=by rw[<- ey];exact p
 refine aA9 (I.ok.hd hc) hl pos λv h' tk ev old=>?_
 obtain⟨t,rfl⟩:=intItems_at ev
 have best:=argBest_gt (numAt ys) (ys.size-1)
 have mem:∀x:Int,x∈ns↔∃j,j<ys.size/\numAt ys j=x:=λx=>by
  rw[en]
  constructor
  ·intro z
   obtain⟨j,hj,e⟩:=mem_getD z
   exact⟨j,by simpa using hj,by rw[numAt_eq];exact e⟩
  ·rintro⟨j,hj,rfl⟩
   rw[numAt_eq]
   exact getD_mem (by simpa using hj)
 refine⟨.int _,H,I.kept (t':=tk) (h':=h') old,⟨t,rfl⟩,q _ ?_ λx hx=>?_⟩
 ·exact (mem _).mpr ⟨_,by have:=best.1;omega,rfl⟩
 ·obtain⟨j,hj,rfl⟩:=(mem x).mp hx
  exact best.2 j (by omega)
theorem aB2 (hc:X.calm=true):cG X (.builtin "min") (λxs H Q=>∃(a:Addr) (ns:ae),xs = [.ref a]/\aL X.K H a (ns.map V.int)/\ns≠[]/\∀M:Int,M∈ns->(∀x∈ns,M<=x)->Q (.int M) H):=by
 intro pins s σ H xs us Q I r h
 obtain⟨a,ns,rfl,hq,ne,q⟩:=h
 obtain⟨u,rfl,ru⟩:=eG r
 cases ru
 obtain⟨its,rv,p,hz⟩:=I.tuple hq
 have ia:=j5 rv
 obtain⟨ys,ey⟩:=ia.allInts.items
 have en:ns=ys.toList.map (·.1):=by
  have e1:=nums_intItems ys
  rw[<- ey]at e1
  exact ia.numsOf.symm.trans e1
 have pos:0<ys.size:=Nat.pos_of_ne_zero λz=>ne (by rw[en,aT9 z];rfl)
 have hl:s.heap.IsTuple a (intItems ys):=by rw[<- ey];exact p
 refine aB0 (I.ok.hd hc) hl pos λv h' tk ev old=>?_
 obtain⟨t,rfl⟩:=intItems_at ev
 have best:=argBest_lt (numAt ys) (ys.size-1)
 have mem:∀x:Int,x∈ns↔∃j,j<ys.size/\numAt ys j=x:=λx=>by
  rw[en]
  constructor
  ·intro z
   obtain⟨j,hj,e⟩:=mem_getD z
   exact⟨j,by simpa using hj,by rw[numAt_eq];exact e⟩
  ·rintro⟨j,hj,rfl⟩
   rw[numAt_eq]
   exact getD_mem (by simpa using hj)
 refine⟨.int _,H,I.kept (t':=tk) (h':=h') old,⟨t,rfl⟩,q _ ?_ λx hx=>?_⟩
 ·exact (mem _).mpr ⟨_,by have:=best.1;omega,rfl⟩
 ·obtain⟨j,hj,rfl⟩:=(mem x).mp hx
  exact best.2 j (by omega)
end
end L2
namespace PP
open PySem L2
section
variable {X:Cx}{a b e:Expr}{ta tb:aG}{tr:cE}{pos p2:Pos}
noncomputable def L5:List PV->(PV->Prop)->Prop:=λxs Q=>∃ns:ae,xs = [.tup (intz ns)]/\ns≠[]/\∀M:Int,M∈ns->(∀x∈ns,x<=M)->Q (.int M)
noncomputable def L6:List PV->(PV->Prop)->Prop:=λxs Q=>∃ns:ae,xs = [.tup (intz ns)]/\ns≠[]/\∀M:Int,M∈ns->(∀x∈ns,M<=x)->Q (.int M)
theorem aB3:cV X L5 (λxs H Q=>∃(a:Addr) (ns:ae),xs = [.ref a]/\aL X.K H a (ns.map V.int)/\ns≠[]/\∀M:Int,M∈ns->(∀x∈ns,x<=M)->Q (.int M) H):=by
 rintro H vs xs Q Q' r ⟨ns,rfl,ne,q⟩ k
 obtain⟨v,rfl,r1⟩:=r.one
 obtain⟨a,us,rfl,h,r2⟩:=r1.sqT
 rw[r2.ofInts]at h
 exact⟨a,ns,rfl,aL.of h,ne,λM m1 m2=>k _ _ _ (aB.refl _) (.int M) (q M m1 m2)⟩
theorem aB4:cV X L6 (λxs H Q=>∃(a:Addr) (ns:ae),xs = [.ref a]/\aL X.K H a (ns.map V.int)/\ns≠[]/\∀M:Int,M∈ns->(∀x∈ns,M<=x)->Q (.int M) H):=by
 rintro H vs xs Q Q' r ⟨ns,rfl,ne,q⟩ k
 obtain⟨v,rfl,r1⟩:=r.one
 obtain⟨a,us,rfl,h,r2⟩:=r1.sqT
 rw[r2.ofInts]at h
 exact⟨a,ns,rfl,aL.of h,ne,λM m1 m2=>k _ _ _ (aB.refl _) (.int M) (q M m1 m2)⟩
end
end PP
namespace Core
open PySem L2 PP
noncomputable def inL (S:ae)(l:Int×Int):Bool:=decide (l.1∈S)&&decide (l.2∈S)
end Core
namespace L2
open PySem PySem.Spec PyProof.Rows
noncomputable def KeysOf (H:Hp):HO->List V->Prop
 |.dK kvs,ys=>ys=kvs.map λp=>kV p.1
 |.dT kvs,ys=>Paired (af5 H) ys (kvs.map (·.1))
 |_,_=>False
end L2
namespace Core
open PySem L2 PP
theorem mT (a b:aa):aY (a++b)=aY a++aY b:=aT3 ..
noncomputable def uW (r c:Int)(l:Int×Int):Bool:=decide (0<=l.1)&&(decide (l.1<r)&&(decide (0<=l.2)&&decide (l.2<c)))
noncomputable def aB5 (l:Int×Int):aa:=[(l.1-1,l.2),(l.1,l.2-1),(l.1,l.2+1),(l.1+1,l.2)]
noncomputable def uX (r c:Int)(l:Int×Int):aa:=(aB5 l).filter (uW r c)
section
variable {ls:aa}{n:Nat}{B:ae}
noncomputable def ins (ls:aa)(S:ae)(h:Int):Nat:=((o3 ls h).filter λx=>decide (x∈S)).length
end
end Core
namespace PP
open PySem L2 PyProof.Rows
section
variable {X:Cx}{a b e:Expr}{ta tb te:aG}{tr:cE}{pos p2:Pos}
theorem cV.or {R1 R2:List PV->(PV->Prop)->Prop}{r1 r2:List V->Hp->(V->Hp->Prop)->Prop}(h1:cV X R1 r1)(h2:cV X R2 r2):cV X (λxs Q=>R1 xs Q∨R2 xs Q) (λxs H Q=>r1 xs H Q∨r2 xs H Q):=by
 rintro H vs xs Q Q' r (h|h) k
 ·exact .inl (h1 H vs xs Q Q' r h k)
 ·exact .inr (h2 H vs xs Q Q' r h k)
noncomputable def L7:List PV->(PV->Prop)->Prop:=λxs Q=>J6 xs Q∨L6 xs Q
noncomputable def L8:List PV->(PV->Prop)->Prop:=λxs Q=>J7 xs Q∨L5 xs Q
theorem aB6 (B:Bt X.mg)(hc:X.calm=true)(ha:QA X [e] tr)(hg:Gl X "min":=by rfl)(he:starEach [e] X.env=(false,eval e X.env)::starEach [] X.env:=by rfl)(hpl:(backTo pos (starEach [] X.env)).any (·.1)=false:=by rfl):QE X (.Call (.Name "min" p2) [e] [] pos) (aE L7 tr):=
 iQ ((az1 hc).or (aB2 hc)) (az2.or aB4) hg B.min PyProof.Rows.boot_min ha (he:=he) (hpl:=hpl)
theorem aB7 (B:Bt X.mg)(hc:X.calm=true)(ha:QA X [e] tr)(hg:Gl X "max":=by rfl)(he:starEach [e] X.env=(false,eval e X.env)::starEach [] X.env:=by rfl)(hpl:(backTo pos (starEach [] X.env)).any (·.1)=false:=by rfl):QE X (.Call (.Name "max" p2) [e] [] pos) (aE L8 tr):=
 iQ ((az3 hc).or (aB1 hc)) (az4.or aB3) hg B.max PyProof.Rows.boot_max ha (he:=he) (hpl:=hpl)
end
end PP
namespace L2
open PySem PySem.Spec PyProof.Rows SO
noncomputable abbrev kk (l:Int×Int):List aJ:=[Sum.inl l.1,Sum.inl l.2]
end L2
namespace Core
open PySem L2 PP
noncomputable def fB (K:aa):List (List aJ×PV):=K.map λl=>(fH l,PV.bl true)
theorem aB8 {a b:Int×Int}(h:fH a=fH b):a=b:=by
 unfold fH at h
 injection h with h1 h2
 injection h2 with h2
 exact Prod.ext (Sum.inl.inj h1) (Sum.inl.inj h2)
theorem aB9 (K:aa):(fB K).length=K.length:=by unfold fB;rw[aL2]
theorem L9 (K:aa)(x:Int×Int):(cJ (fB K) (fH x)).isSome=decide (x∈K):=by
 rw[<- mI,aO9,List.any_eq_true,aL5]
 unfold fB
 refine⟨λ⟨p,hp,e⟩=>?_,λh=>⟨_,aO1.mpr ⟨x,h,rfl⟩,aL1 rfl⟩⟩
 obtain⟨y,hy,rfl⟩:=aO1.mp hp
 rw[<- aB8 (of_decide_eq_true e:fH y=fH x)];exact hy
theorem aC0 {K:aa}{x:Int×Int}(h:x∉K):dR (fB K) (fH x) (.bl true)=fB (K++[x]):=by
 have:((fB K).any λkv=>decide (kv.1=fH x))=false:=by
  rw[mI,L9,aK9 h]
 unfold dR
 rw[this]
 unfold fB
 rw[aT3];rfl
inductive mU (r c:Int)(S:aa):Int×Int->Prop
 |seed {x:Int×Int}:x∈S->mU r c S x
 |kin {x a b:Int×Int}:uW r c x=true->a∈uX r c x->b∈uX r c x->a≠b->mU r c S a->mU r c S b->mU r c S x
noncomputable def nbC (r c:Int)(P:aa)(x:Int×Int):Nat:=(P.filter λp=>decide (x∈uX r c p)).length
structure Wk (r c:Int)(S K P:aa):Prop where
 nd:K.Nodup
 ndP:P.Nodup
 sub:∀x∈P,x∈K
 brn:∀x∈K,mU r c S x
 sd:∀x∈S,x∈K
 bd:∀x∈K,uW r c x=true
 low:∀x,x∉K->nbC r c P x<2
theorem aC1 {α:Type}{l:List α}{i:Nat}{x:α}(nd:l.Nodup)(h:l[i]? = some x):x∉l.take i:=λz=>by
 have:(l.take (i+1)).Nodup:=nd.sublist (List.take_sublist _ _)
 rw[aU7,h]at this
 exact (List.nodup_append.mp this).2.2 x z x (by simp) rfl
noncomputable def pV:c7:=λxs Q=>∃(x:PV) (ls:aa),xs = [x]/\(x = .tup (aY ls)∨x = .lst (aY ls))/\ls.Nodup/\ls.length<=4096/\Q (.dT (fB ls))
noncomputable def M0:aS:=(aI (kD 1 (qC (.dT [])))
 (aI (fQ (g9 (a5 0)) (cO 2)
  (t7 1 (a5 2) (qC (.bl true))))
 (oD 1)))
theorem aC2:dF M0 ["hearths","inside","hearth"] pV:=by
 rintro xs Q ⟨x,ls,rfl,hx,nd,hl,q⟩
 have sx:g6 x=some (aY ls):=by rcases hx with rfl|rfl<;>rfl
 have tg:(Slot.sh (flat x) x).tag = .rd->flat x=true:=by cases flat x<;>intro z<;>cases z
 refine⟨rfl,rfl,_,rfl,aY ls,sx,tg,λi ρ=>∃y,ρ = [some (.sh (flat x) x),some (.own (.dT (fB (ls.take i)))),y],⟨none,rfl⟩,?_,?_⟩
 ·rintro i y ρ hy ⟨y0,rfl⟩
  obtain⟨l,rfl,h⟩:=uC hy
  have tk:dR (fB (ls.take i)) (fH l) (.bl true)=fB (ls.take (i+1)):=by rw[aC0 (aC1 nd h),aU7,h];rfl
  refine⟨_,rfl,_,rfl,fH l,rfl,trivial,by rw[aB9,aQ6];omega,?_⟩
  rw[tk]
  exact⟨_,rfl⟩
 ·rintro ρ ⟨y,rfl⟩
  rw[gT,aQ7]
  exact⟨_,rfl,trivial,q⟩
noncomputable def mV:c7:=λxs Q=>∃(ns:ae) (k:Int),xs = [.scr ns,.int k]/\ns.length<=63/\0<=k/\k<=1000/\∀z:Int,Q (.int z)
noncomputable def M3:aS:=(aI (aZ (aH (iB (a5 1) (aE dJ (a6 (a5 0) a9)))) (aV (aO (a5 0) (a5 1))) b6)
 (aI (bC 2 (bX (m3 (dM (dM (bX (aE eZ (a6 (a5 0) (a6 (bX (a5 1) (aE lU (a6 (qC (.int 1)) (a6 (aE dJ (a6 (a5 0) a9)) a9)))) a9))) (qC (.int 1000000007))) (m3 (qC (.int 977)) (a5 1))) (qC (.int 1))) (qC (.int 48271))) (qC (.int 2147483647))))
 (aV (cW (bX (m3 (a5 2) (a5 2)) (qC (.int 2147483647))) (qC (.int 8))))))
theorem aC3:dF M3 ["script","k","stir"] mV:=by
 rintro xs Q ⟨ns,k,rfl,hl,k0,k1,q⟩
 refine⟨_,rfl,_,rfl,_,_,rfl,rfl,_,_,rfl,rfl,_,rfl,?_⟩
 show if decide (k<(ns.length:Int))=true then _ else _
 by_cases h:k<(ns.length:Int)
 ·rw[aL1 h]
  have hk:L2.atI (intz ns) k=some (.int (ns.getD k.toNat 0)):=pI k0 h
  exact aN ⟨_,rfl,_,rfl,_,_,_,rfl,rfl,hk,trivial,q _⟩
 ·rw[aK9 h]
  refine aD ?_
  have mx:(0:Int)<(if (ns.length:Int)>1 then (ns.length:Int) else 1):=by split<;>omega
  refine⟨_,rfl,_,rfl,_,rfl,_,_,rfl,rfl,_,_,rfl,_,_,rfl,rfl,mx,_,ns,_,rfl,.inl rfl,aV0 _ (Int.ne_of_gt mx),?_⟩
  refine⟨_,_,rfl,rfl,(by show (0:Int)<1000000007;decide),_,rfl,_,_,rfl,rfl,.inl ⟨by decide,by decide⟩,_,_,rfl,rfl,_,_,rfl,rfl,_,_,rfl,rfl,.inr ⟨by decide,by decide⟩,_,_,rfl,rfl,(by show (0:Int)<2147483647;decide),trivial,?_⟩
  dsimp only
  generalize hv:(ns.getD (k%(if (ns.length:Int)>1 then (ns.length:Int) else 1)).toNat 0%1000000007+977*k+1)*48271%2147483647=v
  have v0:0<=v:=by rw[<- hv];exact aV0 _ (by decide)
  have v1:v<2147483647:=by rw[<- hv];exact aW2 _ (by decide)
  exact⟨_,rfl,_,rfl,_,_,rfl,rfl,.inl ⟨by omega,by omega⟩,_,_,rfl,rfl,(by show (0:Int)<2147483647;decide),_,_,rfl,rfl,⟨by decide,by decide⟩,trivial,q _⟩
theorem M4 {x:Int×Int}{ls:aa}:decide (two x∈ls.map two)=decide (x∈ls):=by
 rw[aO9,aL5,aL5]
 refine⟨λh=>?_,λh=>aO1.mpr ⟨x,h,rfl⟩⟩
 obtain⟨y,hy,e⟩:=aO1.mp h
 unfold two at e
 injection e with e1 e2
 injection e2 with e2
 rw[<- Prod.ext e1 e2];exact hy
end Core
namespace L2
open PySem PySem.Spec PyProof.Rows SO
noncomputable def mW (h:Heap)(ys:ad)(v:Value):Prop:=∃ns∈ys,ns≠[]/\kY h v ns
theorem aC4 {prog:Program}{w:World}{A:Around}{E:Value->Shared->Prop}{s:Shared}(ys:ad):SO.cF prog w A E s (tuples' true) (λx=>mW s.heap ys x.1) (kZ s.heap ys):=by
 rintro x y ⟨ns,m1,_,z⟩ ⟨ms,m2,_,z'⟩ st Q hk hq
 unfold kZ at hq
 rw[z.ints,z'.ints,<- J4 m1 m2]at hq
 obtain⟨b,ob,us,n,e1,e2,e3,e4,e5⟩:=z.at_
 obtain⟨b',ob',us',n',e1',e2',e3',e4',e5'⟩:=z'.at_
 rw[lt'_eq]
 refine aK6 (wpS_get ?_)
 rw[hk,e1,e1']
 refine aK6 (wpS_lift (wpAny_attempt (PySem.W.kat_lt e2 e4 e2' e4' ?_)))
 have:=xP (prog:=prog) (w:=w) (A:=A) (s:=s) (Q:=λa s'=>s'=s/\wpS (model prog w) A E s (pure (some a)) Q st) 0 e5 e5' ⟨rfl,aL3 hq⟩
 simpa using this
theorem aC5 {h:Heap}{ys:ad}:∀{vs:List Value},(∀v∈vs,mW h ys v)->∃fs:List Value,PySem.W.KatTups h vs fs/\fs.length=vs.length/\∀v∈fs,∃i t,v=Value.int i t:=by
 intro vs
 induction vs with
 |nil=>intro _;exact⟨[],PySem.W.KatTups.nil,rfl,λ_ z=>nomatch z⟩
 |cons v vs ih=>
  intro hh
  obtain⟨fs,t1,t2,t3⟩:=ih λy hy=>hh y (aM6 _ hy)
  obtain⟨ns,_,ne,z⟩:=hh v aM3
  obtain⟨b,ob,us,n,rfl,e2,e3,e4,e5⟩:=z.at_
  cases e5 with
  |nil=>exact absurd rfl ne
  |cons p t e6=>exact⟨Value.int p t::fs,PySem.W.KatTups.cons e2 e3 e4 (by simp) t1,by simp[t2],λv hv=>(aL0.mp hv).elim (λz=>⟨p,t,z⟩) (t3 v)⟩
theorem aC6 {M:Model}{A:Around}{E:Value->Shared->Prop}{s:Shared}{ys:ad}{vs:List Value}{Q:SortKind->Shared->Prop}(hh:∀v∈vs,mW s.heap ys v)(h2:2<=vs.length)(hQ:Q (tuples' true) s):wpAny M A (keyKind' vs.toArray) Q E s:=by
 obtain⟨fs,t1,t2,t3⟩:=aC5 hh
 refine PySem.W.kat_kind (T:=.type "int") t1 (by omega) (λv hv=>?_) (by decide) ?_
 ·obtain⟨i,t,rfl⟩:=t3 v hv
  exact PySem.W.Looks.now
 ·have eT:(Value.type "int" != Value.type "tuple")=true:=by decide
  rw[eT];exact hQ
theorem aC7 {h:Heap}{ys:ad}{u v:Value}{p q:ae}(z:kY h u p)(z':kY h v q)(hp:p∈ys)(hq:q∈ys)(le:kZ h ys (u,u)<=kZ h ys (v,v)):HT.cD q p=false:=by
 unfold kZ at le
 rw[z.ints,z'.ints]at le
 rw[J4 hq hp]
 exact aK9 (by omega)
end L2
namespace PP
open PySem L2
section
variable {X:Cx}{e:Expr}{tr:cE}{pos p2:Pos}
noncomputable abbrev mX (rs:ad):List PV:=rs.map λr=>PV.tup (intz r)
end
end PP
namespace Core
open PySem L2 PP
structure Bx where
 t:Int
 l:Int
 b:Int
 r:Int
deriving DecidableEq
noncomputable def Bx.k (x:Bx):ae:=[x.t,x.l,x.b,x.r]
noncomputable def okX (x:Bx):Prop:=x.t<=x.b/\x.l<=x.r
noncomputable def M5 (x:Bx)(p:Int×Int):Prop:=x.t<=p.1/\p.1<=x.b/\x.l<=p.2/\p.2<=x.r
noncomputable def M6 (x a:Int×Int):Prop:=(a.1=x.1/\(a.2=x.2-1∨a.2=x.2+1))∨(a.2=x.2/\(a.1=x.1-1∨a.1=x.1+1))
noncomputable def Clo (B:Bx)(U:Int×Int->Prop):Prop:=∀x a b,M5 B x->M6 x a->M6 x b->a≠b->U a->U b->U x
section
variable {B:Bx}{U:Int×Int→Prop}
variable {t l b r:Int}
section
variable (cl:Clo B U){p1 p2:Int}(u:U (p1, p2))(ip:M5 B (p1, p2))
include cl u ip
end
end
noncomputable abbrev bxP (x:Bx):PV:=.tup (intz x.k)
section
variable {ns:ae}{a r c z t l:Int}{Q:PV→Prop}(q:∀x:Bx, Q (bxP x))
include q
end
section
variable {ls:aa}{n:Nat}{U:ae}{v:Int}
noncomputable def mu (ls:aa)(U:ae):Int:=((ls.filter (inL U)).length:Int)-(U.length:Int)+((ax8 ls U).length:Int)
end
noncomputable abbrev Wys:=List (Int×ae)
section
variable {ls:aa}{l:Int×Int}{n:Nat}{S U:ae}{h x y:Int}
theorem M7 (hS:cB n S=true):S.Nodup:=(pC (mJ hS).1).imp λh=>Int.ne_of_lt h
end
noncomputable abbrev M8:=List (Int×Option Int)
noncomputable abbrev uY:=List (Int×ae)
noncomputable def M9 (W:uY):ae:=W.map (·.1)
section
variable {ws:ae}{n:Nat}{ls:aa}{P:M8}{W T:uY}{D B:ae}{h x y c:Int}{e:Option Int}
structure nZ (P:M8)(W:uY)(D:ae)(x:Int)(B:ae):Prop where
 self:x∈B
 nd:B.Nodup
 up:∀y∈B,y=x∨(y∈M9 W/\∃e,(y,some e)∈P/\e∈B)
 dn:∀y∈B,∀c,(c,some y)∈P->c∈M9 W->c∈B
 inn:∀y∈B,y∈D
theorem aC8 (nd:B.Nodup)(so:B.Pairwise (· <= ·))(inn:∀x∈B,x∈rng n):cB n B=true:=by
 have up:B.Pairwise (·<·):=(List.Pairwise.and so nd).imp λz=>Int.lt_iff_le_and_ne.mpr ⟨z.1,z.2⟩
 unfold cB
 rw[aN3,aR4]
 refine⟨u8 up,λb hb=>?_⟩
 obtain⟨x,hx,rfl⟩:=aO1.mp hb
 have:=u9.mp (inn x hx)
 show inB n x=true
 unfold inB
 simp only[aN3,aL5]
 omega
end
noncomputable abbrev Led:=aa
theorem N0 {i:Nat}{a b:Int}{g:Bool}{ρ:bB}{Q:bB->Prop}(q:Q (ρ.set i (some (.sh true (.tup [.int a,.int b]))))):cO i (.tup [.int a,.int b]) g ρ Q:=by
 show Q (ρ.set i (some (.sh (g||true) (.tup [.int a,.int b]))))
 rw[Bool.or_true];exact q
noncomputable def IsL (y:PV)(L:Led):Prop:=y = .tup (aY L)∨y = .lst (aY L)
end Core
namespace PP
open PySem L2
section
variable {X:Cx}{a b c:Expr}{ta tb:aG}{tc:cI}{pos:Pos}{σ:St}{H:Hp}{Q':VK}
noncomputable def l0 (t:cI)(ta tb:aG):aG:=λρ Q=>t ρ λd=>if d=true then ta ρ Q else tb ρ Q
theorem aC9 (h:LE X (l0 tc ta tb) σ H Q'):vM (LT X tc) (LE X ta) (LE X tb) σ H Q':=by
 obtain⟨W,ρ,Q,px,q,k⟩:=h
 refine⟨W,ρ,_,px,q,λd H1 s1 q1=>?_⟩
 cases d with
 |true=>exact aN ⟨W,ρ,Q,px.mono s1,by simpa using q1,λw H' z g s3 r3 q3=>k w H' z g (s1.trans s3) (r3.same (aB.refl _) λ_ y=>Mg.back s1 y) q3⟩
 |false=>exact aD ⟨W,ρ,Q,px.mono s1,by simpa using q1,λw H' z g s3 r3 q3=>k w H' z g (s1.trans s3) (r3.same (aB.refl _) λ_ y=>Mg.back s1 y) q3⟩
theorem N1 (hc:QT X c tc)(ha:QE X a ta)(hb:QE X b tb):QE X (.IfExp c a b pos) (l0 tc ta tb):=cA (V0 hc ha hb) λ_ _ _=>aC9
end
noncomputable abbrev Cau:=Option (Int×ae)
end PP
namespace Core
open PySem L2 PP
theorem getD_mem {cs:List Cau}{k:Nat}{r:Int}{bs:ae}(h:cs.getD k none=some (r,bs)):some (r,bs)∈cs:=by
 rw[aL7]at h
 cases e:cs[k]? with
 |none=>rw[e]at h;cases h
 |some c=>rw[e]at h;cases (show c=_ from h);exact aW8 e
end Core
namespace L2
open PySem PySem.Spec PyProof.Rows SO
theorem aD0 {prog:Program}{w:World}{A:Around}{E:Value->Shared->Prop}{s:Shared}{l:Addr}{vs:List Value}{Q:List Value->Shared->Prop}(hl:s.heap.IsList l vs.toArray∨s.heap.IsTuple l vs.toArray)(big:vs.length<=sizeLine)(q:Q vs { s with heap:=(s.heap.push (seqObj "list" #[] 0)).update s.heap.objs.size (Obj.mapSeq (·++vs.toArray)) }):wpAny (model prog w) A (collect (.ref l)) Q E s:=
 hl.elim (λhl=>collect_list hl q big) (λhl=>E6 hl q big)
theorem aD1 {prog:Program}{w:World}{A:Around}{E:Value->Shared->Prop}{s:Shared}{l:Addr}{vs:List Value}{Q:Value->Shared->Prop}{κ:SortKind}{Ok:Keyed->Prop}{rk:Keyed->Int}(hl:s.heap.IsList l vs.toArray∨s.heap.IsTuple l vs.toArray)(big:vs.length<=sizeLine)(hk:2<=vs.length->∀(A:Around) (E:Value->Shared->Prop) (Q:SortKind->Shared->Prop),Q κ { s with heap:=eW (eY s.heap vs) (s.heap.objs.size+1) vs }->wpAny (model prog w) A (keyKind' vs.toArray) Q E { s with heap:=eW (eY s.heap vs) (s.heap.objs.size+1) vs })(c:∀(A:Around) (E:Value->Shared->Prop),SO.cF prog w A E { s with heap:=eW (eY s.heap vs) (s.heap.objs.size+1) vs } κ Ok rk)(o:∀v∈vs,Ok (v,v))(q:∀out:List Value,out.Perm vs->out.Pairwise (λu v=>rk (u,u)<=rk (v,v))->Q (.ref (s.heap.objs.size+1)) { s with heap:=sortedAll s.heap vs out.toArray }):wpAny (model prog w) A (call (.builtin "sorted") [.ref l]) Q E s:=by
 apply Calls.call_function_entry kind_sorted plain_sorted entry_sorted (args_sorted1 _)
 simp only[Builtin.«sorted»]
 apply aK2 (m:=checkCount "sorted" 1 1 _)
 apply aK7
 apply aK2
 refine aD0 hl big ?_
 apply aK2
 refine wpAny_newList ?_ big
 have one:((s.heap.push (seqObj "list" #[] 0)).update s.heap.objs.size (Obj.mapSeq (·++vs.toArray))).objs.size=s.heap.objs.size+1:=(Heap.size_update _ _ _).trans (size_push' _ _)
 have at1:(eY s.heap vs).get? (s.heap.objs.size+1)=some (seqObj "list" vs.toArray 0):=one▸aM4 _ rfl
 change wpAny _ _ _ _ _ { s with heap:=eY s.heap vs }
 rw[one]
 apply aK2
 apply aV1
 refine aT7 slot_list_sort ⟨_,at1,rfl⟩ entry_list_sort ?_ (args_list_sort _)
 by_cases h2:vs.length<2
 ·refine af2 (s:={ s with heap:=eY s.heap vs }) at1 h2 ⟨_,rfl,aK7 ⟨_,rfl,q vs (List.Perm.refl _) ?_⟩⟩
  match vs,h2 with
  |[],_=>exact List.Pairwise.nil
  |[_],_=>exact aU8 _ _
  |_::_::_,h2=>simp at h2;omega
 ·exact aq4 (s:={ s with heap:=eY s.heap vs }) at1 (by omega) big (hk (by omega) _ _) (c _ _) o λout a1 a2=>⟨_,rfl,aK7 ⟨_,rfl,q out a1 a2⟩⟩
noncomputable def N2 (K:ac):List V->Hp->VK->Prop:=λxs H Q=>∃(a:Addr) (ys:List V) (key:V->ae),xs = [.ref a]/\(aM K H a ys∨aL K H a ys)/\ys.length<=4096/\(∀y∈ys,∃b,y = .ref b/\aL K H b ((key y).map V.int)/\key y≠[])/\
 ∀l (zs:List V),H l=none->zs.Perm ys->zs.Pairwise (λu v=>HT.cD (key v) (key u)=false)->Q (.ref l) (upd H l (.lst zs))
theorem aD2 {X:Cx}:cG X (.builtin "sorted") (N2 X.K):=by
 intro pins s σ H xs us Q I r h
 obtain⟨a,ys,key,rfl,hs,hz4,hk,q⟩:=h
 obtain⟨u,rfl,ru⟩:=eG r
 cases ru
 obtain⟨its,rv,p,hz⟩:∃its:List Value,aQ ys its/\(s.heap.IsList a its.toArray∨s.heap.IsTuple a its.toArray)/\ys.length<=sizeLine:=by
  rcases hs with hs|hs
  ·obtain⟨its,rv,p,hz⟩:=I.list hs
   exact⟨its,rv,.inl p.isList,hz⟩
  ·obtain⟨its,rv,p,hz⟩:=I.tuple hs
   exact⟨its,rv,.inr p,hz⟩
 have hl:=rv.length
 have hn:s.heap.objs.size<=s.heap.objs.size+1:=aY0 _
 have pv:∀{y:V}{v:Value},aT y v->y∈ys->kY (eW (eY s.heap its) (s.heap.objs.size+1) its) v (key y):=λ{y v} ry hy=>by
  obtain⟨b,rfl,sq,_⟩:=hk y hy
  cases ry
  obtain⟨us,ru,⟨ob,e1,c1,n1,d1⟩,_⟩:=I.tuple sq
  exact⟨b,ob,us,n1,rfl,aq3 (aN6 (Nat.lt_succ_of_lt (aL8 e1))) (aq2 e1),c1,d1,j5 ru⟩
 have pvs:∀{xs:List V}{vs:List Value},aQ xs vs->(∀y∈xs,y∈ys)->∀v∈vs,mW (eW (eY s.heap its) (s.heap.objs.size+1) its) (ys.map key) v:=by
  intro xs vs r
  induction r with
  |nil=>intro _ v hv;cases hv
  |cons rx rt ih=>
   intro hh v hv
   rcases aL0.mp hv with z|z
   ·subst z
    obtain⟨_,_,_,ne⟩:=hk _ (hh _ aM3)
    exact⟨_,aO1.mpr ⟨_,hh _ aM3,rfl⟩,ne,pv rx (hh _ aM3)⟩
   ·exact ih (λy hy=>hh y (aM6 _ hy)) v z
 have allp:=pvs rv λ_ h=>h
 refine aD1 (κ:=tuples' true) (Ok:=λx=>mW (eW (eY s.heap its) (s.heap.objs.size+1) its) (ys.map key) x.1) (rk:=kZ (eW (eY s.heap its) (s.heap.objs.size+1) its) (ys.map key)) p (by rw[<- hl];exact hz)
  (λh2 A E Q hQ=>aC6 (s:={ s with heap:=eW (eY s.heap its) (s.heap.objs.size+1) its }) allp h2 hQ) (λA E=>aC4 (s:={ s with heap:=eW (eY s.heap its) (s.heap.objs.size+1) its }) (ys.map key)) (λv hv=>allp v hv) λout pm so=>?_
 obtain⟨zs,pz,rz⟩:=aq5 pm.symm rv
 obtain⟨e,he⟩:=sortedAll_at s.heap its out.toArray
 refine⟨.ref (s.heap.objs.size+1),upd H (s.heap.objs.size+1) (.lst zs),I.laid (t':=s.toks) (λ_ _=>sortedAll_old) hn ⟨by rw[pz.length_eq];exact hz,out,e,rz,he⟩,rfl,q _ zs (I.hok.fresh hn) pz ?_⟩
 have lz:=rz.length
 rw[aR8]
 intro i j hi hj hij
 have s1:=aR8.mp so i j (by omega) (by omega) hij
 have gi:=sA i hi rz
 have gj:=sA j hj rz
 simp only[aL7,aK3 hi,aK3 hj,aK3 (show i<out.length by omega),aK3 (show j<out.length by omega),Option.getD_some]at gi gj
 have mi:=pz.mem_iff.mp (aR6 hi)
 have mj:=pz.mem_iff.mp (aR6 hj)
 exact aC7 (pv gi mi) (pv gj mj) (aO1.mpr ⟨_,mi,rfl⟩) (aO1.mpr ⟨_,mj,rfl⟩) s1
noncomputable def KD (P:Program)(w:World)(K:ac)(mg:Str->Option Value)(x:Str)(kvs:List (aJ×V)):Prop:=
 ∃a o,mg x=some (.ref a)/\K.lookup a=some o/\(a==sysModules)=false/\∀h:Heap,h.get? a=some o->∃vs,KV kvs vs/\h.DictOf (cT P w) a vs
noncomputable def N3 (kvs:List (aJ×V))(ty:TE):TE:=λσ H Q=>ty σ H λy H2=>∃k,y=kV k/\Q ((dA kvs k).getD .non) H2
theorem aD3 {X:Cx}{x:Str}{xp apos cpos:Pos}{e:Expr}{ty:TE}{kvs:List (aJ×V)}(hg:Gl X x)(hd:KD X.prog X.w X.K X.mg x kvs)(he:PE X e ty)(m:M1 X (.Name x xp) "get" apos e cpos)(hx:(x==("__debug__":Str))=false:=by decide):PE X (.Call (.Attribute (.Name x xp) "get" apos) [e] [] cpos) (N3 kvs ty):=by
 obtain⟨a,o,ha,hk,hs,hD⟩:=hd
 intro pins s σ H Q I h
 refine wpAny_Call_method m.base m.few m.line PySem.F.plainAttrs_dict PySem.F.slot_dict_get PySem.F.type_dict_get (aR (qL (v:=.ref a) hg ha rfl hx pins s σ H (λv H1=>v = .ref a/\ty σ H1 λy H2=>∃k,y=kV k/\Q ((dA kvs k).getD .non) H2) I ⟨rfl,h⟩) λu s1 ⟨x,H1,I1,rx,ex,q1⟩=>?_)
 subst ex
 obtain rfl:u=Value.ref a:=rx
 obtain⟨vs,rel,dd⟩:=hD _ (I1.kIn a o hk)
 refine⟨dd.typeIs,λb q=>?_,?_⟩
 ·cases q
  obtain⟨ob,_,_,h1,h2,_⟩:=dd
  exact⟨ob,h1,h2.2.1⟩
 rw[m.trees]
 refine Calls.callWith_builtin rfl (Calls.evalArgs_plain (Calls.spliced_cons (aR (he pins s1 σ H1 _ I1 q1) λiv s2 ⟨y,H2,I2,ry,k,ey,q2⟩=>Calls.spliced_nil ?_)))
 subst ey
 obtain⟨vs,rel,dd⟩:=hD _ (I2.kIn a o hk)
 exact call_meetsIn PySem.F.slot_dict_get dd.typeIs PySem.F.entry_dict_get (PySem.F.args_dict_get_2 _ _) (meets_dict_get (cT X.prog X.w) a (nP ry) hs) ⟨_,dd.mapOf,_,H2,I2.tok _,(rel.val k).getD (show aT .non Value.none from rfl),q2⟩
theorem aD4 {P:Program}{w:World}{K:ac}{mg:Str->Option Value}{x:Str}{a:Addr}{o:Obj}{es:Array DictEntry}{ep:Nat}{kvs:List (aJ×V)}(ha:mg x=some (.ref a))(hk:K.lookup a=some o)(ho:o.ExactDict)(hd:o.data = .dict es ep)(hs:(a==sysModules)=false)(hv:∃vs,KV kvs vs/\PySem.KeysOf (cT P w) es/\PySem.Pairs (cT P w) es.toList vs/\(vs.map (·.1)).Nodup):KD P w K mg x kvs:=by
 obtain⟨vs,h1,h2,h3,h4⟩:=hv
 exact⟨a,o,ha,hk,hs,λh e=>⟨vs,h1,o,es,ep,e,ho,hd,h2,h3,h4⟩⟩
end L2
namespace PP
open PySem L2
section
variable {X:Cx}{e a b:Expr}{tr:cE}{te ta tb:aG}{pos p2:Pos}
noncomputable def jW:List PV->(PV->Prop)->Prop:=λxs Q=>∃ys:ad,(xs = [.lst (mX ys)]∨xs = [.tup (mX ys)])/\ys.length<=4096/\(∀y∈ys,y≠[])/\∀zs:ad,zs.Perm ys->zs.Pairwise (λu v=>HT.cD v u=false)->Q (.lst (mX zs))
theorem aD5:cV X jW (N2 X.K):=by
 rintro H vs xs Q Q' r ⟨ys,hx,hl,hne,q⟩ k
 obtain⟨a,us,rfl,h,r2⟩:∃a us,vs = [.ref a]/\(aM X.K H a us∨aL X.K H a us)/\Reps X.K (λ_=>True) H us (mX ys):=by
  rcases hx with rfl|rfl
  ·obtain⟨v,rfl,r1⟩:=r.one
   obtain⟨a,us,rfl,_,h,r2⟩:=r1.sqL
   exact⟨a,us,rfl,.inl (aM.of h),r2⟩
  ·obtain⟨v,rfl,r1⟩:=r.one
   obtain⟨a,us,rfl,h,r2⟩:=r1.sqT
   exact⟨a,us,rfl,.inr (aL.of h),r2⟩
 obtain⟨h1,h2⟩:=E1 r2
 have lr:=r2.length
 rw[aL2]at lr
 refine⟨a,us,jL H,rfl,h,by omega,λy hy=>?_,λl zs hl' pm so=>?_⟩
 ·obtain⟨b,rfl,hb⟩:=h2 y hy
  refine⟨b,rfl,aL.of hb,hne _ ?_⟩
  rw[<- h1];exact aO1.mpr ⟨_,hy,rfl⟩
 ·have hz:∀u∈zs,∃b,u = .ref b/\H b=some (.tup ((jL H u).map V.int)):=λu hu=>h2 u (pm.mem_iff.mp hu)
  refine k _ _ _ (bI hl' _) (.lst hl' bP ((E2 hz).same (bI hl' _) λ_ z=>z)) (q _ ?_ ?_)
  ·rw[<- h1];exact pm.map _
  ·rw[List.pairwise_map];exact so
theorem uZ (B:Bt X.mg)(ha:QA X [e] tr)(hg:Gl X "sorted":=by rfl)(he:starEach [e] X.env=(false,eval e X.env)::starEach [] X.env:=by rfl)(hpl:(backTo pos (starEach [] X.env)).any (·.1)=false:=by rfl):QE X (.Call (.Name "sorted" p2) [e] [] pos) (aE jW tr):=
 iQ aD2 aD5 hg B.sorted PyProof.Rows.boot_sorted ha (he:=he) (hpl:=hpl)
noncomputable def l8 (ds:List (Str×Int)):List (aJ×V):=ds.map λp=>(.inr p.1,.int p.2)
noncomputable def v3 (ds:List (Str×Int))(te:aG):aG:=λρ Q=>te ρ λx _=>∃s,x = .str s/\Q (Core.F2 (ds.lookup s)) .fr
theorem aD6 (ds:List (Str×Int))(s:Str):(dA (l8 ds) (.inr s)).getD .non=(match ds.lookup s with|some i=>V.int i|none=>V.non):=by
 induction ds with
 |nil=>rfl
 |cons p r ih=>
  obtain⟨x,i⟩:=p
  rw[aO6]
  by_cases e:s=x
  ·subst e
   rw[show (s==s)=true from aP1 s]
   show (Option.map _ (List.find? _ (_::_))).getD _=_
   rw[List.find?_cons_of_pos (by exact aL1 rfl)];rfl
  ·rw[show (s==x)=false from aT2.mpr e]
   show (Option.map _ (List.find? _ (_::_))).getD _=_
   rw[List.find?_cons_of_neg (by simp;exact λz=>e z.symm)]
   exact ih
theorem aD7 {σ:St}{H:Hp}{Q':VK}{ds:List (Str×Int)}(h:LE X (v3 ds te) σ H Q'):N3 (l8 ds) (LE X te) σ H Q':=by
 obtain⟨W,ρ,Q,px,q,k⟩:=h
 refine⟨W,ρ,_,px,q,?_⟩
 rintro v H1 x g s r ⟨t,rfl,q⟩
 cases r
 refine⟨.inr t,rfl,?_⟩
 rw[aD6]
 cases e:ds.lookup t with
 |none=>rw[e]at q;exact k _ _ _ _ s .non q
 |some i=>rw[e]at q;exact k _ _ _ _ s (.int i) q
theorem aD8 {x:Str}{xp apos cpos:Pos}{ds:List (Str×Int)}(hd:KD X.prog X.w X.K X.mg x (l8 ds))(he:QE X e te)(hg:Gl X x:=by rfl)(m:M1 X (.Name x xp) "get" apos e cpos:=by exact⟨rfl,rfl,rfl,rfl⟩)(hx:(x==("__debug__":Str))=false:=by decide):QE X (.Call (.Attribute (.Name x xp) "get" apos) [e] [] cpos) (v3 ds te):=
 cA (aD3 hg hd he m hx) λ_ _ _=>aD7
noncomputable def v4:PV->Tg->PV->Tg->PK->Prop:=λx _ y _ Q=>∃(i:Int) (o:Option Int),x=Core.F2 o/\y = .int i/\Q (.bl (!decide (o=some i))) .fr
theorem aD9:cN X v4 nJ:=by
 rintro W Hs H u v x y g g' Q Q' s n r1 r2 ⟨i,o,rfl,rfl,q⟩ k
 cases r2
 cases o with
 |none=>
  cases r1
  exact⟨rfl,k _ _ _ .fr (aB.refl _) (.bl true) q⟩
 |some j=>
  cases r1
  have e:decide (V.int j=V.int i)=decide (some j=some i):=decide_eq_decide.mpr ⟨λz=>by cases z;rfl,λz=>by cases z;rfl⟩
  refine⟨rfl,?_⟩
  rw[e]
  exact k _ _ _ .fr (aB.refl _) (.bl _) q
theorem aE0 (ha:QE X a ta)(hb:QE X b tb):QT X (.Compare a [.NotEq] [b] pos) (aH (q2 v4 ta tb)):=fU r0 aD9 ha hb (e7 _)
end
end PP
namespace Core
open PySem L2 PP
theorem fV:1<=1000:=by decide
theorem c8:2<=1000:=by decide
theorem v7:3<=1000:=by decide
theorem le5:5<=1000:=by decide
inductive iV|light (i:Int)|douse (i:Int)|want (i j:Int)|link (i j:Int)|cut (i j:Int)
noncomputable def dP:iV->PV
 |.light i=>.tup [.str "light",.int i]
 |.douse i=>.tup [.str "douse",.int i]
 |.want i j=>.tup [.str "want",.int i,.int j]
 |.link i j=>.tup [.str "link",.int i,.int j]
 |.cut i j=>.tup [.str "cut",.int i,.int j]
theorem aE1 (d:iV):flat (dP d)=true:=by cases d<;>rfl
noncomputable abbrev mm (i j:Int):Int×Int:=(if j<i then j else i,if j>i then j else i)
noncomputable def tP:iV->PV
 |.light i=>.tup [.str "light",.int i]
 |.douse i=>.tup [.str "douse",.int i]
 |.want i j=>.tup [.str "want",.int i,.int j]
 |.link i j=>.tup [.str "link",.int (mm i j).1,.int (mm i j).2]
 |.cut i j=>.tup [.str "cut",.int (mm i j).1,.int (mm i j).2]
noncomputable def bE (ws:ae)(ls:aa)(S:ae):iV->Bool
 |.light i=>!inB ws.length i||decide (i∈S)
 |.douse i=>!inB ws.length i||!decide (i∈S)
 |.want i j=>!inB ws.length i||(decide (j<0)||(decide (60<j)||decide (ws.getD i.toNat 0=j)))
 |.link i j=>!inB ws.length i||(!inB ws.length j||(decide (i=j)||decide (mm i j∈ls)))
 |.cut i j=>!inB ws.length i||(!inB ws.length j||(decide (i=j)||!decide (mm i j∈ls)))
noncomputable def iW (ls:aa)(p:Int×Int)(ls':aa):Prop:=ls'.Perm (ls++[p])/\(ls'.map two).Pairwise (λu v=>HT.cD v u=false)
theorem iW.uniq {ls a b:aa}{p:Int×Int}(h:iW ls p a)(k:iW ls p b):a=b:=by
 have e:=ax3 ((h.1.trans k.1.symm).map two) h.2 k.2
 clear h k
 induction a generalizing b with
 |nil=>cases b with
  |nil=>rfl
  |cons y b=>cases e
 |cons x a ih=>cases b with
  |nil=>cases e
  |cons y b=>
   rw[aO2,aO2]at e
   injection e with e1 e2
   rw[ax4 e1,ih e2]
noncomputable abbrev mY:=ae×aa×ae
noncomputable def dZ (ws:ae)(ls:aa)(S:ae):iV->mY->Prop
 |.light i,r=>r=(ws,ls,jV (S++[i]))
 |.douse i,r=>r=(ws,ls,S.filter λz=>!decide (z∈[i]))
 |.want i j,r=>r=(ws.take i.toNat++[j]++ws.drop (i.toNat+1),ls,S)
 |.link i j,r=>∃ls',r=(ws,ls',S)/\iW ls (mm i j) ls'
 |.cut i j,r=>r=(ws,ls.filter λz=>!decide (z∈[mm i j]),S)
theorem dZ.uniq {ws:ae}{ls:aa}{S:ae}{d:iV}{a b:mY}(h:dZ ws ls S d a)(k:dZ ws ls S d b):a=b:=by
 cases d with
 |link i j=>
  obtain⟨l1,rfl,h⟩:=h
  obtain⟨l2,rfl,k⟩:=k
  rw[h.uniq k]
 |_=>exact (show a=_ from h).trans (show b=_ from k).symm
noncomputable def cQ (r:mY):PV:=.tup [bQ r.1 r.2.1,.tup (intz r.2.2)]
theorem dZ.keeps {ws:ae}{ls:aa}{S:ae}{d:iV}{r:mY}(h:dZ ws ls S d r)(st:cB ws.length S=true)(ok:bE ws ls S d=false):r.1.length=ws.length/\r.2.1.length<=ls.length+1/\cB r.1.length r.2.2=true:=by
 cases d with
 |light i=>
  have h:r=_:=h
  subst h
  unfold bE at ok
  rw[Bool.or_eq_false_iff,Bool.not_eq_false',aQ8]at ok
  unfold inB at ok
  rw[aN3,aL5,aL5]at ok
  refine⟨rfl,aY0 _,?_⟩
  obtain⟨p,so⟩:=uV (S++[i])
  refine aC8 (p.nodup_iff.mpr ?_) so λx hx=>?_
  ·exact List.nodup_append.mpr ⟨M7 st,aU8 _ _,λa ha b hb e=>ok.2 (by rw[aM5.mp hb]at e;rw[<- e];exact ha)⟩
  ·rcases aS4.mp (p.mem_iff.mp hx) with z|z
   ·exact u9.mpr ((mJ st).2 x z)
   ·rw[aM5.mp z];exact u9.mpr ok.1
 |douse i=>
  have h:r=_:=h
  subst h
  exact⟨rfl,aY0 _,av8 st _⟩
 |want i j=>
  have h:r=_:=h
  subst h
  unfold bE at ok
  rw[Bool.or_eq_false_iff,Bool.not_eq_false']at ok
  have ok:=ok.1
  unfold inB at ok
  rw[aN3,aL5,aL5]at ok
  have e:(ws.take i.toNat++[j]++ws.drop (i.toNat+1)).length=ws.length:=by
   rw[aL9,aL9,aQ6,aP7,aP2]
   omega
  exact⟨e,aY0 _,by show cB (ws.take i.toNat++[j]++ws.drop (i.toNat+1)).length S=true;rw[e];exact st⟩
 |link i j=>
  obtain⟨l1,rfl,h⟩:=h
  refine⟨rfl,?_,st⟩
  have:=h.1.length_eq
  rw[aL9,aP2]at this
  exact Nat.le_of_eq this
 |cut i j=>
  have h:r=_:=h
  subst h
  exact⟨rfl,Nat.le_succ_of_le (List.length_filter_le _ _),st⟩
noncomputable def mZ:c7:=λxs Q=>∃(ls:aa) (p:Int×Int),xs = [.tup (aY ls),.lst [.tup [.int p.1,.int p.2]]]/\ls.length<=10000/\Q (.tup (aY (ls.filter λz=>!decide (z∈[p]))))
noncomputable def N4:aS:=(aI (bC 2 (aE pV (a6 (a5 1) a9)))
 (aV (aE dB (a6 (gL (g9 (a5 0)) [none,some 2] (cO 0) (aH (oJ true (a5 0) (a5 1))) (a5 0)) a9))))
theorem aE2:dF N4 ["hearths","some","gone"] mZ:=by
 rintro xs Q ⟨ls,p,rfl,hl,q⟩
 refine⟨_,rfl,_,[p],rfl,.inr rfl,aU8 _ _,(by show 1<=4096;decide),trivial,?_⟩
 have fp:flat (.tup (aY ls))=true:=by unfold flat;exact gC ls
 refine⟨_,rfl,aY ls,rfl,λ_=>fp,by rw[gT];omega,λi acc=>acc=aY ((ls.take i).filter λz=>!decide (z∈[p])),rfl,?_,?_⟩
 ·rintro i z acc hz rfl
  obtain⟨l,rfl,hn⟩:=uC hz
  have tk:=pD (p:=λz=>!decide (z∈[p])) hn
  refine N0 ?_
  refine⟨_,rfl,_,rfl,_,.inr ⟨fB [p],fH l,rfl,rfl,rfl⟩,_,rfl,?_⟩
  show if (!(cJ (fB [p]) (fH l)).isSome)=true then _ else _
  rw[L9]
  cases h:decide (l∈[p]) with
  |true=>
   rw[h]at tk
   refine aD ?_
   show _=aY (List.filter _ (List.take (i+1) ls))
   rw[tk];exact congrArg aY (aO7 _).symm
  |false=>
   rw[h]at tk
   refine aN ⟨_,rfl,trivial,?_⟩
   show _=aY (List.filter _ (List.take (i+1) ls))
   rw[tk,mT];rfl
 ·rintro acc rfl
  rw[gT,aQ7]
  exact⟨⟨_,_,rfl,rfl,gC _,trivial,q⟩,λns z=>by cases z⟩
noncomputable def pW:List (Str×Int):=[("light",1),("douse",1),("want",2),("link",2),("cut",2)]
noncomputable def pX:c7:=λxs Q=>∃d,xs = [dP d]/\Q (tP d)
noncomputable def N5:aS:=(aI (aZ (aH (q2 v4 (v3 pW (aO (a5 0) (qC (.int 0)))) (kI (aE dJ (a6 (a5 0) a9)) (qC (.int 1))))) yX b6)
 (aI (aZ (c9 (aH (q2 (bL false) (aO (a5 0) (qC (.int 0))) (qC (.str "link")))) (aH (q2 (bL false) (aO (a5 0) (qC (.int 0))) (qC (.str "cut"))))) (aV (b7 (a6 (aO (a5 0) (qC (.int 0))) (a6 (aE L7 (a6 (gP (a5 0) (gO (qC (.int 1))) gN) a9)) (a6 (aE L8 (a6 (gP (a5 0) (gO (qC (.int 1))) gN) a9)) a9))))) b6)
 (aV (aE dB (a6 (a5 0) a9)))))
theorem N6 {i j M:Int}(h:M∈[i,j])(k:∀x∈[i,j],M<=x):M=(mm i j).1:=by
 have k1:=k i (by simp)
 have k2:=k j (by simp)
 show M=if j<i then j else i
 rcases aL0.mp h with e|h
 ·rw[if_neg (by omega)];exact e
 ·have e:=aM5.mp h
  split<;>omega
theorem N7 {i j M:Int}(h:M∈[i,j])(k:∀x∈[i,j],x<=M):M=(mm i j).2:=by
 have k1:=k i (by simp)
 have k2:=k j (by simp)
 show M=if j>i then j else i
 rcases aL0.mp h with e|h
 ·rw[if_neg (by omega)];exact e
 ·have e:=aM5.mp h
  split<;>omega
theorem aE3:dF N5 ["deed"] pX:=by
 rintro xs Q ⟨d,rfl,q⟩
 cases d with
 |light i=>
  refine⟨_,rfl,_,_,_,rfl,rfl,rfl,"light",rfl,_,rfl,_,_,rfl,rfl,_,_,rfl,rfl,1,some 1,rfl,rfl,_,rfl,aD ?_⟩
  refine⟨_,rfl,_,_,_,rfl,rfl,rfl,_,_,rfl,rfl,_,rfl,aD ⟨_,rfl,_,_,_,rfl,rfl,rfl,_,_,rfl,rfl,_,rfl,aD ?_⟩⟩
  exact⟨_,rfl,⟨_,_,rfl,rfl,rfl,trivial,q⟩,λns z=>by cases z⟩
 |douse i=>
  refine⟨_,rfl,_,_,_,rfl,rfl,rfl,"douse",rfl,_,rfl,_,_,rfl,rfl,_,_,rfl,rfl,1,some 1,rfl,rfl,_,rfl,aD ?_⟩
  refine⟨_,rfl,_,_,_,rfl,rfl,rfl,_,_,rfl,rfl,_,rfl,aD ⟨_,rfl,_,_,_,rfl,rfl,rfl,_,_,rfl,rfl,_,rfl,aD ?_⟩⟩
  exact⟨_,rfl,⟨_,_,rfl,rfl,rfl,trivial,q⟩,λns z=>by cases z⟩
 |want i j=>
  refine⟨_,rfl,_,_,_,rfl,rfl,rfl,"want",rfl,_,rfl,_,_,rfl,rfl,_,_,rfl,rfl,2,some 2,rfl,rfl,_,rfl,aD ?_⟩
  refine⟨_,rfl,_,_,_,rfl,rfl,rfl,_,_,rfl,rfl,_,rfl,aD ⟨_,rfl,_,_,_,rfl,rfl,rfl,_,_,rfl,rfl,_,rfl,aD ?_⟩⟩
  exact⟨_,rfl,⟨_,_,rfl,rfl,rfl,trivial,q⟩,λns z=>by cases z⟩
 |link i j=>
  refine⟨_,rfl,_,_,_,rfl,rfl,rfl,"link",rfl,_,rfl,_,_,rfl,rfl,_,_,rfl,rfl,2,some 2,rfl,rfl,_,rfl,aD ?_⟩
  refine⟨_,rfl,_,_,_,rfl,rfl,rfl,_,_,rfl,rfl,_,rfl,aN (aN ?_)⟩
  refine⟨_,rfl,_,_,_,rfl,rfl,rfl,_,rfl,1,rfl,_,rfl,rfl,.inr ⟨[i,j],rfl,(by simp),λM hm hM=>?_⟩⟩
  refine⟨_,rfl,1,rfl,_,rfl,rfl,.inr ⟨[i,j],rfl,(by simp),λN hn hN=>?_⟩⟩
  rw[N6 hm hM,N7 hn hN]
  exact⟨(by show 3<=1000;decide),rfl,trivial,q⟩
 |cut i j=>
  refine⟨_,rfl,_,_,_,rfl,rfl,rfl,"cut",rfl,_,rfl,_,_,rfl,rfl,_,_,rfl,rfl,2,some 2,rfl,rfl,_,rfl,aD ?_⟩
  refine⟨_,rfl,_,_,_,rfl,rfl,rfl,_,_,rfl,rfl,_,rfl,aD ⟨_,rfl,_,_,_,rfl,rfl,rfl,_,_,rfl,rfl,_,rfl,aN ?_⟩⟩
  refine⟨_,rfl,_,_,_,rfl,rfl,rfl,_,rfl,1,rfl,_,rfl,rfl,.inr ⟨[i,j],rfl,(by simp),λM hm hM=>?_⟩⟩
  refine⟨_,rfl,1,rfl,_,rfl,rfl,.inr ⟨[i,j],rfl,(by simp),λN hn hN=>?_⟩⟩
  rw[N6 hm hM,N7 hn hN]
  exact⟨(by show 3<=1000;decide),rfl,trivial,q⟩
noncomputable def pY:dY:=λEp xs Q=>∃ws ls S d,xs = [bQ ws ls,.tup (intz S),tP d]/\S.length<63/\(∃i,d = .light i∨d = .douse i)/\(bE ws ls S d=true->Ep "BadDeed")/\(bE ws ls S d=false->∀r,dZ ws ls S d r->Q (.tup (intz r.2.2)))
noncomputable def N8 (Ep:Str->Prop):aS:=(aI (bC 3 (aO (a5 2) (qC (.int 1))))
 (aI (aZ (dI (aH (aE gD (a6 (a5 0) (a6 (a5 3) a9))))) (gV Ep "BadDeed" (a6 (qC (.str "this is no hearth")) a9)) b6)
 (aI (aZ (aH (fF (q2 (iM false) (a5 3) (a5 1)) (q2 (bL false) (aO (a5 2) (qC (.int 0))) (qC (.str "light"))))) (gV Ep "BadDeed" (a6 (qC (.str "the deed changes nothing")) a9)) b6)
 (aI (aZ (aH (q2 (bL false) (aO (a5 2) (qC (.int 0))) (qC (.str "light")))) (aV (aE dB (a6 (aE mO (a6 (eF (a5 1) (b7 (a6 (a5 3) a9))) a9)) a9))) b6)
 (aV (aE pM (a6 (a5 1) (a6 (eO (a6 (a5 3) a9)) a9))))))))
theorem aE4:mQ N8 ["web","seeds","deed","hearth"] pY:=by
 rintro Ep xs Q ⟨ws,ls,S,d,rfl,hl,⟨i,hd⟩,e,q⟩
 have fS:flats (intz S)=true:=bZ S
 rcases hd with rfl|rfl
 ·refine⟨_,rfl,_,_,_,rfl,rfl,rfl,trivial,?_⟩
  refine⟨_,rfl,_,rfl,ws,ls,i,rfl,_,rfl,?_⟩
  unfold bE at e q
  dsimp only at e q
  cases h1:inB ws.length i with
  |false=>exact aN ⟨by decide,e (by rw[h1];rfl)⟩
  |true=>
   refine aD ⟨_,rfl,_,rfl,i,S,rfl,rfl,_,rfl,_,_,_,rfl,rfl,rfl,_,_,rfl,rfl,.inr ⟨_,_,rfl,rfl,_,rfl,?_⟩⟩
   show if decide (decide (i∈S)=true)=true then _ else _
   cases h2:decide (i∈S) with
   |true=>exact aN ⟨by decide,e (by rw[h2,Bool.or_true])⟩
   |false=>
    refine aD ⟨_,rfl,_,_,_,rfl,rfl,rfl,_,_,rfl,rfl,_,rfl,aN ?_⟩
    refine⟨_,rfl,_,rfl,fV,rfl,_,_,rfl,rfl,fS,rfl,(by rw[bU];show S.length+1<=16000000;omega),_,S++[i],rfl,?_,(by rw[aL9];show S.length+1<64;omega),λms pm so=>⟨⟨_,_,rfl,rfl,bZ ms,trivial,?_⟩,λns z=>by cases z⟩⟩
    ·show some (intz S++[PV.int i])=_
     rw[dX];rfl
    ·rw[K9 pm so]
     exact q (by rw[h1,h2];rfl) _ rfl
 ·refine⟨_,rfl,_,_,_,rfl,rfl,rfl,trivial,?_⟩
  refine⟨_,rfl,_,rfl,ws,ls,i,rfl,_,rfl,?_⟩
  unfold bE at e q
  dsimp only at e q
  cases h1:inB ws.length i with
  |false=>exact aN ⟨by decide,e (by rw[h1];rfl)⟩
  |true=>
   refine aD ⟨_,rfl,_,rfl,i,S,rfl,rfl,_,rfl,_,_,_,rfl,rfl,rfl,_,_,rfl,rfl,.inr ⟨_,_,rfl,rfl,_,rfl,?_⟩⟩
   show if decide (decide (i∈S)=false)=true then _ else _
   cases h2:decide (i∈S) with
   |false=>exact aN ⟨by decide,e (by rw[h2];exact Bool.or_true _)⟩
   |true=>
    refine aD ⟨_,rfl,_,_,_,rfl,rfl,rfl,_,_,rfl,rfl,_,rfl,aD ?_⟩
    refine⟨_,rfl,_,rfl,fV,rfl,_,S,_,[i],rfl,.inl rfl,.inr rfl,by omega,fV,trivial,?_⟩
    exact q (by rw[h1,h2];rfl) _ rfl
noncomputable def pZ:dY:=λEp xs Q=>∃ws ls S i j,xs = [bQ ws ls,tP (.want i j)]/\ws.length<=1000/\(bE ws ls S (.want i j)=true->Ep "BadDeed")/\(bE ws ls S (.want i j)=false->∀r,dZ ws ls S (.want i j) r->Q (.tup (intz r.1)))
noncomputable def N9 (Ep:Str->Prop):aS:=(aI (bC 2 (aO (a5 1) (qC (.int 1))))
 (aI (bC 3 (aO (a5 1) (qC (.int 2))))
 (aI (aZ (c9 (dI (aH (aE gD (a6 (a5 0) (a6 (a5 2) a9))))) (c9 (aH (iB (a5 3) (qC (.int 0)))) (aH (t9 (a5 3) (qC (.int 60)))))) (gV Ep "BadDeed" (a6 (qC (.str "this is no hearth, or no want")) a9)) b6)
 (aI (aZ (aH (fF (aO (aO (a5 0) (qC (.int 0))) (a5 2)) (a5 3))) (gV Ep "BadDeed" (a6 (qC (.str "the deed changes nothing")) a9)) b6)
 (aV (eF (eF (gP (aO (a5 0) (qC (.int 0))) gN (gO (a5 2))) (b7 (a6 (a5 3) a9))) (gP (aO (a5 0) (qC (.int 0))) (gO (dM (a5 2) (qC (.int 1)))) gN)))))))
theorem iX {n:Nat}{i:Int}:inB n i=true↔0<=i/\i<(n:Int):=by
 unfold inB;rw[aN3,aL5,aL5]
theorem O0 {ws:ae}{i:Int}(h:0<=i):eQ (intz ws) none (some i)=intz (ws.take i.toNat)/\eQ (intz ws) (some (i+1)) none=intz (ws.drop (i.toNat+1)):=by
 refine⟨aw0 h,?_⟩
 rw[at9 ws (show (0:Int)<=i+1 by omega),show (i+1).toNat=i.toNat+1 by omega]
theorem aE5:mQ N9 ["web","deed","hearth","want"] pZ:=by
 rintro Ep xs Q ⟨ws,ls,S,i,j,rfl,hl,e,q⟩
 refine⟨_,rfl,_,_,_,rfl,rfl,rfl,trivial,?_⟩
 refine⟨_,rfl,_,_,_,rfl,rfl,rfl,trivial,?_⟩
 refine⟨_,rfl,_,rfl,ws,ls,i,rfl,_,rfl,?_⟩
 unfold bE at e q
 dsimp only at e q
 cases h1:inB ws.length i with
 |false=>exact aN (aN ⟨by decide,e (by rw[h1];rfl)⟩)
 |true=>
  rw[h1]at e q
  obtain⟨i0,i1⟩:=iX.mp h1
  refine aD ⟨_,rfl,_,_,rfl,rfl,_,rfl,?_⟩
  show if decide (j<0)=true then _ else _
  cases h2:decide (j<0) with
  |true=>exact aN (aN ⟨by decide,e (by rw[h2];rfl)⟩)
  |false=>
   rw[h2]at e q
   refine aD ⟨_,rfl,_,_,rfl,rfl,_,rfl,?_⟩
   show if decide (60<j)=true then _ else _
   cases h3:decide (60<j) with
   |true=>exact aN ⟨by decide,e (by rw[h3];rfl)⟩
   |false=>
    rw[h3]at e q
    refine aD ⟨_,rfl,_,_,_,rfl,rfl,rfl,_,rfl,_,_,_,rfl,rfl,pI i0 i1,_,rfl,.inl ⟨_,_,rfl,rfl,_,rfl,?_⟩⟩
    show if decide (ws.getD i.toNat 0=j)=true then _ else _
    cases h4:decide (ws.getD i.toNat 0=j) with
    |true=>exact aN ⟨by decide,e (by rw[h4];rfl)⟩
    |false=>
     obtain⟨c1,c2⟩:=O0 (ws:=ws) i0
     have r1:lZ (.tup (intz ws)) (eQ (intz ws) none (some i)) = .tup (intz (ws.take i.toNat)):=by rw[c1];rfl
     have r2:lZ (.tup (intz ws)) (eQ (intz ws) (some (i+1)) none) = .tup (intz (ws.drop (i.toNat+1))):=by rw[c2];rfl
     refine aD ⟨_,rfl,_,_,_,rfl,rfl,rfl,_,rfl,_,rfl,intz ws,rfl,bZ ws,_,rfl,fV,rfl,_,_,r1,rfl,bZ _,rfl,?_,_,rfl,_,_,_,rfl,rfl,rfl,_,rfl,_,_,rfl,rfl,_,rfl,intz ws,rfl,bZ ws,_,_,rfl,r2,?_,bZ _,?_,trivial,?_⟩
     ·rw[bU,aQ6];show min _ _+1<=16000000;omega
     ·show flats (intz (ws.take i.toNat)++intz [j])=true
      rw[<- dX];exact bZ _
     ·rw[aL9,bU,bU,aQ6,aP7];show min _ _+1+_<=16000000;omega
     ·have:=q (by rw[h4];rfl) _ rfl
      dsimp only at this
      rw[dX,dX]at this
      exact this
noncomputable def qA:dY:=λEp xs Q=>∃ws ls S d,xs = [bQ ws ls,tP d]/\ls.length<=4000/\(∃i j,d = .link i j∨d = .cut i j)/\(bE ws ls S d=true->Ep "BadDeed")/\(bE ws ls S d=false->∀r,dZ ws ls S d r->Q (.tup (aY r.2.1)))
noncomputable def O1 (Ep:Str->Prop):aS:=(aI (bC 2 (gP (a5 1) (gO (qC (.int 1))) gN))
 (aI (aZ (c9 (dI (aH (aE gD (a6 (a5 0) (a6 (aO (a5 2) (qC (.int 0))) a9))))) (c9 (dI (aH (aE gD (a6 (a5 0) (a6 (aO (a5 2) (qC (.int 1))) a9))))) (aH (fF (aO (a5 2) (qC (.int 0))) (aO (a5 2) (qC (.int 1))))))) (gV Ep "BadDeed" (a6 (qC (.str "these are no two hearths")) a9)) b6)
 (aI (aZ (aH (fF (q2 mS (a5 2) (aO (a5 0) (qC (.int 1)))) (q2 (bL false) (aO (a5 1) (qC (.int 0))) (qC (.str "link"))))) (gV Ep "BadDeed" (a6 (qC (.str "the deed changes nothing")) a9)) b6)
 (aI (aZ (aH (q2 (bL false) (aO (a5 1) (qC (.int 0))) (qC (.str "link")))) (aV (aE dB (a6 (aE jW (a6 (eF (aO (a5 0) (qC (.int 1))) (b7 (a6 (a5 2) a9))) a9)) a9))) b6)
 (aV (aE mZ (a6 (aO (a5 0) (qC (.int 1))) (a6 (eO (a6 (a5 2) a9)) a9))))))))
theorem aE6 (n:Nat)(i j:Int):(!inB n (mm i j).1||(!inB n (mm i j).2||decide ((mm i j).1=(mm i j).2)))=(!inB n i||(!inB n j||decide (i=j))):=by
 show (!inB n (if j<i then j else i)||(!inB n (if j>i then j else i)||decide ((if j<i then j else i)=(if j>i then j else i))))=_
 by_cases h:j<i
 ·rw[if_pos h,if_neg (by omega),aK9 (show ¬j=i by omega),aK9 (show ¬i=j by omega)]
  cases inB n j<;>cases inB n i<;>rfl
 ·rw[if_neg h]
  by_cases k:j>i
  ·rw[if_pos k]
  ·rw[if_neg k]
   have:i=j:=by omega
   subst this;rfl
theorem O2 {ls:aa}{p:Int×Int}{Q:PV->Prop}(hl:ls.length<=4000)(q:∀ls',iW ls p ls'->Q (.lst (aY ls'))):jW [.tup (aY ls++[.tup [.int p.1,.int p.2]])] Q:=by
 refine⟨(ls++[p]).map two,.inr ?_,?_,?_,λzs pm so=>?_⟩
 ·show [PV.tup (aY ls++_)] = [PV.tup ((List.map two (ls++[p])).map λr=>PV.tup (intz r))]
  rw[<- jM,mT];rfl
 ·rw[aL2,aL9];show ls.length+1<=4096;omega
 ·intro y hy
  obtain⟨l,_,rfl⟩:=aO1.mp hy
  exact λz=>by cases z
 ·obtain⟨ls',rfl,pm2⟩:=E4 pm
  show Q (.lst ((ls'.map two).map λr=>PV.tup (intz r)))
  rw[<- jM]
  exact q ls' ⟨pm2,so⟩
section
variable {ws:ae}{ls:aa}{Ep:Str→Prop}{E:gJ}{w:Str}{p:Int×Int}
noncomputable def O3 (Ep:Str->Prop):aS:=(aI (aZ (aH (fF (q2 mS (a5 2) (aO (a5 0) (qC (.int 1)))) (q2 (bL false) (aO (a5 1) (qC (.int 0))) (qC (.str "link"))))) (gV Ep "BadDeed" (a6 (qC (.str "the deed changes nothing")) a9)) b6)
 (aI (aZ (aH (q2 (bL false) (aO (a5 1) (qC (.int 0))) (qC (.str "link")))) (aV (aE dB (a6 (aE jW (a6 (eF (aO (a5 0) (qC (.int 1))) (b7 (a6 (a5 2) a9))) a9)) a9))) b6)
 (aV (aE mZ (a6 (aO (a5 0) (qC (.int 1))) (a6 (eO (a6 (a5 2) a9)) a9))))))
theorem aE7 (hl:ls.length<=4000)(hw:w="link"∨w="cut")(e:decide (p∈ls)=decide (w="link")->Ep "BadDeed")(q1:w="link"->decide (p∈ls)=false->∀ls',iW ls p ls'->E.rt (.tup (aY ls')))(q2:w="cut"->decide (p∈ls)=true->E.rt (.tup (aY (ls.filter λz=>!decide (z∈[p]))))) :
  O3 Ep E [some (.sh true (bQ ws ls)),some (.sh true (.tup [.str w,.int p.1,.int p.2])),some (.sh true (.tup [.int p.1,.int p.2]))]:=by
 have fl:flats (aY ls)=true:=gC ls
 refine⟨_,rfl,_,rfl,_,_,_,rfl,rfl,rfl,two p,ls.map two,rfl,(by rw[<- jM];rfl),_,rfl,_,_,_,rfl,rfl,rfl,_,_,rfl,rfl,.inr ⟨_,_,rfl,rfl,_,rfl,?_⟩⟩
 show if decide (decide (two p∈ls.map two)=decide (w="link"))=true then _ else _
 rw[M4]
 by_cases h:decide (p∈ls)=decide (w="link")
 ·rw[aL1 h]
  exact aN ⟨by decide,e h⟩
 ·rw[aK9 h]
  refine aD ⟨_,rfl,_,_,_,rfl,rfl,rfl,_,_,rfl,rfl,_,rfl,?_⟩
  show if decide (w="link")=true then _ else _
  rcases hw with rfl|rfl
  ·have h2:decide (p∈ls)=false:=by
    cases z:decide (p∈ls) with
    |false=>rfl
    |true=>exact absurd (by rw[z];rfl) h
   refine aN ⟨_,rfl,_,_,_,rfl,rfl,rfl,_,rfl,fV,rfl,_,_,rfl,rfl,fl,rfl,?_,?_⟩
   ·rw[aL2];show ls.length+1<=16000000;omega
   ·dsimp only[a9]
    exact O2 (p:=p) hl λls' k=>⟨⟨_,_,rfl,rfl,gC ls',trivial,q1 rfl h2 ls' k⟩,λns z=>by cases z⟩
  ·have h2:decide (p∈ls)=true:=by
    cases z:decide (p∈ls) with
    |true=>rfl
    |false=>exact absurd (by rw[z];rfl) h
   exact aD ⟨_,rfl,_,_,_,rfl,rfl,rfl,_,rfl,fV,rfl,ls,p,rfl,by omega,trivial,q2 rfl h2⟩
end
theorem aE8:mQ O1 ["web","deed","link"] qA:=by
 rintro Ep xs Q ⟨ws,ls,S,d,rfl,hl,⟨i,j,hd⟩,e,q⟩
 obtain⟨w,hw,ed,eb,eq⟩:∃w:Str,(w="link"∨w="cut")/\tP d = .tup [.str w,.int (mm i j).1,.int (mm i j).2]/\bE ws ls S d=((!inB ws.length i||(!inB ws.length j||decide (i=j)))||decide (decide (mm i j∈ls)=decide (w="link")))/\
   ((w="link"->∀ls',iW ls (mm i j) ls'->dZ ws ls S d (ws,ls',S))/\(w="cut"->dZ ws ls S d (ws,ls.filter λz=>!decide (z∈[mm i j]),S))):=by
  rcases hd with rfl|rfl
  ·refine⟨"link",.inl rfl,rfl,?_,λ_ ls' h=>⟨ls',rfl,h⟩,λz=>absurd z (by decide)⟩
   unfold bE
   dsimp only
   cases decide (mm i j∈ls)<;>cases inB ws.length i<;>cases inB ws.length j<;>cases decide (i=j)<;>rfl
  ·refine⟨"cut",.inr rfl,rfl,?_,λz=>absurd z (by decide),λ_=>rfl⟩
   unfold bE
   dsimp only
   cases decide (mm i j∈ls)<;>cases inB ws.length i<;>cases inB ws.length j<;>cases decide (i=j)<;>rfl
 rw[ed]
 rw[<- aE6]at eb
 rw[eb]at e q
 clear eb ed hd
 generalize mm i j=p at e q eq
 obtain⟨a,b⟩:=p
 refine⟨_,rfl,1,rfl,_,rfl,rfl,trivial,?_⟩
 refine⟨_,rfl,_,rfl,_,_,_,rfl,rfl,rfl,ws,ls,a,rfl,_,rfl,?_⟩
 dsimp only at e q
 cases h1:inB ws.length a with
 |false=>exact aN (aN ⟨by decide,e (by rw[h1];rfl)⟩)
 |true=>
  rw[h1]at e q
  refine aD ⟨_,rfl,_,rfl,_,_,_,rfl,rfl,rfl,ws,ls,b,rfl,_,rfl,?_⟩
  cases h2:inB ws.length b with
  |false=>exact aN (aN ⟨by decide,e (by rw[h2];rfl)⟩)
  |true=>
   rw[h2]at e q
   refine aD ⟨_,rfl,_,_,_,rfl,rfl,rfl,_,rfl,_,_,_,rfl,rfl,rfl,.inl ⟨_,_,rfl,rfl,_,rfl,?_⟩⟩
   show if decide (a=b)=true then _ else _
   cases h3:decide (a=b) with
   |true=>exact aN ⟨by decide,e (by rw[h3];rfl)⟩
   |false=>
    rw[h3]at e q
    have fw:flat (bQ ws ls)=true:=pE ws ls
    refine aD ?_
    show O3 Ep _ [some (.sh (flat (bQ ws ls)) (bQ ws ls)),_,_]
    rw[fw]
    refine aE7 (p:=(a,b)) hl hw (λz=>e ?_) (λhw z ls' k=>q ?_ _ (eq.1 hw ls' k)) (λhw z=>q ?_ _ (eq.2 hw))
    ·rw[aL1 z];rfl
    ·rw[z,hw];rfl
    ·rw[z,hw];rfl
noncomputable def l9:dY:=λEp xs Q=>∃ws ls x S d,xs = [bQ ws ls,x,dP d]/\dE x S/\S.length<=1000/\ws.length<=60/\ls.length<=4000/\(cB ws.length S=false->Ep "BadSet")/\(cB ws.length S=true->(bE ws ls S d=true->Ep "BadDeed")/\(bE ws ls S d=false->∀r,dZ ws ls S d r->Q (cQ r)))
noncomputable def O4 (Ep:Str->Prop):aS:=(aI (bC 3 (kU Ep pP (a6 (a5 0) (a6 (a5 1) a9))))
 (aI (bC 4 (aE pX (a6 (a5 2) a9)))
 (aI (aZ (c9 (aH (q2 (bL false) (aO (a5 4) (qC (.int 0))) (qC (.str "light")))) (aH (q2 (bL false) (aO (a5 4) (qC (.int 0))) (qC (.str "douse"))))) (aV (b7 (a6 (a5 0) (a6 (kU Ep pY (a6 (a5 0) (a6 (a5 3) (a6 (a5 4) a9)))) a9)))) b6)
 (aI (aZ (aH (q2 (bL false) (aO (a5 4) (qC (.int 0))) (qC (.str "want")))) (aV (b7 (a6 (b7 (a6 (kU Ep pZ (a6 (a5 0) (a6 (a5 4) a9))) (a6 (aO (a5 0) (qC (.int 1))) a9))) (a6 (a5 3) a9)))) b6)
 (aV (b7 (a6 (b7 (a6 (aO (a5 0) (qC (.int 0))) (a6 (kU Ep qA (a6 (a5 0) (a6 (a5 4) a9))) a9))) (a6 (a5 3) a9))))))))
theorem gF {ws ws':ae}{ls:aa}{S:ae}:flats [bQ ws ls,.tup (intz S)]=true:=by
 show (flat (bQ ws ls)&&(flat (.tup (intz S))&&true))=true
 rw[pE,mH];rfl
theorem v8 (ws:ae)(ls:aa):flats [PV.tup (intz ws),.tup (aY ls)]=true:=kT ws ls
theorem aE9:mQ O4 ["web","seeds","deed","chosen","told"] l9:=by
 rintro Ep xs Q ⟨ws,ls,x,S,d,rfl,hx,hS,hw,hl,e1,e2⟩
 refine⟨_,rfl,_,rfl,ws,ls,x,S,rfl,hx,hS,λst=>⟨trivial,?_⟩,e1⟩
 obtain⟨e,q⟩:=e2 st
 have sl:=mK st
 refine⟨_,rfl,d,rfl,trivial,?_⟩
 cases d with
 |light i=>
  refine⟨_,rfl,_,_,_,rfl,rfl,rfl,_,_,rfl,rfl,_,rfl,aN (aN ?_)⟩
  refine⟨_,rfl,_,rfl,_,rfl,_,rfl,ws,ls,S,.light i,rfl,by omega,⟨i,.inl rfl⟩,e,λg r k=>⟨c8,gF (ws':=ws),trivial,?_⟩⟩
  have k2:r=_:=k
  subst k2
  exact q g _ k
 |douse i=>
  refine⟨_,rfl,_,_,_,rfl,rfl,rfl,_,_,rfl,rfl,_,rfl,aD ⟨_,rfl,_,_,_,rfl,rfl,rfl,_,_,rfl,rfl,_,rfl,aN ?_⟩⟩
  refine⟨_,rfl,_,rfl,_,rfl,_,rfl,ws,ls,S,.douse i,rfl,by omega,⟨i,.inr rfl⟩,e,λg r k=>⟨c8,gF (ws':=ws),trivial,?_⟩⟩
  have k2:r=_:=k
  subst k2
  exact q g _ k
 |want i j=>
  refine⟨_,rfl,_,_,_,rfl,rfl,rfl,_,_,rfl,rfl,_,rfl,aD ⟨_,rfl,_,_,_,rfl,rfl,rfl,_,_,rfl,rfl,_,rfl,aD ?_⟩⟩
  refine⟨_,rfl,_,_,_,rfl,rfl,rfl,_,_,rfl,rfl,_,rfl,aN ?_⟩
  refine⟨_,rfl,_,rfl,ws,ls,S,i,j,rfl,by omega,e,λg r k=>⟨_,rfl,_,_,_,rfl,rfl,rfl,c8,?_,_,rfl,c8,?_,trivial,?_⟩⟩
  ·exact v8 _ _
  ·exact gF (ws':=ws)
  ·have k2:r=_:=k
   subst k2
   exact q g _ k
 |link i j=>
  refine⟨_,rfl,_,_,_,rfl,rfl,rfl,_,_,rfl,rfl,_,rfl,aD ⟨_,rfl,_,_,_,rfl,rfl,rfl,_,_,rfl,rfl,_,rfl,aD ?_⟩⟩
  refine⟨_,rfl,_,_,_,rfl,rfl,rfl,_,_,rfl,rfl,_,rfl,aD ?_⟩
  refine⟨_,rfl,_,_,_,rfl,rfl,rfl,_,rfl,_,rfl,ws,ls,S,.link i j,rfl,hl,⟨i,j,.inl rfl⟩,e,λg r k=>⟨c8,?_,_,rfl,c8,?_,trivial,?_⟩⟩
  ·exact v8 _ _
  ·exact gF (ws':=ws)
  ·obtain⟨l1,rfl,k2⟩:=k
   exact q g _ ⟨l1,rfl,k2⟩
 |cut i j=>
  refine⟨_,rfl,_,_,_,rfl,rfl,rfl,_,_,rfl,rfl,_,rfl,aD ⟨_,rfl,_,_,_,rfl,rfl,rfl,_,_,rfl,rfl,_,rfl,aD ?_⟩⟩
  refine⟨_,rfl,_,_,_,rfl,rfl,rfl,_,_,rfl,rfl,_,rfl,aD ?_⟩
  refine⟨_,rfl,_,_,_,rfl,rfl,rfl,_,rfl,_,rfl,ws,ls,S,.cut i j,rfl,hl,⟨i,j,.inr rfl⟩,e,λg r k=>⟨c8,?_,_,rfl,c8,?_,trivial,?_⟩⟩
  ·exact v8 _ _
  ·exact gF (ws':=ws)
  ·have k2:r=_:=k
   subst k2
   exact q g _ k
noncomputable def nA:c7:=λxs Q=>∃c m:Int,xs = [.int c,.int m]/\0<=m/\m<=100/\∀d,Q (dP d)
noncomputable def O5:aS:=(aI (bC 2 (kI (bX (cW (a5 0) (qC (.int 5))) (dM (a5 1) (qC (.int 2)))) (qC (.int 1))))
 (aI (bC 3 (kI (bX (dM (cW (a5 0) (qC (.int 67))) (a5 0)) (dM (a5 1) (qC (.int 2)))) (qC (.int 1))))
 (aI (aZ (aH (fF (bX (a5 0) (qC (.int 41))) (qC (.int 7)))) (bC 3 (dM (a5 1) (bX (cW (a5 0) (qC (.int 41))) (yV (qC (.int 10)) (qC (.int 30)))))) b6)
 (aI (bC 4 (aO (eO (a6 (qC (.str "light")) (a6 (qC (.str "douse")) (a6 (qC (.str "want")) (a6 (qC (.str "link")) (a6 (qC (.str "cut")) a9)))))) (bX (a5 0) (qC (.int 5)))))
 (aI (aZ (c9 (aH (q2 (bL false) (a5 4) (qC (.str "light")))) (aH (q2 (bL false) (a5 4) (qC (.str "douse"))))) (aV (b7 (a6 (a5 4) (a6 (a5 2) a9)))) b6)
 (aI (aZ (aH (q2 (bL false) (a5 4) (qC (.str "want")))) (aV (b7 (a6 (a5 4) (a6 (a5 2) (a6 (aO (eO (a6 (bX (cW (a5 0) (qC (.int 71))) (qC (.int 4))) (a6 (bX (cW (a5 0) (qC (.int 71))) (qC (.int 63))) (a6 (lY (qC (.int 1))) (a6 (qC (.int 60)) (a6 (qC (.int 61)) a9)))))) (bX (cW (a5 0) (qC (.int 7))) (qC (.int 5)))) a9))))) b6)
 (aV (b7 (a6 (a5 4) (a6 (a5 2) (a6 (a5 3) a9)))))))))))
noncomputable def O6:aS:=(aI (bC 4 (aO (eO (a6 (qC (.str "light")) (a6 (qC (.str "douse")) (a6 (qC (.str "want")) (a6 (qC (.str "link")) (a6 (qC (.str "cut")) a9)))))) (bX (a5 0) (qC (.int 5)))))
 (aI (aZ (c9 (aH (q2 (bL false) (a5 4) (qC (.str "light")))) (aH (q2 (bL false) (a5 4) (qC (.str "douse"))))) (aV (b7 (a6 (a5 4) (a6 (a5 2) a9)))) b6)
 (aI (aZ (aH (q2 (bL false) (a5 4) (qC (.str "want")))) (aV (b7 (a6 (a5 4) (a6 (a5 2) (a6 (aO (eO (a6 (bX (cW (a5 0) (qC (.int 71))) (qC (.int 4))) (a6 (bX (cW (a5 0) (qC (.int 71))) (qC (.int 63))) (a6 (lY (qC (.int 1))) (a6 (qC (.int 60)) (a6 (qC (.int 61)) a9)))))) (bX (cW (a5 0) (qC (.int 7))) (qC (.int 5)))) a9))))) b6)
 (aV (b7 (a6 (a5 4) (a6 (a5 2) (a6 (a5 3) a9))))))))
theorem O7 {j:Int}(h0:0<=j)(h1:j<5):j=0∨j=1∨j=2∨j=3∨j=4:=by omega
theorem O8 {c m a b:Int}{s4:Option Slot}{Q:PV->Prop}(q:∀d,Q (dP d)):O6 { nx:=λ_=>Q .non,rt:=Q } [si c,si m,si a,si b,s4]:=by
 have h0:0<=c%5:=aV0 _ (by decide)
 have h1:c%5<5:=aW2 _ (by decide)
 have cC:∀w:Str,L2.atI [PV.str "light",.str "douse",.str "want",.str "link",.str "cut"] (c%5)=some (.str w)->(∀ρ,ρ = [si c,si m,si a,si b,some (.sh true (.str w))]->(aI (aZ (c9 (aH (q2 (bL false) (a5 4) (qC (.str "light")))) (aH (q2 (bL false) (a5 4) (qC (.str "douse"))))) (aV (b7 (a6 (a5 4) (a6 (a5 2) a9)))) b6)
 (aI (aZ (aH (q2 (bL false) (a5 4) (qC (.str "want")))) (aV (b7 (a6 (a5 4) (a6 (a5 2) (a6 (aO (eO (a6 (bX (cW (a5 0) (qC (.int 71))) (qC (.int 4))) (a6 (bX (cW (a5 0) (qC (.int 71))) (qC (.int 63))) (a6 (lY (qC (.int 1))) (a6 (qC (.int 60)) (a6 (qC (.int 61)) a9)))))) (bX (cW (a5 0) (qC (.int 7))) (qC (.int 5)))) a9))))) b6)
 (aV (b7 (a6 (a5 4) (a6 (a5 2) (a6 (a5 3) a9))))))) { nx:=λ_=>Q .non,rt:=Q } ρ)->O6 { nx:=λ_=>Q .non,rt:=Q } [si c,si m,si a,si b,s4]:=λw hw k=>
  ⟨by decide,rfl,_,rfl,_,_,rfl,rfl,(by show (0:Int)<5;decide),_,_,_,rfl,rfl,hw,trivial,k _ rfl⟩
 have k0:0<=c/7%5:=aV0 _ (by decide)
 have k1:c/7%5<5:=aW2 _ (by decide)
 rcases O7 h0 h1 with e|e|e|e|e
 ·refine cC "light" (by rw[e];rfl) ?_
  rintro ρ rfl
  exact⟨_,rfl,_,_,rfl,rfl,_,rfl,aN (aN ⟨_,rfl,_,rfl,c8,rfl,trivial,q (.light a)⟩)⟩
 ·refine cC "douse" (by rw[e];rfl) ?_
  rintro ρ rfl
  exact⟨_,rfl,_,_,rfl,rfl,_,rfl,aD ⟨_,rfl,_,_,rfl,rfl,_,rfl,aN ⟨_,rfl,_,rfl,c8,rfl,trivial,q (.douse a)⟩⟩⟩
 ·refine cC "want" (by rw[e];rfl) ?_
  rintro ρ rfl
  refine⟨_,rfl,_,_,rfl,rfl,_,rfl,aD ⟨_,rfl,_,_,rfl,rfl,_,rfl,aD ⟨_,rfl,_,_,rfl,rfl,_,rfl,aN ?_⟩⟩⟩
  obtain⟨z,hz⟩:∃z:Int,L2.atI [PV.int (c/71%4),.int (c/71%63),.int (-1),.int 60,.int 61] (c/7%5)=some (.int z):=by
   rcases O7 k0 k1 with e|e|e|e|e<;>rw[e]<;>exact⟨_,rfl⟩
  exact⟨_,rfl,_,rfl,_,rfl,_,_,rfl,rfl,⟨by decide,by decide⟩,_,_,rfl,rfl,(by show (0:Int)<4;decide),_,rfl,_,_,rfl,rfl,⟨by decide,by decide⟩,_,_,rfl,rfl,(by show (0:Int)<63;decide),_,rfl,le5,rfl,_,rfl,_,_,rfl,rfl,⟨by decide,by decide⟩,_,_,rfl,rfl,(by show (0:Int)<5;decide),_,_,_,rfl,rfl,hz,v7,rfl,trivial,q (.want a z)⟩
 ·refine cC "link" (by rw[e];rfl) ?_
  rintro ρ rfl
  exact⟨_,rfl,_,_,rfl,rfl,_,rfl,aD ⟨_,rfl,_,_,rfl,rfl,_,rfl,aD ⟨_,rfl,_,_,rfl,rfl,_,rfl,aD ⟨_,rfl,_,rfl,_,rfl,v7,rfl,trivial,q (.link a b)⟩⟩⟩⟩
 ·refine cC "cut" (by rw[e];rfl) ?_
  rintro ρ rfl
  exact⟨_,rfl,_,_,rfl,rfl,_,rfl,aD ⟨_,rfl,_,_,rfl,rfl,_,rfl,aD ⟨_,rfl,_,_,rfl,rfl,_,rfl,aD ⟨_,rfl,_,rfl,_,rfl,v7,rfl,trivial,q (.cut a b)⟩⟩⟩⟩
theorem aF0:dF O5 ["cell","many","one","other","word"] nA:=by
 rintro xs Q ⟨c,m,rfl,m0,m1,q⟩
 have mp:(0:Int)<m+2:=by omega
 refine⟨_,rfl,_,_,rfl,rfl,⟨by decide,by decide⟩,_,rfl,_,_,rfl,rfl,_,_,rfl,rfl,mp,_,_,rfl,rfl,trivial,?_⟩
 refine⟨_,rfl,_,_,rfl,rfl,⟨by decide,by decide⟩,_,rfl,_,_,rfl,rfl,_,rfl,_,_,rfl,rfl,_,_,rfl,rfl,mp,_,_,rfl,rfl,trivial,?_⟩
 refine⟨_,rfl,_,_,rfl,rfl,(by show (0:Int)<41;decide),.inl ⟨_,_,rfl,rfl,_,rfl,?_⟩⟩
 show if decide (c%41=7)=true then _ else _
 cases decide (c%41=7) with
 |false=>exact aD (O8 q)
 |true=>
  refine aN ⟨_,rfl,_,rfl,_,_,rfl,rfl,⟨by decide,by decide⟩,_,_,rfl,rfl,⟨by decide,by decide,by decide⟩,_,_,rfl,rfl,(by show (0:Int)<10^(30:Int).toNat;decide),_,_,rfl,rfl,trivial,?_⟩
  exact O8 q
noncomputable def qB:c7:=λxs Q=>∃ws ls S d,xs = [bQ ws ls,.tup (intz S),dP d]/\S.length<63/\ws.length<=60/\ls.length<=4000/\(bE ws ls S d=true->Q .non)/\(bE ws ls S d=false->∀r,dZ ws ls S d r->Q (cQ r))
noncomputable def v9:aS:=(aI (bC 7 (b7 (a6 (aE oF (a6 (a5 5) (a6 (a5 6) a9))) (a6 (aE lU (a6 (a5 5) (a6 (a5 6) a9))) a9))))
 (aI (aZ (c9 (aH (iB (a5 6) (qC (.int 0)))) (c9 (aH (tD (a5 6) (aE dJ (a6 (a5 3) a9)))) (c9 (aH (fF (a5 6) (a5 5))) (aH (fF (q2 mS (a5 7) (a5 4)) (q2 (bL false) (aO (a5 2) (qC (.int 0))) (qC (.str "link")))))))) (aV (qC .non)) b6)
 (aI (aZ (aH (q2 (bL false) (aO (a5 2) (qC (.int 0))) (qC (.str "link")))) (aV (b7 (a6 (b7 (a6 (a5 3) (a6 (aE dB (a6 (aE jW (a6 (eF (a5 4) (b7 (a6 (a5 7) a9))) a9)) a9)) a9))) (a6 (a5 1) a9)))) b6)
 (aV (b7 (a6 (b7 (a6 (a5 3) (a6 (aE dB (a6 (gL (g9 (a5 4)) [none,some 7] (cO 0) (aH (q2 (t8 2 true) (a5 0) (a5 1))) (a5 0)) a9)) a9))) (a6 (a5 1) a9)))))))
noncomputable def vA:aS:=(aI (pN (oI 3 4) (a5 0))
 (aI (bC 5 (aO (a5 2) (qC (.int 1))))
 (aI (aZ (c9 (aH (iB (a5 5) (qC (.int 0)))) (aH (tD (a5 5) (aE dJ (a6 (a5 3) a9))))) (aV (qC .non)) b6)
 (aI (aZ (aH (q2 (bL false) (aO (a5 2) (qC (.int 0))) (qC (.str "light")))) (aV (l0 (aH (q2 (iM false) (a5 5) (a5 1))) (qC .non) (b7 (a6 (a5 0) (a6 (aE dB (a6 (aE mO (a6 (eF (a5 1) (b7 (a6 (a5 5) a9))) a9)) a9)) a9))))) b6)
 (aI (aZ (aH (q2 (bL false) (aO (a5 2) (qC (.int 0))) (qC (.str "douse")))) (aV (l0 (aH (q2 (iM false) (a5 5) (a5 1))) (b7 (a6 (a5 0) (a6 (aE dB (a6 (gL (g9 (a5 1)) [none,some 5] (cO 0) (aH (iN (a5 0) (a5 1))) (a5 0)) a9)) a9))) (qC .non))) b6)
 (aI (bC 6 (aO (a5 2) (qC (.int 2))))
 (aI (aZ (aH (q2 (bL false) (aO (a5 2) (qC (.int 0))) (qC (.str "want")))) (aI (aZ (c9 (aH (iB (a5 6) (qC (.int 0)))) (c9 (aH (t9 (a5 6) (qC (.int 60)))) (aH (fF (aO (a5 3) (a5 5)) (a5 6))))) (aV (qC .non)) b6)
  (aV (b7 (a6 (b7 (a6 (eF (eF (gP (a5 3) gN (gO (a5 5))) (b7 (a6 (a5 6) a9))) (gP (a5 3) (gO (dM (a5 5) (qC (.int 1)))) gN)) (a6 (a5 4) a9))) (a6 (a5 1) a9))))) b6)
 v9)))))))
section
variable {ws:ae}{ls:aa}{S:ae}{Q:PV→Prop}{w:Str}{i j:Int}{s7:Option Slot}
theorem aF1 {l p:Int×Int}:dL 3 (.tup [.int l.1,.int l.2]) (.tup [.int p.1,.int p.2])=true/\cH 3 (.tup [.int l.1,.int l.2]) (.tup [.int p.1,.int p.2])=decide (l∈[p]):=by
 refine⟨rfl,?_⟩
 show ((l.1==p.1&&(l.2==p.2&&true))&&true)=decide (l∈[p])
 rw[aX4,aX4,aO9,aN3,beq_iff_eq,beq_iff_eq,aL5,aM5]
 exact⟨λh=>Prod.ext h.1 h.2,λh=>by rw[h];exact⟨rfl,rfl⟩⟩
theorem O9 (hl:ls.length<=4000)(hi:inB ws.length i=true)(hw:w="link"∨w="cut")(e:(!inB ws.length j||(decide (i=j)||decide (decide (mm i j∈ls)=decide (w="link"))))=true->Q .non)(q1:w="link"->(!inB ws.length j||(decide (i=j)||decide (mm i j∈ls)))=false->∀ls',iW ls (mm i j) ls'->Q (cQ (ws,ls',S)))(q2:w="cut"->(!inB ws.length j||(decide (i=j)||!decide (mm i j∈ls)))=false->Q (cQ (ws,ls.filter (λz=>!decide (z∈[mm i j])),S))) :
  v9 { nx:=λ_=>Q .non,rt:=Q } [some (.sh true (bQ ws ls)),some (.sh true (.tup (intz S))),some (.sh true (.tup [.str w,.int i,.int j])),some (.sh true (.tup (intz ws))),some (.sh true (.tup (aY ls))),si i,si j,s7]:=by
 have fl:flats (aY ls)=true:=gC ls
 refine⟨_,rfl,_,rfl,_,_,rfl,_,rfl,_,rfl,_,_,rfl,c8,rfl,trivial,?_⟩
 refine⟨_,rfl,_,_,rfl,rfl,_,rfl,?_⟩
 show if decide (j<0)=true then _ else _
 by_cases j0:j<0
 ·rw[aL1 j0]
  have hj:inB ws.length j=false:=by
   cases z:inB ws.length j with
   |false=>rfl
   |true=>have:=(iX.mp z).1;omega
  exact aN (aN ⟨trivial,e (by rw[hj];rfl)⟩)
 rw[aK9 j0]
 refine aD ⟨_,rfl,_,rfl,_,_,rfl,rfl,_,_,rfl,rfl,_,rfl,?_⟩
 rw[bU]
 show if decide ((ws.length:Int)<=j)=true then _ else _
 by_cases j1:(ws.length:Int)<=j
 ·rw[aL1 j1]
  have hj:inB ws.length j=false:=by
   cases z:inB ws.length j with
   |false=>rfl
   |true=>have:=(iX.mp z).2;omega
  exact aN (aN ⟨trivial,e (by rw[hj];rfl)⟩)
 rw[aK9 j1]
 have hj:inB ws.length j=true:=iX.mpr ⟨by omega,by omega⟩
 rw[hj]at e q1 q2
 refine aD ⟨_,rfl,_,rfl,.inl ⟨_,_,rfl,rfl,_,rfl,?_⟩⟩
 show if decide (j=i)=true then _ else _
 by_cases ij:i=j
 ·rw[aL1 ij.symm]
  exact aN (aN ⟨trivial,e (by rw[aL1 ij];rfl)⟩)
 rw[aK9 (λz=>ij z.symm)]
 rw[aK9 ij]at e q1 q2
 refine aD ⟨_,rfl,_,rfl,two (mm i j),ls.map two,rfl,(by rw[<- jM];rfl),_,rfl,_,_,_,rfl,rfl,rfl,_,_,rfl,rfl,.inr ⟨_,_,rfl,rfl,_,rfl,?_⟩⟩
 show if decide (decide (two (mm i j)∈ls.map two)=decide (w="link"))=true then _ else _
 rw[M4]
 by_cases h:decide (mm i j∈ls)=decide (w="link")
 ·rw[aL1 h]
  exact aN ⟨trivial,e (by rw[aL1 h];rfl)⟩
 rw[aK9 h]
 refine aD ⟨_,rfl,_,_,_,rfl,rfl,rfl,_,_,rfl,rfl,_,rfl,?_⟩
 show if decide (w="link")=true then _ else _
 rcases hw with rfl|rfl
 ·have h2:decide (mm i j∈ls)=false:=by
   cases z:decide (mm i j∈ls) with
   |false=>rfl
   |true=>exact absurd (by rw[z];rfl) h
  refine aN ⟨_,rfl,_,rfl,_,rfl,fV,rfl,_,_,rfl,rfl,fl,rfl,?_,?_⟩
  ·rw[gT];show ls.length+1<=16000000;omega
  ·dsimp only[a9]
   exact O2 (p:=mm i j) hl λls' k=>⟨⟨_,_,rfl,rfl,gC ls',c8,kT ws ls',_,rfl,c8,gF (ws':=ws),trivial,q1 rfl (by rw[h2];rfl) ls' k⟩,λns z=>by cases z⟩
 ·have h2:decide (mm i j∈ls)=true:=by
   cases z:decide (mm i j∈ls) with
   |true=>rfl
   |false=>exact absurd (by rw[z];rfl) h
  refine aD ⟨_,rfl,_,rfl,aY ls,rfl,(λz=>by cases z),by rw[gT];omega,λk acc=>acc=aY ((ls.take k).filter λz=>!decide (z∈[mm i j])),rfl,?_,?_⟩
  ·rintro k z acc hz rfl
   obtain⟨l,rfl,hn⟩:=uC hz
   have tk:=pD (p:=λz=>!decide (z∈[mm i j])) hn
   refine N0 ?_
   obtain⟨o1,o2⟩:=aF1 (l:=l) (p:=mm i j)
   refine⟨_,rfl,_,rfl,.inl ⟨_,_,rfl,rfl⟩,o1,_,rfl,?_⟩
   show if (!cH 3 (.tup [.int l.1,.int l.2]) (.tup [.int (mm i j).1,.int (mm i j).2]))=true then _ else _
   rw[o2]
   cases h:decide (l∈[mm i j]) with
   |true=>
    rw[h]at tk
    refine aD ?_
    show _=aY (List.filter _ (List.take (k+1) ls))
    rw[tk];exact congrArg aY (aO7 _).symm
   |false=>
    rw[h]at tk
    refine aN ⟨_,rfl,trivial,?_⟩
    show _=aY (List.filter _ (List.take (k+1) ls))
    rw[tk,mT];rfl
  ·rintro acc rfl
   rw[gT,aQ7]
   exact⟨⟨_,_,rfl,rfl,gC _,c8,kT _ _,_,rfl,c8,gF (ws':=ws),trivial,q2 rfl (by rw[h2];rfl)⟩,λns z=>by cases z⟩
noncomputable def nB:aS:=(aI (aZ (aH (q2 (bL false) (aO (a5 2) (qC (.int 0))) (qC (.str "light")))) (aV (l0 (aH (q2 (iM false) (a5 5) (a5 1))) (qC .non) (b7 (a6 (a5 0) (a6 (aE dB (a6 (aE mO (a6 (eF (a5 1) (b7 (a6 (a5 5) a9))) a9)) a9)) a9))))) b6)
 (aI (aZ (aH (q2 (bL false) (aO (a5 2) (qC (.int 0))) (qC (.str "douse")))) (aV (l0 (aH (q2 (iM false) (a5 5) (a5 1))) (b7 (a6 (a5 0) (a6 (aE dB (a6 (gL (g9 (a5 1)) [none,some 5] (cO 0) (aH (iN (a5 0) (a5 1))) (a5 0)) a9)) a9))) (qC .non))) b6)
 (aI (bC 6 (aO (a5 2) (qC (.int 2))))
 (aI (aZ (aH (q2 (bL false) (aO (a5 2) (qC (.int 0))) (qC (.str "want")))) (aI (aZ (c9 (aH (iB (a5 6) (qC (.int 0)))) (c9 (aH (t9 (a5 6) (qC (.int 60)))) (aH (fF (aO (a5 3) (a5 5)) (a5 6))))) (aV (qC .non)) b6)
  (aV (b7 (a6 (b7 (a6 (eF (eF (gP (a5 3) gN (gO (a5 5))) (b7 (a6 (a5 6) a9))) (gP (a5 3) (gO (dM (a5 5) (qC (.int 1)))) gN)) (a6 (a5 4) a9))) (a6 (a5 1) a9))))) b6)
 v9))))
noncomputable def nC (ws:ae)(ls:aa)(S:ae)(x:PV)(i:Int)(s6 s7:Option Slot):bB:=[some (.sh true (bQ ws ls)),some (.sh true (.tup (intz S))),some (.sh true x),some (.sh true (.tup (intz ws))),some (.sh true (.tup (aY ls))),si i,s6,s7]
theorem aF2 {s6:Option Slot}(sl:S.length<63)(hi:inB ws.length i=true)(e:bE ws ls S (.light i)=true->Q .non)(q:bE ws ls S (.light i)=false->∀r,dZ ws ls S (.light i) r->Q (cQ r)):nB { nx:=λ_=>Q .non,rt:=Q } (nC ws ls S (dP (.light i)) i s6 s7):=by
 unfold bE at e q
 dsimp only at e q
 rw[hi]at e q
 refine⟨_,rfl,_,_,_,rfl,rfl,rfl,_,_,rfl,rfl,_,rfl,aN ⟨_,rfl,_,rfl,i,S,rfl,rfl,_,rfl,?_⟩⟩
 show if decide (i∈S)=true then _ else _
 cases h:decide (i∈S) with
 |true=>exact aN ⟨trivial,e (by rw[h];rfl)⟩
 |false=>
  refine aD ⟨_,rfl,_,rfl,_,rfl,fV,rfl,_,_,rfl,rfl,bZ S,rfl,(by rw[bU];show S.length+1<=16000000;omega),_,S++[i],rfl,?_,(by rw[aL9];show S.length+1<64;omega),λms pm so=>⟨⟨_,_,rfl,rfl,bZ ms,c8,gF (ws':=ws),trivial,?_⟩,λns z=>by cases z⟩⟩
  ·show some (intz S++[PV.int i])=_
   rw[dX];rfl
  ·rw[K9 pm so]
   exact q (by rw[h];rfl) _ rfl
theorem aF3 {s6:Option Slot}(sl:S.length<63)(hi:inB ws.length i=true)(e:bE ws ls S (.douse i)=true->Q .non)(q:bE ws ls S (.douse i)=false->∀r,dZ ws ls S (.douse i) r->Q (cQ r)):nB { nx:=λ_=>Q .non,rt:=Q } (nC ws ls S (dP (.douse i)) i s6 s7):=by
 unfold bE at e q
 dsimp only at e q
 rw[hi]at e q
 refine⟨_,rfl,_,_,_,rfl,rfl,rfl,_,_,rfl,rfl,_,rfl,aD ⟨_,rfl,_,_,_,rfl,rfl,rfl,_,_,rfl,rfl,_,rfl,aN ⟨_,rfl,_,rfl,i,S,rfl,rfl,_,rfl,?_⟩⟩⟩
 show if decide (i∈S)=true then _ else _
 cases h:decide (i∈S) with
 |false=>exact aD ⟨trivial,e (by rw[h];rfl)⟩
 |true=>
  refine aN ⟨_,rfl,_,rfl,intz S,rfl,(λz=>by cases z),by rw[bU];omega,λk acc=>acc=intz ((S.take k).filter λz=>!decide (z∈[i])),rfl,?_,?_⟩
  ·rintro k z acc hz rfl
   obtain⟨n,rfl,hn⟩:=mG hz
   have tk:=pD (p:=λz=>!decide (z∈[i])) hn
   refine⟨_,rfl,_,rfl,.inl ⟨_,_,rfl,rfl,_,rfl,?_⟩⟩
   show if (!decide (n=i))=true then _ else _
   have e2:decide (n∈[i])=decide (n=i):=decide_eq_decide.mpr aM5
   rw[e2]at tk
   cases h:decide (n=i) with
   |true=>
    rw[h]at tk
    refine aD ?_
    show _=intz (List.filter _ (List.take (k+1) S))
    rw[tk];exact congrArg intz (aO7 _).symm
   |false=>
    rw[h]at tk
    refine aN ⟨_,rfl,trivial,?_⟩
    show _=intz (List.filter _ (List.take (k+1) S))
    rw[tk,dX];rfl
  ·rintro acc rfl
   rw[bU,aQ7]
   exact⟨⟨_,_,rfl,rfl,bZ _,c8,gF (ws':=ws),trivial,q (by rw[h];rfl) _ rfl⟩,λns z=>by cases z⟩
theorem aF4 {s6:Option Slot}(wl:ws.length<=60)(hi:inB ws.length i=true)(e:bE ws ls S (.want i j)=true->Q .non)(q:bE ws ls S (.want i j)=false->∀r,dZ ws ls S (.want i j) r->Q (cQ r)):nB { nx:=λ_=>Q .non,rt:=Q } (nC ws ls S (dP (.want i j)) i s6 s7):=by
 unfold bE at e q
 dsimp only at e q
 rw[hi]at e q
 obtain⟨i0,i1⟩:=iX.mp hi
 refine⟨_,rfl,_,_,_,rfl,rfl,rfl,_,_,rfl,rfl,_,rfl,aD ⟨_,rfl,_,_,_,rfl,rfl,rfl,_,_,rfl,rfl,_,rfl,aD ⟨_,rfl,_,_,_,rfl,rfl,rfl,trivial,_,rfl,_,_,_,rfl,rfl,rfl,_,_,rfl,rfl,_,rfl,aN ?_⟩⟩⟩
 refine⟨_,rfl,_,_,rfl,rfl,_,rfl,?_⟩
 show if decide (j<0)=true then _ else _
 cases h2:decide (j<0) with
 |true=>exact aN (aN ⟨trivial,e (by rw[h2];rfl)⟩)
 |false=>
  rw[h2]at e q
  refine aD ⟨_,rfl,_,_,rfl,rfl,_,rfl,?_⟩
  show if decide (60<j)=true then _ else _
  cases h3:decide (60<j) with
  |true=>exact aN (aN ⟨trivial,e (by rw[h3];rfl)⟩)
  |false=>
   rw[h3]at e q
   refine aD ⟨_,rfl,_,rfl,_,_,_,rfl,rfl,pI i0 i1,_,rfl,.inl ⟨_,_,rfl,rfl,_,rfl,?_⟩⟩
   show if decide (ws.getD i.toNat 0=j)=true then _ else _
   cases h4:decide (ws.getD i.toNat 0=j) with
   |true=>exact aN ⟨trivial,e (by rw[h4];rfl)⟩
   |false=>
    obtain⟨c1,c2⟩:=O0 (ws:=ws) i0
    have r1:lZ (.tup (intz ws)) (eQ (intz ws) none (some i)) = .tup (intz (ws.take i.toNat)):=by rw[c1];rfl
    have r2:lZ (.tup (intz ws)) (eQ (intz ws) (some (i+1)) none) = .tup (intz (ws.drop (i.toNat+1))):=by rw[c2];rfl
    have ea:intz (ws.take i.toNat)++[PV.int j]++intz (ws.drop (i.toNat+1))=intz (ws.take i.toNat++[j]++ws.drop (i.toNat+1)):=by rw[dX,dX];rfl
    refine aD ⟨_,rfl,_,rfl,_,rfl,intz ws,rfl,bZ ws,_,rfl,fV,rfl,_,_,r1,rfl,bZ _,rfl,?_,_,rfl,_,rfl,_,_,rfl,rfl,_,rfl,intz ws,rfl,bZ ws,_,_,rfl,r2,?_,bZ _,?_,_,rfl,c8,?_,_,rfl,c8,?_,trivial,?_⟩
    ·rw[bU,aQ6];show min _ _+1<=16000000;omega
    ·show flats (intz (ws.take i.toNat)++intz [j])=true
     rw[<- dX];exact bZ _
    ·rw[aL9,bU,bU,aQ6,aP7];show min _ _+1+_<=16000000;omega
    ·show flats [PV.tup (intz (ws.take i.toNat)++[PV.int j]++intz (ws.drop (i.toNat+1))),.tup (aY ls)]=true
     rw[ea];exact kT _ _
    ·show flats [PV.tup [PV.tup (intz (ws.take i.toNat)++[PV.int j]++intz (ws.drop (i.toNat+1))),.tup (aY ls)],.tup (intz S)]=true
     rw[ea];exact gF (ws':=ws)
    ·have:=q (by rw[h4];rfl) _ rfl
     unfold cQ bQ at this
     dsimp only at this
     rw[<- ea]at this
     exact this
theorem P0 {s6:Option Slot}(hl:ls.length<=4000)(hi:inB ws.length i=true)(d:iV)(hd:d = .link i j∨d = .cut i j)(e:bE ws ls S d=true->Q .non)(q:bE ws ls S d=false->∀r,dZ ws ls S d r->Q (cQ r)):nB { nx:=λ_=>Q .non,rt:=Q } (nC ws ls S (dP d) i s6 s7):=by
 rcases hd with rfl|rfl
 ·unfold bE at e q
  dsimp only at e q
  rw[hi]at e q
  refine⟨_,rfl,_,_,_,rfl,rfl,rfl,_,_,rfl,rfl,_,rfl,aD ⟨_,rfl,_,_,_,rfl,rfl,rfl,_,_,rfl,rfl,_,rfl,aD ⟨_,rfl,_,_,_,rfl,rfl,rfl,trivial,_,rfl,_,_,_,rfl,rfl,rfl,_,_,rfl,rfl,_,rfl,aD ?_⟩⟩⟩
  refine O9 (w:="link") hl hi (.inl rfl) (λz=>e ?_) (λ_ z ls' k=>q ?_ _ ⟨ls',rfl,k⟩) λz=>absurd z (by decide)
  ·rw[show decide (decide (mm i j∈ls)=decide (("link":Str)="link"))=decide (mm i j∈ls) by cases decide (mm i j∈ls)<;>rfl]at z
   exact z
  ·exact z
 ·unfold bE at e q
  dsimp only at e q
  rw[hi]at e q
  refine⟨_,rfl,_,_,_,rfl,rfl,rfl,_,_,rfl,rfl,_,rfl,aD ⟨_,rfl,_,_,_,rfl,rfl,rfl,_,_,rfl,rfl,_,rfl,aD ⟨_,rfl,_,_,_,rfl,rfl,rfl,trivial,_,rfl,_,_,_,rfl,rfl,rfl,_,_,rfl,rfl,_,rfl,aD ?_⟩⟩⟩
  refine O9 (w:="cut") hl hi (.inr rfl) (λz=>e ?_) (λz=>absurd z (by decide)) λ_ z=>q ?_ _ rfl
  ·rw[show decide (decide (mm i j∈ls)=decide (("cut":Str)="link")) = !decide (mm i j∈ls) by cases decide (mm i j∈ls)<;>rfl]at z
   exact z
  ·exact z
end
theorem aF5:dF vA ["web","seeds","deed","wants","links","one","number","pair"] qB:=by
 rintro xs Q ⟨ws,ls,S,d,rfl,sl,wl,hl,e,q⟩
 have key:∀i:Int,(∃w r,dP d = .tup (.str w::.int i::r))->(inB ws.length i=false->bE ws ls S d=true)->(inB ws.length i=true->nB { nx:=λ_=>Q .non,rt:=Q } (nC ws ls S (dP d) i none none))->vA { nx:=λ_=>Q .non,rt:=Q } (cY ["web","seeds","deed","wants","links","one","number","pair"] [bQ ws ls,.tup (intz S),dP d]):=by
  rintro i ⟨w,r,ed⟩ hb k
  have ea:L2.atI (.str w::.int i::r) 1=some (.int i):=xR (show (0:Int)<=1 by decide) rfl
  have f1:=pE ws ls
  have f2:=mH S
  have f3:=aE1 d
  have e0:cY ["web","seeds","deed","wants","links","one","number","pair"] [bQ ws ls,.tup (intz S),dP d] = [some (.sh true (bQ ws ls)),some (.sh true (.tup (intz S))),some (.sh true (dP d)),none,none,none,none,none]:=by
   show [some (Slot.sh (flat (bQ ws ls)) (bQ ws ls)),some (.sh (flat (.tup (intz S))) (.tup (intz S))),some (.sh (flat (dP d)) (dP d)),none,none,none,none,none]=_
   rw[f1,f2,f3]
  rw[e0]
  refine⟨_,rfl,trivial,_,_,rfl,?_⟩
  refine⟨_,rfl,_,_,_,(by show g6 (dP d)=_;rw[ed];rfl),rfl,ea,trivial,?_⟩
  refine⟨_,rfl,_,_,rfl,rfl,_,rfl,?_⟩
  show if decide (i<0)=true then _ else _
  by_cases i0:i<0
  ·rw[aL1 i0]
   exact aN (aN ⟨trivial,e (hb (by cases z:inB ws.length i with|false=>rfl|true=>have:=(iX.mp z).1;omega))⟩)
  ·rw[aK9 i0]
   refine aD ⟨_,rfl,_,rfl,_,_,rfl,rfl,_,_,rfl,rfl,_,rfl,?_⟩
   rw[bU]
   show if decide ((ws.length:Int)<=i)=true then _ else _
   by_cases i1:(ws.length:Int)<=i
   ·rw[aL1 i1]
    exact aN ⟨trivial,e (hb (by cases z:inB ws.length i with|false=>rfl|true=>have:=(iX.mp z).2;omega))⟩
   ·rw[aK9 i1]
    exact aD (k (iX.mpr ⟨by omega,by omega⟩))
 cases d with
 |light i=>exact key i ⟨_,_,rfl⟩ (λh=>by unfold bE;dsimp only;rw[h];rfl) λhi=>aF2 sl hi e q
 |douse i=>exact key i ⟨_,_,rfl⟩ (λh=>by unfold bE;dsimp only;rw[h];rfl) λhi=>aF3 sl hi e q
 |want i j=>exact key i ⟨_,_,rfl⟩ (λh=>by unfold bE;dsimp only;rw[h];rfl) λhi=>aF4 wl hi e q
 |link i j=>exact key i ⟨_,_,rfl⟩ (λh=>by unfold bE;dsimp only;rw[h];rfl) λhi=>P0 hl hi _ (.inl rfl) e q
 |cut i j=>exact key i ⟨_,_,rfl⟩ (λh=>by unfold bE;dsimp only;rw[h];rfl) λhi=>P0 hl hi _ (.inr rfl) e q
noncomputable def qD:c7:=λxs Q=>∃(ns:ae) (n:Int),xs = [.scr ns,.int 2,.int n]/\ns.length<=63/\1<=n/\n<=40/\∀(ws:ae) (ls:aa),(ws.length:Int)=n->ls.length<=200->Q (bQ ws ls)
noncomputable def P3:aS:=(aI (kD 5 (eO a9))
  (aI (fQ (iL (a5 2)) (cO 6)
   (aI (lT 5 (bX (a5 4) (qC (.int 5))))
   (bC 4 (cW (a5 4) (qC (.int 5))))))
  (aI (fQ (iL (a5 2)) (cO 7)
   (fQ (sX (dM (a5 7) (qC (.int 1))) (a5 2)) (cO 8)
    (aI (aZ (aH (fF (bX (a5 4) (qC (.int 2))) (qC (.int 1)))) (lT 3 (b7 (a6 (a5 7) (a6 (a5 8) a9)))) b6)
    (bC 4 (cW (a5 4) (qC (.int 2)))))))
  (aV (b7 (a6 (aE dB (a6 (a5 5) a9)) (a6 (aE dB (a6 (a5 3) a9)) a9)))))))
noncomputable def P4:aS:=(aI (bC 5 (aE dB (a6 (gL (iL (a5 2)) [none,some 0,some 1] (cO 0) kG (bX (aE mV (a6 (a5 1) (a6 (dM (a5 2) (a5 0)) a9))) (qC (.int 4)))) a9)))
 (aI (fQ (iL (m3 (qC (.int 2)) (a5 2))) (cO 9)
  (aI (bC 4 (aE mV (a6 (a5 0) (a6 (dM (dM (a5 1) (a5 2)) (a5 9)) a9))))
  (aI (bC 7 (bX (a5 4) (a5 2)))
  (aI (bC 8 (bX (dM (cW (a5 4) (a5 2)) (m3 (qC (.int 7)) (a5 4))) (a5 2)))
  (aI (bC 10 (b7 (a6 (aE oF (a6 (a5 7) (a6 (a5 8) a9))) (a6 (aE lU (a6 (a5 7) (a6 (a5 8) a9))) a9))))
  (aZ (oA (aH (iN (a5 7) (a5 8))) (aH (q2 uS (a5 10) (a5 3)))) (lT 3 (a5 10)) b6))))))
 (aV (b7 (a6 (a5 5) (a6 (aE dB (a6 (aE jW (a6 (a5 3) a9)) a9)) a9))))))
noncomputable def P5:aS:=(aI (kD 3 (eO a9))
 (aI (bC 4 (cW (aE eZ (a6 (a5 0) (a6 (a5 1) a9))) (qC (.int 2))))
 (aI (aZ (oA (aH (fF (bX (aE eZ (a6 (a5 0) (a6 (a5 1) a9))) (qC (.int 2))) (qC (.int 1)))) (aH (iB (a5 2) (qC (.int 13))))) P3 b6)
 P4)))
section
variable {ns:ae}{n c:Int}{Q:PV→Prop}{E:gJ}
theorem aF6 (n0:1<=n)(n1:n<13)(q:∀(ws:ae) (ls:aa),(ws.length:Int)=n->ls.length<=200->E.rt (bQ ws ls)) :
  P3 E [some (.sh true (.scr ns)),si 2,si n,some (.own (.lst [])),si c,none,none,none,none,none,none]:=by
 refine⟨by decide,rfl,rfl,rfl,?_⟩
 refine⟨_,rfl,_,rfl,by omega,by omega,λk ρ=>∃(c:Int) (ws:ae) (y6:Option Slot),ρ = [some (.sh true (.scr ns)),si 2,si n,some (.own (.lst [])),si c,some (.own (.lst (intz ws))),y6,none,none,none,none]/\ws.length=k,⟨c,[],none,rfl,rfl⟩,?_,?_⟩
 ·rintro k y ρ hy ⟨c,ws,y6,rfl,wl⟩
  obtain⟨rfl,hk⟩:=jK hy
  refine jN ?_
  refine⟨_,rfl,_,rfl,_,_,rfl,rfl,(by show (0:Int)<5;decide),trivial,by rw[bU];omega,_,rfl,_,_,rfl,rfl,⟨by decide,by decide⟩,trivial,?_⟩
  refine⟨c/5,ws++[c%5],si (0+(k:Int)),?_,by rw[aL9,wl];rfl⟩
  rw[dX];rfl
 rintro ρ ⟨c,ws,y6,rfl,wl⟩
 have lr:(eB 0 n.toNat).length=n.toNat:=by unfold eB;rw[aL2,List.length_range]
 have wl:ws.length=n.toNat:=wl.trans lr
 refine⟨_,rfl,_,rfl,by omega,by omega,λk ρ=>∃(c:Int) (ls:aa) (y7 y8:Option Slot),ρ = [some (.sh true (.scr ns)),si 2,si n,some (.own (.lst (aY ls))),si c,some (.own (.lst (intz ws))),y6,y7,y8,none,none]/\ls.length<=12*k,⟨c,[],none,none,rfl,aP3 _⟩,?_,?_⟩
 ·rintro k y ρ hy ⟨c,ls,y7,y8,rfl,hl⟩
  obtain⟨rfl,hk⟩:=jK hy
  refine jN ?_
  refine⟨_,rfl,_,_,rfl,rfl,_,rfl,_,_,rfl,rfl,⟨by omega,by omega,by omega,by omega⟩,λj ρ=>∃(c:Int) (ls:aa) (y8:Option Slot),ρ = [some (.sh true (.scr ns)),si 2,si n,some (.own (.lst (aY ls))),si c,some (.own (.lst (intz ws))),y6,si (0+(k:Int)),y8,none,none]/\ls.length<=12*k+j,⟨c,ls,y8,rfl,hl⟩,?_,?_⟩
  ·rintro j y ρ hy ⟨c,ls,y8,rfl,hl⟩
   obtain⟨rfl,hj⟩:=jK hy
   refine jN ?_
   refine⟨_,rfl,_,_,rfl,rfl,(by show (0:Int)<2;decide),.inl ⟨_,_,rfl,rfl,_,rfl,?_⟩⟩
   show if decide (c%2=1)=true then _ else _
   cases decide (c%2=1) with
   |true=>
    refine aN ⟨_,rfl,_,rfl,_,rfl,c8,rfl,trivial,by rw[gT];omega,_,rfl,_,_,rfl,rfl,⟨by decide,by decide⟩,trivial,?_⟩
    refine⟨c/2,ls++[(0+(k:Int),0+(k:Int)+1+(j:Int))],si (0+(k:Int)+1+(j:Int)),?_,by rw[aL9,aP2];omega⟩
    rw[mT];rfl
   |false=>
    exact aD ⟨_,rfl,_,_,rfl,rfl,⟨by decide,by decide⟩,trivial,_,ls,_,rfl,by omega⟩
  ·rintro ρ ⟨c,ls,y8,rfl,hl⟩
   have l2:(eB (0+(k:Int)+1) (n-(0+(k:Int)+1)).toNat).length=(n-(0+(k:Int)+1)).toNat:=by unfold eB;rw[aL2,List.length_range]
   refine⟨c,ls,_,y8,rfl,?_⟩
   rw[l2]at hl
   omega
 ·rintro ρ ⟨c,ls,y7,y8,rfl,hl⟩
  rw[lr]at hl
  refine⟨_,rfl,⟨_,_,rfl,rfl,bZ ws,_,rfl,⟨_,_,rfl,rfl,gC ls,c8,kT ws ls,trivial,?_⟩,λns z=>by cases z⟩,λns z=>by cases z⟩
  exact q ws ls (by omega) (by omega)
theorem P6 (hn:ns.length<=63)(n0:1<=n)(n1:n<=40)(q:∀(ws:ae) (ls:aa),(ws.length:Int)=n->ls.length<=200->E.rt (bQ ws ls)) :
  P4 E [some (.sh true (.scr ns)),si 2,si n,some (.own (.lst [])),si c,none,none,none,none,none,none]:=by
 have lr:∀m:Int,(eB 0 m.toNat).length=m.toNat:=λm=>by unfold eB;rw[aL2,List.length_range]
 refine⟨_,rfl,_,rfl,by omega,by omega,by rw[lr];omega,λk acc=>∃ws:ae,acc=intz ws/\ws.length=k,⟨[],rfl,rfl⟩,?_,?_⟩
 ·rintro k y acc hy ⟨ws,rfl,wl⟩
  obtain⟨rfl,hk⟩:=jK hy
  refine jN ?_
  refine⟨_,rfl,_,rfl,_,rfl,_,_,rfl,rfl,ns,_,rfl,hn,by omega,by omega,λz=>⟨_,_,rfl,rfl,(by show (0:Int)<4;decide),trivial,ws++[z%4],?_,by rw[aL9,wl];rfl⟩⟩
  rw[dX];rfl
 rintro acc ⟨ws,rfl,wl⟩
 have wl:ws.length=n.toNat:=wl.trans (lr n)
 refine⟨⟨_,_,rfl,rfl,bZ ws,trivial,?_⟩,λns z=>by cases z⟩
 refine⟨_,rfl,_,_,rfl,rfl,.inl ⟨by decide,by decide⟩,_,rfl,by omega,by omega,λk ρ=>∃(ls:aa) (y4 y7 y8 y9 y10:Option Slot),ρ = [some (.sh true (.scr ns)),si 2,si n,some (.own (.lst (aY ls))),y4,some (.sh true (.tup (intz ws))),none,y7,y8,y9,y10]/\ls.length<=k,⟨[],_,_,_,_,_,rfl,aP3 _⟩,?_,?_⟩
 ·rintro k y ρ hy ⟨ls,y4,y7,y8,y9,y10,rfl,hl⟩
  obtain⟨rfl,hk⟩:=jK hy
  refine jN ?_
  refine⟨_,rfl,_,rfl,_,rfl,_,_,rfl,rfl,_,rfl,_,_,rfl,rfl,ns,_,rfl,hn,by omega,by omega,λz=>⟨trivial,?_⟩⟩
  have np:(0:Int)<n:=by omega
  have ns':n<1073741824:=by omega
  refine⟨_,rfl,_,rfl,_,_,rfl,rfl,np,trivial,?_⟩
  refine⟨_,rfl,_,rfl,_,_,rfl,rfl,⟨np,ns'⟩,_,rfl,_,_,rfl,rfl,.inl ⟨by decide,by decide⟩,_,_,rfl,rfl,_,rfl,_,_,rfl,rfl,np,trivial,?_⟩
  dsimp only
  generalize z%n=a
  generalize (z/n+7*z)%n=b
  refine⟨_,rfl,_,rfl,_,_,rfl,_,rfl,_,rfl,_,_,rfl,c8,rfl,trivial,?_⟩
  refine⟨_,rfl,_,rfl,.inl ⟨_,_,rfl,rfl,_,rfl,?_⟩⟩
  show if (!decide (a=b))=true then _ else _
  cases decide (a=b) with
  |true=>exact aD (aD ⟨ls,_,_,_,_,_,rfl,by omega⟩)
  |false=>
   refine aN ⟨_,rfl,_,rfl,two (mm a b),ls.map two,rfl,(by rw[<- jM];rfl),_,rfl,?_⟩
   show if (!decide (two (mm a b)∈ls.map two))=true then _ else _
   cases decide (two (mm a b)∈ls.map two) with
   |true=>exact aD ⟨ls,_,_,_,_,_,rfl,by omega⟩
   |false=>
    refine aN ⟨_,rfl,_,rfl,trivial,by rw[gT];have:=lr (2*n);omega,ls++[mm a b],si z,si a,si b,si (0+(k:Int)),some (.sh true (.tup [.int (mm a b).1,.int (mm a b).2])),?_,by rw[aL9,aP2];omega⟩
    rw[mT];rfl
 ·rintro ρ ⟨ls,y4,y7,y8,y9,y10,rfl,hl⟩
  have hl:ls.length<=(2*n).toNat:=aN8 hl (Nat.le_of_eq (lr _))
  refine⟨_,rfl,_,rfl,ls.map two,.inl ?_,by rw[aL2];omega,?_,λzs pm so=>?_⟩
  ·show [PV.lst (aY ls)] = [PV.lst ((ls.map two).map λr=>PV.tup (intz r))]
   rw[<- jM]
  ·intro y hy
   obtain⟨l,_,rfl⟩:=aO1.mp hy
   exact λz=>by cases z
  ·obtain⟨ls',rfl,pm2⟩:=E4 pm
   have e:mX (ls'.map two)=aY ls':=(jM ls').symm
   rw[e]
   exact⟨⟨_,_,rfl,rfl,gC ls',c8,kT ws ls',trivial,q ws ls' (by omega) (by rw[pm2.length_eq];omega)⟩,λns z=>by cases z⟩
end
theorem aF7:dF P5 ["script","at","many","links","cell","wants","hearth","one","other","k","pair"] qD:=by
 rintro xs Q ⟨ns,n,rfl,hn,n0,n1,q⟩
 refine⟨by decide,rfl,rfl,rfl,?_⟩
 refine⟨_,rfl,_,rfl,_,ns,2,rfl,.inl rfl,by decide,_,_,rfl,rfl,⟨by decide,by decide⟩,trivial,?_⟩
 refine⟨_,rfl,_,rfl,_,ns,2,rfl,.inl rfl,by decide,_,_,rfl,rfl,(by show (0:Int)<2;decide),.inl ⟨_,_,rfl,rfl,_,rfl,?_⟩⟩
 dsimp only
 generalize ns.getD (2:Int).toNat 0=c
 show if decide (c%2=1)=true then _ else _
 cases decide (c%2=1) with
 |false=>exact aD (aD (P6 hn n0 n1 q))
 |true=>
  refine aN ⟨_,rfl,_,_,rfl,rfl,_,rfl,?_⟩
  show if decide (n<13)=true then _ else _
  by_cases h:n<13
  ·rw[aL1 h]
   exact aN (aF6 n0 h q)
  ·rw[aK9 h]
   exact aD (P6 hn n0 n1 q)
noncomputable def nD:c7:=λxs Q=>∃ws ls x S d,xs = [bQ ws ls,x,dP d]/\dE x S/\S.length<=1000/\ws.length<=60/\ls.length<=4000/\(cB ws.length S=false->Q (.str "set"))/\(cB ws.length S=true->bE ws ls S d=true/\Q (.str "deed"))
noncomputable def vB:aS:=(aI (aZ (c9 (aH (yW (a5 3) (qC .non))) (c9 (dI (aH (jR "ValueError" (a5 3)))) (aH (jR "NoSuch" (a5 3))))) (aV (qC (.str ""))) b6)
 (aV (K2 (uT (qC (.str "deed")) (aE pT (a6 (jR "BadDeed" (a5 3)) a9))) (uT (qC (.str "set")) (aE pT (a6 (jR "BadSet" (a5 3)) a9))))))
noncomputable def P7:aS:=(aI (bC 3 (qC .non))
 (aI (uF "HearthError" 4 (F7 l9 (a6 (a5 0) (a6 (a5 1) (a6 (a5 2) a9)))) (bC 3 (a5 4)))
 vB))
theorem aF8 {Q:PV->Prop}{y0 y1 y2:Option Slot}(q:Q (.str "set")):vB { nx:=λ_=>Q .non,rt:=Q } [y0,y1,y2,some (.sh true (.exc "BadSet")),none]:=by
 refine⟨_,rfl,rfl,_,rfl,aD ⟨_,rfl,true,(by decide),_,rfl,aD ⟨_,rfl,false,(by decide),_,rfl,aD ?_⟩⟩⟩
 refine⟨_,rfl,false,(by decide),.inr ⟨false,rfl,_,false,rfl,rfl,_,rfl,true,(by decide),.inr ⟨true,rfl,_,true,rfl,rfl,_,_,rfl,rfl,by decide,trivial,?_⟩⟩⟩
 exact q
theorem aF9 {Q:PV->Prop}{y0 y1 y2:Option Slot}(q:Q (.str "deed")):vB { nx:=λ_=>Q .non,rt:=Q } [y0,y1,y2,some (.sh true (.exc "BadDeed")),none]:=by
 refine⟨_,rfl,rfl,_,rfl,aD ⟨_,rfl,true,(by decide),_,rfl,aD ⟨_,rfl,false,(by decide),_,rfl,aD ?_⟩⟩⟩
 refine⟨_,rfl,true,(by decide),.inr ⟨true,rfl,_,true,rfl,rfl,_,rfl,false,(by decide),.inr ⟨false,rfl,_,false,rfl,rfl,_,_,rfl,rfl,by decide,trivial,?_⟩⟩⟩
 exact q
theorem aG0:dF P7 ["web","seeds","deed","caught","e"] nD:=by
 rintro xs Q ⟨ws,ls,x,S,d,rfl,hx,hS,hw,hl,e1,e2⟩
 refine⟨trivial,_,rfl,_,rfl,_,rfl,ws,ls,x,S,d,rfl,hx,hS,hw,hl,λst=>⟨by decide,_,rfl,trivial,aF8 (e1 st)⟩,λst=>⟨λ_=>⟨by decide,_,rfl,trivial,aF9 (e2 st).2⟩,λg=>?_⟩⟩
 rw[(e2 st).1]at g
 cases g
noncomputable def qE:c7:=λxs Q=>∃r:mY,xs = [cQ r,cQ r]/\r.1.length<=1000/\r.2.1.length<=4100/\r.2.2.length<=1000/\Q (.bl true)
noncomputable def P8 (K:ac):aS:=(aI (aZ (c9 (dI (aH (gM K "tuple" (a5 0)))) (c9 (aH (iN (aE dJ (a6 (a5 0) a9)) (qC (.int 2)))) (dI (aH (aE kS (a6 (aO (a5 0) (qC (.int 1))) (a6 (aO (a5 1) (qC (.int 1))) a9))))))) (aV (qC (.bl false))) b6)
 (aI (bC 2 (aO (a5 0) (qC (.int 0))))
 (aI (aZ (c9 (dI (aH (gM K "tuple" (a5 2)))) (c9 (aH (iN (aE dJ (a6 (a5 2) a9)) (qC (.int 2)))) (dI (aH (aE kS (a6 (aO (a5 2) (qC (.int 0))) (a6 (aO (aO (a5 1) (qC (.int 0))) (qC (.int 0))) a9))))))) (aV (qC (.bl false))) b6)
 (aI (aZ (c9 (dI (aH (gM K "tuple" (aO (a5 2) (qC (.int 1)))))) (aH (iN (aE dJ (a6 (aO (a5 2) (qC (.int 1))) a9)) (aE dJ (a6 (aO (aO (a5 1) (qC (.int 0))) (qC (.int 1))) a9))))) (aV (qC (.bl false))) b6)
 (aI (fQ (iL (aE dJ (a6 (aO (a5 2) (qC (.int 1))) a9))) (cO 3)
  (aZ (dI (aH (aE kS (a6 (aO (aO (a5 2) (qC (.int 1))) (a5 3)) (a6 (aO (aO (aO (a5 1) (qC (.int 0))) (qC (.int 1))) (a5 3)) a9))))) (aV (qC (.bl false))) b6))
 (aV (qC (.bl true))))))))
theorem aG1 {K:ac}(kt:PySem.W.kitOne K (.type "tuple") (.type "tuple")=some true):dF (P8 K) ["found","due","web","k"] qE:=by
 rintro xs Q ⟨⟨ws,ls,S⟩,rfl,hw,hl,hS,q⟩
 have hl:ls.length<=4100:=hl
 have f0:flat (cQ (ws,ls,S))=true:=gF (ws':=ws)
 have same:∀(a:ae),decide (a=a)=true:=λa=>aL1 rfl
 have e0:cY ["found","due","web","k"] [cQ (ws,ls,S),cQ (ws,ls,S)] = [some (.sh true (cQ (ws,ls,S))),some (.sh true (cQ (ws,ls,S))),none,none]:=by
  show [some (Slot.sh (flat (cQ (ws,ls,S))) (cQ (ws,ls,S))),some (.sh (flat (cQ (ws,ls,S))) (cQ (ws,ls,S))),none,none]=_
  rw[f0]
 rw[e0]
 refine⟨_,rfl,_,_,rfl,kt,_,rfl,aD ⟨_,rfl,_,_,rfl,rfl,.inl ⟨_,_,rfl,rfl,_,rfl,aD ⟨_,rfl,_,_,_,rfl,rfl,rfl,_,rfl,_,_,_,rfl,rfl,rfl,_,S,S,rfl,.inl rfl,hS,hS,_,rfl,?_⟩⟩⟩⟩
 rw[same]
 refine aD ⟨_,rfl,_,_,_,rfl,rfl,rfl,trivial,?_⟩
 refine⟨_,rfl,_,_,rfl,kt,_,rfl,aD ⟨_,rfl,_,_,rfl,rfl,.inl ⟨_,_,rfl,rfl,_,rfl,aD ⟨_,rfl,_,_,_,rfl,rfl,rfl,_,rfl,_,_,_,rfl,rfl,rfl,_,_,_,rfl,rfl,rfl,_,ws,ws,rfl,.inl rfl,hw,hw,_,rfl,?_⟩⟩⟩⟩
 rw[same]
 refine aD ⟨_,rfl,_,_,_,rfl,rfl,rfl,_,_,rfl,kt,_,rfl,aD ⟨_,rfl,_,_,_,rfl,rfl,rfl,_,_,rfl,rfl,_,rfl,_,_,_,rfl,rfl,rfl,_,_,_,rfl,rfl,rfl,_,_,rfl,rfl,.inl ⟨_,_,rfl,rfl,_,rfl,?_⟩⟩⟩
 show if (!decide (((aY ls).length:Int)=((aY ls).length:Int)))=true then _ else _
 rw[aL1 rfl]
 refine aD ⟨_,rfl,_,_,_,rfl,rfl,rfl,_,_,rfl,rfl,_,rfl,?_,?_,λk ρ=>∃y,ρ = [some (.sh true (cQ (ws,ls,S))),some (.sh true (cQ (ws,ls,S))),some (.sh true (bQ ws ls)),y],⟨_,rfl⟩,?_,?_⟩
 ·show -1000000<=((aY ls).length:Int);omega
 ·show ((aY ls).length:Int)<=1000000;rw[gT];omega
 ·rintro k y ρ hy ⟨y3,rfl⟩
  obtain⟨rfl,hk⟩:=jK hy
  have hk:k<ls.length:=by
   have:k<((aY ls).length:Int).toNat:=hk
   rw[gT]at this
   omega
  obtain⟨⟨a,b⟩,hp⟩:∃l,ls[k]? = some l:=⟨_,aK3 hk⟩
  have at1:L2.atI (aY ls) (0+(k:Int))=some (.tup [.int a,.int b]):=by
   rw[Int.zero_add]
   exact nO (by unfold aY;rw[aM9,hp];rfl)
  refine jN ?_
  refine⟨_,rfl,_,_,_,rfl,rfl,rfl,_,rfl,_,_,_,rfl,rfl,at1,_,rfl,_,_,_,rfl,rfl,rfl,_,_,_,rfl,rfl,rfl,_,rfl,_,_,_,rfl,rfl,at1,_,[a,b],[a,b],rfl,.inl rfl,c8,c8,_,rfl,?_⟩
  rw[same]
  exact aD ⟨_,rfl⟩
 ·rintro ρ ⟨y,rfl⟩
  exact⟨trivial,q⟩
noncomputable def vC:c7:=E5
noncomputable def P9:aS:=(aI (bC 7 (bX (cW (aE eZ (a6 (a5 0) (a6 (qC (.int 1)) a9))) (qC (.int 4))) (yV (qC (.int 10)) (qC (.int 30)))))
 (aI (bC 8 (aO (eO (a6 (eF (a5 3) (b7 (a6 (dM (a5 1) (a5 7)) a9))) (a6 (eF (b7 (a6 (kI (lY (qC (.int 1))) (a5 7)) a9)) (a5 3)) (a6 (b7 (a6 (qC (.int 0)) (a6 (qC (.int 0)) a9))) (a6 (b7 (a6 (kI (a5 1) (qC (.int 1))) (a6 (kI (a5 1) (qC (.int 1))) a9))) a9))))) (bX (aE eZ (a6 (a5 0) (a6 (qC (.int 1)) a9))) (qC (.int 4)))))
 (aV (q2 (bL false) (aE nD (a6 (a5 2) (a6 (a5 8) (a6 (aE nA (a6 (aE eZ (a6 (a5 0) (a6 (qC (.int 1)) a9))) (a6 (a5 1) a9))) a9)))) (qC (.str "set"))))))
noncomputable def Q0:aS:=(aI (bC 2 (aE qD (a6 (a5 0) (a6 (qC (.int 2)) (a6 (a5 1) a9)))))
 (aI (bC 3 (b7 a9))
 (aI (fQ (g9 (E9 (eO (a6 (qC (.int 0)) a9)) (aE oE (a6 (a5 0) a9)))) (cO 4)
  (aI (bC 5 (aE nA (a6 (a5 4) (a6 (a5 1) a9))))
  (aI (bC 6 (aE qB (a6 (a5 2) (a6 (a5 3) (a6 (a5 5) a9)))))
  (aZ (aH (yW (a5 6) (qC .non))) (aZ (aH (q2 (bL true) (aE nD (a6 (a5 2) (a6 (a5 3) (a6 (a5 5) a9)))) (qC (.str "deed")))) (aV (qC (.bl false))) b6) (aI (aZ (dI (aH (aE qE (a6 (aE (l9 λ_=>False) (a6 (a5 2) (a6 (aE oE (a6 (a5 3) a9)) (a6 (a5 5) a9)))) (a6 (a5 6) a9))))) (aV (qC (.bl false))) b6)
   (pN (oI 2 3) (a5 6)))))))
 P9)))
noncomputable def Q2:aS:=(aI (bC 1 (dM (qC (.int 1)) (bX (aE eZ (a6 (a5 0) (a6 (qC (.int 0)) a9))) (qC (.int 9)))))
 (aI (aZ (aH (fF (bX (cW (aE eZ (a6 (a5 0) (a6 (qC (.int 0)) a9))) (qC (.int 9))) (qC (.int 8))) (qC (.int 1)))) (bC 1 (dM (qC (.int 10)) (bX (cW (aE eZ (a6 (a5 0) (a6 (qC (.int 0)) a9))) (qC (.int 72))) (qC (.int 31))))) b6)
 Q0))
section
variable {ns:ae}{n:Int}{Q:PV→Prop}
theorem Q3 {m:Nat}{S:ae}(h:∃x∈S,x<0∨(m:Int)<=x):cB m S=false:=by
 obtain⟨x,hx,h⟩:=h
 cases z:cB m S with
 |false=>rfl
 |true=>have:=(mJ z).2 x hx;omega
theorem Q4 {m:Nat}(a:Int):cB m [a,a]=false:=by
 cases z:cB m [a,a] with
 |false=>rfl
 |true=>
  have:=M7 z
  rw[List.nodup_cons]at this
  exact absurd (aM5.mpr rfl) this.1
theorem aG2 {ws:ae}{ls:aa}{S:ae}{y4 y5 y6 y7 y8:Option Slot}(n0:0<=n)(n1:n<=40)(wl:(ws.length:Int)=n)(sl:S.length<=40)(hl:ls.length<=4000)(q:Q (.bl true)) :
  P9 { nx:=λ_=>Q .non,rt:=Q } [some (.sh true (.scr ns)),si n,some (.sh true (bQ ws ls)),some (.sh true (.tup (intz S))),y4,y5,y6,y7,y8]:=by
 refine⟨_,rfl,_,ns,1,rfl,.inl rfl,by decide,_,_,rfl,rfl,⟨by decide,by decide⟩,_,_,rfl,rfl,⟨by decide,by decide,by decide⟩,_,_,rfl,rfl,(by show (0:Int)<10^(30:Int).toNat;decide),trivial,?_⟩
 dsimp only
 generalize hc:ns.getD (1:Int).toNat 0=c
 have f0:0<=c/4%10^(30:Int).toNat:=aV0 _ (by decide)
 generalize c/4%10^(30:Int).toNat=f at f0
 have j0:0<=c%4:=aV0 _ (by decide)
 have j1:c%4<4:=aW2 _ (by decide)
 obtain⟨T,hT,tl,at4⟩:∃T:ae,cB ws.length T=false/\T.length<=1000/\L2.atI [PV.tup (intz S++[.int (n+f)]),.tup ([PV.int (-1-f)]++intz S),.tup [.int 0,.int 0],.tup [.int (n-1),.int (n-1)]] (c%4)=some (.tup (intz T)):=by
  generalize c%4=j at j0 j1
  rcases (show j=0∨j=1∨j=2∨j=3 by omega) with rfl|rfl|rfl|rfl
  ·exact⟨S++[n+f],Q3 ⟨n+f,aN1 _ aM3,.inr (by omega)⟩,by rw[aL9,aP2];omega,by rw[dX];rfl⟩
  ·exact⟨(-1-f)::S,Q3 ⟨-1-f,aM3,.inl (by omega)⟩,by rw[aS9];omega,rfl⟩
  ·exact⟨[0,0],Q4 0,c8,rfl⟩
  ·exact⟨[n-1,n-1],Q4 _,c8,rfl⟩
 have fl:flats [PV.tup (intz S++[.int (n+f)]),.tup ([PV.int (-1-f)]++intz S),.tup [.int 0,.int 0],.tup [.int (n-1),.int (n-1)]]=true:=by
  have f1:=mH (S++[n+f])
  have f2:=mH ((-1-f)::S)
  rw[dX]at f1
  show (flat (.tup (intz S++intz [n+f]))&&(flat (.tup (intz ((-1-f)::S)))&&true))=true
  rw[f1,f2];rfl
 refine⟨_,rfl,_,rfl,_,rfl,_,_,rfl,rfl,fV,rfl,_,_,rfl,rfl,bZ S,rfl,(by rw[bU];show S.length+1<=16000000;omega),_,rfl,_,rfl,_,_,rfl,rfl,fV,rfl,_,rfl,_,_,rfl,rfl,rfl,bZ S,(by rw[bU];show 1+S.length<=16000000;omega),c8,rfl,_,rfl,_,_,rfl,rfl,_,rfl,_,_,rfl,rfl,c8,rfl,?_,fl,_,rfl,_,ns,1,rfl,.inl rfl,by decide,_,_,rfl,rfl,(by show (0:Int)<4;decide),_,_,PV.tup (intz T),rfl,rfl,(by rw[hc];exact at4),trivial,?_⟩
 ·show 4<=1000;decide
 ·refine⟨_,rfl,_,rfl,_,rfl,_,ns,1,rfl,.inl rfl,by decide,_,rfl,_,n,rfl,n0,by omega,λd=>⟨ws,ls,_,T,d,rfl,.inl rfl,tl,by omega,hl,λ_=>⟨_,_,rfl,rfl,trivial,?_⟩,λz=>?_⟩⟩
  ·show Q (.bl (decide (("set":Str)="set")))
   rw[aL1 rfl];exact q
  ·rw[hT]at z;cases z
theorem Q5 {y2 y3 y4 y5 y6 y7 y8:Option Slot}(hn:ns.length<=63)(n0:1<=n)(n1:n<=40)(q:Q (.bl true)) :
  Q0 { nx:=λ_=>Q .non,rt:=Q } [some (.sh true (.scr ns)),si n,y2,y3,y4,y5,y6,y7,y8]:=by
 refine⟨_,rfl,_,rfl,ns,n,rfl,hn,n0,n1,λws ls wl hl=>⟨trivial,?_⟩⟩
 refine⟨by decide,rfl,trivial,?_⟩
 have fc:flats (intz [0]++intz ns)=true:=by rw[<- dX];exact bZ _
 refine⟨fV,rfl,_,rfl,_,_,rfl,rfl,bZ ns,_,_,rfl,rfl,rfl,bZ ns,(by rw[bU];show 1+ns.length<=16000000;omega),_,rfl,(λz=>by cases z),λk ρ=>∃(ws:ae) (ls:aa) (S:ae) (y4 y5 y6:Option Slot),ρ = [some (.sh true (.scr ns)),si n,some (.sh true (bQ ws ls)),some (.sh true (.tup (intz S))),y4,y5,y6,y7,y8]/\(ws.length:Int)=n/\ls.length<=200+k/\cB ws.length S=true,⟨ws,ls,[],y4,y5,y6,rfl,wl,hl,rfl⟩,?_,?_⟩
 ·rintro k y ρ hy ⟨ws,ls,S,y4,y5,y6,rfl,wl,hl,st⟩
  have hk:k<1+ns.length:=by
   have:=(aM0.mp hy).1
   rw[aL9,bU]at this
   exact this
  obtain⟨z,rfl⟩:∃z:Int,y = .int z:=by
   have hy:(intz [0]++intz ns)[k]? = some y:=hy
   rw[<- dX]at hy
   obtain⟨z,h,_⟩:=mG hy
   exact⟨z,h⟩
  have sl:=mK st
  refine jN ?_
  refine⟨_,rfl,_,rfl,z,n,rfl,by omega,by omega,λd=>⟨trivial,?_⟩⟩
  refine⟨_,rfl,_,rfl,_,rfl,ws,ls,S,d,rfl,by omega,by omega,by omega,λbad=>⟨trivial,?_⟩,λok r h=>⟨trivial,?_⟩⟩
  ·refine⟨_,rfl,rfl,_,rfl,aN ⟨_,rfl,_,rfl,_,rfl,ws,ls,_,S,d,rfl,.inl rfl,by omega,by omega,by omega,(λz=>by rw[st]at z;cases z),λ_=>⟨bad,_,_,rfl,rfl,_,rfl,?_⟩⟩⟩
   show if (!decide (("deed":Str)="deed"))=true then _ else _
   rw[aL1 rfl]
   exact aD ⟨ws,ls,S,_,_,_,rfl,wl,by omega,st⟩
  ·obtain⟨k1,k2,k3⟩:=h.keeps st ok
   have k4:=mK k3
   refine⟨_,rfl,rfl,_,rfl,aD ?_⟩
   refine⟨_,rfl,_,rfl,_,_,rfl,rfl,bZ S,_,rfl,ws,ls,_,S,d,rfl,.inr rfl,by omega,by omega,by omega,(λz=>by rw[st]at z;cases z),λ_=>⟨(λz=>by rw[ok]at z;cases z),λ_ r2 h2=>?_⟩⟩
   obtain rfl:=h.uniq h2
   refine⟨_,rfl,r,rfl,by omega,by omega,by omega,_,rfl,aD ⟨_,rfl,trivial,_,_,rfl,?_⟩⟩
   exact⟨r.1,r.2.1,r.2.2,_,_,_,rfl,by omega,by omega,k3⟩
 ·rintro ρ ⟨ws,ls,S,y4,y5,y6,rfl,wl,hl,st⟩
  have sl:=mK st
  have hl:ls.length<=200+(1+ns.length):=aN8 hl (Nat.le_of_eq (by rw[aL9,bU];rfl))
  exact aG2 (by omega) n1 wl (by omega) (by omega) q
end
theorem aG3:dF Q2 ["script","many","web","seeds","cell","deed","due","far","odd"] vC:=by
 rintro xs Q ⟨ns,rfl,hn,q⟩
 refine⟨_,rfl,_,ns,0,rfl,.inl rfl,by decide,_,_,rfl,rfl,(by show (0:Int)<9;decide),_,_,rfl,rfl,trivial,?_⟩
 refine⟨_,rfl,_,ns,0,rfl,.inl rfl,by decide,_,_,rfl,rfl,⟨by decide,by decide⟩,_,_,rfl,rfl,(by show (0:Int)<8;decide),.inl ⟨_,_,rfl,rfl,_,rfl,?_⟩⟩
 dsimp only
 have h0:∀x:Int,0<=x%9/\x%9<9:=λx=>⟨aV0 _ (by decide),aW2 _ (by decide)⟩
 have h1:∀x:Int,0<=x%31/\x%31<31:=λx=>⟨aV0 _ (by decide),aW2 _ (by decide)⟩
 have a0:=h0 (ns.getD (0:Int).toNat 0)
 have a1:=h1 (ns.getD (0:Int).toNat 0/72)
 generalize decide (ns.getD (0:Int).toNat 0/9%8=1)=b
 cases b with
 |false=>exact aD (Q5 hn (by omega) (by omega) q)
 |true=>
  refine aN ⟨_,rfl,_,ns,0,rfl,.inl rfl,by decide,_,_,rfl,rfl,⟨by decide,by decide⟩,_,_,rfl,rfl,(by show (0:Int)<31;decide),_,_,rfl,rfl,trivial,?_⟩
  exact Q5 hn (by omega) (by omega) q
theorem aG4 {P:Program}{w:World}{t0 u0 t1 u1 t2 u2 t3 u3 t4 u4:Tok}:∃vs,KV (l8 pW) vs/\PySem.KeysOf (cT P w) #[⟨hashStr w "light",.str "light" t0,.int 1 u0⟩,⟨hashStr w "douse",.str "douse" t1,.int 1 u1⟩,⟨hashStr w "want",.str "want" t2,.int 2 u2⟩,⟨hashStr w "link",.str "link" t3,.int 2 u3⟩,⟨hashStr w "cut",.str "cut" t4,.int 2 u4⟩]/\
  PySem.Pairs (cT P w) (#[⟨hashStr w "light",.str "light" t0,.int 1 u0⟩,⟨hashStr w "douse",.str "douse" t1,.int 1 u1⟩,⟨hashStr w "want",.str "want" t2,.int 2 u2⟩,⟨hashStr w "link",.str "link" t3,.int 2 u3⟩,⟨hashStr w "cut",.str "cut" t4,.int 2 u4⟩]:Array DictEntry).toList vs/\(vs.map (·.1)).Nodup:=by
 have k:∀x t,(cT P w).is (.inr x) (.str x t)=true:=vF
 refine⟨[(.inr "light",.int 1 u0),(.inr "douse",.int 1 u1),(.inr "want",.int 2 u2),(.inr "link",.int 2 u3),(.inr "cut",.int 2 u4)],?_,?_,.cons (k _ _) rfl (.cons (k _ _) rfl (.cons (k _ _) rfl (.cons (k _ _) rfl (.cons (k _ _) rfl .nil)))),by show List.Nodup [(.inr "light":aJ),.inr "douse",.inr "want",.inr "link",.inr "cut"];decide⟩
 ·exact .cons ⟨rfl,_,rfl⟩ (.cons ⟨rfl,_,rfl⟩ (.cons ⟨rfl,_,rfl⟩ (.cons ⟨rfl,_,rfl⟩ (.cons ⟨rfl,_,rfl⟩ .nil))))
 ·intro e he
  simp only[List.mem_toArray,aL0,aM8,aR7]at he
  rcases he with rfl|rfl|rfl|rfl|rfl<;>exact⟨_,k _ _,rfl⟩
end Core
namespace K_k88
open PySem PySem.W L2 PP Core
theorem _root_.L2.FnScope.au {N P:List Str}{s:Scope}(a:s.kind=.function:=by rfl)(b:s.isCoroutine=false:=by rfl)(c:s.isGenerator=false:=by rfl)(d:N.Nodup:=by decide +kernel)(e:N.take P.length=P:=by rfl)(f:∀x∈P,s.names.lookup x=some .local∨s.names.lookup x=some .cell:=by decide +kernel)(g:∀y∈s.names,y.2≠.free:=by decide +kernel):FnScope N P s:=⟨a,b,c,d,e,f,g⟩
noncomputable def bA (i:Nat):Stmt:=PySem.Challenge.pw_kindleweb_k88_one_deed.main.body.getD i (.Pass ⟨0,0,0,0⟩)
structure FK (K:Frag)(n:Str)(i:Nat)(f:Addr)(d:FuncData):Prop where
 a:nsIn K mainGlobals n=some (some (.ref f))
 F:eJ K n n (bA i) f d
structure FM (K:Frag)(mg:Str->Option Value)(n:Str)(i:Nat)(f:Addr)(d:FuncData):Prop where
 F:eJ K n n (bA i) f d
 m:mg n=some (.ref f)
theorem FK.M {K:Frag}{mg:Str->Option Value}{n:Str}{i:Nat}{f:Addr}{d:FuncData}{h:Heap}(z:FK K n i f d)(X:K.In h)(G:h.Ns mainGlobals mg):FM K mg n i f d:=⟨z.F,mg_of X G z.a⟩
noncomputable abbrev Hb (x:Str)(ps:List Str)(i:Nat):Prop:=∀(kV doc pm:Value) (an:Option Addr) (cdv ct:Value) (us:List Value),us.length=ps.length->bindArgs (fnOf x x (i7 (bA i)) (dO (bA i)) (aX (bA i)) .none kV doc pm an cdv ct) ⟨us,[]⟩=pure (ps.zip us)
theorem vD {A:Around}{k:Nat}(hr:bW k A):A.units+3<cLine:=by have:=hr.units;omega
section
variable {P:Program}{w:World}{K:Frag}{mg:Str→Option Value}{base:Heap}{f:Addr}{fd:FuncData}{k i:Nat}{x:Str}{ps N:List Str}
theorem Df.au {p:c7}(F:FM K mg x i f fd)(S:FnScope N ps (aX (bA i)))(body:∀(cdv:Value) (A:Around) (outer:List Env) (s:Shared) (H:Hp) (E:XK),bW k (A.deeper (PyProof.Rows.envOfC x (aX (bA i)) s.heap.objs.size f cdv))->∃t,eR (cS dQ P w K mg base N x (aX (bA i)) f cdv A outer s H E).nox (dO (bA i)) t/\∀xs Q,p xs Q->t { nx:=λ_=>Q .non,rt:=Q } (cY N xs))(hb:Hb x ps i:=by intro _ _ _ _ _ _ us hl;first|(obtain⟨_,rfl⟩:=pQ hl;rfl)|(obtain⟨_,_,rfl⟩:=uN hl;rfl)|(obtain⟨_,_,_,rfl⟩:=G2 hl;rfl)|(obtain⟨_,_,_,_,rfl⟩:=us4 hl;rfl)|(obtain⟨_,_,_,_,_,rfl⟩:=us5 hl;rfl))(len:∀xs Q,p xs Q->xs.length=ps.length:=by intro xs Q h;repeat (first|(obtain⟨rfl,_⟩:=h;rfl)|(obtain⟨_,h⟩:=h))):Df P w K mg base (k+1) x ps p:=
 Df.of F.F F.m S hb len body
theorem cK.au {p:dY}(F:FM K mg x i f fd)(S:FnScope N ps (aX (bA i)))(t:(Str->Prop)->aS)(rd:∀Ep xs Q,p Ep xs Q->t Ep { nx:=λ_=>Q .non,rt:=Q } (cY N xs))(body:∀(cdv:Value) (A:Around) (outer:List Env) (s:Shared) (H:Hp) (E:XK) (Ep:Str->Prop),bW k (A.deeper (PyProof.Rows.envOfC x (aX (bA i)) s.heap.objs.size f cdv))->kR (cS (dD P w) P w K mg base N x (aX (bA i)) f cdv A outer s H E) (EX K H Ep)->eR (cS (dD P w) P w K mg base N x (aX (bA i)) f cdv A outer s H E) (dO (bA i)) (t Ep))(hb:Hb x ps i:=by intro _ _ _ _ _ _ us hl;first|(obtain⟨_,rfl⟩:=pQ hl;rfl)|(obtain⟨_,_,rfl⟩:=uN hl;rfl)|(obtain⟨_,_,_,rfl⟩:=G2 hl;rfl)|(obtain⟨_,_,_,_,rfl⟩:=us4 hl;rfl)|(obtain⟨_,_,_,_,_,rfl⟩:=us5 hl;rfl))(len:∀Ep xs Q,p Ep xs Q->xs.length=ps.length:=by intro Ep xs Q h;repeat (first|(obtain⟨rfl,_⟩:=h;rfl)|(obtain⟨_,h⟩:=h))):cK P w K mg base (k+1) x ps p:=
 cK.of F.F F.m S hb t len rd body
end
section
variable {P:Program}{w:World}{K:Frag}{mg:Str→Option Value}{base:Heap}{f:Addr}{fd:FuncData}
theorem qF:(["ahead","behind"]:List Str).Nodup:=by decide +kernel
noncomputable abbrev Q6:Stmt:=bA 7
theorem scR:FnScope ["things"] ["things"] (aX Q6):=.au
theorem vE {ns:ae}{i:Nat}{x y:V}(h1:(ns.map V.int)[i]? = some x)(h2:((ns.map V.int).drop 1)[i]? = some y):∃p q:Int,x = .int p/\y = .int q/\(ns.zip (ns.drop 1))[i]? = some (p,q):=by
 rw[aM9]at h1
 rw[<- List.map_drop,aM9]at h2
 cases e1:ns[i]? with
 |none=>rw[e1]at h1;cases h1
 |some p=>
  cases e2:(ns.drop 1)[i]? with
  |none=>rw[e2]at h2;cases h2
  |some q=>
   rw[e1]at h1;rw[e2]at h2
   exact⟨p,q,(aN2 h1).symm,(aN2 h2).symm,List.getElem?_zip_eq_some.mpr ⟨e1,e2⟩⟩
theorem aG5 (B:Bt mg)(F:eJ K "rises" "rises" Q6 f fd):cR P w K mg base dQ 1 f fd ["things"] (E3 K):=by
 refine F.ok scR (λvs H Q E h=>?_) (λcdv A outer s H vs Q E hr h=>?_)
 ·obtain⟨a,ns,rfl,_⟩:=h
  rfl
 obtain⟨a,ns,rfl,hS,hn,q⟩:=h
 have lz:((ns.map V.int).drop 1).length<=sizeLine:=aR3 (k7 (by rw[aP7,aL2];omega))
 have lz2:((ns.map V.int).drop 1).length<=(ns.map V.int).length:=by rw[aP7];omega
 have lz3:(ns.zip (ns.drop 1)).length=((ns.map V.int).drop 1).length:=by rw[List.length_zip,aP7,aP7,aL2];omega
 rcases hS with hS|hS
 ·refine⟨_,qM (nF (lM (sH rfl) rfl B.all PyProof.Rows.boot_all (e8 (xK (N:=["ahead","behind"]) (fr:=[none,none]) rfl (eM.of rfl rfl) (ag6 rfl B.zip (e8 (pv 0) (e8 (rG xV (pv 0) (rF qK) rE) gH)))
   ⟨λ_ _ _ _=>show PG _ _ (lD K 2 (hJ (dN 0) (hJ (dN 1) lC))) from qP rfl (jZ (iG (i:=0) qF rfl (Or.inl rfl) (.inr rfl)) (jZ (iG (i:=1) qF rfl (Or.inl rfl) (.inr rfl)) qO)),λ_ _ _ _=>rX,λ_ _ _ _=>r6 nK (pv 0) (pv 1) (e7 _)⟩) gH))),?_⟩
  refine⟨_,rfl,_,rfl,1,rfl,a,_,rfl,hS,λp hp=>?_,λe=>?_⟩
  ·have s1:=bI hp (.tup (dG (ns.map V.int) (some 1) none))
   have hb:aL K (upd H p (.tup (dG (ns.map V.int) (some 1) none))) p ((ns.map V.int).drop 1):=aL.of (by rw[bP,sK])
   refine⟨a,p,_,_,rfl,s1.tup hS,hb,sJ (xU (s1.tup hS) hb lz2) (λi acc _=>acc=((ns.zip (ns.drop 1)).take i).map λ(p:Int×Int)=>V.bl (decide (p.1<p.2))) lz (λ_ _=>rfl) (λ_ _ _ _ _ h=>h) (λi x acc D H' hi hR c hP=>?_) (λD acc H' hD sm hDa hlen hP=>?_)⟩
   ·obtain⟨T,x1,y1,rfl,hT,h1,h2⟩:=hR
    obtain⟨m,k,rfl,rfl,hz⟩:=vE h1 h2
    refine⟨T,_,rfl,aL.of hT,rfl,_,_,rfl,_,_,rfl,rfl,((Wk.refl _).set (i:=0) rfl).set (i:=1) rfl,sD ⟨_,rfl,_,rfl,_,_,rfl,rfl,c.yes (aB.refl _) ?_⟩⟩
    rw[pB hz,hP]
   ·refine⟨D,(ns.zip (ns.drop 1)).map λ(p:Int×Int)=>decide (p.1<p.2),rfl,aM.of ?_,q _ (s1.trans sm)⟩
    rw[hDa,hP,<- lz3,aQ7,List.map_map];rfl
  ·have hb:aL K H a ((ns.map V.int).drop 1):=by
    have:(ns.map V.int).drop 1=ns.map V.int:=by rw[<- sK];exact e
    rw[this];exact hS
   refine⟨a,a,_,_,rfl,hS,hb,sJ (xU hS hb lz2) (λi acc _=>acc=((ns.zip (ns.drop 1)).take i).map λ(p:Int×Int)=>V.bl (decide (p.1<p.2))) lz (λ_ _=>rfl) (λ_ _ _ _ _ h=>h) (λi x acc D H' hi hR c hP=>?_) (λD acc H' hD sm hDa hlen hP=>?_)⟩
   ·obtain⟨T,x1,y1,rfl,hT,h1,h2⟩:=hR
    obtain⟨m,k,rfl,rfl,hz⟩:=vE h1 h2
    refine⟨T,_,rfl,aL.of hT,rfl,_,_,rfl,_,_,rfl,rfl,((Wk.refl _).set (i:=0) rfl).set (i:=1) rfl,sD ⟨_,rfl,_,rfl,_,_,rfl,rfl,c.yes (aB.refl _) ?_⟩⟩
    rw[pB hz,hP]
   ·refine⟨D,(ns.zip (ns.drop 1)).map λ(p:Int×Int)=>decide (p.1<p.2),rfl,aM.of ?_,q _ sm⟩
    rw[hDa,hP,<- lz3,aQ7,List.map_map];rfl
 ·refine⟨_,qM (nF (lM (sH rfl) rfl B.all PyProof.Rows.boot_all (e8 (xK (N:=["ahead","behind"]) (fr:=[none,none]) rfl (eM.of rfl rfl) (ah2 rfl B.zip (e8 (pv 0) (e8 (rG wS (pv 0) (rF qK) rE) gH)))
   ⟨λ_ _ _ _=>show PG _ _ (lD K 2 (hJ (dN 0) (hJ (dN 1) lC))) from qP rfl (jZ (iG (i:=0) qF rfl (Or.inl rfl) (.inr rfl)) (jZ (iG (i:=1) qF rfl (Or.inl rfl) (.inr rfl)) qO)),λ_ _ _ _=>rX,λ_ _ _ _=>r6 nK (pv 0) (pv 1) (e7 _)⟩) gH))),?_⟩
  refine⟨_,rfl,_,rfl,1,rfl,a,_,rfl,hS,λp hp=>?_⟩
  have s1:=bI hp (.lst (dG (ns.map V.int) (some 1) none))
  have hb:aM K (upd H p (.lst (dG (ns.map V.int) (some 1) none))) p ((ns.map V.int).drop 1):=aM.of (by rw[bP,sK])
  refine⟨a,p,_,_,rfl,s1.seq hS,hb,sJ (ah3 (s1.seq hS) hb lz2) (λi acc _=>acc=((ns.zip (ns.drop 1)).take i).map λ(p:Int×Int)=>V.bl (decide (p.1<p.2))) lz (λ_ _=>rfl) (λ_ _ _ _ _ h=>h) (λi x acc D H' hi hR c hP=>?_) (λD acc H' hD sm hDa hlen hP=>?_)⟩
  ·obtain⟨T,x1,y1,rfl,hT,h1,h2⟩:=hR
   obtain⟨m,k,rfl,rfl,hz⟩:=vE h1 h2
   refine⟨T,_,rfl,aL.of hT,rfl,_,_,rfl,_,_,rfl,rfl,((Wk.refl _).set (i:=0) rfl).set (i:=1) rfl,sD ⟨_,rfl,_,rfl,_,_,rfl,rfl,c.yes (aB.refl _) ?_⟩⟩
   rw[pB hz,hP]
  ·refine⟨D,(ns.zip (ns.drop 1)).map λ(p:Int×Int)=>decide (p.1<p.2),rfl,aM.of ?_,q _ (s1.trans sm)⟩
   rw[hDa,hP,<- lz3,aQ7,List.map_map];rfl
theorem aG6:FnScope ["web"] ["web"] (aX (bA 8)):=.au
theorem aG7 (B:Bt mg)(F:FM K mg "hearths_in" 8 f fd) :Df P w K mg base 1 "hearths_in" ["web"] pF:=
 Df.au F aG6 (λcdv A outer s H E hr=>by
  exact⟨(C0),(aP (b8 (eD B (a7 (aW (qv 0) aC) aA)))),as3⟩)
theorem qG:FnScope ["hearths","inside","hearth"] ["hearths"] (aX (bA 12)):=.au
theorem aG8 (B:Bt mg)(F:FM K mg "marked" 12 f fd) :Df P w K mg base 1 "marked" ["hearths"] pH:=
 Df.au F qG (λcdv A outer s H E hr=>by
  have nd:=qG.nd
  have hu:=nS hr
  exact⟨(C6),(aK (oM (i:=1) nd am4)
   (aK (iD 2 nd (iR (qv 0))
    (aP (am7 hu (i:=1) (qv 2) fR)))
   (aP (zG 1)))),at0⟩)
theorem aG9 (B:Bt mg)(F:FM K mg "marked" 12 f fd) :Df P w K mg base 1 "marked" ["hearths"] pV:=
 Df.au F qG (λcdv A outer s H E hr=>by
  have nd:=qG.nd
  have hu:=nS hr
  exact⟨M0,(aK (oM (i:=1) nd am5)
   (aK (iD 2 nd (iR (qv 0))
    (aP (am8 hu (i:=1) (qv 2) fR)))
   (aP (zG 1)))),aC2⟩)
theorem aH0:FnScope ["deed"] ["deed"] (aX (bA 17)):=.au
theorem aH1 (B:Bt mg)(F:FM K mg "told_deed" 17 f fd)(kd_DEED_NUMBERS:KD P w K mg "DEED_NUMBERS" (l8 pW)):Df P w K mg base 1 "told_deed" ["deed"] pX:=
 Df.au F aH0 (λcdv A outer s H E hr=>by
  exact⟨(N5),(aK (bD (aE0 (aD8 kd_DEED_NUMBERS (aW (qv 0) aC)) (kJ (eD B (a7 (qv 0) aA)) aC)) (aP am6) bF)
   (aK (bD (dW (cP (fA (aW (qv 0) aC) bM) (eU (fA (aW (qv 0) aC) bM)))) (aP (b8 (bO (a7 (aW (qv 0) aC) (a7 (aB6 B rfl (a7 (jE (qv 0) (jD aC) jC) aA)) (a7 (aB7 B rfl (a7 (jE (qv 0) (jD aC) jC) aA)) aA)))))) bF)
   (aP (b8 (eV B (a7 (qv 0) aA)))))),aE3⟩)
theorem aH2:FnScope ["script","k"] ["script","k"] (aX (bA 22)):=.au
theorem aH3 (B:Bt mg)(F:FM K mg "_law_cell" 22 f fd) :Df P w K mg base 1 "_law_cell" ["script","k"] eZ:=
 Df.au F aH2 (λcdv A outer s H E hr=>by
  exact⟨(C7),(aK (bD (jA (qv 1) (eD B (a7 (qv 0) aA))) (aP (b8 (aW (qv 0) (qv 1)))) bF)
   (aP (b8 aC))),at3⟩)
theorem aH4:FnScope ["found"] ["found"] (aX (bA 24)):=.au
theorem aH5 (B:Bt mg)(F:FM K mg "_law_whole" 24 f fd) :Df P w K mg base 1 "_law_whole" ["found"] pJ:=
 Df.au F aH4 (λcdv A outer s H E hr=>by
  exact⟨(C8 K),(aP (b8 (tH (an6 B (qv 0)) (tG (am3 (an7 B (qv 0))))))),at6 (pK K).ii (pK K).ib⟩)
theorem Q7:FnScope ["cell","many","one","other","word"] ["cell","many"] (aX (bA 26)):=.au
theorem aH6 (B:Bt mg)(F:FM K mg "_law_deed" 26 f fd) :Df P w K mg base 1 "_law_deed" ["cell","many"] nA:=
 Df.au F Q7 (λcdv A outer s H E hr=>by
  have nd:=Q7.nd
  exact⟨(O5),(aK (bJ (i:=2) nd (kJ (cL (eS (qv 0) aC) (dS (qv 1) aC)) aC))
   (aK (bJ (i:=3) nd (kJ (cL (dS (eS (qv 0) aC) (qv 0)) (dS (qv 1) aC)) aC))
   (aK (bD (gA (cL (qv 0) aC) aC) (aP (bJ (i:=3) nd (dS (qv 1) (cL (eS (qv 0) aC) (z9 aC aC))))) bF)
   (aK (bJ (i:=4) nd (aW (iP (a7 bM (a7 bM (a7 bM (a7 bM (a7 bM aA)))))) (cL (qv 0) aC)))
   (aK (bD (dW (cP (fA (qv 4) bM) (eU (fA (qv 4) bM)))) (aP (b8 (bO (a7 (qv 4) (a7 (qv 2) aA))))) bF)
   (aK (bD (fA (qv 4) bM) (aP (b8 (bO (a7 (qv 4) (a7 (qv 2) (a7 (aW (iP (a7 (cL (eS (qv 0) aC) aC) (a7 (cL (eS (qv 0) aC) aC) (a7 (zJ aC) (a7 aC (a7 aC aA)))))) (cL (eS (qv 0) aC) aC)) aA)))))) bF)
   (aP (b8 (bO (a7 (qv 4) (a7 (qv 2) (a7 (qv 3) aA)))))))))))),aF0⟩)
theorem Q8:FnScope ["web","seeds","deed","wants","links","one","number","pair"] ["web","seeds","deed"] (aX (bA 27)):=.au
theorem aH7 (B:Bt mg)(F:FM K mg "_law_done" 27 f fd) :Df P w K mg base 1 "_law_done" ["web","seeds","deed"] qB:=
 Df.au F Q8 (λcdv A outer s H E hr=>by
  have nd:=Q8.nd
  have hu3:=vD hr
  exact⟨(vA),(aK (F4 3 4 nd (qv 0))
   (aK (bJ (i:=5) nd (aW (qv 2) aC))
   (aK (bD (dW (cP (jA (qv 5) aC) (eU (zB (qv 5) (eD B (a7 (qv 3) aA)))))) (aP (b8 iO)) bF)
   (aK (bD (fA (aW (qv 2) aC) bM) (aP (b8 (N1 (zN (qv 5) (qv 1)) iO (bO (a7 (qv 0) (a7 (eV B (a7 (E7 B (a7 (gU (qv 1) (bO (a7 (qv 5) aA))) aA)) aA)) aA)))))) bF)
   (aK (bD (fA (aW (qv 2) aC) bM) (aP (b8 (N1 (zN (qv 5) (qv 1)) (bO (a7 (qv 0) (a7 (eV B (a7 (oO (N:=["seed","one"]) (fr:=[none,some 5]) (iR (qv 1)) (λ_ _ _ _=>(jB (qv 0) (qv 1))) (λ_ _ _ _=>(qv 0))) aA)) aA))) iO))) bF)
   (aK (bJ (i:=6) nd (aW (qv 2) aC))
   (aK (bD (fA (aW (qv 2) aC) bM) (aK (bD (dW (cP (jA (qv 6) aC) (cP (zA (qv 6) aC) (eU (gA (aW (qv 3) (qv 5)) (qv 6)))))) (aP (b8 iO)) bF)
    (aP (b8 (bO (a7 (bO (a7 (gU (gU (jE (qv 3) jC (jD (qv 5))) (bO (a7 (qv 6) aA))) (jE (qv 3) (jD (dS (qv 5) aC)) jC)) (a7 (qv 4) aA))) (a7 (qv 1) aA)))))) bF)
   (aK (bJ (i:=7) nd (bO (a7 (zI B rfl (a7 (qv 5) (a7 (qv 6) aA))) (a7 (tL B rfl (a7 (qv 5) (a7 (qv 6) aA))) aA))))
   (aK (bD (dW (cP (jA (qv 6) aC) (cP (zB (qv 6) (eD B (a7 (qv 3) aA))) (cP (gA (qv 6) (qv 5)) (eU (gA (J2 hu3 (qv 7) (qv 4)) (pU (aW (qv 2) aC) bM))))))) (aP (b8 iO)) bF)
   (aK (bD (fA (aW (qv 2) aC) bM) (aP (b8 (bO (a7 (bO (a7 (qv 3) (a7 (eV B (a7 (uZ B (a7 (gU (qv 4) (bO (a7 (qv 7) aA))) aA)) aA)) aA))) (a7 (qv 1) aA))))) bF)
   (aP (b8 (bO (a7 (bO (a7 (qv 3) (a7 (eV B (a7 (oO (N:=["link","pair"]) (fr:=[none,some 7]) (iR (qv 4)) (λ_ _ _ _=>(ao0 hu3 (qv 0) (qv 1))) (λ_ _ _ _=>(qv 0))) aA)) aA))) (a7 (qv 1) aA))))))))))))))),aF5⟩)
theorem aH8:FnScope ["web","number"] ["web","number"] (aX (bA 9)):=.au
theorem aH9 (B:Bt mg)(F:FM K mg "is_hearth" 9 f fd)(d_hearths_in:Df P w K mg base 1 "hearths_in" ["web"] pF):Df P w K mg base 2 "is_hearth" ["web","number"] gD:=
 Df.au F aH8 (λcdv A outer s H E hr=>by
  exact⟨(C1),(aP (b8 (tH (am2 (qv 1) aC) (tG (am1 (qv 1) (bK d_hearths_in hr (a7 (qv 0) aA))))))),as4⟩)
theorem qH:FnScope ["hearths","some","gone"] ["hearths","some"] (aX (bA 13)):=.au
theorem aI0 (B:Bt mg)(F:FM K mg "without" 13 f fd)(d_marked:Df P w K mg base 1 "marked" ["hearths"] pH):Df P w K mg base 2 "without" ["hearths","some"] pM:=
 Df.au F qH (λcdv A outer s H E hr=>by
  have nd:=qH.nd
  have hu:=nS hr
  exact⟨(F3),(aK (bJ (i:=2) nd (bK d_marked hr (a7 (qv 1) aA)))
   (aP (b8 (eV B (a7 (oO (N:=["hearth","gone"]) (fr:=[none,some 2]) (iR (qv 0)) (λ_ _ _ _=>(zD hu (qv 0) (qv 1))) (λ_ _ _ _=>(qv 0))) aA))))),av6⟩)
theorem aI1 (B:Bt mg)(F:FM K mg "without" 13 f fd)(d_marked:Df P w K mg base 1 "marked" ["hearths"] pV):Df P w K mg base 2 "without" ["hearths","some"] mZ:=
 Df.au F qH (λcdv A outer s H E hr=>by
  have nd:=qH.nd
  have hu:=nS hr
  exact⟨N4,(aK (bJ (i:=2) nd (bK d_marked hr (a7 (qv 1) aA)))
   (aP (b8 (eV B (a7 (oO (N:=["hearth","gone"]) (fr:=[none,some 2]) (iR (qv 0)) (λ_ _ _ _=>(zD hu (qv 0) (qv 1))) (λ_ _ _ _=>(qv 0))) aA))))),aE2⟩)
theorem Q9:FnScope ["script","k","stir"] ["script","k"] (aX (bA 23)):=.au
theorem aI2 (B:Bt mg)(F:FM K mg "_law_number" 23 f fd)(d__law_cell:Df P w K mg base 1 "_law_cell" ["script","k"] eZ):Df P w K mg base 2 "_law_number" ["script","k"] mV:=
 Df.au F Q9 (λcdv A outer s H E hr=>by
  have nd:=Q9.nd
  exact⟨(M3),(aK (bD (jA (qv 1) (eD B (a7 (qv 0) aA))) (aP (b8 (aW (qv 0) (qv 1)))) bF)
   (aK (bJ (i:=2) nd (cL (m5 (dS (dS (cL (bK d__law_cell hr (a7 (qv 0) (a7 (cL (qv 1) (tL B rfl (a7 aC (a7 (eD B (a7 (qv 0) aA)) aA)))) aA))) aC) (m5 aC (qv 1))) aC) aC) aC))
   (aP (b8 (eS (cL (m5 (qv 2) (qv 2)) aC) aC))))),aC3⟩)
theorem R0:FnScope ["found","due","k"] ["found","due"] (aX (bA 28)):=.au
theorem aI3 (B:Bt mg)(F:FM K mg "_law_set_is" 28 f fd)(d__law_whole:Df P w K mg base 1 "_law_whole" ["found"] pJ):Df P w K mg base 2 "_law_set_is" ["found","due"] kS:=
 Df.au F R0 (λcdv A outer s H E hr=>by
  have nd:=R0.nd
  exact⟨(C9 K),(aK (bD (dW (cP (eC (dU (oN B (qv 0)))) (eU (jB (eD B (a7 (qv 0) aA)) (eD B (a7 (qv 1) aA)))))) (aP (b8 fR)) bF)
   (aK (iD 2 nd (kK rfl B.range (eD B (a7 (qv 1) aA)))
    (aP (bD (dW (cP (eC (dU (bK d__law_whole hr (a7 (aW (qv 0) (qv 2)) aA)))) (eU (jB (aW (qv 0) (qv 2)) (aW (qv 1) (qv 2)))))) (aP (b8 fR)) bF)))
   (aP (b8 fR)))),at5 (pK K).tt⟩)
theorem aI4:FnScope ["web","numbers"] ["web","numbers"] (aX (bA 10)):=.au
theorem aI5 (B:Bt mg)(F:FM K mg "is_set" 10 f fd)(d_rises:Df P w K mg base 1 "rises" ["things"] uA)(d_is_hearth:Df P w K mg base 2 "is_hearth" ["web","number"] gD):Df P w K mg base 3 "is_set" ["web","numbers"] pG:=
 Df.au F aI4 (λcdv A outer s H E hr=>by
  exact⟨(C2),(aP (b8 (tH (bK d_rises hr (a7 (qv 1) aA)) (tG (an2 B rfl (a7 (zQ (N:=["number","web"]) (fr:=[none,some 0]) (iR (qv 1)) (λ_ _ _ _=>(bK d_is_hearth hr (a7 (qv 1) (a7 (qv 0) aA))))) aA)))))),as5⟩)
theorem R3:FnScope ["web","seeds","deed","hearth"] ["web","seeds","deed"] (aX (bA 18)):=.au
theorem aI6 (B:Bt mg)(F:FM K mg "seeds_behind" 18 f fd)(d_is_hearth:Df P w K mg base 2 "is_hearth" ["web","number"] gD)(d_without:Df P w K mg base 2 "without" ["hearths","some"] pM)(x_BadDeed:Xc K mg base "BadDeed"):cK P w K mg base 3 "seeds_behind" ["web","seeds","deed"] pY:=
 cK.au F R3 N8 aE4 (λcdv A outer s H E Ep hr hX=>by
  have nd:=R3.nd
  exact (aK (bJ (i:=3) nd (aW (qv 2) aC))
   (aK (bD (eC (dU (bK d_is_hearth hr (a7 (qv 0) (a7 (qv 3) aA))))) (aP (jO hX x_BadDeed (a7 bM aA))) bF)
   (aK (bD (gA (an3 (qv 3) (qv 1)) (pU (aW (qv 2) aC) bM)) (aP (jO hX x_BadDeed (a7 bM aA))) bF)
   (aK (bD (fA (aW (qv 2) aC) bM) (aP (b8 (eV B (a7 (E7 B (a7 (gU (qv 1) (bO (a7 (qv 3) aA))) aA)) aA)))) bF)
   (aP (b8 (bK d_without hr (a7 (qv 1) (a7 (iP (a7 (qv 3) aA)) aA))))))))))
theorem R4:FnScope ["web","deed","hearth","want"] ["web","deed"] (aX (bA 19)):=.au
theorem aI7 (B:Bt mg)(F:FM K mg "wants_behind" 19 f fd)(d_is_hearth:Df P w K mg base 2 "is_hearth" ["web","number"] gD)(x_BadDeed:Xc K mg base "BadDeed"){u_MOST_WANTED:Nat}(m_MOST_WANTED:mg "MOST_WANTED" = some (.int 60 u_MOST_WANTED)):cK P w K mg base 3 "wants_behind" ["web","deed"] pZ:=
 cK.au F R4 N9 aE5 (λcdv A outer s H E Ep hr hX=>by
  have nd:=R4.nd
  exact (aK (bJ (i:=2) nd (aW (qv 1) aC))
   (aK (bJ (i:=3) nd (aW (qv 1) aC))
   (aK (bD (dW (cP (eC (dU (bK d_is_hearth hr (a7 (qv 0) (a7 (qv 2) aA))))) (cP (jA (qv 3) aC) (eU (zA (qv 3) (av2 rfl m_MOST_WANTED)))))) (aP (jO hX x_BadDeed (a7 bM aA))) bF)
   (aK (bD (gA (aW (aW (qv 0) aC) (qv 2)) (qv 3)) (aP (jO hX x_BadDeed (a7 bM aA))) bF)
   (aP (b8 (gU (gU (jE (aW (qv 0) aC) jC (jD (qv 2))) (bO (a7 (qv 3) aA))) (jE (aW (qv 0) aC) (jD (dS (qv 2) aC)) jC)))))))))
theorem R5:FnScope ["web","deed","link"] ["web","deed"] (aX (bA 20)):=.au
theorem aI8 (B:Bt mg)(F:FM K mg "links_behind" 20 f fd)(d_is_hearth:Df P w K mg base 2 "is_hearth" ["web","number"] gD)(d_without:Df P w K mg base 2 "without" ["hearths","some"] mZ)(x_BadDeed:Xc K mg base "BadDeed"):cK P w K mg base 3 "links_behind" ["web","deed"] qA:=
 cK.au F R5 O1 aE8 (λcdv A outer s H E Ep hr hX=>by
  have nd:=R5.nd
  have hu3:=vD hr
  exact (aK (bJ (i:=2) nd (jE (qv 1) (jD aC) jC))
   (aK (bD (dW (cP (eC (dU (bK d_is_hearth hr (a7 (qv 0) (a7 (aW (qv 2) aC) aA))))) (cP (eC (dU (bK d_is_hearth hr (a7 (qv 0) (a7 (aW (qv 2) aC) aA))))) (eU (gA (aW (qv 2) aC) (aW (qv 2) aC)))))) (aP (jO hX x_BadDeed (a7 bM aA))) bF)
   (aK (bD (gA (J2 hu3 (qv 2) (aW (qv 0) aC)) (pU (aW (qv 1) aC) bM)) (aP (jO hX x_BadDeed (a7 bM aA))) bF)
   (aK (bD (fA (aW (qv 1) aC) bM) (aP (b8 (eV B (a7 (uZ B (a7 (gU (aW (qv 0) aC) (bO (a7 (qv 2) aA))) aA)) aA)))) bF)
   (aP (b8 (bK d_without hr (a7 (aW (qv 0) aC) (a7 (iP (a7 (qv 2) aA)) aA))))))))))
theorem R6:FnScope ["script","at","many","links","cell","wants","hearth","one","other","k","pair"] ["script","at","many"] (aX (bA 25)):=.au
theorem aI9 (B:Bt mg)(F:FM K mg "_law_web" 25 f fd)(d__law_cell:Df P w K mg base 1 "_law_cell" ["script","k"] eZ)(d__law_number:Df P w K mg base 2 "_law_number" ["script","k"] mV):Df P w K mg base 3 "_law_web" ["script","at","many"] qD:=
 Df.au F R6 (λcdv A outer s H E hr=>by
  have nd:=R6.nd
  have hu3:=vD hr
  exact⟨(P5),(aK (oM (i:=3) nd (iP aA))
   (aK (bJ (i:=4) nd (eS (bK d__law_cell hr (a7 (qv 0) (a7 (qv 1) aA))) aC))
   (aK (bD (dW (zF (gA (cL (bK d__law_cell hr (a7 (qv 0) (a7 (qv 1) aA))) aC) aC) (zE (jA (qv 2) aC)))) (aK (oM (i:=5) nd (iP aA))
    (aK (iD 6 nd (kK rfl B.range (qv 2))
     (aK (tJ 5 (cL (qv 4) aC))
     (aP (bJ (i:=4) nd (eS (qv 4) aC)))))
    (aK (iD 7 nd (kK rfl B.range (qv 2))
     (aP (iD 8 nd (an0 rfl B.range (dS (qv 7) aC) (qv 2))
      (aK (bD (gA (cL (qv 4) aC) aC) (aP (tJ 3 (bO (a7 (qv 7) (a7 (qv 8) aA))))) bF)
      (aP (bJ (i:=4) nd (eS (qv 4) aC)))))))
    (aP (b8 (bO (a7 (eV B (a7 (qv 5) aA)) (a7 (eV B (a7 (qv 3) aA)) aA)))))))) bF)
   (aK (bJ (i:=5) nd (eV B (a7 (zQ (N:=["k","script","at"]) (fr:=[none,some 0,some 1]) (kK rfl B.range (qv 2)) (λ_ _ _ _=>(cL (bK d__law_number hr (a7 (qv 1) (a7 (dS (qv 2) (qv 0)) aA))) aC))) aA)))
   (aK (iD 9 nd (kK rfl B.range (m5 aC (qv 2)))
    (aK (bJ (i:=4) nd (bK d__law_number hr (a7 (qv 0) (a7 (dS (dS (qv 1) (qv 2)) (qv 9)) aA))))
    (aK (bJ (i:=7) nd (cL (qv 4) (qv 2)))
    (aK (bJ (i:=8) nd (cL (dS (eS (qv 4) (qv 2)) (m5 aC (qv 4))) (qv 2)))
    (aK (bJ (i:=10) nd (bO (a7 (zI B rfl (a7 (qv 7) (a7 (qv 8) aA))) (a7 (tL B rfl (a7 (qv 7) (a7 (qv 8) aA))) aA))))
    (aP (bD (dW (zF (jB (qv 7) (qv 8)) (zE (az9 hu3 (qv 10) (qv 3))))) (aP (tJ 3 (qv 10))) bF)))))))
   (aP (b8 (bO (a7 (qv 5) (a7 (eV B (a7 (uZ B (a7 (qv 3) aA)) aA)) aA)))))))))),aF7⟩)
theorem R7:FnScope ["found","due","web","k"] ["found","due"] (aX (bA 30)):=.au
theorem aJ0 (B:Bt mg)(F:FM K mg "_law_same" 30 f fd)(d__law_set_is:Df P w K mg base 2 "_law_set_is" ["found","due"] kS):Df P w K mg base 3 "_law_same" ["found","due"] qE:=
 Df.au F R7 (λcdv A outer s H E hr=>by
  have nd:=R7.nd
  exact⟨(P8 K),(aK (bD (dW (cP (eC (dU (oN B (qv 0)))) (cP (jB (eD B (a7 (qv 0) aA)) aC) (eU (eC (dU (bK d__law_set_is hr (a7 (aW (qv 0) aC) (a7 (aW (qv 1) aC) aA))))))))) (aP (b8 fR)) bF)
   (aK (bJ (i:=2) nd (aW (qv 0) aC))
   (aK (bD (dW (cP (eC (dU (oN B (qv 2)))) (cP (jB (eD B (a7 (qv 2) aA)) aC) (eU (eC (dU (bK d__law_set_is hr (a7 (aW (qv 2) aC) (a7 (aW (aW (qv 1) aC) aC) aA))))))))) (aP (b8 fR)) bF)
   (aK (bD (dW (cP (eC (dU (oN B (aW (qv 2) aC)))) (eU (jB (eD B (a7 (aW (qv 2) aC) aA)) (eD B (a7 (aW (aW (qv 1) aC) aC) aA)))))) (aP (b8 fR)) bF)
   (aK (iD 3 nd (kK rfl B.range (eD B (a7 (aW (qv 2) aC) aA)))
    (aP (bD (eC (dU (bK d__law_set_is hr (a7 (aW (aW (qv 2) aC) (qv 3)) (a7 (aW (aW (aW (qv 1) aC) aC) (qv 3)) aA))))) (aP (b8 fR)) bF)))
   (aP (b8 fR))))))),aG1 (pK K).tt⟩)
theorem aJ1:FnScope ["web","hearths"] ["web","hearths"] (aX (bA 11)):=.au
theorem aJ2 (B:Bt mg)(F:FM K mg "made_set" 11 f fd)(d_is_set:Df P w K mg base 3 "is_set" ["web","numbers"] pG)(x_BadSet:Xc K mg base "BadSet"):cK P w K mg base 4 "made_set" ["web","hearths"] pP:=
 cK.au F aJ1 G1 ax2 (λcdv A outer s H E Ep hr hX=>by
  exact (aK (bD (eC (dU (bK d_is_set hr (a7 (qv 0) (a7 (qv 1) aA))))) (aP (jO hX x_BadSet (a7 bM aA))) bF)
   (aP (b8 (eV B (a7 (qv 1) aA))))))
theorem R8:FnScope ["web","seeds","deed","chosen","told"] ["web","seeds","deed"] (aX (bA 16)):=.au
theorem aJ3 (B:Bt mg)(F:FM K mg "deed_done" 16 f fd)(d_made_set:cK P w K mg base 4 "made_set" ["web","hearths"] pP)(d_told_deed:Df P w K mg base 1 "told_deed" ["deed"] pX)(d_seeds_behind:cK P w K mg base 3 "seeds_behind" ["web","seeds","deed"] pY)(d_wants_behind:cK P w K mg base 3 "wants_behind" ["web","deed"] pZ)(d_links_behind:cK P w K mg base 3 "links_behind" ["web","deed"] qA):cK P w K mg base 5 "deed_done" ["web","seeds","deed"] l9:=
 cK.au F R8 O4 aE9 (λcdv A outer s H E Ep hr hX=>by
  have nd:=R8.nd
  exact (aK (bJ (i:=3) nd (pO hX d_made_set hr (a7 (qv 0) (a7 (qv 1) aA))))
   (aK (bJ (i:=4) nd (bK d_told_deed hr (a7 (qv 2) aA)))
   (aK (bD (dW (cP (fA (aW (qv 4) aC) bM) (eU (fA (aW (qv 4) aC) bM)))) (aP (b8 (bO (a7 (qv 0) (a7 (pO hX d_seeds_behind hr (a7 (qv 0) (a7 (qv 3) (a7 (qv 4) aA)))) aA))))) bF)
   (aK (bD (fA (aW (qv 4) aC) bM) (aP (b8 (bO (a7 (bO (a7 (pO hX d_wants_behind hr (a7 (qv 0) (a7 (qv 4) aA))) (a7 (aW (qv 0) aC) aA))) (a7 (qv 3) aA))))) bF)
   (aP (b8 (bO (a7 (bO (a7 (aW (qv 0) aC) (a7 (pO hX d_links_behind hr (a7 (qv 0) (a7 (qv 4) aA))) aA))) (a7 (qv 3) aA))))))))))
theorem R9:FnScope ["web","seeds","deed","caught","e"] ["web","seeds","deed"] (aX (bA 29)):=.au
theorem aJ4 (B:Bt mg)(F:FM K mg "_law_kind" 29 f fd)(d_deed_done:cK P w K mg base 5 "deed_done" ["web","seeds","deed"] l9)(cat_HearthError:uG K mg "HearthError")(is_BadSet:jS K mg "BadSet")(is_BadDeed:jS K mg "BadDeed")(is_NoSuch:jS K mg "NoSuch")(is_ValueError:uI K mg):Df P w K mg base 6 "_law_kind" ["web","seeds","deed"] nD:=
 Df.au F R9 (λcdv A outer s H E hr=>by
  have nd:=R9.nd
  exact⟨(P7),(aK (bJ (i:=3) nd iO)
   (aK (aw6 4 cat_HearthError nd (aw4 d_deed_done hr (λ_=>(a7 (qv 0) (a7 (qv 1) (a7 (qv 2) aA))))) (λ_=>(aP (bJ (i:=3) nd (qv 4)))))
   (aK (bD (dW (cP (zC (qv 3) iO) (cP (eC (dU (ax0 B is_ValueError (qv 3)))) (eU (dU (uJ B is_NoSuch (qv 3))))))) (aP (b8 bM)) bF)
   (aP (b8 (aA1 (K5 bM (J8 B (a7 (uJ B is_BadDeed (qv 3)) aA))) (K5 bM (J8 B (a7 (uJ B is_BadSet (qv 3)) aA))))))))),aG0⟩)
theorem S0:FnScope ["script","many","web","seeds","cell","deed","due","far","odd"] ["script"] (aX (bA 31)):=.au
theorem aJ5 (B:Bt mg)(F:eJ K "law" "law" (bA 31) f fd)(d__law_cell:Df P w K mg base 1 "_law_cell" ["script","k"] eZ)(d__law_web:Df P w K mg base 3 "_law_web" ["script","at","many"] qD)(d__law_deed:Df P w K mg base 1 "_law_deed" ["cell","many"] nA)(d__law_done:Df P w K mg base 1 "_law_done" ["web","seeds","deed"] qB)(d__law_kind:Df P w K mg base 6 "_law_kind" ["web","seeds","deed"] nD)(d__law_same:Df P w K mg base 3 "_law_same" ["found","due"] qE)(d_deed_done:cK P w K mg base 5 "deed_done" ["web","seeds","deed"] l9):cR P w K mg base dQ 7 f fd ["script"] (lV K vC):=
 au2 F S0 (λxs Q h=>by unfold vC at h;repeat (first|(obtain⟨rfl,_⟩:=h;rfl)|(obtain⟨_,h⟩:=h))) (λcdv A outer s H E hr=>by
  have nd:=S0.nd
  exact⟨(Q2),(aK (bJ (i:=1) nd (dS aC (cL (bK d__law_cell hr (a7 (qv 0) (a7 aC aA))) aC)))
   (aK (bD (gA (cL (eS (bK d__law_cell hr (a7 (qv 0) (a7 aC aA))) aC) aC) aC) (aP (bJ (i:=1) nd (dS aC (cL (eS (bK d__law_cell hr (a7 (qv 0) (a7 aC aA))) aC) aC)))) bF)
   (aK (bJ (i:=2) nd (bK d__law_web hr (a7 (qv 0) (a7 aC (a7 (qv 1) aA)))))
   (aK (bJ (i:=3) nd (bO aA))
   (aK (iD 4 nd (iR (au9 (iP (a7 aC aA)) (zH B (a7 (qv 0) aA))))
    (aK (bJ (i:=5) nd (bK d__law_deed hr (a7 (qv 4) (a7 (qv 1) aA))))
    (aK (bJ (i:=6) nd (bK d__law_done hr (a7 (qv 2) (a7 (qv 3) (a7 (qv 5) aA)))))
    (aP (bD (zC (qv 6) iO) (aP (bD (aA5 (bK d__law_kind hr (a7 (qv 2) (a7 (qv 3) (a7 (qv 5) aA)))) bM) (aP (b8 fR)) bF)) (aK (bD (eC (dU (bK d__law_same hr (a7 (aw2 d_deed_done hr (a7 (qv 2) (a7 (zH B (a7 (qv 3) aA)) (a7 (qv 5) aA)))) (a7 (qv 6) aA))))) (aP (b8 fR)) bF)
     (aP (F4 2 3 nd (qv 6)))))))))
   (aK (bJ (i:=7) nd (cL (eS (bK d__law_cell hr (a7 (qv 0) (a7 aC aA))) aC) (z9 aC aC)))
   (aK (bJ (i:=8) nd (aW (iP (a7 (gU (qv 3) (bO (a7 (dS (qv 1) (qv 7)) aA))) (a7 (gU (bO (a7 (kJ (zJ aC) (qv 7)) aA)) (qv 3)) (a7 (bO (a7 aC (a7 aC aA))) (a7 (bO (a7 (kJ (qv 1) aC) (a7 (kJ (qv 1) aC) aA))) aA))))) (cL (bK d__law_cell hr (a7 (qv 0) (a7 aC aA))) aC)))
   (aP (b8 (pU (bK d__law_kind hr (a7 (qv 2) (a7 (qv 8) (a7 (bK d__law_deed hr (a7 (bK d__law_cell hr (a7 (qv 0) (a7 aC aA))) (a7 (qv 1) aA))) aA)))) bM)))))))))),aG3⟩)
end
set_option autoImplicit true in
theorem aJ6 {l:OpenLaw}{w:World}{K:Frag}{h:Heap}{mg:Str->Option Value}(X:K.In h)(G:h.Ns mainGlobals mg)(hfa:mg "law" = some (.ref fa))(h0:FK K "rises" 7 f0 d0)(h1:FK K "hearths_in" 8 f1 d1)(h2:FK K "marked" 12 f2 d2)(h3:FK K "told_deed" 17 f3 d3)(h4:FK K "_law_cell" 22 f4 d4)(h5:FK K "_law_whole" 24 f5 d5)(h6:FK K "_law_deed" 26 f6 d6)(h7:FK K "_law_done" 27 f7 d7)(h8:FK K "is_hearth" 9 f8 d8)(h9:FK K "without" 13 f9 d9)(h10:FK K "_law_number" 23 f10 d10)(h11:FK K "_law_set_is" 28 f11 d11)(h12:FK K "is_set" 10 f12 d12)(h13:FK K "seeds_behind" 18 f13 d13)(h14:FK K "wants_behind" 19 f14 d14)(h15:FK K "links_behind" 20 f15 d15)(h16:FK K "_law_web" 25 f16 d16)(h17:FK K "_law_same" 30 f17 d17)(h18:FK K "made_set" 11 f18 d18)(h19:FK K "deed_done" 16 f19 d19)(h20:FK K "_law_kind" 29 f20 d20)(a21:nsIn K mainGlobals "law" = some (some (.ref f21)))(l21:K.lookup f21=some ⟨oc21,od21,.func (fnOf "law" "law" (i7 (bA 31)) (dO (bA 31)) (aX (bA 31)) .none kV21 dc21 pm21 an21 cd21 ct21),sl21⟩)(c21:codeIn K cd21 "law" = true)(k21:keepIn K (.ref f21)=true)(z_len:nsIn K mainGlobals "len" = some none)(z_range:nsIn K mainGlobals "range" = some none)(z_tuple:nsIn K mainGlobals "tuple" = some none)(z_list:nsIn K mainGlobals "list" = some none)(z_sorted:nsIn K mainGlobals "sorted" = some none)(z_all:nsIn K mainGlobals "all" = some none)(z_any:nsIn K mainGlobals "any" = some none)(z_zip:nsIn K mainGlobals "zip" = some none)(z_min:nsIn K mainGlobals "min" = some none)(z_max:nsIn K mainGlobals "max" = some none)(z_sum:nsIn K mainGlobals "sum" = some none)(z_isinstance:nsIn K mainGlobals "isinstance" = some none)(z_int:nsIn K mainGlobals "int" = some none)(z_bool:nsIn K mainGlobals "bool" = some none)(z_enumerate:nsIn K mainGlobals "enumerate" = some none){kA:Addr}{epK:Nat}{hK0 hK1 hK2 hK3 hK4:Int}{tK0 uK0 tK1 uK1 tK2 uK2 tK3 uK3 tK4 uK4:Tok}(zk:nsIn K mainGlobals "DEED_NUMBERS" = some (some (.ref kA)))(lkd:K.lookup kA=some ⟨.type "dict",none,.dict #[⟨hK0,.str "light" tK0,.int 1 uK0⟩,⟨hK1,.str "douse" tK1,.int 1 uK1⟩,⟨hK2,.str "want" tK2,.int 2 uK2⟩,⟨hK3,.str "link" tK3,.int 2 uK3⟩,⟨hK4,.str "cut" tK4,.int 2 uK4⟩] epK,#[]⟩)(skd:(kA==sysModules)=false)(hkd0:hK0=hashStr w "light")(hkd1:hK1=hashStr w "douse")(hkd2:hK2=hashStr w "want")(hkd3:hK3=hashStr w "link")(hkd4:hK4=hashStr w "cut"){u_MOST_WANTED:Nat}(z_MOST_WANTEDx:nsIn K mainGlobals "MOST_WANTED" = some (some (.int 60 u_MOST_WANTED))){C_HearthError C_BadSet C_BadDeed C_NoSuch:Addr}(aX_HE:nsIn K mainGlobals "HearthError" = some (some (.ref C_HearthError)))(aX_BS:nsIn K mainGlobals "BadSet" = some (some (.ref C_BadSet)))(aX_BD:nsIn K mainGlobals "BadDeed" = some (some (.ref C_BadDeed)))(aX_NS:nsIn K mainGlobals "NoSuch" = some (some (.ref C_NoSuch)))(zX_BW:nsIn K mainGlobals "BadWeb" = some none)(zX_BO:nsIn K mainGlobals "BadOrder" = some none)(zX_BP:nsIn K mainGlobals "BadPrices" = some none)(zX_BB:nsIn K mainGlobals "BadBoard" = some none)(zX_NW:nsIn K mainGlobals "NotWood" = some none)(zX_NP:nsIn K mainGlobals "NoPaper" = some none)(zX_TM:nsIn K mainGlobals "TooMany" = some none)(zX_NT:nsIn K mainGlobals "NoText" = some none)(zX_OR:nsIn K mainGlobals "OddRound" = some none)(y_fg:specialIn K (.builtin "object.__class__") "__get__" = some (some (.builtin "getset_descriptor.__get__")))(y_ft:takesIn K (.builtin "object.__class__")=some true)(z_VE:nsIn K mainGlobals "ValueError" = some none)(y1_HE:isClsIn K C_HearthError=true)(y2_HE:typeIn K (.ref C_HearthError)=some (.type "type"))(y3_HE:findIn K (.ref C_HearthError) "__getattribute__" = some (some (.builtin "BaseException.__getattribute__")))(y4_HE:findIn K (.ref C_HearthError) "__getattr__" = some none)(y5_HE:findIn K (.ref C_HearthError) "__class__" = some (some (.builtin "object.__class__")))(y6_HE:mroIn K C_HearthError (.type "object")=some true)(y7_HE:mroIn K C_HearthError (.type "BaseException")=some true)(y1_BS:isClsIn K C_BadSet=true)(y2_BS:typeIn K (.ref C_BadSet)=some (.type "type"))(y3_BS:findIn K (.ref C_BadSet) "__getattribute__" = some (some (.builtin "BaseException.__getattribute__")))(y4_BS:findIn K (.ref C_BadSet) "__getattr__" = some none)(y5_BS:findIn K (.ref C_BadSet) "__class__" = some (some (.builtin "object.__class__")))(y6_BS:mroIn K C_BadSet (.type "object")=some true)(y7_BS:mroIn K C_BadSet (.type "BaseException")=some true)(y1_BD:isClsIn K C_BadDeed=true)(y2_BD:typeIn K (.ref C_BadDeed)=some (.type "type"))(y3_BD:findIn K (.ref C_BadDeed) "__getattribute__" = some (some (.builtin "BaseException.__getattribute__")))(y4_BD:findIn K (.ref C_BadDeed) "__getattr__" = some none)(y5_BD:findIn K (.ref C_BadDeed) "__class__" = some (some (.builtin "object.__class__")))(y6_BD:mroIn K C_BadDeed (.type "object")=some true)(y7_BD:mroIn K C_BadDeed (.type "BaseException")=some true)(y1_NS:isClsIn K C_NoSuch=true)(y2_NS:typeIn K (.ref C_NoSuch)=some (.type "type"))(y3_NS:findIn K (.ref C_NoSuch) "__getattribute__" = some (some (.builtin "BaseException.__getattribute__")))(y4_NS:findIn K (.ref C_NoSuch) "__getattr__" = some none)(y5_NS:findIn K (.ref C_NoSuch) "__class__" = some (some (.builtin "object.__class__")))(y6_NS:mroIn K C_NoSuch (.type "object")=some true)(y7_NS:mroIn K C_NoSuch (.type "BaseException")=some true)(sB_HE:subIn K (.ref C_HearthError) (.type "BaseException")=some true)(s_BS_HE:subIn K (.ref C_BadSet) (.ref C_HearthError)=some true)(s_BD_HE:subIn K (.ref C_BadDeed) (.ref C_HearthError)=some true)(s_NS_HE:subIn K (.ref C_NoSuch) (.ref C_HearthError)=some true)(sN_BD:subIn K (.type "NoneType") (.ref C_BadDeed)=some false)(s_BS_BD:subIn K (.ref C_BadSet) (.ref C_BadDeed)=some false)(n_BS_BD:(C_BadSet==C_BadDeed)=false)(s_NS_BD:subIn K (.ref C_NoSuch) (.ref C_BadDeed)=some false)(n_NS_BD:(C_NoSuch==C_BadDeed)=false)(sN_BS:subIn K (.type "NoneType") (.ref C_BadSet)=some false)(s_BD_BS:subIn K (.ref C_BadDeed) (.ref C_BadSet)=some false)(n_BD_BS:(C_BadDeed==C_BadSet)=false)(s_NS_BS:subIn K (.ref C_NoSuch) (.ref C_BadSet)=some false)(n_NS_BS:(C_NoSuch==C_BadSet)=false)(sN_NS:subIn K (.type "NoneType") (.ref C_NoSuch)=some false)(s_BS_NS:subIn K (.ref C_BadSet) (.ref C_NoSuch)=some false)(n_BS_NS:(C_BadSet==C_NoSuch)=false)(s_BD_NS:subIn K (.ref C_BadDeed) (.ref C_NoSuch)=some false)(n_BD_NS:(C_BadDeed==C_NoSuch)=false)(sV_BS:subIn K (.ref C_BadSet) (.type "ValueError")=some true)(sV_BD:subIn K (.ref C_BadDeed) (.type "ValueError")=some true)(sV_NS:subIn K (.ref C_NoSuch) (.type "ValueError")=some true)(q_BD:excIn K C_BadDeed [.type "ValueError",.type "Exception",.type "BaseException",.type "object"] "ValueError.__new__" = true)(q_BS:excIn K C_BadSet [.type "ValueError",.type "Exception",.type "BaseException",.type "object"] "ValueError.__new__" = true)
 :∃fd:FuncData,(∀(s:Shared) (v:Value),BindsTo s fd ⟨[v],[]⟩ [("script",v)])/\∀base:Heap,K.In base->base.Ns mainGlobals mg->cR l.prog w K mg base dQ 7 fa fd ["script"] (pL K):=by
 have e:=hfa.symm.trans (mg_of X G a21)
 cases e
 have F21:=ae3 (st:=bA 31) l21 c21 k21
 have m21:=mg_of X G a21
 have B:Bt mg:=⟨mg_none_of X G z_len,mg_none_of X G z_range,mg_none_of X G z_tuple,mg_none_of X G z_list,mg_none_of X G z_sorted,mg_none_of X G z_all,mg_none_of X G z_any,mg_none_of X G z_zip,mg_none_of X G z_min,mg_none_of X G z_max,mg_none_of X G z_sum,mg_none_of X G z_isinstance,mg_none_of X G z_int,mg_none_of X G z_bool,mg_none_of X G z_enumerate⟩
 have kd_DEED_NUMBERS:KD l.prog w K mg "DEED_NUMBERS" (l8 pW):=aD4 (mg_of X G zk) lkd ⟨rfl,rfl,rfl⟩ rfl skd (by
  subst hkd0 hkd1 hkd2 hkd3 hkd4
  exact aG4)
 have m_MOST_WANTED:=mg_of X G z_MOST_WANTEDx
 refine⟨fnOf "law" "law" (i7 (bA 31)) (dO (bA 31)) (aX (bA 31)) .none kV21 dc21 pm21 an21 cd21 ct21,λs v=>.of_eq rfl,λbase KB _=>?_⟩
 have XK_HearthError:iU K C_HearthError:=⟨y1_HE,y2_HE,y3_HE,y4_HE,y5_HE,y_fg,y_ft,y6_HE,y7_HE⟩
 have XK_BadSet:iU K C_BadSet:=⟨y1_BS,y2_BS,y3_BS,y4_BS,y5_BS,y_fg,y_ft,y6_BS,y7_BS⟩
 have XK_BadDeed:iU K C_BadDeed:=⟨y1_BD,y2_BD,y3_BD,y4_BD,y5_BD,y_fg,y_ft,y6_BD,y7_BD⟩
 have XK_NoSuch:iU K C_NoSuch:=⟨y1_NS,y2_NS,y3_NS,y4_NS,y5_NS,y_fg,y_ft,y6_NS,y7_NS⟩
 have cat_HearthError:uG K mg "HearthError":=⟨C_HearthError,mg_of X G aX_HE,⟨y1_HE,y2_HE,sB_HE⟩,λn C h2 h1=>by
  obtain⟨hm,hb⟩:=mP h2
  simp only[jP,aL0,aM8,aR7]at hm
  rcases hm with rfl|rfl|rfl|rfl|rfl|rfl|rfl|rfl|rfl|rfl|rfl|rfl
  ·rw[zX_BW]at h1;cases h1
  ·rw[aX_BS]at h1;cases h1;exact s_BS_HE
  ·rw[zX_BO]at h1;cases h1
  ·rw[zX_BP]at h1;cases h1
  ·rw[zX_BB]at h1;cases h1
  ·rw[aX_BD]at h1;cases h1;exact s_BD_HE
  ·rw[zX_NW]at h1;cases h1
  ·rw[zX_NP]at h1;cases h1
  ·rw[aX_NS]at h1;cases h1;exact s_NS_HE
  ·rw[zX_TM]at h1;cases h1
  ·rw[zX_NT]at h1;cases h1
  ·rw[zX_OR]at h1;cases h1⟩
 have is_BadDeed:jS K mg "BadDeed":=⟨C_BadDeed,mg_of X G aX_BD,λz=>(by cases z),(λn C b h1 h2=>by
  obtain⟨hm,hb⟩:=mP h2
  simp only[jP,aL0,aM8,aR7]at hm
  rcases hm with rfl|rfl|rfl|rfl|rfl|rfl|rfl|rfl|rfl|rfl|rfl|rfl
  ·rw[zX_BW]at h1;cases h1
  ·rw[aX_BS]at h1;cases h1;rw[hb,show (("BadSet":Str)=="BadDeed"||("BadDeed":Str)=="HearthError"||("BadDeed":Str)=="ValueError")=false by decide];exact⟨XK_BadSet.exc,kX XK_BadDeed n_BS_BD s_BS_BD⟩
  ·rw[zX_BO]at h1;cases h1
  ·rw[zX_BP]at h1;cases h1
  ·rw[zX_BB]at h1;cases h1
  ·rw[aX_BD]at h1;cases h1;rw[hb,show (("BadDeed":Str)=="BadDeed"||("BadDeed":Str)=="HearthError"||("BadDeed":Str)=="ValueError")=true by decide];exact⟨XK_BadDeed.exc,uK⟩
  ·rw[zX_NW]at h1;cases h1
  ·rw[zX_NP]at h1;cases h1
  ·rw[aX_NS]at h1;cases h1;rw[hb,show (("NoSuch":Str)=="BadDeed"||("BadDeed":Str)=="HearthError"||("BadDeed":Str)=="ValueError")=false by decide];exact⟨XK_NoSuch.exc,kX XK_BadDeed n_NS_BD s_NS_BD⟩
  ·rw[zX_TM]at h1;cases h1
  ·rw[zX_NT]at h1;cases h1
  ·rw[zX_OR]at h1;cases h1),uM XK_BadDeed sN_BD⟩
 have is_BadSet:jS K mg "BadSet":=⟨C_BadSet,mg_of X G aX_BS,λz=>(by cases z),(λn C b h1 h2=>by
  obtain⟨hm,hb⟩:=mP h2
  simp only[jP,aL0,aM8,aR7]at hm
  rcases hm with rfl|rfl|rfl|rfl|rfl|rfl|rfl|rfl|rfl|rfl|rfl|rfl
  ·rw[zX_BW]at h1;cases h1
  ·rw[aX_BS]at h1;cases h1;rw[hb,show (("BadSet":Str)=="BadSet"||("BadSet":Str)=="HearthError"||("BadSet":Str)=="ValueError")=true by decide];exact⟨XK_BadSet.exc,uK⟩
  ·rw[zX_BO]at h1;cases h1
  ·rw[zX_BP]at h1;cases h1
  ·rw[zX_BB]at h1;cases h1
  ·rw[aX_BD]at h1;cases h1;rw[hb,show (("BadDeed":Str)=="BadSet"||("BadSet":Str)=="HearthError"||("BadSet":Str)=="ValueError")=false by decide];exact⟨XK_BadDeed.exc,kX XK_BadSet n_BD_BS s_BD_BS⟩
  ·rw[zX_NW]at h1;cases h1
  ·rw[zX_NP]at h1;cases h1
  ·rw[aX_NS]at h1;cases h1;rw[hb,show (("NoSuch":Str)=="BadSet"||("BadSet":Str)=="HearthError"||("BadSet":Str)=="ValueError")=false by decide];exact⟨XK_NoSuch.exc,kX XK_BadSet n_NS_BS s_NS_BS⟩
  ·rw[zX_TM]at h1;cases h1
  ·rw[zX_NT]at h1;cases h1
  ·rw[zX_OR]at h1;cases h1),uM XK_BadSet sN_BS⟩
 have is_NoSuch:jS K mg "NoSuch":=⟨C_NoSuch,mg_of X G aX_NS,λz=>(by cases z),(λn C b h1 h2=>by
  obtain⟨hm,hb⟩:=mP h2
  simp only[jP,aL0,aM8,aR7]at hm
  rcases hm with rfl|rfl|rfl|rfl|rfl|rfl|rfl|rfl|rfl|rfl|rfl|rfl
  ·rw[zX_BW]at h1;cases h1
  ·rw[aX_BS]at h1;cases h1;rw[hb,show (("BadSet":Str)=="NoSuch"||("NoSuch":Str)=="HearthError"||("NoSuch":Str)=="ValueError")=false by decide];exact⟨XK_BadSet.exc,kX XK_NoSuch n_BS_NS s_BS_NS⟩
  ·rw[zX_BO]at h1;cases h1
  ·rw[zX_BP]at h1;cases h1
  ·rw[zX_BB]at h1;cases h1
  ·rw[aX_BD]at h1;cases h1;rw[hb,show (("BadDeed":Str)=="NoSuch"||("NoSuch":Str)=="HearthError"||("NoSuch":Str)=="ValueError")=false by decide];exact⟨XK_BadDeed.exc,kX XK_NoSuch n_BD_NS s_BD_NS⟩
  ·rw[zX_NW]at h1;cases h1
  ·rw[zX_NP]at h1;cases h1
  ·rw[aX_NS]at h1;cases h1;rw[hb,show (("NoSuch":Str)=="NoSuch"||("NoSuch":Str)=="HearthError"||("NoSuch":Str)=="ValueError")=true by decide];exact⟨XK_NoSuch.exc,uK⟩
  ·rw[zX_TM]at h1;cases h1
  ·rw[zX_NT]at h1;cases h1
  ·rw[zX_OR]at h1;cases h1),uM XK_NoSuch sN_NS⟩
 have is_ValueError:uI K mg:=⟨mg_none_of X G z_VE,λz=>(by cases z),(λn C b h1 h2=>by
  obtain⟨hm,hb⟩:=mP h2
  simp only[jP,aL0,aM8,aR7]at hm
  rcases hm with rfl|rfl|rfl|rfl|rfl|rfl|rfl|rfl|rfl|rfl|rfl|rfl
  ·rw[zX_BW]at h1;cases h1
  ·rw[aX_BS]at h1;cases h1;rw[hb,show (("BadSet":Str)=="ValueError"||("ValueError":Str)=="HearthError"||("ValueError":Str)=="ValueError")=true by decide];exact⟨XK_BadSet.exc,uL sV_BS⟩
  ·rw[zX_BO]at h1;cases h1
  ·rw[zX_BP]at h1;cases h1
  ·rw[zX_BB]at h1;cases h1
  ·rw[aX_BD]at h1;cases h1;rw[hb,show (("BadDeed":Str)=="ValueError"||("ValueError":Str)=="HearthError"||("ValueError":Str)=="ValueError")=true by decide];exact⟨XK_BadDeed.exc,uL sV_BD⟩
  ·rw[zX_NW]at h1;cases h1
  ·rw[zX_NP]at h1;cases h1
  ·rw[aX_NS]at h1;cases h1;rw[hb,show (("NoSuch":Str)=="ValueError"||("ValueError":Str)=="HearthError"||("ValueError":Str)=="ValueError")=true by decide];exact⟨XK_NoSuch.exc,uL sV_NS⟩
  ·rw[zX_TM]at h1;cases h1
  ·rw[zX_NT]at h1;cases h1
  ·rw[zX_OR]at h1;cases h1),ax1⟩
 have x_BadDeed:Xc K mg base "BadDeed":=⟨C_BadDeed,_,_,_,_,G0 KB (mg_of X G aX_BD) q_BD,PySem.F.excBase_ValueError,aX_BD⟩
 have x_BadSet:Xc K mg base "BadSet":=⟨C_BadSet,_,_,_,_,G0 KB (mg_of X G aX_BS) q_BS,PySem.F.excBase_ValueError,aX_BS⟩
 have D0:=at8 (aG5 (P:=l.prog) (w:=w) (base:=base) B h0.F) (h0.F.binds (ps:=["things"]) λ_ _ _ _ _ _ us hl=>by obtain⟨_,rfl⟩:=pQ hl;rfl) h0.F.kp (mg_of X G h0.a)
 have D1:=aG7 (P:=l.prog) (w:=w) (base:=base) B (h1.M X G)
 have D2:=aG8 (P:=l.prog) (w:=w) (base:=base) B (h2.M X G)
 have DD2:=aG9 (P:=l.prog) (w:=w) (base:=base) B (h2.M X G)
 have D3:=aH1 (P:=l.prog) (w:=w) (base:=base) B (h3.M X G)  kd_DEED_NUMBERS
 have D4:=aH3 (P:=l.prog) (w:=w) (base:=base) B (h4.M X G)
 have D5:=aH5 (P:=l.prog) (w:=w) (base:=base) B (h5.M X G)
 have D6:=aH6 (P:=l.prog) (w:=w) (base:=base) B (h6.M X G)
 have D7:=aH7 (P:=l.prog) (w:=w) (base:=base) B (h7.M X G)
 have D8:=aH9 (P:=l.prog) (w:=w) (base:=base) B (h8.M X G) D1
 have D9:=aI0 (P:=l.prog) (w:=w) (base:=base) B (h9.M X G) D2
 have DD9:=aI1 (P:=l.prog) (w:=w) (base:=base) B (h9.M X G) DD2
 have D10:=aI2 (P:=l.prog) (w:=w) (base:=base) B (h10.M X G) D4
 have D11:=aI3 (P:=l.prog) (w:=w) (base:=base) B (h11.M X G) D5
 have D12:=aI5 (P:=l.prog) (w:=w) (base:=base) B (h12.M X G) D0 D8
 have D13:=aI6 (P:=l.prog) (w:=w) (base:=base) B (h13.M X G) D8 D9 x_BadDeed
 have D14:=aI7 (P:=l.prog) (w:=w) (base:=base) B (h14.M X G) D8 x_BadDeed m_MOST_WANTED
 have D15:=aI8 (P:=l.prog) (w:=w) (base:=base) B (h15.M X G) D8 DD9 x_BadDeed
 have D16:=aI9 (P:=l.prog) (w:=w) (base:=base) B (h16.M X G) D4 D10
 have D17:=aJ0 (P:=l.prog) (w:=w) (base:=base) B (h17.M X G) D11
 have D18:=aJ2 (P:=l.prog) (w:=w) (base:=base) B (h18.M X G) D12 x_BadSet
 have D19:=aJ3 (P:=l.prog) (w:=w) (base:=base) B (h19.M X G) D18 D3 D13 D14 D15
 have D20:=aJ4 (P:=l.prog) (w:=w) (base:=base) B (h20.M X G) D19 cat_HearthError is_BadSet is_BadDeed is_NoSuch is_ValueError
 exact au3 (aJ5 B F21 D4 D16 D6 D7 D20 D17 D19)
theorem aJ7 {l:OpenLaw}{q:Program}{loose:List Str}{XP:(Str->Option Value)->Heap->Prop}{YP:World->Heap->Prop}{d:DefRec}{K:Params->Frag}(hn:l.most=some 63)(hdf:d.params.defaults = [])(hY:∀(w:World) (h:Heap),YP w h->(K w.params).In h)(F:∀(w:World) (mg:Str->Option Value) (fa:Addr) (h:Heap),(K w.params).In h->h.Ns mainGlobals mg->mg d.name=some (.ref fa)->
   ∃fd:FuncData,(∀(s:Shared) (u:Value),BindsTo s fd ⟨[u],[]⟩ [("script",u)])/\∀base:Heap,(K w.params).In base->base.Ns mainGlobals mg->cR l.prog w (K w.params) mg base dQ 7 fa fd ["script"] (pL (K w.params))) :
  WalkO q loose XP YP l.row.toRowW d [] (λf vs=>PySem.call f vs):=
 L2.ae1 (n:=63) (k:=7) (x:="script") (CX:=λ_=>dQ) (sp:=λw=>pL (K w.params)) hn (by decide) hdf ⟨rfl,by decide,by decide⟩ hY F (λ_ _ a ns hl hO hS=>⟨a,ns,rfl,au4 hO hS,hl,λ_=>rfl⟩) λ_ _ _ _ _ z=>z
end K_k88
open PySem PySem.W PyProof.Rows
set_option maxRecDepth 100000 in
set_option maxHeartbeats 0 in
theorem PySem.Challenge.cw_kindleweb_k88_one_deed_holds : PySem.Challenge.rw_kindleweb_k88_one_deed.Holds := by
 w_on;o_law;k_head;(case hw => w_witness2)
 k_fill
 refine K_k88.aJ7 (l := PySem.Challenge.rw_kindleweb_k88_one_deed) rfl rfl (λw h Y => PySem.W.kIn_of Y) ?F
 case F =>
  intro w mg fa h KX G hmg
  refine' K_k88.aJ6 KX G hmg ?h0 ?h1 ?h2 ?h3 ?h4 ?h5 ?h6 ?h7 ?h8 ?h9 ?h10 ?h11 ?h12 ?h13 ?h14 ?h15 ?h16 ?h17 ?h18 ?h19 ?h20 ?a21 ?l21 ?c21 ?k21 ?z_len ?z_range ?z_tuple ?z_list ?z_sorted ?z_all ?z_any ?z_zip ?z_min ?z_max ?z_sum ?z_isinstance ?z_int ?z_bool ?z_enumerate ?zk ?lkd ?skd ?hkd0 ?hkd1 ?hkd2 ?hkd3 ?hkd4 ?z_MOST_WANTEDx ?aX_HE ?aX_BS ?aX_BD ?aX_NS ?zX_BW ?zX_BO ?zX_BP ?zX_BB ?zX_NW ?zX_NP ?zX_TM ?zX_NT ?zX_OR ?y_fg ?y_ft ?z_VE ?y1_HE ?y2_HE ?y3_HE ?y4_HE ?y5_HE ?y6_HE ?y7_HE ?y1_BS ?y2_BS ?y3_BS ?y4_BS ?y5_BS ?y6_BS ?y7_BS ?y1_BD ?y2_BD ?y3_BD ?y4_BD ?y5_BD ?y6_BD ?y7_BD ?y1_NS ?y2_NS ?y3_NS ?y4_NS ?y5_NS ?y6_NS ?y7_NS ?sB_HE ?s_BS_HE ?s_BD_HE ?s_NS_HE ?sN_BD ?s_BS_BD ?n_BS_BD ?s_NS_BD ?n_NS_BD ?sN_BS ?s_BD_BS ?n_BD_BS ?s_NS_BS ?n_NS_BS ?sN_NS ?s_BS_NS ?n_BS_NS ?s_BD_NS ?n_BD_NS ?sV_BS ?sV_BD ?sV_NS ?q_BD ?q_BS
  (case h0|h1|h2|h3|h4|h5|h6|h7|h8|h9|h10|h11|h12|h13|h14|h15|h16|h17|h18|h19|h20 => exact⟨by k_is, ⟨⟨_, _, _, _, _, _, _, _, _, rfl, by k_is, by k_is⟩, by k_is⟩⟩)
  (case a21|l21|c21|k21|z_len|z_range|z_tuple|z_list|z_sorted|z_all|z_any|z_zip|z_min|z_max|z_sum|z_isinstance|z_int|z_bool|z_enumerate|zk|lkd => k_is)
  (case skd => decide)
  (case hkd0 => rfl)
  (case hkd1 => rfl)
  (case hkd2 => rfl)
  (case hkd3 => rfl)
  (case hkd4 => rfl)
  (case z_MOST_WANTEDx|aX_HE|aX_BS|aX_BD|aX_NS|zX_BW|zX_BO|zX_BP|zX_BB|zX_NW|zX_NP|zX_TM|zX_NT|zX_OR|y_fg|y_ft|z_VE|y1_HE|y2_HE|y3_HE|y4_HE|y5_HE|y6_HE|y7_HE|y1_BS|y2_BS|y3_BS|y4_BS|y5_BS|y6_BS|y7_BS|y1_BD|y2_BD|y3_BD|y4_BD|y5_BD|y6_BD|y7_BD|y1_NS|y2_NS|y3_NS|y4_NS|y5_NS|y6_NS|y7_NS|sB_HE|s_BS_HE|s_BD_HE|s_NS_HE|sN_BD|s_BS_BD => k_is)
  (case n_BS_BD => decide)
  (case s_NS_BD => k_is)
  (case n_NS_BD => decide)
  (case sN_BS|s_BD_BS => k_is)
  (case n_BD_BS => decide)
  (case s_NS_BS => k_is)
  (case n_NS_BS => decide)
  (case sN_NS|s_BS_NS => k_is)
  (case n_BS_NS => decide)
  (case s_BD_NS => k_is)
  (case n_BD_NS => decide)
  (case sV_BS|sV_BD|sV_NS => k_is)
  (case q_BD|q_BS => k_exc)


