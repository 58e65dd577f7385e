import PyProof.Rows.All
import Wide.All
import OpenK.AllK
import Wide.FinOn
import Lean
import PyProof.EqAt
import PyProof.EqKinds
import PyProof.TupleCall
import PyProof.NeKinds
import PyProof.Draws
import PyProof.ZipIter
import PyProof.DictUpdate
import PyProof.AutoSeq1
import PyProof.ListRange
import PyProof.ListMulRoad
import PyProof.FactsAll.tuple_2
import PyProof.Rows.SortShell
import PyProof.EnumFor
import PyProof.EnumMake
import PyProof.EnumStmt
import PyProof.Rows.SortWalk
import KE.KDictList
import PyProof.SumAny
import PyProof.ConsumeWalk
import PyProof.WalksMore
import PyProof.Rows.TupAssign
import PyProof.ExcArgsOwn
import PySem.Challenge.RW_kindleweb_k75_full_and_nearly_full
set_option Elab.async false
set_option linter.all false
set_option maxRecDepth 100000
set_option maxHeartbeats 4000000
section
open PySem PySem.Spec PyProof.Rows
noncomputable def aI2:=@wpAny_bind
noncomputable def aI3:=@Heap.get?_push_of_some
noncomputable def aI4:=@List.size_toArray
noncomputable def aI5:=@List.mem_cons
noncomputable def aI6:=@Nat.le_refl
noncomputable def aI7:=@wpAny_pure
noncomputable def aI8:=@List.getElem?_eq_getElem
noncomputable def aI9:=@Nat.lt_of_lt_of_le
noncomputable def aJ0:=@wpS_bind
noncomputable def aJ1:=@decide_eq_false
noncomputable def aJ2:=@List.length_map
noncomputable def aJ3:=@Heap.lt_size
noncomputable def aJ4:=@Bool.false_ne_true
noncomputable def aJ5:=@decide_eq_true
noncomputable def aJ6:=@List.not_mem_nil
noncomputable def aJ7:=@List.mem_singleton
noncomputable def aJ8:=@wpS_pure
noncomputable def aJ9:=@List.getElem?_map
noncomputable def aK0:=@List.mem_cons_self
noncomputable def aK1:=@Heap.get?_push_size
noncomputable def aK2:=@List.mem_cons_of_mem
noncomputable def aK3:=@List.getElem?_eq_some_iff
noncomputable def aK7:=@List.append_assoc
noncomputable def aK8:=@List.getElem?_set_ne
noncomputable def aK9:=@List.mem_append_right
noncomputable def aL1:=@Option.some.inj
noncomputable def aL2:=@Bool.false_eq_true
noncomputable def aL4:=@Nat.ne_of_lt
noncomputable def aL5:=@List.length_append
noncomputable def aL6:=@List.take_append_drop
noncomputable def aL7:=@List.getD_eq_getElem?_getD
noncomputable def aL8:=@List.take_of_length_le
noncomputable def aL9:=@wpAny_field
noncomputable def aM0:=@List.length_cons
noncomputable def aM1:=@or_false
noncomputable def aM2:=@decide_eq_true_eq
noncomputable def aM3:=@Array.getElem_mem
noncomputable def aM4:=@Nat.lt_irrefl
noncomputable def aM5:=@List.map_cons
noncomputable def aM6:=@PySem.mem_of_lookup
noncomputable def aM9:=@List.map_append
noncomputable def aN0:=@Int.emod_nonneg
noncomputable def aN1:=@wpAny_mono
noncomputable def aN2:=@Nat.le_trans
noncomputable def aN3:=@Nat.lt_or_ge
noncomputable def aN4:=@wpAny_callSpecial?_slot
noncomputable def aN5:=@List.getElem?_cons_succ
noncomputable def aN7:=@PySem.W.kia_one
noncomputable def aN8:=@Bool.and_eq_true
noncomputable def aO0:=@List.length_set
noncomputable def aO1:=@List.lookup_cons
noncomputable def aO2:=@List.take_add_one
noncomputable def aO3:=@List.pairwise_append
noncomputable def aO4:=@wpAny_setField_rec
noncomputable def aO5:=@Int.emod_lt_of_pos
noncomputable def aO6:=@Array.toList_append
noncomputable def aO8:=@List.length_drop
noncomputable def aO9:=@wpAny_call_entry
noncomputable def aP0:=@wpAny_newObj_type
noncomputable def aP1:=@List.mem_of_getElem?
noncomputable def aP2:=@List.pairwise_iff_getElem
noncomputable def aP4:=@List.getElem?_set_self
noncomputable def aP5:=@wpS_forRange
noncomputable def aP6:=@List.mem_append
noncomputable def aP7:=@beq_self_eq_true
noncomputable def aP8:=@Nat.zero_le
noncomputable def aP9:=@List.replicate_succ
noncomputable def aQ0:=@Nat.ne_of_gt
noncomputable def aQ1:=@Int.toNat_natCast
noncomputable def aQ2:=@if_false
noncomputable def aQ5:=@Heap.size_push
noncomputable def aQ6:=@wpAny_holding
noncomputable def aQ8:=@List.length_take
noncomputable def aQ9:=@List.append_nil
noncomputable def aR0:=@List.find?_cons
noncomputable def aR1:=@List.mem_map
noncomputable def aR2:=@List.zip_cons_cons
noncomputable def aR3:=@decide_eq_false_iff_not
noncomputable def aR4:=@PyProof.Rows.callWith_type1
noncomputable def aR5:=@List.all_cons
noncomputable def aS0:=@PyProof.Rows.slot_tuple_getitem
noncomputable def aS1:=@List.getElem?_append_left
noncomputable def aS2:=@List.length_singleton
noncomputable def aS3:=@wpAny_pyIter_tuple
noncomputable def aS5:=@Nat.le_add_right
noncomputable def aS6:=@Nat.le_of_lt
noncomputable def aS9:=@wpAny_truthy_bool
noncomputable def aT0:=@List.flatten_cons
noncomputable def aT1:=@List.length_range
noncomputable def aT2:=@List.pairwise_singleton
noncomputable def aT4:=@Bool.eq_iff_iff
noncomputable def aT5:=@List.getElem?_range
noncomputable def aT6:=@List.getElem_of_mem
noncomputable def aT8:=@List.all_eq_true
noncomputable def aT9:=@List.getElem_mem
noncomputable def aU0:=@List.take_length
noncomputable def aU3:=@List.getElem?_append_right
noncomputable def aU4:=@Obj.data_mapFields
noncomputable def aU5:=@wpAny_seqItems
noncomputable def aU6:=@Nat.eq_or_lt_of_le
noncomputable def aU7:=@Heap.get?_update_self
noncomputable def aU8:=@List.perm_append_comm
noncomputable def aU9:=@Array.getElem?_toList
noncomputable def aV0:=@List.mem_append_left
noncomputable def aV3:=@Int.le_refl
noncomputable def aV4:=@wpS_mono
noncomputable def aV5:=@List.pairwise_map
noncomputable def aV8:=@wpAny_rule
noncomputable def aW2:=@List.drop_take
noncomputable def aW4:=@True.intro
end
noncomputable abbrev aa:=List (Int×Int)
noncomputable abbrev ac:=PySem.W.Frag
noncomputable abbrev ad:=List (List Int)
noncomputable abbrev ae:=List Int
namespace L2
open PySem PySem.Spec PyProof.Rows
noncomputable abbrev aH:=Sum Int Str
noncomputable def kC:aH->Value->Bool
 |.inl k,v=>Value.isInt k v
 |.inr x,v=>Value.isStrOf x v
noncomputable def N6 (w:World):aH->Int
 |.inl k=>hashInt k
 |.inr x=>hashStr w x
theorem gR:∀{k:aH}{v:Value},kC k v=true->(∃i t,k=Sum.inl i/\v=Value.int i t)∨(∃x t,k=Sum.inr x/\v=Value.str x t)
 |.inl i,v,h=>by
  obtain⟨t,e⟩:=Value.isInt_shape (k:=i) (v:=v) h
  exact .inl ⟨i,t,rfl,e⟩
 |.inr x,v,h=>by
  obtain⟨t,e⟩:=Value.isStrOf_shape (x:=x) (v:=v) h
  exact .inr ⟨x,t,rfl,e⟩
theorem N7 (i:Int)(t:Tok):kC (.inl i) (.int i t)=true:=by simp[kC,Value.isInt]
theorem N8 (x:Str)(t:Tok):kC (.inr x) (.str x t)=true:=by simp[kC,Value.isStrOf]
theorem N9 (a b:Int):decide ((Sum.inl a:aH)=Sum.inl b)=(a==b):=by
 by_cases e:a=b
 ·subst e;simp
 ·have h:¬(Sum.inl a:aH)=Sum.inl b:=λq=>e (Sum.inl.inj q)
  rw[aJ1 h]
  exact (beq_eq_false_iff_ne.mpr e).symm
theorem O0 (a b:Str):decide ((Sum.inr a:aH)=Sum.inr b)=decide (a=b):=by
 by_cases e:a=b
 ·subst e;simp
 ·have h:¬(Sum.inr a:aH)=Sum.inr b:=λq=>e (Sum.inr.inj q)
  rw[aJ1 h,aJ1 e]
theorem O1 (a:Int)(b:Str):decide ((Sum.inl a:aH)=Sum.inr b)=false:=aJ1 (λq=>nomatch q)
theorem O2 (a:Str)(b:Int):decide ((Sum.inr a:aH)=Sum.inl b)=false:=aJ1 (λq=>nomatch q)
noncomputable def dQ (prog:Program)(w:World):PySem.KeyKind prog w aH where
 is:=kC
 hash:=N6 w
 inj:=λv a b ha hb=>by
  rcases gR ha with⟨i,t,rfl,rfl⟩|⟨x,t,rfl,rfl⟩
  ·rcases gR hb with⟨j,u,rfl,e⟩|⟨y,u,rfl,e⟩
   ·injection e with e1 _;rw[e1]
   ·exact nomatch e
  ·rcases gR hb with⟨j,u,rfl,e⟩|⟨y,u,rfl,e⟩
   ·exact nomatch e
   ·injection e with e1 _;rw[e1]
 byValue:=λk v h=>by
  rcases gR h with⟨i,t,rfl,rfl⟩|⟨x,t,rfl,rfl⟩<;>rfl
 pyHash:=λhv h=>by
  rcases gR hv with⟨i,t,rfl,rfl⟩|⟨x,t,rfl,rfl⟩
  ·exact wpAny_pyHash_int h
  ·exact wpAny_pyHash_str h
 eqBool:=λhu hv h=>by
  rcases gR hu with⟨i,t,rfl,rfl⟩|⟨x,t,rfl,rfl⟩
  ·rcases gR hv with⟨j,u,rfl,rfl⟩|⟨y,u,rfl,rfl⟩
   ·rw[N9]at h;exact wpAny_eqBool_int h
   ·rw[O1]at h;exact SeqAt.EqAt.int_str i t y u _ _ _ _ h
  ·rcases gR hv with⟨j,u,rfl,rfl⟩|⟨y,u,rfl,rfl⟩
   ·rw[O2]at h;exact SeqAt.EqAt.str_int x t j u _ _ _ _ h
   ·rw[O0]at h;exact wpAny_eqBool_str h
 «strs»:=λk x t v h=>by
  rcases gR h with⟨i,u,rfl,e⟩|⟨y,u,rfl,e⟩
  ·exact nomatch e
  ·injection e with e1 _
   subst e1
   cases v<;>rfl
theorem O3 (prog:Program)(w:World)(i:Int)(t:Tok):(dQ prog w).is (.inl i) (.int i t)=true:=N7 i t
theorem O4 (prog:Program)(w:World)(x:Str)(t:Tok):(dQ prog w).is (.inr x) (.str x t)=true:=N8 x t
inductive V where
 |non|bl (b:Bool)|int (i:Int)|str (x:Str)|byt (b:Array UInt8)|flt (b:UInt64)|ref (a:Addr)|ty (n:String)
 deriving DecidableEq
noncomputable def aQ:V->Value->Prop
 |.non,u=>u=Value.none
 |.bl b,u=>u=Value.bool b
 |.int i,u=>∃t,u=Value.int i t
 |.str x,u=>∃t,u=Value.str x t
 |.byt b,u=>∃t,u=Value.bytes b t
 |.flt b,u=>∃t,u=Value.float b t
 |.ref a,u=>u=Value.ref a
 |.ty n,u=>u=Value.type n
noncomputable abbrev aK:List V->List Value->Prop:=Paired aQ
theorem aK.length {xs:List V}{us:List Value}(r:aK xs us):xs.length=us.length:=Paired.length r
theorem aK.get:∀{xs:List V}{us:List Value}{i:Nat}{x:V},aK xs us->xs[i]? = some x->∃u,us[i]? = some u/\aQ x u
 |_,_,_,_,.nil,e=>by simp at e
 |_,_,0,_,.cons r _,e=>by simp at e;subst e;exact⟨_,rfl,r⟩
 |_,_,i+1,x,.cons _ t,e=>by
  obtain⟨u,h1,h2⟩:=aK.get (i:=i) (x:=x) t (by simpa using e)
  exact⟨u,by simpa using h1,h2⟩
theorem aK.set {x:V}{u:Value}(r:aQ x u):∀{xs:List V}{us:List Value} (i:Nat),aK xs us->aK (xs.set i x) (us.set i u)
 |_,_,_,.nil=>.nil
 |_,_,0,.cons _ t=>.cons r t
 |_,_,i+1,.cons q t=>.cons q (aK.set r i t)
theorem aK.append:∀{xs ys:List V}{us ws:List Value},aK xs us->aK ys ws->aK (xs++ys) (us++ws)
 |_,_,_,_,.nil,s=>s
 |_,_,_,_,.cons r t,s=>.cons r (aK.append t s)
theorem aK.take:∀{xs:List V}{us:List Value} (n:Nat),aK xs us->aK (xs.take n) (us.take n)
 |_,_,0,_=>.nil
 |_,_,_+1,.nil=>.nil
 |_,_,n+1,.cons r t=>.cons r (aK.take n t)
theorem aK.drop:∀{xs:List V}{us:List Value} (n:Nat),aK xs us->aK (xs.drop n) (us.drop n)
 |_,_,0,r=>r
 |_,_,_+1,.nil=>.nil
 |_,_,n+1,.cons _ t=>aK.drop n t
noncomputable def j6:Option V->Option Value->Prop
 |some v,some u=>aQ v u
 |none,none=>True
 |_,_=>False
noncomputable def KV {κ:Type}:List (κ×V)->List (κ×Value)->Prop:=Paired λ(p:κ×V) (q:κ×Value)=>p.1=q.1/\aQ p.2 q.2
noncomputable def kV:aH->V
 |.inl i=>.int i
 |.inr x=>.str x
inductive HO where
 |lst (xs:List V)
 |tup (xs:List V)
 |dK (kvs:List (aH×V))|dT (kvs:List (List aH×V))
 |set (S:Int->Bool) (n:Nat)
 |ins (C dx:Addr) (fs:List (Str×V))
 |own (x:Addr)
 |xd (fs:List (Str×V))
 |met (f x:Addr)
 |rng (lo hi:Int)
 |frz (o:Obj) (u:HO)
 |tbl (ps:Array Value)
 |ext (φ:Heap->Prop)
noncomputable abbrev Hp:=Addr->Option HO
noncomputable def upd (H:Hp)(a:Addr)(o:HO):Hp:=λb=>if b=a then some o else H b
theorem bB {H:Hp}{a:Addr}{o:HO}:upd H a o a=some o:=by unfold upd;rw[if_pos rfl]
theorem aN {H:Hp}{a b:Addr}{o:HO}(h:b≠a):upd H a o b=H b:=by unfold upd;rw[if_neg h]
theorem v8 {H:Hp}{a b:Addr}{o u:HO}(h:H a=some o)(h':H b=some u)(d:o≠u):a≠b:=by
 intro e;subst e;rw[h]at h';exact d (aL1 h')
theorem cG {H:Hp}{a b:Addr}{o:HO}(h:H a=some o)(h':H b=none):a≠b:=by
 intro e;subst e;rw[h]at h';cases h'
noncomputable def gS (h:Heap)(a:Addr):Prop:=∀o,h.get? a=some o->o.dict=none
theorem gS.new (h:Heap)(o:Obj)(d:o.dict=none)(s:o.isFreed=false:=by rfl):gS (h.push o) h.objs.size:=λu e=>by
 rw[aK1 h (o:=o) s]at e
 cases e;exact d
theorem gS.stay {h h':Heap}{a:Addr}{o:Obj}(n:gS h a)(e:h.get? a=some o)(e':h'.get? a=some o):gS h' a:=λu hu=>by
 rw[e']at hu;cases hu;exact n _ e
section
variable (P:Program)(w:World)
noncomputable def bM (H:Hp)(h:Heap)(a:Addr):HO->Prop
 |.lst xs=>xs.length<=sizeLine/\∃(its:List Value) (n:Nat),aK xs its/\h.get? a=some { cls:=.type "list",data:=.seq its.toArray n }
 |.tup xs=>xs.length<=sizeLine/\∃its:List Value,aK xs its/\IsTup h a its.toArray/\gS h a
 |.dK kvs=>kvs.length<=sizeLine/\(a==sysModules)=false/\∃vs,KV kvs vs/\h.DictOf (dQ P w) a vs
 |.dT kvs=>kvs.length<=sizeLine/\(a==sysModules)=false/\∃xs:List (List aH×Addr×Value),
   Paired (λ(p:List aH×V) (q:List aH×Addr×Value)=>p.1=q.1/\H q.2.1=some (.tup (p.1.map kV))/\aQ p.2 q.2.2) kvs xs/\
   ∃o es ep,h.get? a=some o/\o.ExactDict/\o.data = .dict es ep/\es.toList=xs.map (entryOfKey (tupleKind (dQ P w)))/\(xs.map (·.1)).Nodup
 |.set S n=>h.SetOf (intKind P w) a S n
 |.ins C dx fs=>H dx=some (.own a)/\fs.length<=1000/\dx≠a/\h.get? a=some (PySem.W.instObj C dx)/\
   ∃mA,h.Ns1 dx mA/\(∀f,j6 (fs.lookup f) (mA f))/\PySem.Within mA (fs.map (·.1))
 |.own _=>∃o,h.get? a=some o
 |.xd fs=>∃mA,h.Ns1 a mA/\∀f,j6 (fs.lookup f) (mA f)
 |.rng lo hi=>∃t u v,h.get? a=some { cls:=.type "range",data:=.fields #[.int lo t,.int hi u,.int 1 v] }
 |.frz o u=>h.get? a=some o/\bM H h a u
 |.tbl ps=>h.get? a=some { cls:=.none,data:=.fields ps }
 |.met f x=>h.get? a=some (PySem.W.methodObj (.ref f) (.ref x))
 |.ext φ=>φ h/\(∃o,h.get? a=some o)/\∀h1 h2:Heap,φ h1->(∀o,h1.get? a=some o->h2.get? a=some o)->φ h2
noncomputable def bE (H:Hp)(h:Heap):Prop:=∀a o,H a=some o->bM P w H h a o
end
section
variable {P:Program}{w:World}{H H':Hp}{h h':Heap}{a:Addr}{o:HO}
theorem bM.lt (x:bM P w H h a o):a<h.objs.size:=by
 cases o with
 |lst xs=>obtain⟨_,_,_,_,e⟩:=x;exact aJ3 e
 |tup xs=>obtain⟨_,_,_,p,_⟩:=x;exact p.lt
 |dK kvs=>obtain⟨_,_,_,_,o,_,_,e,_⟩:=x;exact aJ3 e
 |dT kvs=>obtain⟨_,_,_,_,o,_,_,e,_⟩:=x;exact aJ3 e
 |set S n=>obtain⟨o,_,_,_,e,_⟩:=x;exact aJ3 e
 |ins C dx fs=>obtain⟨_,_,_,e,_⟩:=x;exact aJ3 e
 |own y=>obtain⟨_,e⟩:=x;exact aJ3 e
 |xd fs=>obtain⟨_,⟨_,_,_,e,_⟩,_⟩:=x;exact aJ3 e
 |rng lo hi=>obtain⟨_,_,_,e⟩:=x;exact aJ3 e
 |frz ob u=>obtain⟨e,_⟩:=x;exact aJ3 e
 |tbl ps=>exact aJ3 (show h.get? a=some _ from x)
 |met f y=>exact aJ3 (show h.get? a=some _ from x)
 |ext φ=>obtain⟨_,⟨_,e⟩,_⟩:=x;exact aJ3 e
theorem Paired.mapP {α β:Type}{F G:α->β->Prop}:∀{l₁:List α}{l₂:List β},Paired F l₁ l₂->(∀a b,F a b->G a b)->Paired G l₁ l₂
 |_,_,.nil,_=>.nil
 |_,_,.cons r t,f=>.cons (f _ _ r) (Paired.mapP t f)
theorem bM.stay (x:bM P w H h a o)(k:∀b u,(b=a∨H b=some (.own a))->h.get? b=some u->h'.get? b=some u)(ho:∀b,H b=some (.own a)->H' b=some (.own a))(ht:∀b xs,H b=some (.tup xs)->H' b=some (.tup xs)):bM P w H' h' a o:=by
 induction o with
 |lst xs=>obtain⟨z,its,n,r,e⟩:=x;exact⟨z,its,n,r,k _ _ (.inl rfl) e⟩
 |tup xs=>obtain⟨z,its,r,⟨ob,e,c⟩,nd⟩:=x;exact⟨z,its,r,⟨ob,k _ _ (.inl rfl) e,c⟩,nd.stay e (k _ _ (.inl rfl) e)⟩
 |dK kvs=>obtain⟨z,y,vs,r,ob,es,ep,e,c⟩:=x;exact⟨z,y,vs,r,ob,es,ep,k _ _ (.inl rfl) e,c⟩
 |dT kvs=>
  obtain⟨z,y,xs,r,ob,es,ep,e,c⟩:=x
  exact⟨z,y,xs,Paired.mapP r λp q z=>⟨z.1,ht _ _ z.2.1,z.2.2⟩,ob,es,ep,k _ _ (.inl rfl) e,c⟩
 |set S n=>obtain⟨ob,es,ep,t,e,c⟩:=x;exact⟨ob,es,ep,t,k _ _ (.inl rfl) e,c⟩
 |ins C dx fs=>
  obtain⟨d,z,ne,e,mA,⟨od,es,ep,e2,c⟩,r⟩:=x
  exact⟨ho _ d,z,ne,k _ _ (.inl rfl) e,mA,⟨od,es,ep,k _ _ (.inr d) e2,c⟩,r⟩
 |own y=>obtain⟨ob,e⟩:=x;exact⟨ob,k _ _ (.inl rfl) e⟩
 |xd fs=>obtain⟨mA,⟨od,es,ep,e,c⟩,r⟩:=x;exact⟨mA,⟨od,es,ep,k _ _ (.inl rfl) e,c⟩,r⟩
 |rng lo hi=>obtain⟨t,u,v,e⟩:=x;exact⟨t,u,v,k _ _ (.inl rfl) e⟩
 |frz ob u ih=>obtain⟨e,q⟩:=x;exact⟨k _ _ (.inl rfl) e,ih q⟩
 |tbl ps=>
  have e:h.get? a=some { cls:=.none,data:=.fields ps }:=x
  show h'.get? a=some { cls:=.none,data:=.fields ps }
  exact k a _ (.inl rfl) e
 |met f y=>
  have e:h.get? a=some (PySem.W.methodObj (.ref f) (.ref y)):=x
  show h'.get? a=some (PySem.W.methodObj (.ref f) (.ref y))
  exact k a _ (.inl rfl) e
 |ext φ=>obtain⟨p,⟨o,e⟩,st⟩:=x;exact⟨st _ _ p λo q=>k _ _ (.inl rfl) q,⟨o,k _ _ (.inl rfl) e⟩,st⟩
theorem bE.lt (x:bE P w H h)(e:H a=some o):a<h.objs.size:=(x a o e).lt
theorem bE.fresh (x:bE P w H h)(e:h.objs.size<=a):H a=none:=by
 cases q:H a with
 |none=>rfl
 |some u=>exact absurd (aI9 (x.lt q) e) (aM4 _)
theorem bE.kept (x:bE P w H h)(k:∀b u,h.get? b=some u->h'.get? b=some u):bE P w H h':=λa o e=>
 (x a o e).stay (λb u _ q=>k b u q) (λ_ q=>q) λ_ _ q=>q
theorem bE.laid (x:bE P w H h)(k:∀b u,h.get? b=some u->h'.get? b=some u)(hp:h.objs.size<=a)(new:bM P w (upd H a o) h' a o):bE P w (upd H a o) h':=λb u e=>by
 have hn:=x.fresh hp
 by_cases hb:b=a
 ·subst hb;rw[bB]at e;cases e;exact new
 ·rw[aN hb]at e
  exact (x b u e).stay (λc v _ q=>k c v q) (λc q=>by rw[aN (cG q hn)];exact q) λc xs q=>by rw[aN (cG q hn)];exact q
end
noncomputable def Rd (H:Hp)(a:Addr)(u:HO):Prop:=H a=some u∨∃o,H a=some (.frz o u)
theorem Rd.ok {P:Program}{w:World}{H:Hp}{h:Heap}{a:Addr}{u:HO}(r:Rd H a u)(x:bE P w H h):bM P w H h a u:=by
 rcases r with r|⟨o,r⟩
 ·exact x a u r
 ·obtain⟨_,q⟩:=x a _ r
  exact q
noncomputable def lD:Option HO->Prop
 |some (.lst _)=>True
 |some (.dK _)=>True
 |some (.dT _)=>True
 |some (.set _ _)=>True
 |some (.ins _ _ _)=>True
 |some (.ext _)=>True
 |_=>False
section
variable {P:Program}{w:World}{H:Hp}{h h':Heap}{x e:Addr}{o':HO}
theorem bE.write (ok:bE P w H h)(mu:lD (H x))(he:e=x∨H e=some (.own x))(k:∀b u,b≠e->h.get? b=some u->h'.get? b=some u)(heo:∃u,h'.get? e=some u)(new:bM P w (upd H x o') h' x o'):bE P w (upd H x o') h':=λb u q=>by
 have nown:∀c y,H c=some (.own y)->c≠x:=λc y r z=>by subst z;rw[r]at mu;exact mu
 have ntup:∀c xs,H c=some (.tup xs)->c≠x:=λc xs r z=>by subst z;rw[r]at mu;exact mu
 by_cases hb:b=x
 ·subst hb;rw[bB]at q;cases q;exact new
 ·rw[aN hb]at q
  by_cases hbe:b=e
  ·have q':H b=some (.own x):=by
    rcases he with z|z
    ·exact absurd (hbe.trans z) hb
    ·rw[hbe];exact z
   rw[q]at q';cases q'
   obtain⟨v,hv⟩:=heo
   exact⟨v,by rw[hbe];exact hv⟩
  ·refine (ok b u q).stay (λc v hc r=>k c v ?_ r) (λc r=>by rw[aN (nown c b r)];exact r) λc xs r=>by rw[aN (ntup c xs r)];exact r
   rcases hc with rfl|hc
   ·exact hbe
   ·rintro rfl
    rcases he with z|z
    ·exact nown c b hc z
    ·rw[hc]at z;cases z;exact hb rfl
end
structure Un (fs ex:List Addr)(H H':Hp)(h h':Heap):Prop where
 keep:∀b o,h.get? b=some o->H b=none->b∉fs->b∉ex->h'.get? b=some o
 slot:∀b o,h.get? b=some o->H b=none->b∈fs->b∉ex->∃sl,h'.get? b=some { o with slots:=sl }
 free:∀b o,h.get? b=some o->H b=none->b∉ex->H' b=none
 there:∀b o,h.get? b=some o->b∉ex->∃o',h'.get? b=some o'
 tups:∀b xs,H b=some (.tup xs)->H' b=some (.tup xs)
 frzs:∀b o u,H b=some (.frz o u)->H' b=some (.frz o u)
 tbls:∀b ps,H b=some (.tbl ps)->∃more,H' b=some (.tbl (ps++more))
section
variable {fs fs' ex ex':List Addr}{H H1 H2:Hp}{h h1 h2 h':Heap}{a x e:Addr}{o:HO}
theorem Un.any (u:Un fs ex H H1 h h1){b:Addr}{ob:Obj}(q:h.get? b=some ob)(n:H b=none)(hx:b∉ex):∃sl,h1.get? b=some { ob with slots:=sl }:=by
 by_cases hb:b∈fs
 ·exact u.slot b ob q n hb hx
 ·exact⟨ob.slots,u.keep b ob q n hb hx⟩
theorem Un.kept (k:∀b u,h.get? b=some u->h'.get? b=some u):Un fs ex H H h h':=
 ⟨λb ob q _ _ _=>k b ob q,λb ob q _ _ _=>⟨ob.slots,k b ob q⟩,λ_ _ _ n _=>n,λb ob q _=>⟨ob,k b ob q⟩,λ_ _ q=>q,λ_ _ _ q=>q,λ_ ps q=>⟨#[],by rw[q];simp⟩⟩
theorem Un.refl:Un fs ex H H h h:=Un.kept λ_ _ q=>q
theorem Un.laid (k:∀b u,h.get? b=some u->h'.get? b=some u)(hp:h.objs.size<=a)(hn:H a=none):Un fs ex H (upd H a o) h h' where
 keep:=λb u q _ _ _=>k b u q
 slot:=λb u q _ _ _=>⟨u.slots,k b u q⟩
 free:=λb u q n _=>by rw[aN (aL4 (aI9 (aJ3 q) hp))];exact n
 there:=λb u q _=>⟨u,k b u q⟩
 tups:=λb xs q=>by rw[aN (cG q hn)];exact q
 frzs:=λb u xs q=>by rw[aN (cG q hn)];exact q
 tbls:=λb ps q=>⟨#[],by rw[aN (cG q hn),q];simp⟩
theorem Un.write (mu:lD (H x))(he:e=x∨H e=some (.own x))(k:∀b u,b≠e->h.get? b=some u->h'.get? b=some u)(heo:∃u,h'.get? e=some u):Un fs ex H (upd H x o) h h':=by
 have hx:∀b,H b=none->b≠x:=λb n z=>by subst z;rw[n]at mu;exact mu
 have hb:∀b,H b=none->b≠e:=λb n z=>by
  subst z
  rcases he with r|r
  ·exact hx b n r
  ·rw[n]at r;cases r
 have hm:∀b u,H b=some u->¬lD (some u)->b≠x:=λb u q nm z=>by subst z;rw[q]at mu;exact nm mu
 refine⟨λb u q n _ _=>k b u (hb b n) q,λb u q n _ _=>⟨u.slots,k b u (hb b n) q⟩,λb u q n _=>by rw[aN (hx b n)];exact n,λb u q _=>?_,
  λb xs q=>by rw[aN (hm b _ q λz=>z)];exact q,λb u xs q=>by rw[aN (hm b _ q λz=>z)];exact q,λb ps q=>⟨#[],by rw[aN (hm b _ q λz=>z),q];simp⟩⟩
 by_cases hbe:b=e
 ·subst hbe;exact heo
 ·exact⟨u,k b u hbe q⟩
end
noncomputable def nA (h:Heap)(H:Hp):List Addr:=(List.range h.objs.size).filter λa=>(H a).isSome
noncomputable def gT (h:Heap)(H:Hp):Heap:=PySem.W.hideAll h (nA h H)
theorem O5 (h:Heap)(H:Hp):(gT h H).objs.size=h.objs.size:=PySem.W.hideAll_size _ _
theorem O6 {h:Heap}{H:Hp}{b:Addr}{o:Obj}(e:h.get? b=some o)(n:H b=none):(gT h H).get? b=some o:=
 PySem.W.hideAll_get _ e λhm=>by
  have q:(H b).isSome=true:=(List.mem_filter.mp hm).2
  rw[n]at q;simp at q
theorem O7 {h:Heap}{H:Hp}{b:Addr}{o:Obj}(e:(gT h H).get? b=some o):h.get? b=some o/\H b=none:=by
 have e':h.get? b=some o:=PySem.W.of_hideAll (nA h H) e
 refine⟨e',?_⟩
 cases q:H b with
 |none=>rfl
 |some x=>
  have hm:b∈nA h H:=List.mem_filter.mpr ⟨List.mem_range.mpr (aJ3 e'),by simp[q]⟩
  have z:(gT h H).get? b=none:=PySem.W.hideAll_none (nA h H) hm
  rw[z]at e;cases e
noncomputable def O8 (g h:Heap)(L:Addr):List (Addr×Obj):=(List.range h.objs.size).filterMap λa=>if a=L∨(g.get? a).isSome=true then none else (h.get? a).map λo=>(a,o)
noncomputable def cH (g h:Heap)(L d:Addr):List (Addr×Obj):=(O8 g h L).filter λp=>decide (p.1≠d)
structure Mod (K:ac)(mg:Str->Option Value)(base:Heap):Prop where
 kin:K.In base
 glob:base.Ns mainGlobals mg
 blt:∃mb,base.Ns builtinsNs mb/\∀x:Str,x≠"__name__"->mb x=bootBuiltins x
 nolimit:base.NoLimit
structure Cx where
 prog:Program
 w:World
 K:ac
 mg:Str->Option Value
 base:Heap
 A:Around
 N:List Str
 s₀:Shared
 H₀:Hp
 env:Env
 outer:List Env
 stack:List Env
 ex:List Addr
 fn:Str->Bool
 calm:Bool
 pn:List (Addr×Obj)
 xe:Value->Shared->Prop
noncomputable def aZ (l:List Env):List Addr:=l.filterMap (·.frame)
noncomputable abbrev Cx.fs (X:Cx):List Addr:=aZ X.outer
noncomputable def fI (sc:Scope)(x:Str):Prop:=sc.names.lookup x=some .local∨sc.names.lookup x=some .cell∨sc.names.lookup x=some .free
noncomputable def fJ (sc:Scope)(x:Str):Prop:=sc.names.lookup x=some .local∨sc.names.lookup x=some .cell
noncomputable def O9 (env:Env)(h:Heap)(m:Str->Option Value)(x:Str)(u:Value):Prop:=
 (env.kindOf x=some .local/\m x=some u)∨((env.kindOf x=some .cell∨env.kindOf x=some .free)/\∃c,env.cells.lookup x=some c/\h.IsCell c (some u))
structure Cx.Ok (X:Cx):Prop where
 mod:Mod X.K X.mg X.base
 kind:X.env.scope.kind = .function
 glob:X.env.globals=mainGlobals
 blt:X.env.builtins=builtinsNs
 above:X.s₀.heap.objs.size<=X.env.locals
 inj:∀x y c,X.env.cells.lookup x=some c->X.env.cells.lookup y=some c->x=y
 has:∀x,(X.env.kindOf x=some .cell∨X.env.kindOf x=some .free)->∃c,X.env.cells.lookup x=some c
 cab:∀x c,X.fn x=true->X.env.cells.lookup x=some c->X.s₀.heap.objs.size<=c
 hd:X.calm=true->X.A.handled=none
 frames:X.A.frames=some X.stack
 stk:X.stack=X.outer∨(X.stack=X.env::X.outer/\X.env.frame=some X.env.locals)
 exf:∀b∈X.ex,b≠X.env.locals/\∀x c,X.env.cells.lookup x=some c->c≠b
 bs:∀b o,X.base.get? b=some o->X.s₀.heap.get? b=some o/\X.H₀ b=none
 bsz:X.base.objs.size<=X.s₀.heap.objs.size
 noex:∀b o,X.base.get? b=some o->b∉X.ex
 exfs:∀b∈X.ex,b∉X.fs
 funs:X.s₀.heap.FunFrames X.base X.outer
 frf:∀b∈X.fs,X.H₀ b=none
structure a5 (X:Cx)(pins:List (Addr×Obj))(σ:List (Option V))(H:Hp)(s:Shared):Prop where
 ok:X.Ok
 os:s.os=X.s₀.os
 bare:AllBare s.gens
 base:Un X.fs X.ex X.H₀ H X.s₀.heap s.heap
 loc:∃m,s.heap.Ns X.env.locals m/\∀(i:Nat) (x:Str) (v:V),X.N[i]? = some x->σ[i]? = some (some v)->fI X.env.scope x->∃u,aQ v u/\O9 X.env s.heap m x u
 cell:∀x c,X.env.cells.lookup x=some c->∃v,s.heap.IsCell c v
 free:H X.env.locals=none
 freeC:∀x c,X.env.cells.lookup x=some c->H c=none
 pin:∀p∈X.pn++pins,s.heap.get? p.1=some p.2/\H p.1=none/\p.1≠X.env.locals/\p.1∉X.fs/\∀v,p.2.data≠.cell v
 hok:bE X.prog X.w H s.heap
 len:σ.length=X.N.length
section
variable {X:Cx}{pins:List (Addr×Obj)}{σ:List (Option V)}{H H':Hp}{s:Shared}{h':Heap}
theorem Cx.Ok.nofr (ok:X.Ok){b:Addr}{o:Obj}(e:X.base.get? b=some o):b∉X.fs:=λhb=>by
 have:=(ok.funs.mem hb).1
 rw[e]at this;cases this
theorem a5.bs (I:a5 X pins σ H s):∀b o,X.base.get? b=some o->s.heap.get? b=some o/\H b=none:=λb o e=>
 ⟨I.base.keep b o (I.ok.bs b o e).1 (I.ok.bs b o e).2 (I.ok.nofr e) (I.ok.noex b o e),I.base.free b o (I.ok.bs b o e).1 (I.ok.bs b o e).2 (I.ok.noex b o e)⟩
theorem a5.bk (I:a5 X pins σ H s):∀b o,X.base.get? b=some o->s.heap.get? b=some o:=λb o e=>(I.bs b o e).1
theorem a5.mod (I:a5 X pins σ H s):Mod X.K X.mg X.base:=I.ok.mod
theorem a5.kIn (I:a5 X pins σ H s):X.K.In s.heap:=I.ok.mod.kin.keeps I.bk
theorem a5.fr (I:a5 X pins σ H s):∃m,Fr X.base X.env.locals s.heap m:=
 let ⟨m,hn,_⟩:=I.loc
 ⟨m,hn,I.bk,aN2 I.ok.bsz I.ok.above⟩
theorem a5.lt (I:a5 X pins σ H s):X.env.locals<s.heap.objs.size:=let ⟨_,hn,_⟩:=I.loc;hn.lt
theorem a5.sz (I:a5 X pins σ H s):X.s₀.heap.objs.size<=s.heap.objs.size:=aN2 I.ok.above (aS6 I.lt)
theorem a5.nofs (I:a5 X pins σ H s){a:Addr}(h:s.heap.objs.size<=a):a∉X.fs:=λhb=>by
 obtain⟨_,o,ho,_⟩:=I.ok.funs.mem hb
 exact absurd (aI9 (aJ3 ho) (aN2 I.sz h)) (aM4 _)
theorem a5.cne (I:a5 X pins σ H s):∀x c,X.env.cells.lookup x=some c->c≠X.env.locals:=λx c e z=>by
 obtain⟨v,o,ho,hd⟩:=I.cell x c e
 obtain⟨m,⟨o',es,ep,ho',hd',_⟩,_⟩:=I.loc
 rw[z,ho']at ho;cases ho;rw[hd']at hd;cases hd
theorem a5.funs (I:a5 X pins σ H s):s.heap.FunFrames X.base X.outer:=by
 have all:∀(l:List Env),(∀b∈aZ l,b∈X.fs)->X.s₀.heap.FunFrames X.base l->s.heap.FunFrames X.base l:=by
  intro l
  induction l with
  |nil=>intro _ _;trivial
  |cons env r ih=>
   intro hs hl
   obtain⟨hk,⟨L,o,hf,hn,ho,hd⟩,hr⟩:=hl
   have hL:L∈X.fs:=hs L (by unfold aZ;rw[List.filterMap_cons,hf];exact aK0)
   obtain⟨sl,e⟩:=I.base.slot L o ho (I.ok.frf L hL) hL λz=>I.ok.exfs L z hL
   exact⟨hk,⟨L,_,hf,hn,e,hd⟩,ih (λb hb=>hs b (by unfold aZ;rw[List.filterMap_cons,hf];exact aK2 _ hb)) hr⟩
 exact all X.outer (λ_ hb=>hb) I.ok.funs
theorem a5.stack (I:a5 X pins σ H s):s.heap.FunFrames X.base X.stack:=by
 rcases I.ok.stk with e|⟨e,hf⟩
 ·rw[e];exact I.funs
 ·rw[e]
  obtain⟨m,hn,_⟩:=I.loc
  refine .cons (by rw[I.ok.kind];decide) hf hn ?_ I.funs
  exact Heap.get?_none_of_le (aN2 I.ok.bsz I.ok.above)
theorem a5.stkSub (I:a5 X pins σ H s):∀b∈aZ X.stack,b∈X.env.locals::X.fs:=λb hb=>by
 rcases I.ok.stk with e|⟨e,hf⟩
 ·rw[e]at hb;exact aK2 _ hb
 ·rw[e]at hb
  unfold aZ at hb
  rw[List.filterMap_cons,hf]at hb
  exact hb
theorem a5.stkFree (I:a5 X pins σ H s):∀b∈aZ X.stack,H b=none:=λb hb=>by
 rcases aI5.mp (I.stkSub b hb) with e|hb
 ·rw[e];exact I.free
 ·obtain⟨_,o,ho,_⟩:=I.ok.funs.mem hb
  exact I.base.free b o ho (I.ok.frf b hb) λz=>I.ok.exfs b z hb
theorem a5.step {g':Array GenState}{t':Nat}{d':Drawn}{ch:List Addr}(I:a5 X pins σ H s)(hch:∀b∈ch,(b∈X.ex∨X.s₀.heap.objs.size<=b)/\b≠X.env.locals/\(∀x c,X.env.cells.lookup x=some c->c≠b)/\∀p∈X.pn++pins,p.1≠b)(keep:∀b o,b≠X.env.locals->b∉X.fs->b∉ch->s.heap.get? b=some o->H b=none->h'.get? b=some o)(slot:∀b o,b≠X.env.locals->b∈X.fs->b∉ch->s.heap.get? b=some o->H b=none->∃sl,h'.get? b=some { o with slots:=sl })(free:∀b o,b∉ch->s.heap.get? b=some o->H b=none->H' b=none)(there:∀b o,b∉ch->s.heap.get? b=some o->∃o',h'.get? b=some o')(tups:∀b xs,H b=some (.tup xs)->H' b=some (.tup xs))(frzs:∀b o u,H b=some (.frz o u)->H' b=some (.frz o u))(tbls:∀b ps,H b=some (.tbl ps)->∃more,H' b=some (.tbl (ps++more)))(ns:∀m,s.heap.Ns X.env.locals m->h'.Ns X.env.locals m)(hok:bE X.prog X.w H' h')(hg:AllBare g') :
  a5 X pins σ H' { s with heap:=h',gens:=g',drawn:=d',toks:=t' }:=by
 have neL:∀b o,X.s₀.heap.get? b=some o->b≠X.env.locals:=λb o e=>aL4 (aI9 (aJ3 e) I.ok.above)
 have neC:∀b o,X.s₀.heap.get? b=some o->b∉X.ex->b∉ch:=λb o e hx hb=>by
  rcases (hch b hb).1 with z|z
  ·exact hx z
  ·exact absurd (aI9 (aJ3 e) z) (aM4 _)
 have cellK:∀x c,X.env.cells.lookup x=some c->∀v,s.heap.IsCell c v->h'.IsCell c v:=λx c e v ⟨o,ho,hd⟩=>by
  have nch:c∉ch:=λz=>(hch c z).2.2.1 x c e rfl
  by_cases hc:c∈X.fs
  ·obtain⟨sl,q⟩:=slot c o (I.cne x c e) hc nch ho (I.freeC x c e)
   exact⟨_,q,hd⟩
  ·exact⟨o,keep c o (I.cne x c e) hc nch ho (I.freeC x c e),hd⟩
 refine⟨I.ok,I.os,hg,⟨λb o e n hb hx=>?_,λb o e n hb hx=>?_,λb o e n hx=>?_,λb o e hx=>?_,λb xs e=>tups b xs (I.base.tups b xs e),λb o xs e=>frzs b o xs (I.base.frzs b o xs e),λb ps e=>?_⟩,?_,λx c e=>?_,?_,λx c e=>?_,λp hp=>?_,hok,I.len⟩
 ·exact keep b o (neL b o e) hb (neC b o e hx) (I.base.keep b o e n hb hx) (I.base.free b o e n hx)
 ·obtain⟨sl,e1⟩:=I.base.slot b o e n hb hx
  obtain⟨sl',e2⟩:=slot b _ (neL b o e) hb (neC b o e hx) e1 (I.base.free b o e n hx)
  exact⟨sl',e2⟩
 ·obtain⟨o',e1⟩:=I.base.there b o e hx
  exact free b o' (neC b o e hx) e1 (I.base.free b o e n hx)
 ·obtain⟨o',e1⟩:=I.base.there b o e hx
  exact there b o' (neC b o e hx) e1
 ·obtain⟨m1,e1⟩:=I.base.tbls b ps e
  obtain⟨m2,e2⟩:=tbls b _ e1
  exact⟨m1++m2,by rw[e2,Array.append_assoc]⟩
 ·obtain⟨m,hn,hl⟩:=I.loc
  refine⟨m,ns m hn,λi x v e1 e2 e3=>?_⟩
  obtain⟨u,r,l⟩:=hl i x v e1 e2 e3
  refine⟨u,r,?_⟩
  rcases l with l|⟨k,c,e,z⟩
  ·exact .inl l
  ·exact .inr ⟨k,c,e,cellK x c e _ z⟩
 ·obtain⟨v,z⟩:=I.cell x c e
  exact⟨v,cellK x c e v z⟩
 ·obtain⟨m,⟨o,_,_,ho,_⟩,_⟩:=I.loc
  exact free _ o (λz=>(hch _ z).2.1 rfl) ho I.free
 ·obtain⟨v,o,ho,hd⟩:=I.cell x c e
  exact free c o (λz=>(hch c z).2.2.1 x c e rfl) ho (I.freeC x c e)
 ·obtain⟨e,n,ne,nf,d⟩:=I.pin p hp
  have nch:p.1∉ch:=λz=>(hch p.1 z).2.2.2 p hp rfl
  exact⟨keep p.1 p.2 ne nf nch e n,free p.1 p.2 nch e n,ne,nf,d⟩
theorem a5.un {t':Nat}(I:a5 X pins σ H s)(u:Un X.fs [] H H' s.heap h')(hok:bE X.prog X.w H' h'):a5 X pins σ H' { s with heap:=h',toks:=t' }:=by
 obtain⟨m,⟨o,es,ep,ho,r⟩,_⟩:=id I.loc
 obtain⟨sl,hL⟩:=u.any ho I.free (by simp)
 exact I.step (g':=s.gens) (d':=s.drawn) (ch:=[]) (λ_ z=>nomatch z) (λb o _ hb _ e n=>u.keep b o e n hb (by simp)) (λb o _ hb _ e n=>u.slot b o e n hb (by simp)) (λb o _ e n=>u.free b o e n (by simp)) (λb o _ e=>u.there b o e (by simp)) u.tups u.frzs u.tbls (λm' hm=>by
  obtain⟨o',es',ep',ho',r'⟩:=hm
  rw[ho]at ho';cases ho'
  exact⟨_,es',ep',hL,r'⟩) hok I.bare
theorem a5.call {g':Array GenState}{t':Nat}{d':Drawn}{ch:List Addr}(I:a5 X pins σ H s)(u:Un (aZ X.stack) ch H H' s.heap h')(hok:bE X.prog X.w H' h')(hg:AllBare g')(hch:∀b∈ch,(b∈X.ex∨X.s₀.heap.objs.size<=b)/\b≠X.env.locals/\(∀x c,X.env.cells.lookup x=some c->c≠b)/\∀p∈X.pn++pins,p.1≠b) :
  a5 X pins σ H' { s with heap:=h',gens:=g',drawn:=d',toks:=t' }:=by
 obtain⟨m,⟨o,es,ep,ho,r⟩,_⟩:=id I.loc
 obtain⟨sl,hL⟩:=u.any ho I.free λz=>(hch _ z).2.1 rfl
 exact I.step (ch:=ch) hch (λb o hL hb hc e n=>u.keep b o e n (λz=>(aI5.mp (I.stkSub b z)).elim hL hb) hc) (λb o _ _ hc e n=>u.any e n hc) (λb o hc e n=>u.free b o e n hc) (λb o hc e=>u.there b o e hc) u.tups u.frzs u.tbls (λm' hm=>by
  obtain⟨o',es',ep',ho',r'⟩:=hm
  rw[ho]at ho';cases ho'
  exact⟨_,es',ep',hL,r'⟩) hok hg
theorem a5.turned {t':Nat}{it:Addr}(I:a5 X pins σ H s)(k:∀b o,b≠it->s.heap.get? b=some o->h'.get? b=some o)(hn:H it=none)(hL:it≠X.env.locals)(h1:it∈X.ex∨X.s₀.heap.objs.size<=it)(h2:∀x c,X.env.cells.lookup x=some c->c≠it)(h3:∀p∈X.pn++pins,p.1≠it):a5 X pins σ H { s with heap:=h',toks:=t' }:=by
 have nit:∀b u,H b=some u->b≠it:=λb u e z=>by rw[z,hn]at e;cases e
 refine I.step (g':=s.gens) (d':=s.drawn) (ch:=[it]) (λb hb=>?_) (λb o _ _ hc e _=>k b o (λz=>hc (by simp[z])) e) (λb o _ _ hc e _=>⟨o.slots,k b o (λz=>hc (by simp[z])) e⟩) (λ_ _ _ _ n=>n)
  (λb o hc e=>⟨o,k b o (λz=>hc (by simp[z])) e⟩) (λ_ _ e=>e) (λ_ _ _ e=>e) (λb ps e=>⟨#[],by rw[e];simp⟩) (λm hm=>?_) (λb u e=>?_) I.bare
 ·have e:b=it:=by simpa using hb
  subst e
  exact⟨h1,hL,h2,h3⟩
 ·obtain⟨o,es,ep,ho,r⟩:=hm
  exact⟨o,es,ep,k _ o (Ne.symm hL) ho,r⟩
 ·refine (I.hok b u e).stay (λc v hc q=>k c v ?_ q) (λ_ q=>q) λ_ _ q=>q
  rcases hc with z|z
  ·rw[z];exact nit b u e
  ·exact nit c _ z
theorem a5.tok (I:a5 X pins σ H s)(t:Nat):a5 X pins σ H { s with toks:=t }:=I.un (h':=s.heap) (t':=t) Un.refl I.hok
theorem a5.kept {t':Nat}(I:a5 X pins σ H s)(k:∀b u,s.heap.get? b=some u->h'.get? b=some u):a5 X pins σ H { s with heap:=h',toks:=t' }:=I.un (Un.kept k) (I.hok.kept k)
theorem a5.laid {a:Addr}{o:HO}{t':Nat}(I:a5 X pins σ H s)(k:∀b u,s.heap.get? b=some u->h'.get? b=some u)(hp:s.heap.objs.size<=a)(new:bM X.prog X.w (upd H a o) h' a o) :
  a5 X pins σ (upd H a o) { s with heap:=h',toks:=t' }:=I.un (Un.laid k hp (I.hok.fresh hp)) (I.hok.laid k hp new)
theorem a5.write {x e:Addr}{o:HO}{t':Nat}(I:a5 X pins σ H s)(mu:lD (H x))(he:e=x∨H e=some (.own x))(k:∀b u,b≠e->s.heap.get? b=some u->h'.get? b=some u)(heo:∃u,h'.get? e=some u)(new:bM X.prog X.w (upd H x o) h' x o):a5 X pins σ (upd H x o) { s with heap:=h',toks:=t' }:=I.un (Un.write mu he k heo) (I.hok.write mu he k heo new)
theorem a5.weak {σ':List (Option V)}(I:a5 X pins σ H s)(hl:σ'.length=σ.length)(w:∀(i:Nat) v,σ'[i]? = some (some v)->σ[i]? = some (some v)):a5 X pins σ' H s:=
 ⟨I.ok,I.os,I.bare,I.base,let ⟨m,hn,hl'⟩:=I.loc;⟨m,hn,λi x v e1 e2 e3=>hl' i x v e1 (w i v e2) e3⟩,I.cell,I.free,I.freeC,I.pin,I.hok,hl.trans I.len⟩
theorem a5.pins_of {pins':List (Addr×Obj)}(I:a5 X pins σ H s)(h:∀p∈pins',s.heap.get? p.1=some p.2/\H p.1=none/\p.1≠X.env.locals/\p.1∉X.fs/\∀v,p.2.data≠.cell v):a5 X pins' σ H s:=
 ⟨I.ok,I.os,I.bare,I.base,I.loc,I.cell,I.free,I.freeC,λp hp=>(aP6.mp hp).elim (λz=>I.pin p (aV0 _ z)) (h p),I.hok,I.len⟩
theorem pV {N:List Str}(hN:N.Nodup){i j:Nat}{x:Str}(a:N[i]? = some x)(b:N[j]? = some x):i=j:=by
 obtain⟨h1,e1⟩:=aK3.mp a
 obtain⟨h2,e2⟩:=aK3.mp b
 exact (List.getElem_inj hN).mp (e1.trans e2.symm)
theorem pW {M:Model}{A:Around}{E:Value->Shared->Prop}{i:Nat}{x:Str}{v:V}{u:Value}{Q:Unit->Shared->Prop}(I:a5 X pins σ H s)(hN:X.N.Nodup)(hi:X.N[i]? = some x)(hx:fJ X.env.scope x)(r:aQ v u)(h:∀s',a5 X pins (σ.set i (some v)) H s'->(∃a,Heap.SameBut a s.heap s'.heap/\(a=X.env.locals∨X.env.cells.lookup x=some a))->Q () s')(hf:X.fn x=true∨X.env.scope.names.lookup x=some .local:=by first|exact .inl rfl|exact .inr rfl|assumption):wpAny M A (storeName X.env x u) Q E s:=by
 obtain⟨m,hn,hl⟩:=id I.loc
 have hcls:(X.env.scope.kind==.class||(X.env.scope.kind==.module&&X.env.locals != X.env.globals))=false:=by rw[I.ok.kind];rfl
 have hiσ:i<σ.length:=by rw[I.len];exact (aK3.mp hi).1
 have cne:=I.cne
 have tracked:∀{a:Addr}{h':Heap},(∃o,s.heap.get? a=some o/\H a=none)->Heap.SameBut a s.heap h'->bE X.prog X.w H h':=λ{a h'} ha hs b ob e=>by
  obtain⟨_,_,hfree⟩:=ha
  refine (I.hok b ob e).stay (λc w' hc q=>(hs.2 c ?_).trans q) (λ_ q=>q) λ_ _ q=>q
  rintro rfl
  rcases hc with rfl|hc
  ·rw[hfree]at e;cases e
  ·rw[hfree]at hc;cases hc
 rcases hx with hk|hk
 ·refine wpAny_storeName_local hk hn (λh' hn' hs=>?_) hcls
  obtain⟨oL,_,_,hoL,_⟩:=id hn
  refine h _ ⟨I.ok,I.os,I.bare,⟨λb o e n hb hx=>?_,λb o e n hb hx=>?_,I.base.free,λb o e hx=>?_,I.base.tups,I.base.frzs,I.base.tbls⟩,⟨_,hn',λj y v' e1 e2 e3=>?_⟩,λy c e=>?_,I.free,I.freeC,λp hp=>?_,tracked ⟨oL,hoL,I.free⟩ hs,by simpa using I.len⟩ ⟨_,hs,.inl rfl⟩
  ·exact (hs.2 b (aL4 (aI9 (aJ3 e) I.ok.above))).trans (I.base.keep b o e n hb hx)
  ·obtain⟨sl,e1⟩:=I.base.slot b o e n hb hx
   exact⟨sl,(hs.2 b (aL4 (aI9 (aJ3 e) I.ok.above))).trans e1⟩
  ·obtain⟨o',e1⟩:=I.base.there b o e hx
   exact⟨o',(hs.2 b (aL4 (aI9 (aJ3 e) I.ok.above))).trans e1⟩
  ·by_cases hj:j=i
   ·subst hj
    rw[hi]at e1;cases e1
    rw[aP4 hiσ]at e2
    cases e2
    exact⟨u,r,.inl ⟨hk,by simp⟩⟩
   ·rw[aK8 (Ne.symm hj)]at e2
    obtain⟨u',r',q⟩:=hl j y v' e1 e2 e3
    refine⟨u',r',?_⟩
    rcases q with⟨k,e⟩|⟨k,c,e,z⟩
    ·refine .inl ⟨k,?_⟩
     have:y≠x:=λe=>hj (pV hN e1 (e▸hi))
     simp[this,e]
    ·exact .inr ⟨k,c,e,z.sameBut hs (cne y c e)⟩
  ·obtain⟨w',z⟩:=I.cell y c e
   exact⟨w',z.sameBut hs (cne y c e)⟩
  ·obtain⟨e,n,ne,nf,d⟩:=I.pin p hp
   exact⟨(hs.2 p.1 ne).trans e,n,ne,nf,d⟩
 ·have hfn:X.fn x=true:=by
   rcases hf with z|z
   ·exact z
   ·rw[z]at hk;cases hk
  obtain⟨c,hc⟩:=I.ok.has x (.inl hk)
  obtain⟨w',z⟩:=I.cell x c hc
  refine wpAny_storeName_cell I.ok.kind hk hc z (λh' hc' hs=>?_)
  obtain⟨oc,hoc,hocd⟩:=id z
  refine h { s with heap:=h' } ⟨I.ok,I.os,I.bare,⟨λb o e n hb hx=>?_,λb o e n hb hx=>?_,I.base.free,λb o e hx=>?_,I.base.tups,I.base.frzs,I.base.tbls⟩,⟨m,hn.sameBut hs (Ne.symm (cne x c hc)),λj y v' e1 e2 e3=>?_⟩,λy c' e=>?_,I.free,I.freeC,λp hp=>?_,tracked ⟨oc,hoc,I.freeC x c hc⟩ hs,by simpa using I.len⟩ ⟨c,hs,.inr hc⟩
  ·exact (hs.2 b (aL4 (aI9 (aJ3 e) (I.ok.cab x c hfn hc)))).trans (I.base.keep b o e n hb hx)
  ·obtain⟨sl,e1⟩:=I.base.slot b o e n hb hx
   exact⟨sl,(hs.2 b (aL4 (aI9 (aJ3 e) (I.ok.cab x c hfn hc)))).trans e1⟩
  ·obtain⟨o',e1⟩:=I.base.there b o e hx
   exact⟨o',(hs.2 b (aL4 (aI9 (aJ3 e) (I.ok.cab x c hfn hc)))).trans e1⟩
  ·by_cases hj:j=i
   ·subst hj
    rw[hi]at e1;cases e1
    rw[aP4 hiσ]at e2
    cases e2
    exact⟨u,r,.inr ⟨.inl hk,c,hc,hc'⟩⟩
   ·rw[aK8 (Ne.symm hj)]at e2
    obtain⟨u',r',q⟩:=hl j y v' e1 e2 e3
    refine⟨u',r',?_⟩
    rcases q with q|⟨k,c',e,z'⟩
    ·exact .inl q
    ·refine .inr ⟨k,c',e,z'.sameBut hs ?_⟩
     rintro rfl
     exact hj (pV hN e1 (I.ok.inj _ _ _ e hc▸hi))
  ·by_cases hcc:c'=c
   ·subst hcc;exact⟨_,hc'⟩
   ·obtain⟨w2,z2⟩:=I.cell y c' e
    exact⟨w2,z2.sameBut hs hcc⟩
  ·obtain⟨e,n,ne,nf,d⟩:=I.pin p hp
   refine⟨(hs.2 p.1 ?_).trans e,n,ne,nf,d⟩
   intro q
   rw[q,hoc]at e
   have q':oc=p.2:=aL1 e
   exact d w' (by rw[<- q'];exact hocd)
theorem pX {M:Model}{A:Around}{E:Value->Shared->Prop}{i:Nat}{x:Str}{v:V}{u:Value}{Q:Unit->Shared->Prop}(I:a5 X pins σ H s)(hN:X.N.Nodup)(hi:X.N[i]? = some x)(hx:fJ X.env.scope x)(r:aQ v u)(h:∀s',a5 X pins (σ.set i (some v)) H s'->Q () s')(hf:X.fn x=true∨X.env.scope.names.lookup x=some .local:=by first|exact .inl rfl|exact .inr rfl|assumption):wpAny M A (storeName X.env x u) Q E s:=
 pW I hN hi hx r (λs' I' _=>h s' I') hf
theorem a5.call' {s':Shared}{ch:List Addr}(I:a5 X pins σ H s)(ho:s'.os=s.os)(u:Un (aZ X.stack) ch H H' s.heap s'.heap)(hok:bE X.prog X.w H' s'.heap)(hg:AllBare s'.gens)(hch:∀b∈ch,(b∈X.ex∨X.s₀.heap.objs.size<=b)/\b≠X.env.locals/\(∀x c,X.env.cells.lookup x=some c->c≠b)/\∀p∈X.pn++pins,p.1≠b):a5 X pins σ H' s':=by
 obtain⟨h',g',d',t',o'⟩:=s'
 have e:o'=s.os:=ho
 subst e
 exact I.call (g':=g') (t':=t') (d':=d') u hok hg hch
end
noncomputable abbrev XK:=Value->Option Addr->Hp->Prop
noncomputable abbrev St:=List (Option V)
noncomputable abbrev VK:=V->Hp->Prop
noncomputable abbrev TE:=St->Hp->VK->Prop
noncomputable abbrev TT:=St->Hp->(Bool->Hp->Prop)->Prop
noncomputable abbrev TA:=St->Hp->(List V->Hp->Prop)->Prop
structure cI where
 nx:St->Hp->Prop
 rt:VK
 bk:St->Hp->Prop:=λ_ _=>False
 ct:St->Hp->Prop:=λ_ _=>False
noncomputable abbrev TS:=cI->St->Hp->Prop
noncomputable def EP (X:Cx)(pins:List (Addr×Obj))(σ:St)(Q:VK)(u:Value)(s':Shared):Prop:=∃v H',a5 X pins σ H' s'/\aQ v u/\Q v H'
noncomputable def TP (X:Cx)(pins:List (Addr×Obj))(σ:St)(Q:Bool->Hp->Prop)(b:Bool)(s':Shared):Prop:=∃H',a5 X pins σ H' s'/\Q b H'
noncomputable def AP (X:Cx)(pins:List (Addr×Obj))(σ:St)(Q:List V->Hp->Prop)(us:List Value)(s':Shared):Prop:=∃vs H',a5 X pins σ H' s'/\aK vs us/\Q vs H'
noncomputable def SP (X:Cx)(pins:List (Addr×Obj))(D:cI)(f:Flow)(s':Shared):Prop:=
 match f with
 |.next=>∃σ' H',a5 X pins σ' H' s'/\D.nx σ' H'
 |.brk=>∃σ' H',a5 X pins σ' H' s'/\D.bk σ' H'
 |.cont=>∃σ' H',a5 X pins σ' H' s'/\D.ct σ' H'
 |.ret u=>∃v σ' H',a5 X pins σ' H' s'/\aQ v u/\D.rt v H'
noncomputable def PE (X:Cx)(e:Expr)(t:TE):Prop:=
 ∀(pins:List (Addr×Obj)) (s:Shared) (σ:St) (H:Hp) (Q:VK),a5 X pins σ H s->t σ H Q->wpAny (model X.prog X.w) X.A (eval e X.env) (EP X pins σ Q) X.xe s
noncomputable def PT (X:Cx)(e:Expr)(t:TT):Prop:=
 ∀(pins:List (Addr×Obj)) (s:Shared) (σ:St) (H:Hp) (Q:Bool->Hp->Prop),a5 X pins σ H s->t σ H Q->wpAny (model X.prog X.w) X.A (isTrue e X.env (eval e X.env)) (TP X pins σ Q) X.xe s
noncomputable def PW (X:Cx)(e:Expr)(t:TT):Prop:=
 ∀(whole:Sem Value) (pins:List (Addr×Obj)) (s:Shared) (σ:St) (H:Hp) (Q:Bool->Hp->Prop),a5 X pins σ H s->t σ H Q->wpAny (model X.prog X.w) X.A (isTrue e X.env whole) (TP X pins σ Q) X.xe s
theorem PW.pt {X:Cx}{e:Expr}{t:TT}(h:PW X e t):PT X e t:=h _
noncomputable def PA (X:Cx)(es:List Expr)(t:TA):Prop:=
 ∀(pos:Pos) (pins:List (Addr×Obj)) (s:Shared) (σ:St) (H:Hp) (Q:List V->Hp->Prop),a5 X pins σ H s->t σ H Q->wpAny (model X.prog X.w) X.A (spliced (backTo pos (starEach es X.env))) (AP X pins σ Q) X.xe s
noncomputable def PS (X:Cx)(st:Stmt)(t:TS):Prop:=
 ∀(pins:List (Addr×Obj)) (s:Shared) (σ:St) (H:Hp) (D:cI),a5 X pins σ H s->t D σ H->wpAny (model X.prog X.w) X.A (exec st X.env) (SP X pins D) X.xe s
noncomputable def cX (X:Cx)(st:List Stmt)(t:TS):Prop:=
 ∀(pins:List (Addr×Obj)) (s:Shared) (σ:St) (H:Hp) (D:cI),a5 X pins σ H s->t D σ H->wpAny (model X.prog X.w) X.A (execs st X.env) (SP X pins D) X.xe s
theorem aJ {α:Type}{t:Sem α}{Q Q':α->Shared->Prop}{M:Model}{A:Around}{E:Value->Shared->Prop}{s:Shared}(h:wpAny M A t Q E s)(hQ:∀a s,Q a s->Q' a s):wpAny M A t Q' E s:=aN1 h hQ λ_ _ x=>x
section
variable {X:Cx}
theorem bin {a b:Expr}{ta tb:TE}(ha:PE X a ta)(hb:PE X b tb){pins:List (Addr×Obj)}{s:Shared}{σ:St}{H:Hp}{R:V->V->Hp->Prop}(I:a5 X pins σ H s)(h:ta σ H λx H1=>tb σ H1 λy H2=>R x y H2){α:Type}{Q:α->Shared->Prop}{f:Value->Value->Sem α}(hf:∀v u s2 x y H2,a5 X pins σ H2 s2->aQ x v->aQ y u->R x y H2->wpAny (model X.prog X.w) X.A (f v u) Q X.xe s2) :
  wpAny (model X.prog X.w) X.A (eval a X.env) (λv s₁=>wpAny (model X.prog X.w) X.A (eval b X.env) (λu s₂=>wpAny (model X.prog X.w) X.A (f v u) Q X.xe s₂) X.xe s₁) X.xe s:=by
 refine aJ (ha pins s σ H _ I h) λv s1 ⟨x,H1,I1,r1,q1⟩=>?_
 refine aJ (hb pins s1 σ H1 _ I1 q1) λu s2 ⟨y,H2,I2,r2,q2⟩=>?_
 exact hf v u s2 x y H2 I2 r1 r2 q2
noncomputable def j7 (i:Nat):TE:=λσ H Q=>∃v,σ[i]? = some (some v)/\Q v H
noncomputable def tC (v:V):TE:=λ_ H Q=>Q v H
theorem j8 {i:Nat}{x:Str}{pos:Pos}(hN:X.N[i]? = some x)(hv:fI X.env.scope x)(hd:(x==("__debug__":Str))=false:=by decide)(hcd:(x==("__classdict__":Str))=false:=by decide):PE X (.Name x pos) (j7 i):=by
 intro pins s σ H Q I h
 obtain⟨v,e,h⟩:=h
 obtain⟨m,hn,hl⟩:=I.loc
 obtain⟨u,r,l⟩:=hl i x v hN e hv
 have fin:EP X pins σ Q u s:=⟨v,H,I,r,h⟩
 rcases l with⟨hk,hm⟩|⟨hk,c,hc,hcell⟩
 ·exact wpAny_Name (wpAny_loadName_local I.ok.kind hk hn hm fin) hd
 ·rcases hk with hk|hk
  ·exact wpAny_Name (wpAny_loadName_cell I.ok.kind hk hc hcell fin) hd
  ·exact wpAny_Name (wpAny_loadName_free I.ok.kind hk hc hcell fin hcd) hd
theorem pY {i j pos}:PE X (.Constant (.int i) j pos) (tC (.int i)):=λ_ _ _ H _ I h=>wpAny_Constant_int ⟨.int i,H,I.tok _,⟨_,rfl⟩,h⟩
theorem P0 {b j pos}:PE X (.Constant (.bool b) j pos) (tC (.bl b)):=λ_ _ _ H _ I h=>Constant_bool ⟨.bl b,H,I,rfl,h⟩
theorem P3 {x j pos}:PE X (.Constant (.str x) j pos) (tC (.str x)):=λ_ _ _ H _ I h=>Calls.Constant_str ⟨.str x,H,I.tok _,⟨_,rfl⟩,h⟩
noncomputable def Gl (X:Cx)(x:Str):Prop:=X.env.kindOf x=some .globalImplicit
theorem lE {E:Value->Shared->Prop}{pins:List (Addr×Obj)}{s:Shared}{σ:St}{H:Hp}{x:Str}{u:Value}{pos:Pos}{Q:Value->Shared->Prop}(I:a5 X pins σ H s)(hg:Gl X x)(hm:X.mg x=some u)(h:Q u s)(hd:(x==("__debug__":Str))=false:=by decide):wpAny (model X.prog X.w) X.A (eval (.Name x pos) X.env) Q E s:=
 Calls.Name_function_global I.ok.kind hg (Calls.loadGlobal_global (by rw[I.ok.glob];exact I.mod.glob.keeps I.bk) hm h) hd
theorem j9 {E:Value->Shared->Prop}{pins:List (Addr×Obj)}{s:Shared}{σ:St}{H:Hp}{x:Str}{u:Value}{pos:Pos}{Q:Value->Shared->Prop}(I:a5 X pins σ H s)(hg:Gl X x)(hm:X.mg x=none)(hv:bootBuiltins x=some u)(h:Q u s)(hn:x≠"__name__":=by decide)(hd:(x==("__debug__":Str))=false:=by decide):wpAny (model X.prog X.w) X.A (eval (.Name x pos) X.env) Q E s:=by
 obtain⟨mb,h1,h2⟩:=I.mod.blt
 exact Calls.Name_function_global I.ok.kind hg (Calls.loadGlobal_builtin (by rw[I.ok.glob];exact I.mod.glob.keeps I.bk) hm (by rw[I.ok.blt];exact h1.keeps I.bk) ((h2 x hn).trans hv) h) hd
theorem v9 {x:Str}{v:V}{u:Value}{pos:Pos}(hg:Gl X x)(hm:X.mg x=some u)(r:aQ v u)(hd:(x==("__debug__":Str))=false:=by decide):PE X (.Name x pos) (tC v):=
 λ_ _ _ H _ I h=>lE I hg hm ⟨v,H,I,r,h⟩ hd
theorem P4 {x:Str}{v:V}{u:Value}{pos:Pos}(hg:Gl X x)(hm:X.mg x=none)(hv:bootBuiltins x=some u)(r:aQ v u)(hn:x≠"__name__":=by decide)(hd:(x==("__debug__":Str))=false:=by decide):PE X (.Name x pos) (tC v):=
 λ_ _ _ H _ I h=>j9 I hg hm hv ⟨v,H,I,r,h⟩ hn hd
variable {a b:Expr}{ta tb:TE}{pos:Pos}
noncomputable def PC (X:Cx)(op:CmpOp)(a b:Expr)(t:TE):Prop:=
 ∀(pins:List (Addr×Obj)) (s:Shared) (σ:St) (H:Hp) (Q:VK),a5 X pins σ H s->t σ H Q->
  wpAny (model X.prog X.w) X.A (eval a X.env) (λv s₁=>wpAny (model X.prog X.w) X.A (eval b X.env) (λu s₂=>wpAny (model X.prog X.w) X.A (compareOp op v u) (EP X pins σ Q) X.xe s₂) X.xe s₁) X.xe s
noncomputable def tB (t:TE):TT:=λσ H Q=>t σ H λx H1=>∃c,x = .bl c/\Q c H1
theorem P5 {op:CmpOp}{t:TE}(h:PC X op a b t)(h1:behindInMarks op b=false:=by first|exact nobehind _ (by decide) (by decide)|rfl):PT X (.Compare a [op] [b] pos) (tB t):=by
 intro pins s σ H Q I hw
 refine wpAny_isTrue_Compare1 (aJ (h pins s σ H _ I hw) λv s1 h1=>aJ h1 λu s2 h2=>aJ h2 λc s3 ⟨x,H1,I1,r1,q1⟩=>?_) h1
 obtain⟨d,rfl,q⟩:=q1
 cases r1
 exact aS9 ⟨H1,I1,q⟩
theorem P6 {e:Expr}{t:TE}(h:PE X e t)(he:∀whole,isTrue e X.env whole=(do let v <- whole;standAt e.pos;holding [v] (truthy v)):=by intro _;rfl):PT X e (tB t):=by
 intro pins s σ H Q I hw
 refine isTrue_plain (aJ (h pins s σ H _ I hw) λv s1 ⟨x,H1,I1,r1,q1⟩=>?_) (he _)
 obtain⟨d,rfl,q⟩:=q1
 cases r1
 exact aS9 ⟨H1,I1,q⟩
variable {tA tB':TT}{cH:List Expr}
noncomputable def vA (t u:TT):TT:=λσ H Q=>t σ H λc H1=>if c=true then u σ H1 Q else Q false H1
noncomputable def vB (t u:TT):TT:=λσ H Q=>t σ H λc H1=>if c=true then Q true H1 else u σ H1 Q
noncomputable def vC (t:TT):TT:=λσ H Q=>t σ H λc H1=>Q (!c) H1
theorem P7 (ha:PT X a tA):PW X (.BoolOp .And [a] pos) tA:=by
 intro wh pins s σ H Q I h
 refine isTrue_and (aJ (ha pins s σ H Q I h) λc s1 e=>?_)
 cases c with
 |true=>exact isTrue_and_nil e
 |false=>exact e
theorem P8 (ha:PT X a tA):PW X (.BoolOp .Or [a] pos) tA:=by
 intro wh pins s σ H Q I h
 refine isTrue_or (aJ (ha pins s σ H Q I h) λc s1 e=>?_)
 cases c with
 |false=>exact isTrue_or_nil e
 |true=>exact e
theorem P9 (ha:PT X a tA)(hb:PW X (.BoolOp .And (b::cH) pos) tB'):PW X (.BoolOp .And (a::b::cH) pos) (vA tA tB'):=by
 intro wh pins s σ H Q I h
 refine isTrue_and (aJ (ha pins s σ H _ I h) λc s1 ⟨H1,I1,q1⟩=>?_)
 cases c with
 |true=>exact hb wh pins s1 σ H1 Q I1 q1
 |false=>exact⟨H1,I1,q1⟩
theorem Q0 (ha:PT X a tA)(hb:PW X (.BoolOp .Or (b::cH) pos) tB'):PW X (.BoolOp .Or (a::b::cH) pos) (vB tA tB'):=by
 intro wh pins s σ H Q I h
 refine isTrue_or (aJ (ha pins s σ H _ I h) λc s1 ⟨H1,I1,q1⟩=>?_)
 cases c with
 |true=>exact⟨H1,I1,q1⟩
 |false=>exact hb wh pins s1 σ H1 Q I1 q1
theorem Q3 (ha:PT X a tA):PT X (.UnaryOp .Not a pos) (vC tA):=by
 intro pins s σ H Q I h
 exact isTrue_not (ha pins s σ H (λc H1=>Q (!c) H1) I h)
noncomputable def vD (ta tb:TE):TE:=λσ H Q=>ta σ H λx H1=>∃c,x = .bl c/\if c=true then tb σ H1 Q else Q (.bl false) H1
noncomputable def vE (ta:TE):TE:=λσ H Q=>ta σ H λx H1=>∃c,x = .bl c/\Q (.bl (!c)) H1
theorem Q4 {op}{t:TE}(h:PE X a t):PE X (.BoolOp op [a] pos) t:=λpins s σ H Q I hw=>BoolOp_one (h pins s σ H Q I hw)
theorem Q5 (ha:PE X a ta)(hb:PE X (.BoolOp .And (b::cH) pos) tb):PE X (.BoolOp .And (a::b::cH) pos) (vD ta tb):=by
 intro pins s σ H Q I h
 refine BoolOp_and (aJ (ha pins s σ H _ I h) λv s1 ⟨x,H1,I1,r1,q1⟩=>?_)
 obtain⟨c,rfl,q1⟩:=q1
 cases r1
 refine aS9 ?_
 cases c with
 |true=>exact hb pins s1 σ H1 Q I1 q1
 |false=>exact⟨.bl false,H1,I1,rfl,q1⟩
theorem Q6 (ha:PE X a ta):PE X (.UnaryOp .Not a pos) (vE ta):=by
 intro pins s σ H Q I h
 refine UnaryOp_ (aJ (ha pins s σ H _ I h) λv s1 ⟨x,H1,I1,r1,q1⟩=>?_)
 obtain⟨c,rfl,q1⟩:=q1
 cases r1
 exact not_of (aS9 ⟨.bl (!c),H1,I1,rfl,q1⟩)
noncomputable def vF (t:TT)(ta tb:TE):TE:=λσ H Q=>t σ H λc H1=>if c=true then ta σ H1 Q else tb σ H1 Q
theorem Q7 {c:Expr}(hc:PT X c tA)(ha:PE X a ta)(hb:PE X b tb):PE X (.IfExp c a b pos) (vF tA ta tb):=by
 intro pins s σ H Q I h
 refine wpAny_IfExp (aJ (hc pins s σ H _ I h) λd s1 ⟨H1,I1,q1⟩=>?_)
 cases d with
 |true=>exact ha pins s1 σ H1 Q I1 q1
 |false=>exact hb pins s1 σ H1 Q I1 q1
end
noncomputable def aL (K:ac)(H:Hp)(a:Addr)(xs:List V):Prop:=
 Rd H a (.lst xs) ∨
  ∃(o:Obj) (its:Array Value) (n:Nat),K.lookup a=some o/\o.cls = .type "list"/\o.dict=none/\o.data = .seq its n/\its.size<=sizeLine/\aK xs its.toList
noncomputable def aI (K:ac)(H:Hp)(a:Addr)(xs:List V):Prop:=
 Rd H a (.tup xs) ∨
  ∃(o:Obj) (its:Array Value) (n:Nat),K.lookup a=some o/\o.cls = .type "tuple"/\o.data = .seq its n/\its.size<=sizeLine/\aK xs its.toList
noncomputable def Q8:Value->Option V
 |.none=>some .non
 |.bool b=>some (.bl b)
 |.int i _=>some (.int i)
 |.str x _=>some (.str x)
 |.bytes b _=>some (.byt b)
 |.float b _=>some (.flt b)
 |.ref a=>some (.ref a)
 |.type n=>some (.ty n)
 |_=>none
theorem aQ.abs {x:V}{u:Value}(r:aQ x u):Q8 u=some x:=by
 cases x with
 |non=>cases r;rfl
 |bl _=>cases r;rfl
 |int _=>obtain⟨t,rfl⟩:=r;rfl
 |str _=>obtain⟨t,rfl⟩:=r;rfl
 |byt _=>obtain⟨t,rfl⟩:=r;rfl
 |flt _=>obtain⟨t,rfl⟩:=r;rfl
 |ref _=>cases r;rfl
 |ty _=>cases r;rfl
theorem aQ.inj {x y:V}{u:Value}(r:aQ x u)(q:aQ y u):x=y:=aL1 (r.abs.symm.trans q.abs)
theorem aK.inj:∀{xs ys:List V}{us:List Value},aK xs us->aK ys us->xs=ys
 |_,_,_,.nil,.nil=>rfl
 |_,_,_,.cons r t,.cons r' t'=>by rw[r.inj r',aK.inj t t']
section
variable {X:Cx}{pins:List (Addr×Obj)}{σ:St}{H:Hp}{s:Shared}{a:Addr}{xs ys:List V}
theorem aL.of {K:ac}(h:H a=some (.lst xs)):aL K H a xs:=.inl (.inl h)
theorem aI.of {K:ac}(h:H a=some (.tup xs)):aI K H a xs:=.inl (.inl h)
theorem a5.list (I:a5 X pins σ H s)(h:aL X.K H a xs):∃its:List Value,aK xs its/\PlainL s.heap a its.toArray/\xs.length<=sizeLine:=by
 rcases h with h|⟨o,its,n,hk,hc,hd,hs,hz,r⟩
 ·obtain⟨z,its,n,r,e⟩:=h.ok I.hok
  exact⟨its,r,⟨_,n,e,rfl,rfl,rfl⟩,z⟩
 ·refine⟨its.toList,r,⟨o,n,I.kIn a o hk,hc,hd,by simpa using hs⟩,?_⟩
  have e:=r.length
  simp only[Array.length_toList]at e
  omega
theorem a5.tuple (I:a5 X pins σ H s)(h:aI X.K H a xs):∃its:List Value,aK xs its/\IsTup s.heap a its.toArray/\xs.length<=sizeLine:=by
 rcases h with h|⟨o,its,n,hk,hc,hs,hz,r⟩
 ·obtain⟨z,its,r,p,_⟩:=h.ok I.hok
  exact⟨its,r,p,z⟩
 ·refine⟨its.toList,r,⟨o,I.kIn a o hk,hc,n,by simpa using hs⟩,?_⟩
  have e:=r.length
  simp only[Array.length_toList]at e
  omega
theorem a5.list_inj (I:a5 X pins σ H s)(h:aL X.K H a xs)(h':aL X.K H a ys):xs=ys:=by
 obtain⟨its,r,⟨o,n,e,_,_,d⟩,_⟩:=I.list h
 obtain⟨its',r',⟨o',n',e',_,_,d'⟩,_⟩:=I.list h'
 rw[e]at e';cases e'
 rw[d]at d'
 injection d' with d1 _
 have:its=its':=by simpa using congrArg Array.toList d1
 subst this
 exact r.inj r'
theorem a5.tuple_inj (I:a5 X pins σ H s)(h:aI X.K H a xs)(h':aI X.K H a ys):xs=ys:=by
 obtain⟨its,r,⟨o,e,_,n,d⟩,_⟩:=I.tuple h
 obtain⟨its',r',⟨o',e',_,n',d'⟩,_⟩:=I.tuple h'
 rw[e]at e';cases e'
 rw[d]at d'
 injection d' with d1 _
 have:its=its':=by simpa using congrArg Array.toList d1
 subst this
 exact r.inj r'
end
noncomputable abbrev Cx.wish (X:Cx)(E:Value->Shared->Prop):Cx:={ X with xe:=E }
noncomputable abbrev Cx.nox (X:Cx):Cx:=X.wish λ_ _=>False
theorem Cx.Ok.wish {X:Cx}(ok:X.Ok)(E:Value->Shared->Prop):(X.wish E).Ok:=
 ⟨ok.mod,ok.kind,ok.glob,ok.blt,ok.above,ok.inj,ok.has,ok.cab,ok.hd,ok.frames,ok.stk,ok.exf,ok.bs,ok.bsz,ok.noex,ok.exfs,ok.funs,ok.frf⟩
theorem Cx.Ok.unwish {X:Cx}{E:Value->Shared->Prop}(ok:(X.wish E).Ok):X.Ok:=
 ⟨ok.mod,ok.kind,ok.glob,ok.blt,ok.above,ok.inj,ok.has,ok.cab,ok.hd,ok.frames,ok.stk,ok.exf,ok.bs,ok.bsz,ok.noex,ok.exfs,ok.funs,ok.frf⟩
section
variable {X:Cx}{pins:List (Addr×Obj)}{σ:St}{H:Hp}{s:Shared}{E:Value→Shared→Prop}
theorem a5.wish (I:a5 X pins σ H s)(E:Value->Shared->Prop):a5 (X.wish E) pins σ H s:=⟨I.ok.wish E,I.os,I.bare,I.base,I.loc,I.cell,I.free,I.freeC,I.pin,I.hok,I.len⟩
theorem a5.unwish (I:a5 (X.wish E) pins σ H s):a5 X pins σ H s:=⟨I.ok.unwish,I.os,I.bare,I.base,I.loc,I.cell,I.free,I.freeC,I.pin,I.hok,I.len⟩
theorem SP.unwish {D:cI}{f:Flow}{s':Shared}(h:SP (X.wish E) pins D f s'):SP X pins D f s':=by
 cases f with
 |next=>obtain⟨σ',H',I,q⟩:=h;exact⟨σ',H',I.unwish,q⟩
 |brk=>obtain⟨σ',H',I,q⟩:=h;exact⟨σ',H',I.unwish,q⟩
 |cont=>obtain⟨σ',H',I,q⟩:=h;exact⟨σ',H',I.unwish,q⟩
 |ret u=>obtain⟨v,σ',H',I,r,q⟩:=h;exact⟨v,σ',H',I.unwish,r,q⟩
theorem cX.nox {st:List Stmt}{t:TS}(h:cX X.nox st t):cX X st t:=λpins s σ H D I hw=>
 aN1 (h pins s σ H D (I.wish _) hw) (λ_ _ q=>q.unwish) λ_ _ z=>False.elim z
end
section
variable {X:Cx}{st:Stmt}{cH:List Stmt}{t u:TS}{e:Expr}{te:TE}{pos:Pos}
noncomputable def vG:TS:=λD σ H=>D.nx σ H
noncomputable def vH (t u:TS):TS:=λD σ H=>t { D with nx:=u D } σ H
theorem Q9:cX X [] vG:=λ_ _ σ H _ I h=>wpAny_execs_nil ⟨σ,H,I,h⟩
theorem nB (h1:PS X st t)(h2:cX X cH u):cX X (st::cH) (vH t u):=by
 intro pins s σ H D I h
 refine wpAny_execs_cons (aJ (h1 pins s σ H { D with nx:=u D } I h) λf s1 q=>?_)
 cases f with
 |next=>
  obtain⟨σ',H',I',q⟩:=q
  exact h2 pins s1 σ' H' D I' q
 |ret v=>exact q
 |brk=>exact q
 |cont=>exact q
theorem pZ (h1:PS X st t):cX X [st] t:=by
 intro pins s σ H D I h
 refine wpAny_execs_cons (aJ (h1 pins s σ H D I h) λf s1 q=>?_)
 cases f with
 |next=>exact wpAny_execs_nil q
 |ret v=>exact q
 |brk=>exact q
 |cont=>exact q
theorem a5.quiet {pins:List (Addr×Obj)}{σ:St}{H:Hp}{s:Shared}(I:a5 X pins σ H s):interactive X.env=false:=by simp[interactive,I.ok.kind]
noncomputable def qA (te:TE):TS:=λD σ H=>te σ H λ_ H1=>D.nx σ H1
theorem nC (he:PE X e te)(hs:swapsWith e none pos.line X.env=pure false:=by rfl):PS X (.Expr e pos) (qA te):=by
 intro pins s σ H D I h
 exact wpAny_Expr_any (aJ (he pins s σ H _ I h) λv s1 ⟨x,H1,I1,r1,q1⟩=>⟨σ,H1,I1,q1⟩) I.quiet hs
noncomputable def vI (te:TE):TS:=λD σ H=>te σ H D.rt
theorem vJ (he:PE X e te):PS X (.Return (some e) pos) (vI te):=by
 intro pins s σ H D I h
 exact wpAny_Return_some (aJ (he pins s σ H _ I h) λv s1 ⟨x,H1,I1,r1,q1⟩=>⟨x,σ,H1,I1,r1,q1⟩)
noncomputable def vK (c:TT)(t u:TS):TS:=λD σ H=>c σ H λb H1=>if b=true then t D σ H1 else u D σ H1
theorem R3 {c:Expr}{a b:List Stmt}{tc:TT}(hc:PT X c tc)(ha:cX X a t)(hb:cX X b u):PS X (.If c a b pos) (vK tc t u):=by
 intro pins s σ H D I h
 refine wpAny_If (aJ (hc pins s σ H _ I h) λd s1 ⟨H1,I1,q1⟩=>?_)
 cases d with
 |true=>exact ha pins s1 σ H1 D I1 q1
 |false=>exact hb pins s1 σ H1 D I1 q1
end
noncomputable abbrev TG:=V->St->Hp->(St->Hp->Prop)->Prop
noncomputable abbrev jA:=List V->St->Hp->(St->Hp->Prop)->Prop
noncomputable def PG (X:Cx)(target:Expr)(t:TG):Prop:=
 ∀(pins:List (Addr×Obj)) (s:Shared) (σ:St) (H:Hp) (v:V) (u:Value) (Q:St->Hp->Prop),a5 X pins σ H s->aQ v u->t v σ H Q->
  wpAny (model X.prog X.w) X.A (assign target X.env u) (λ_ s'=>∃σ' H',a5 X pins σ' H' s'/\Q σ' H') X.xe s
noncomputable def nD (X:Cx)(ts:List Expr)(t:jA):Prop:=
 ∀(pins:List (Addr×Obj)) (s:Shared) (σ:St) (H:Hp) (vs:List V) (us:List Value) (Q:St->Hp->Prop),a5 X pins σ H s->aK vs us->t vs σ H Q->
  wpAny (model X.prog X.w) X.A (assignInOrder ((assignEach ts X.env).map (·.2)) us) (λ_ s'=>∃σ' H',a5 X pins σ' H' s'/\Q σ' H') X.xe s
noncomputable abbrev qB:=V->V->V->Hp->(Hp->Prop)->Prop
noncomputable def vL (X:Cx)(t:qB):Prop:=
 ∀(pins:List (Addr×Obj)) (s:Shared) (σ:St) (H:Hp) (o i v:V) (ov iv u:Value) (Q:Hp->Prop),a5 X pins σ H s->aQ o ov->aQ i iv->aQ v u->t o i v H Q->
  wpAny (model X.prog X.w) X.A (setItem ov iv u) (λ_ s'=>∃H',a5 X pins σ H' s'/\Q H') X.xe s
section
variable {X:Cx}{pos:Pos}
noncomputable def cJ (i:Nat):TG:=λv σ H Q=>Q (σ.set i (some v)) H
theorem eD {i:Nat}{x:Str}(hN:X.N.Nodup)(hi:X.N[i]? = some x)(hx:fJ X.env.scope x)(hf:X.fn x=true∨X.env.scope.names.lookup x=some .local:=by first|exact .inl rfl|exact .inr rfl|assumption):PG X (.Name x pos) (cJ i):=by
 intro pins s σ H v u Q I r h
 exact wpAny_assign_Name (pX I hN hi hx r (λs' I'=>⟨_,H,I',h⟩) hf)
noncomputable def lF:jA:=λvs σ H Q=>vs = []/\Q σ H
noncomputable def gU (t:TG)(u:jA):jA:=λvs σ H Q=>∃v r,vs=v::r/\t v σ H λσ' H'=>u r σ' H' Q
theorem nE:nD X [] lF:=by
 intro pins s σ H vs us Q I r h
 obtain⟨e,h⟩:=h
 subst e
 cases r
 exact assignInOrder_nil ⟨σ,H,I,h⟩
theorem iF {e:Expr}{es:List Expr}{t:TG}{u:jA}(h1:PG X e t)(h2:nD X es u)(hs:(assignEach (e::es) X.env).map (·.2)=assign e X.env::(assignEach es X.env).map (·.2):=by rfl):nD X (e::es) (gU t u):=by
 intro pins s σ H vs us Q I r h
 obtain⟨v,vr,e1,h⟩:=h
 subst e1
 cases r with
 |cons r rr=>
  rw[hs]
  refine assignInOrder_cons (aJ (h1 pins s σ H _ _ _ I r h) λ_ s1 ⟨σ1,H1,I1,q1⟩=>?_)
  exact h2 pins s1 σ1 H1 _ _ Q I1 rr q1
noncomputable def lG (K:ac)(n:Nat)(t:jA):TG:=λv σ H Q=>∃a xs,v = .ref a/\aI K H a xs/\xs.length=n/\t xs σ H Q
theorem nF {es:List Expr}{k:Nat}{t:jA}{n:Nat}(hc:X.calm=true)(h:nD X es t)(hn:(assignEach es X.env).length=n:=by rfl)(hst:(assignEach es X.env).findIdx? (·.1)=none:=by rfl):PG X (.Tuple es k pos) (lG X.K n t):=by
 intro pins s σ H v u Q I r hw
 obtain⟨a,xs,e1,hq,hl,hw⟩:=hw
 subst e1
 cases r
 obtain⟨its,rv,ht,hz⟩:=I.tuple hq
 refine assign_Tuple_tuple (I.ok.hd hc) ht (by simp[hn,<- hl,rv.length]) hst λh' hx=>?_
 have I1:a5 X pins σ H { s with heap:=h' }:=I.kept (t':=s.toks) λb o e=>hx b o (aL4 (aJ3 e)) e
 exact h pins _ σ H xs _ Q I1 (by simpa using rv) hw
noncomputable def qD (to ti:TE)(t:qB):TG:=λv σ H Q=>to σ H λo H1=>ti σ H1 λi H2=>t o i v H2 λH3=>Q σ H3
theorem R4 {o i:Expr}{to ti:TE}{t:qB}(ho:PE X o to)(hi:PE X i ti)(hs:vL X t)(ha:∀v,assign (.Subscript o i pos) X.env v=(do
   let ov <- holding [v] (eval o X.env)
   let iv <- holding [v,ov] (eval i X.env)
   standAt pos
   holding [v,ov,iv] (setItem ov iv v)
   release [v,ov,iv] []):=by intro _;rfl):PG X (.Subscript o i pos) (qD to ti t):=by
 intro pins s σ H v u Q I r h
 rw[ha]
 refine aI2 (aQ6 (aJ (ho pins s σ H _ I h) λov s1 ⟨x,H1,I1,r1,q1⟩=>?_))
 refine aI2 (aQ6 (aJ (hi pins s1 σ H1 _ I1 q1) λiv s2 ⟨y,H2,I2,r2,q2⟩=>?_))
 refine aI2 (wpAny_standAt (aI2 (aQ6 (aJ (hs pins s2 σ H2 x y v ov iv u _ I2 r1 r2 r q2) λ_ s3 ⟨H3,I3,q3⟩=>?_))))
 exact wpAny_release ⟨σ,H3,I3,q3⟩
noncomputable def iG (te:TE)(g:TG):TS:=λD σ H=>te σ H λx H1=>g x σ H1 D.nx
theorem vM {tg e:Expr}{te:TE}{g:TG}(he:PE X e te)(hg:PG X tg g)(hs:swapsWithSole [tg] e pos.line X.env=pure false:=by rfl)(hw:swappedStores [tg] e X.env=pure none:=by rfl)(h1:(assignEach [tg] X.env).map (·.2) = [assign tg X.env]:=by rfl):PS X (.Assign [tg] e pos) (iG te g):=by
 intro pins s σ H D I h
 refine wpAny_Assign_stores (aJ (he pins s σ H _ I h) λv s1 ⟨x,H1,I1,r1,q1⟩=>?_) hs hw
 rw[h1]
 exact aJ (hg pins s1 σ H1 x v _ I1 r1 q1) λ_ s2 q=>q
theorem vN {i:Nat}{x:Str}{e:Expr}{te:TE}{pos':Pos}(hN:X.N.Nodup)(hi:X.N[i]? = some x)(hx:fJ X.env.scope x)(he:PE X e te)(hs:swapsWith e (some (.Name x pos')) pos.line X.env=pure false:=by rfl)(hf:X.fn x=true∨X.env.scope.names.lookup x=some .local:=by first|exact .inl rfl|exact .inr rfl|assumption) :
  PS X (.Assign [.Name x pos'] e pos) (iG te (cJ i)):=by
 intro pins s σ H D I h
 refine wpAny_Assign_Name (aJ (he pins s σ H _ I h) λv s1 ⟨y,H1,I1,r1,q1⟩=>?_) hs
 exact pX I1 hN hi hx r1 (λs2 I2=>⟨_,H1,I2,q1⟩) hf
end
structure It where
 go:Nat->Hp->Prop
 yld:Nat->Hp->V->Hp->Prop
 stop:Nat->Hp->Prop
noncomputable def dG (X:Cx)(pins:List (Addr×Obj))(H:Hp)(b:Addr):Prop:=
 H b=none/\b≠X.env.locals/\b∉X.fs/\(b∈X.ex∨X.s₀.heap.objs.size<=b)/\(∀x c,X.env.cells.lookup x=some c->c≠b)/\∀p∈X.pn++pins,p.1≠b
theorem a5.fpOk {X:Cx}{pins:List (Addr×Obj)}{σ:St}{H H':Hp}{s:Shared}{b:Addr}(I:a5 X pins σ H s)(hb:s.heap.objs.size<=b)(hn:H' b=none):dG X pins H' b:=by
 refine⟨hn,aQ0 (aI9 I.lt hb),I.nofs hb,.inr (aN2 I.sz hb),λx c e z=>?_,λp hp z=>?_⟩
 ·obtain⟨v,q⟩:=I.cell x c e
  exact absurd (aI9 q.lt (by rw[z];exact hb)) (aM4 _)
 ·exact absurd (aI9 (aJ3 (I.pin p hp).1) (by rw[z];exact hb)) (aM4 _)
structure fM (P:Program)(w:World)(K:ac)(tg:Expr)(J:It)(fp:List Addr)(it:Addr)(tn:Nat->Heap->Prop):Prop where
 mem:it∈fp
 obj:∀i h,tn i h->∀b∈fp,∃o,h.get? b=some o/\∀v,o.data≠.cell v
 keep:∀i h h',tn i h->(∀b∈fp,∀o,h.get? b=some o->h'.get? b=some o)->tn i h'
 item:∀(X:Cx),X.prog=P->X.w=w->X.K=K->X.calm=true->∀(i:Nat) (pins:List (Addr×Obj)) (s:Shared) (σ:St) (H:Hp) (E:Value->Shared->Prop),a5 X pins σ H s->(∀b∈fp,dG X pins H b)->tn i s.heap->J.go i H->
  wpAny (model P w) X.A (pyNext (.ref it)) (λr s1=>∃u,r=some u/\
   wpAny (model P w) X.A (letOwnedTupleGo tg (.ref it) u) (λ_ s2=>∃x H',a5 X pins σ H' s2/\aQ x u/\J.yld i H x H'/\tn (i+1) s2.heap/\∀b∈fp,H' b=none) E s1) E s
 done:∀(X:Cx),X.prog=P->X.w=w->X.K=K->X.calm=true->∀(i:Nat) (pins:List (Addr×Obj)) (s:Shared) (σ:St) (H:Hp) (E:Value->Shared->Prop),a5 X pins σ H s->(∀b∈fp,dG X pins H b)->tn i s.heap->J.stop i H->
  wpAny (model P w) X.A (pyNext (.ref it)) (λr s1=>r=none/\a5 X pins σ H s1) E s
 self:∀(A:Around) (i:Nat) (s:Shared) (Q:Value->Shared->Prop) (E:Value->Shared->Prop),tn i s.heap->Q (.ref it) s->wpAny (model P w) A (pyIter (.ref it)) Q E s
noncomputable abbrev TI:=St->Hp->(It->Hp->Prop)->Prop
noncomputable def vO (X:Cx)(pins:List (Addr×Obj))(σ:St)(tg:Expr)(R:It->Hp->Prop)(itv:Value)(s2:Shared):Prop:=
 ∃(it:Addr) (fp:List Addr) (tn:Nat->Heap->Prop) (J:It) (H':Hp),itv = .ref it/\a5 X pins σ H' s2/\fM X.prog X.w X.K tg J fp it tn/\tn 0 s2.heap/\(∀b∈fp,dG X pins H' b)/\R J H'
noncomputable def PI (X:Cx)(tg iter:Expr)(wi:TI):Prop:=
 ∀(pins:List (Addr×Obj)) (s:Shared) (σ:St) (H:Hp) (R:It->Hp->Prop),a5 X pins σ H s->wi σ H R->
  wpAny (model X.prog X.w) X.A (eval iter X.env) (λv s1=>wpAny (model X.prog X.w) X.A (pyIter v) (vO X pins σ tg R) X.xe s1) X.xe s
theorem qE {M:Model}{A:Around}{E:Value->Shared->Prop}{s:Shared}{tg:Expr}{it:Addr}{u:Value}{o:Obj}{n:String}{vs:Array Value}{Q:Unit->Shared->Prop}(ho:s.heap.get? it=some o)(hc:o.cls = .type n)(hd:o.data = .fields vs)(hn:["enumerate","zip","dict_itemiterator","dict_reverseitemiterator","odict_iterator","itertools.zip_longest","itertools.pairwise"].contains n=false)(hQ:Q () s):wpAny M A (letOwnedTupleGo tg (.ref it) u) Q E s:=by
  unfold letOwnedTupleGo
  cases tg<;>first
    |exact aI7 hQ
    |(cases u<;>first
        |exact aI7 hQ
        | (refine aI2 (wpAny_load ho ?_)
           rw[hc,hd]
           show wpAny M A (if (["enumerate","zip","dict_itemiterator","dict_reverseitemiterator","odict_iterator","itertools.zip_longest","itertools.pairwise"].contains n&&vs[0]?==some (rawInt _))=true then _ else _) Q E s
           rw[if_neg (by intro h;rw[hn,Bool.false_and]at h;cases h)]
           exact aI7 hQ))
noncomputable def kD (K:ac)(a:Addr):It:=
 ⟨λi H=>∃xs x,aL K H a xs/\xs[i]? = some x,λi H x H'=>H'=H/\∀xs,aL K H a xs->xs[i]? = some x,λi H=>∃xs,aL K H a xs/\xs.length<=i⟩
noncomputable def iH (K:ac)(a:Addr):It:=
 ⟨λi H=>∃xs x,aI K H a xs/\xs[i]? = some x,λi H x H'=>H'=H/\∀xs,aI K H a xs->xs[i]? = some x,λi H=>∃xs,aI K H a xs/\xs.length<=i⟩
noncomputable def lH (lo:Int)(n:Nat):It:=⟨λi _=>i<n,λi H x H'=>H'=H/\x = .int (lo+i),λi _=>n<=i⟩
theorem R5 {P:Program}{w:World}{K:ac}{tg:Expr}(a it:Addr):fM P w K tg (kD K a) [it] it (λi h=>h.IsListIter it a i) where
 mem:=by simp
 obj:=λi h st b hb=>by
  have e:b=it:=by simpa using hb
  subst e
  obtain⟨o,e,c,d⟩:=st
  exact⟨o,e,λv z=>by rw[d]at z;cases z⟩
 keep:=λi h h' st k=>st.at λo e=>k it (by simp) o e
 item:=by
  intro X hP hw hK hc i pins s σ H E I hf st hg
  subst hP hw hK
  obtain⟨xs,x,hq,hx⟩:=hg
  obtain⟨its,rv,p,hz⟩:=I.list hq
  obtain⟨u,hu,ru⟩:=rv.get hx
  obtain⟨f0,f1,f2,f3,f4,f5⟩:=hf it (by simp)
  refine wpAny_pyNext_list_item st p.isList (x:=u) (by simpa using hu) λh' st' sb=>?_
  have I1:a5 X pins σ H { s with heap:=h' }:=I.turned (t':=s.toks) (λb o hb e=>(sb.2 b hb).trans e) f0 f1 f3 f4 f5
  obtain⟨o,e,c,d⟩:=id st'
  exact⟨u,rfl,qE (s:={ s with heap:=h' }) e c d (by decide) ⟨x,H,I1,ru,⟨rfl,λys hy=>by rw[I.list_inj hy hq];exact hx⟩,st',λb hb=>(hf b hb).1⟩⟩
 done:=by
  intro X hP hw hK hc i pins s σ H E I hf st hg
  subst hP hw hK
  obtain⟨xs,hq,hx⟩:=hg
  obtain⟨its,rv,p,hz⟩:=I.list hq
  obtain⟨f0,f1,f2,f3,f4,f5⟩:=hf it (by simp)
  have hl:=rv.length
  exact wpAny_pyNext_list_end (I.ok.hd hc) st p.isList (by simp;omega) λh' eb=>⟨rfl,I.turned (t':=s.toks) (λb o hb e=>eb b o hb e) f0 f1 f3 f4 f5⟩
 self:=λ_ _ _ _ _ st h=>wpAny_pyIter_listiter st h
theorem vP {P:Program}{w:World}{K:ac}{tg:Expr}(a it:Addr):fM P w K tg (iH K a) [it] it (λi h=>h.IsTupleIter it a i) where
 mem:=by simp
 obj:=λi h st b hb=>by
  have e:b=it:=by simpa using hb
  subst e
  obtain⟨o,e,c,d⟩:=st
  exact⟨o,e,λv z=>by rw[d]at z;cases z⟩
 keep:=λi h h' st k=>st.at λo e=>k it (by simp) o e
 item:=by
  intro X hP hw hK hc i pins s σ H E I hf st hg
  subst hP hw hK
  obtain⟨xs,x,hq,hx⟩:=hg
  obtain⟨its,rv,p,hz⟩:=I.tuple hq
  obtain⟨u,hu,ru⟩:=rv.get hx
  obtain⟨f0,f1,f2,f3,f4,f5⟩:=hf it (by simp)
  refine wpAny_pyNext_tuple_item st (show s.heap.IsTuple a its.toArray from p) (x:=u) (by simpa using hu) λh' st' sb=>?_
  have I1:a5 X pins σ H { s with heap:=h' }:=I.turned (t':=s.toks) (λb o hb e=>(sb.2 b hb).trans e) f0 f1 f3 f4 f5
  obtain⟨o,e,c,d⟩:=id st'
  exact⟨u,rfl,qE (s:={ s with heap:=h' }) e c d (by decide) ⟨x,H,I1,ru,⟨rfl,λys hy=>by rw[I.tuple_inj hy hq];exact hx⟩,st',λb hb=>(hf b hb).1⟩⟩
 done:=by
  intro X hP hw hK hc i pins s σ H E I hf st hg
  subst hP hw hK
  obtain⟨xs,hq,hx⟩:=hg
  obtain⟨its,rv,p,hz⟩:=I.tuple hq
  obtain⟨f0,f1,f2,f3,f4,f5⟩:=hf it (by simp)
  have hl:=rv.length
  exact wpAny_pyNext_tuple_end (I.ok.hd hc) st (show s.heap.IsTuple a its.toArray from p) (by simp;omega) λh' eb=>⟨rfl,I.turned (t':=s.toks) (λb o hb e=>eb b o hb e) f0 f1 f3 f4 f5⟩
 self:=λ_ _ _ _ _ st h=>wpAny_pyIter_tupleiter st h
theorem R6 {P:Program}{w:World}{K:ac}{tg:Expr}(it:Addr)(lo:Int)(n:Nat):fM P w K tg (lH lo n) [it] it (λi h=>IsRangeIter h it (lo+(i:Nat)*1) ((n:Int)-(i:Nat)) 1) where
 mem:=by simp
 obj:=λi h st b hb=>by
  have e:b=it:=by simpa using hb
  subst e
  exact⟨_,st,λv z=>by
   have z':Data.fields _=Data.cell v:=z
   cases z'⟩
 keep:=λi h h' st k=>k it (by simp) _ st
 item:=by
  intro X hP hw hK hc i pins s σ H E I hf st hg
  subst hP hw hK
  obtain⟨f0,f1,f2,f3,f4,f5⟩:=hf it (by simp)
  have W:=Walks.range (prog:=X.prog) (w:=X.w) (I.ok.hd hc) it lo 1 n
  refine W.item i s _ _ hg st λv h' tk hv st' kk=>?_
  obtain⟨t,rfl⟩:=hv
  have I1:a5 X pins σ H { s with heap:=h',toks:=tk }:=I.turned (λb o hb e=>kk b o (by simpa using hb) e) f0 f1 f3 f4 f5
  refine⟨_,rfl,qE (s:={ s with heap:=h',toks:=tk }) (n:="range_iterator") st' rfl rfl (by decide) ⟨.int (lo+i),H,I1,⟨t,?_⟩,⟨rfl,rfl⟩,st',λb hb=>(hf b hb).1⟩⟩
  rw[Int.mul_one]
 done:=by
  intro X hP hw hK hc i pins s σ H E I hf st hg
  subst hP hw hK
  obtain⟨f0,f1,f2,f3,f4,f5⟩:=hf it (by simp)
  exact wpAny_pyNext_range_end (I.ok.hd hc) st (by have:n<=i:=hg;omega) λh' eb=>⟨rfl,I.turned (t':=s.toks) (λb o hb e=>eb b o hb e) f0 f1 f3 f4 f5⟩
 self:=λ_ _ _ _ _ st h=>wpAny_pyIter_rangeiter st h
section
variable {X:Cx}{tg:Expr}
noncomputable def R7 (K:ac)(tl:TE):TI:=λσ H R=>tl σ H λx H1=>∃a,x = .ref a/\(∃xs,aI K H1 a xs)/\R (iH K a) H1
theorem vQ {l:Expr}{tl:TE}(hl:PE X l tl):PI X tg l (R7 X.K tl):=by
 intro pins s σ H R I h
 refine aJ (hl pins s σ H _ I h) λv s1 ⟨x,H1,I1,r1,q1⟩=>?_
 obtain⟨a,e,⟨xs,hq⟩,q⟩:=q1
 subst e
 cases r1
 obtain⟨its,rv,p,hz⟩:=I1.tuple hq
 refine aS3 (show s1.heap.IsTuple a its.toArray from p) ?_
 refine⟨s1.heap.objs.size,[s1.heap.objs.size],_,_,H1,rfl,I1.kept (t':=s1.toks) λb o e=>aI3 _ e,vP a _,⟨_,aK1 _ rfl,rfl,rfl⟩,λb hb=>?_,q⟩
 have e:b=s1.heap.objs.size:=by simpa using hb
 subst e
 exact I1.fpOk (aI6 _) (I1.hok.fresh (aI6 _))
theorem vR {pins:List (Addr×Obj)}{σ:St}{H:Hp}{s:Shared}{R:It->Hp->Prop}{E:Value->Shared->Prop}{lo hi:Int}{t u v:Tok}{tk:Nat}(I:a5 X pins σ H s)(h1:-(2^62)<=lo)(h2:lo<2^62)(h3:-(2^62)<=hi)(h4:hi<2^62)(q:R (lH lo (hi-lo).toNat) H):wpAny (model X.prog X.w) X.A (pyIter (.ref s.heap.objs.size)) (vO X pins σ tg R) E { s with heap:=s.heap.push { cls:=.type "range",data:=.fields #[.int lo t,.int hi u,.int 1 v] },toks:=tk }:=by
 refine wpAny_pyIter_range (IsRange.new ..) (small_one h1 h2 h3 h4) ?_
 have I1:a5 X pins σ H { s with heap:=s.heap.push { cls:=.type "range",data:=.fields #[.int lo t,.int hi u,.int 1 v] },toks:=tk }:=I.kept λb o e=>aI3 _ e
 refine⟨(s.heap.push { cls:=.type "range",data:=.fields #[.int lo t,.int hi u,.int 1 v] }).objs.size,[(s.heap.push { cls:=.type "range",data:=.fields #[.int lo t,.int hi u,.int 1 v] }).objs.size],_,_,H,rfl,
  I1.kept (t':=tk) λb o e=>aI3 _ e,R6 _ lo (hi-lo).toNat,?_,λb hb=>?_,q⟩
 ·have e1:lo+((0:Nat):Int)*1=lo:=by simp
  have e2:(((hi-lo).toNat:Nat):Int)-((0:Nat):Int)=Builtin.Range.rangeSize lo hi 1:=by rw[rangeSize_one];split<;>omega
  show IsRangeIter _ _ (lo+((0:Nat):Int)*1) ((((hi-lo).toNat:Nat):Int)-((0:Nat):Int)) 1
  rw[e1,e2]
  exact aK1 _ rfl
 ·have e:b=(s.heap.push { cls:=.type "range",data:=.fields #[.int lo t,.int hi u,.int 1 v] }).objs.size:=by simpa using hb
  subst e
  exact I1.fpOk (aI6 _) (I1.hok.fresh (aI6 _))
noncomputable def vS (ta:TA):TI:=λσ H R=>ta σ H λvs H1=>∃j:Int,vs = [.int j]/\-(2^62)<=j/\j<2^62/\R (lH 0 j.toNat) H1
noncomputable def vT (ta:TA):TI:=λσ H R=>ta σ H λvs H1=>∃i j:Int,vs = [.int i,.int j]/\(-(2^62)<=i/\i<2^62/\-(2^62)<=j/\j<2^62)/\R (lH i (j-i).toNat) H1
theorem R8 {a:Expr}{ta:TA}{p pos:Pos}(hg:Gl X "range")(hm:X.mg "range" = none)(ha:PA X [a] ta)(hs:starEach [a] X.env = [(false,eval a X.env)]:=by rfl):PI X tg (.Call (.Name "range" p) [a] [] pos) (vS ta):=by
 intro pins s σ H R I h
 refine Call_ (j9 I hg hm boot_range (aR4 (aJ (ha pos pins s σ H _ I h) λus s1 ⟨vs,H1,I1,r1,q1⟩=>?_) hs rfl))
 obtain⟨j,e,q1,q2,q⟩:=q1
 subst e
 cases r1 with
 |cons r rr=>
  cases rr
  obtain⟨t,rfl⟩:=r
  exact call_range_1 (vR I1 (by omega) (by omega) q1 q2 (by simpa using q))
theorem R9 {a b:Expr}{ta:TA}{p pos:Pos}(hg:Gl X "range")(hm:X.mg "range" = none)(ha:PA X [a,b] ta)(hs:starEach [a,b] X.env = [(false,eval a X.env),(false,eval b X.env)]:=by rfl)(hs2:starEach [b] X.env = [(false,eval b X.env)]:=by rfl) :
  PI X tg (.Call (.Name "range" p) [a,b] [] pos) (vT ta):=by
 intro pins s σ H R I h
 refine Call_ (j9 I hg hm boot_range (aR4 (aJ (ha pos pins s σ H _ I h) λus s1 ⟨vs,H1,I1,r1,q1⟩=>?_) (by rw[hs,hs2]) (by rw[hs2];rfl)))
 obtain⟨i,j,e,⟨q1,q2,q3,q4⟩,q⟩:=q1
 subst e
 cases r1 with
 |cons r rr=>
  cases rr with
  |cons r' rr=>
   cases rr
   obtain⟨t,rfl⟩:=r
   obtain⟨t',rfl⟩:=r'
   exact call_range_2 (vR I1 q1 q2 q3 q4 q)
noncomputable def vU (wi:TI)(g:TG)(tb:TS):TS:=λD σ H=>wi σ H λJ H1=>∃W:Nat->Nat->St->Hp->Prop,(∃m,W 0 m σ H1)/\∀i m σ H,W i m σ H->
 (J.stop i H/\D.nx σ H)∨(J.go i H/\∃N:St->Hp->Prop,(∀σ' H',N σ' H'->∃m',m'<m/\W (i+1) m' σ' H')/\∀x H',J.yld i H x H'->g x σ H' λσ2 H2=>tb { D with nx:=N,ct:=N,bk:=D.nx } σ2 H2)
noncomputable def kE (fp:List Addr)(h:Heap):List (Addr×Obj):=fp.filterMap λb=>(h.get? b).map λo=>(b,o)
theorem kF {fp:List Addr}{h:Heap}{b:Addr}{o:Obj}(hb:b∈fp)(e:h.get? b=some o):(b,o)∈kE fp h:=List.mem_filterMap.mpr ⟨b,hb,by rw[e];rfl⟩
theorem S0 {fp:List Addr}{h:Heap}{p:Addr×Obj}(hp:p∈kE fp h):p.1∈fp/\h.get? p.1=some p.2:=by
 obtain⟨b,hb,e⟩:=List.mem_filterMap.mp hp
 cases q:h.get? b with
 |none=>rw[q]at e;cases e
 |some o=>
  rw[q]at e
  have e':(b,o)=p:=aL1 e
  subst e'
  exact⟨hb,q⟩
theorem a5.pinned {pins:List (Addr×Obj)}{σ:St}{H:Hp}{s:Shared}{fp:List Addr}(I:a5 X pins σ H s)(hf:∀b∈fp,dG X pins H b)(ho:∀b∈fp,∃o,s.heap.get? b=some o/\∀v,o.data≠.cell v):a5 X (pins++kE fp s.heap) σ H s:=
 I.pins_of λp hp=>(aP6.mp hp).elim (λz=>I.pin p (aK9 _ z)) λz=>by
  obtain⟨hb,e⟩:=S0 z
  obtain⟨f0,f1,f2,_⟩:=hf p.1 hb
  obtain⟨o,e',d⟩:=ho p.1 hb
  rw[e]at e';cases e'
  exact⟨e,f0,f1,f2,d⟩
theorem a5.unpinned {pins pl:List (Addr×Obj)}{σ:St}{H:Hp}{s:Shared}(I:a5 X (pins++pl) σ H s):a5 X pins σ H s:=I.pins_of λp hp=>I.pin p (aK9 _ (aV0 _ hp))
theorem vV {iter:Expr}{body:List Stmt}{wi:TI}{g:TG}{tb:TS}{pos:Pos}(hp:PassesOwn (model X.prog X.w) X.A X.env X.xe)(hc:X.calm=true)(hi:PI X tg iter wi)(hg:PG X tg g)(hb:cX X body tb)(hs:∀x,foldedSetIterable iter X.env x=pure x:=by intro _;rfl):PS X (.For tg iter body [] pos) (vU wi g tb):=by
 intro pins s σ H D I h
 refine wpAny_For (aJ (hi pins s σ H _ I h) λv s1 h1=>aJ h1 λitv s2 h2=>?_) hs
 obtain⟨it,fp,tn,J,H2,e,I2,T,st2,f2,W,⟨m0,w0⟩,turn⟩:=h2
 subst e
 have stat:∀{H':Hp},(∀b∈fp,H' b=none)->∀b∈fp,dG X pins H' b:=λhn b hb=>⟨hn b hb,(f2 b hb).2⟩
 refine codeAny_forLoop_any (λn s'=>∃i σ' H',a5 X pins σ' H' s'/\tn i s'.heap/\(∀b∈fp,H' b=none)/\W i n σ' H') ?_ m0 ⟨0,σ,H2,I2,st2,λb hb=>(f2 b hb).1,w0⟩
 rintro n s3 ⟨i,σ3,H3,I3,st3,fr3,w3⟩
 rcases turn i n σ3 H3 w3 with⟨stop,qn⟩|⟨go,N,hN,step⟩
 ·refine wpAny_passesOwn hp (aJ (T.done X rfl rfl rfl hc i pins s3 σ3 H3 X.xe I3 (stat fr3) st3 stop) λr s4 ⟨hr,I4⟩=>?_)
  subst hr
  exact wpAny_execs_nil ⟨σ3,H3,I4,qn⟩
 ·refine wpAny_passesOwn hp (aJ (T.item X rfl rfl rfl hc i pins s3 σ3 H3 X.xe I3 (stat fr3) st3 go) λr s4 ⟨u,hr,h4⟩=>?_)
  subst hr
  refine wpAny_passesOwn hp (aJ h4 λ_ s5 ⟨x,H5,I5,r5,y5,st5,fr5⟩=>?_)
  have I5':=I5.pinned (stat fr5) (T.obj _ _ st5)
  refine wpAny_passesOwn hp (aJ (hg _ s5 σ3 H5 x u _ I5' r5 (step x H5 y5)) λ_ s6 ⟨σ6,H6,I6,q6⟩=>?_)
  refine wpAny_passesOwn hp (aJ (hb _ s6 σ6 H6 _ I6 q6) λf s7 q7=>?_)
  have again:∀{σ7:St}{H7:Hp},a5 X (pins++kE fp s5.heap) σ7 H7 s7->N σ7 H7->∃m,m<n/\∃i σ' H',a5 X pins σ' H' s7/\tn i s7.heap/\(∀b∈fp,H' b=none)/\W i m σ' H':=λ{σ7 H7} I7 n7=>by
   obtain⟨m',hm,w7⟩:=hN σ7 H7 n7
   refine⟨m',hm,i+1,σ7,H7,I7.unpinned,T.keep _ _ _ st5 λb hb o e=>(I7.pin (b,o) (aK9 _ (aK9 _ (kF hb e)))).1,λb hb=>?_,w7⟩
   obtain⟨o,e,d⟩:=T.obj _ _ st5 b hb
   exact (I7.pin (b,o) (aK9 _ (aK9 _ (kF hb e)))).2.1
  cases f with
  |next=>obtain⟨σ7,H7,I7,n7⟩:=q7;exact again I7 n7
  |cont=>obtain⟨σ7,H7,I7,n7⟩:=q7;exact again I7 n7
  |brk=>obtain⟨σ7,H7,I7,q7⟩:=q7;exact⟨σ7,H7,I7.unpinned,q7⟩
  |ret v=>obtain⟨x7,σ7,H7,I7,r7,q7⟩:=q7;exact⟨x7,σ7,H7,I7.unpinned,r7,q7⟩
end
theorem aH6 {K:ac}{a:Addr}{xs:List V}{g:TG}{tb:TS}{D:cI}{σ:St}{H:Hp}(Pv:Nat->St->Hp->Prop)(h0:Pv 0 σ H)(hl:∀i σ H,i<=xs.length->Pv i σ H->aL K H a xs)(hs:∀i x σ H,xs[i]? = some x->Pv i σ H->g x σ H λσ2 H2=>tb { D with nx:=Pv (i+1),ct:=Pv (i+1),bk:=D.nx } σ2 H2)(hd:∀σ H,Pv xs.length σ H->D.nx σ H) :
  ∃W:Nat->Nat->St->Hp->Prop,(∃m,W 0 m σ H)/\∀i m σ H,W i m σ H->
   ((kD K a).stop i H/\D.nx σ H)∨((kD K a).go i H/\∃N:St->Hp->Prop,(∀σ' H',N σ' H'->∃m',m'<m/\W (i+1) m' σ' H')/\∀x H',(kD K a).yld i H x H'->g x σ H' λσ2 H2=>tb { D with nx:=N,ct:=N,bk:=D.nx } σ2 H2):=by
 refine⟨λi m σ H=>m=xs.length-i/\i<=xs.length/\Pv i σ H,⟨xs.length,by simp,aP8 _,h0⟩,?_⟩
 rintro i m σ H ⟨rfl,hi,p⟩
 have q:=hl i σ H hi p
 by_cases hlt:i<xs.length
 ·refine .inr ⟨⟨xs,xs[i],q,by simp[hlt]⟩,Pv (i+1),λσ' H' p'=>⟨xs.length-(i+1),by omega,rfl,hlt,p'⟩,λx H' y=>?_⟩
  obtain⟨e,y⟩:=y
  subst e
  exact hs i x σ _ (y xs q) p
 ·have e:i=xs.length:=by omega
  subst e
  exact .inl ⟨⟨xs,q,aI6 _⟩,hd σ H p⟩
theorem S2 {K:ac}{a:Addr}{xs:List V}{g:TG}{tb:TS}{D:cI}{σ:St}{H:Hp}(Pv:Nat->St->Hp->Prop)(h0:Pv 0 σ H)(hl:∀i σ H,i<=xs.length->Pv i σ H->aI K H a xs)(hs:∀i x σ H,xs[i]? = some x->Pv i σ H->g x σ H λσ2 H2=>tb { D with nx:=Pv (i+1),ct:=Pv (i+1),bk:=D.nx } σ2 H2)(hd:∀σ H,Pv xs.length σ H->D.nx σ H) :
  ∃W:Nat->Nat->St->Hp->Prop,(∃m,W 0 m σ H)/\∀i m σ H,W i m σ H->
   ((iH K a).stop i H/\D.nx σ H)∨((iH K a).go i H/\∃N:St->Hp->Prop,(∀σ' H',N σ' H'->∃m',m'<m/\W (i+1) m' σ' H')/\∀x H',(iH K a).yld i H x H'->g x σ H' λσ2 H2=>tb { D with nx:=N,ct:=N,bk:=D.nx } σ2 H2):=by
 refine⟨λi m σ H=>m=xs.length-i/\i<=xs.length/\Pv i σ H,⟨xs.length,by simp,aP8 _,h0⟩,?_⟩
 rintro i m σ H ⟨rfl,hi,p⟩
 have q:=hl i σ H hi p
 by_cases hlt:i<xs.length
 ·refine .inr ⟨⟨xs,xs[i],q,by simp[hlt]⟩,Pv (i+1),λσ' H' p'=>⟨xs.length-(i+1),by omega,rfl,hlt,p'⟩,λx H' y=>?_⟩
  obtain⟨e,y⟩:=y
  subst e
  exact hs i x σ _ (y xs q) p
 ·have e:i=xs.length:=by omega
  subst e
  exact .inl ⟨⟨xs,q,aI6 _⟩,hd σ H p⟩
noncomputable abbrev R2:=V->V->Hp->VK->Prop
noncomputable def bY (X:Cx)(f:Value->Value->Sem Value)(r:R2):Prop:=
 ∀(pins:List (Addr×Obj)) (s:Shared) (σ:St) (H:Hp) (x y:V) (v u:Value) (Q:VK),a5 X pins σ H s->aQ x v->aQ y u->r x y H Q->
  wpAny (model X.prog X.w) X.A (f v u) (EP X pins σ Q) X.xe s
noncomputable def qF (X:Cx)(f:Value->Sem Value)(r:V->Hp->VK->Prop):Prop:=
 ∀(pins:List (Addr×Obj)) (s:Shared) (σ:St) (H:Hp) (x:V) (v:Value) (Q:VK),a5 X pins σ H s->aQ x v->r x H Q->
  wpAny (model X.prog X.w) X.A (f v) (EP X pins σ Q) X.xe s
noncomputable def cN (X:Cx)(f:Value)(r:List V->Hp->VK->Prop):Prop:=
 ∀(pins:List (Addr×Obj)) (s:Shared) (σ:St) (H:Hp) (xs:List V) (us:List Value) (Q:VK),a5 X pins σ H s->aK xs us->r xs H Q->
  wpAny (model X.prog X.w) X.A (call f us) (EP X pins σ Q) X.xe s
noncomputable def S3 (X:Cx)(r:V->Hp->(Bool->Hp->Prop)->Prop):Prop:=
 ∀(pins:List (Addr×Obj)) (s:Shared) (σ:St) (H:Hp) (x:V) (v:Value) (Q:Bool->Hp->Prop),a5 X pins σ H s->aQ x v->r x H Q->
  wpAny (model X.prog X.w) X.A (truthy v) (TP X pins σ Q) X.xe s
noncomputable def lI (r:R2)(ta tb:TE):TE:=λσ H Q=>ta σ H λx H1=>tb σ H1 λy H2=>r x y H2 Q
noncomputable def S4 (r:V->Hp->VK->Prop)(ta:TE):TE:=λσ H Q=>ta σ H λx H1=>r x H1 Q
noncomputable def rI (C:Int->Int->Prop)(g:Int->Int->V):R2:=λx y H Q=>∃i j,x = .int i/\y = .int j/\C i j/\Q (g i j) H
noncomputable def gF (g:Int->Int->V):R2:=λx y H Q=>∃i j,x = .int i/\y = .int j/\Q (g i j) H
noncomputable def rU (g:Int->V):V->Hp->VK->Prop:=λx H Q=>∃i,x = .int i/\Q (g i) H
section
variable {X:Cx}{a b c:Expr}{ta tb tc:TE}{pos:Pos}
theorem qG (ha:PE X a ta)(hb:PE X b tb){pins:List (Addr×Obj)}{s:Shared}{σ:St}{H:Hp}{R:V->V->Hp->Prop}(I:a5 X pins σ H s)(h:ta σ H λx H1=>tb σ H1 λy H2=>R x y H2){Q:Value->Shared->Prop}{f:Value->Value->Sem Value}(hf:∀v u s2 x y H2,a5 X pins σ H2 s2->aQ x v->aQ y u->R x y H2->wpAny (model X.prog X.w) X.A (f v u) Q X.xe s2) :
  wpAny (model X.prog X.w) X.A (eval a X.env) (λv s₁=>wpAny (model X.prog X.w) X.A (eval b X.env) (λu s₂=>wpAny (model X.prog X.w) X.A (f v u) Q X.xe s₂) X.xe s₁) X.xe s:=by
 refine aJ (ha pins s σ H _ I h) λv s1 ⟨x,H1,I1,r1,q1⟩=>?_
 refine aJ (hb pins s1 σ H1 _ I1 q1) λu s2 ⟨y,H2,I2,r2,q2⟩=>?_
 exact hf v u s2 x y H2 I2 r1 r2 q2
theorem S5 {op:Operator}{r:R2}(ho:bY X (binaryOp op) r)(ha:PE X a ta)(hb:PE X b tb):PE X (.BinOp a op b pos) (lI r ta tb):=by
 intro pins s σ H Q I h
 exact wpAny_BinOp (qG ha hb I h λv u s2 x y H2 I2 rx ry q=>ho pins s2 σ H2 x y v u Q I2 rx ry q)
theorem S6 {op:UnaryOp}{r:V->Hp->VK->Prop}(ho:qF X (unaryOp op) r)(ha:PE X a ta):PE X (.UnaryOp op a pos) (S4 r ta):=by
 intro pins s σ H Q I h
 exact UnaryOp_ (aJ (ha pins s σ H _ I h) λv s1 ⟨x,H1,I1,r1,q1⟩=>ho pins s1 σ H1 x v Q I1 r1 q1)
theorem nG {f:Value->Value->Sem Value}{C:Int->Int->Prop}{g:Int->Int->Int}(rule:∀(i j:Int) (t u:Tok) (s:Shared) (Q:Value->Shared->Prop) (E:Value->Shared->Prop),C i j->Q (.int (g i j) s.toks) { s with toks:=s.toks+1 }->wpAny (model X.prog X.w) X.A (f (.int i t) (.int j u)) Q E s) :
  bY X f (rI C λi j=>.int (g i j)):=by
 intro pins s σ H x y v u Q I rx ry h
 obtain⟨i,j,rfl,rfl,hc,q⟩:=h
 obtain⟨t,rfl⟩:=rx
 obtain⟨t',rfl⟩:=ry
 exact rule i j t t' s _ _ hc ⟨.int (g i j),H,I.tok _,⟨_,rfl⟩,q⟩
theorem vW {f:Value->Value->Sem Value}{g:Int->Int->Int}(rule:∀(i j:Int) (t u:Tok) (s:Shared) (Q:Value->Shared->Prop) (E:Value->Shared->Prop),Q (.int (g i j) s.toks) { s with toks:=s.toks+1 }->wpAny (model X.prog X.w) X.A (f (.int i t) (.int j u)) Q E s) :
  bY X f (gF λi j=>.int (g i j)):=by
 intro pins s σ H x y v u Q I rx ry h
 obtain⟨i,j,rfl,rfl,q⟩:=h
 obtain⟨t,rfl⟩:=rx
 obtain⟨t',rfl⟩:=ry
 exact rule i j t t' s _ _ ⟨.int (g i j),H,I.tok _,⟨_,rfl⟩,q⟩
theorem qH {f:Value->Value->Sem Value}{g:Int->Int->Bool}(rule:∀(i j:Int) (t u:Tok) (s:Shared) (Q:Value->Shared->Prop) (E:Value->Shared->Prop),Q (.bool (g i j)) s->wpAny (model X.prog X.w) X.A (f (.int i t) (.int j u)) Q E s) :
  bY X f (gF λi j=>.bl (g i j)):=by
 intro pins s σ H x y v u Q I rx ry h
 obtain⟨i,j,rfl,rfl,q⟩:=h
 obtain⟨t,rfl⟩:=rx
 obtain⟨t',rfl⟩:=ry
 exact rule i j t t' s _ _ ⟨.bl (g i j),H,I,rfl,q⟩
noncomputable def qI (i j:Int):Prop:=0<j/\j<1073741824
noncomputable def qJ (i j:Int):Prop:=0<=j/\j<=1000000/\i.natAbs<2^64
noncomputable def lJ (i j:Int):Prop:=(-(2^64)<i/\i<2^64)∨(-(2^64)<j/\j<2^64)
theorem lJ.ok {i j:Int}(h:lJ i j):IntMulOk i j:=by
 rcases h with⟨h1,h2⟩|⟨h1,h2⟩
 ·exact .of_left (intBits_le_64 h1 h2)
 ·exact .of_right (intBits_le_64 h1 h2)
theorem S7:bY X (binaryOp .Add) (gF λi j=>.int (i+j)):=vW λ_ _ _ _ _ _ _ q=>add_int q
theorem S8:bY X (binaryOp .Sub) (gF λi j=>.int (i-j)):=vW λ_ _ _ _ _ _ _ q=>sub_int q
theorem S9:bY X (binaryOp .Mult) (rI lJ λi j=>.int (i*j)):=nG λ_ _ _ _ _ _ _ hc q=>mul_int q hc.ok
theorem T0:bY X (binaryOp .FloorDiv) (rI qI λi j=>.int (i/j)):=nG λi j _ _ _ _ _ hc q=>by
 have h1:(0:Int)<j:=hc.1
 have h2:j<1073741824:=hc.2
 exact floordiv_int (by omega) (by rw[Int.fdiv_eq_ediv_of_nonneg i (by omega)];exact q) (.inl (PyProof.noPylong_small (by omega)))
theorem T1:bY X (binaryOp .Mod) (rI (λ_ j=>0<j) λi j=>.int (i%j)):=nG λi j _ _ _ _ _ hc q=>by
 have h1:(0:Int)<j:=hc
 exact mod_int' (by omega) (by rw[Int.fmod_eq_emod_of_nonneg i (by omega)];exact q)
theorem T2:bY X (binaryOp .Pow) (rI qJ λi j=>.int (i^j.toNat)):=nG λ_ _ _ _ _ _ _ hc q=>pow_int_small hc.1 hc.2.1 hc.2.2 q
theorem T3 {f:Value->Sem Value}{g:Int->Int}(rule:∀(i:Int) (t:Tok) (s:Shared) (Q:Value->Shared->Prop) (E:Value->Shared->Prop),Q (.int (g i) s.toks) { s with toks:=s.toks+1 }->wpAny (model X.prog X.w) X.A (f (.int i t)) Q E s) :
  qF X f (rU λi=>.int (g i)):=by
 intro pins s σ H x v Q I rx h
 obtain⟨i,rfl,q⟩:=h
 obtain⟨t,rfl⟩:=rx
 exact rule i t s _ _ ⟨.int (g i),H,I.tok _,⟨_,rfl⟩,q⟩
theorem T4:qF X (unaryOp .USub) (rU λi=>.int (-i)):=T3 λ_ _ _ _ _ q=>neg_int q
end
noncomputable def vX:V->V->Bool
 |.non,.non=>true|.non,.int _=>true|.int _,.non=>true|.non,.bl _=>true|.bl _,.non=>true|.non,.str _=>true|.str _,.non=>true
 |.int _,.int _=>true|.bl _,.bl _=>true|.str _,.str _=>true|.byt _,.byt _=>true
 |.int _,.str _=>true|.str _,.int _=>true|.bl _,.str _=>true|.str _,.bl _=>true
 |_,_=>false
noncomputable def vY:R2:=λx y H Q=>vX x y=true/\Q (.bl (decide (x=y))) H
noncomputable def vZ:R2:=λx y H Q=>vX x y=true/\Q (.bl (!decide (x=y))) H
theorem w4 {i j:Int}:decide (V.int i=V.int j)=(i==j):=by
 rw[aT4]
 simp
theorem w5 {i j:Bool}:decide (V.bl i=V.bl j)=(i==j):=by
 rw[aT4]
 simp
theorem w6 {i j:Str}:decide (V.str i=V.str j)=(i==j):=by
 rw[aT4]
 simp
theorem w9 {i j:Array UInt8}:decide (V.byt i=V.byt j)=(i.toList==j.toList):=by
 rw[aT4]
 cases i
 cases j
 simp
section
variable {X:Cx}{a b c:Expr}{ta tb tc:TE}{pos:Pos}
theorem bR {pins:List (Addr×Obj)}{σ:St}{H:Hp}{s:Shared}{Q:VK}{k k':Bool}(I:a5 X pins σ H s)(q:Q (.bl k) H)(e:k=k'):EP X pins σ Q (.bool k') s:=by
 subst e
 exact⟨.bl k,H,I,rfl,q⟩
theorem T5:bY X (compareOp .Eq) vY:=by
 intro pins s σ H x y v u Q I rx ry h
 obtain⟨hs,q⟩:=h
 cases x with
 |non=>
  cases rx
  cases y with
  |non=>cases ry;exact PySem.EqNone.eq_none_none (bR I q (by simp))
  |bl j=>cases ry;exact PySem.EqNone.eq_none_bool (bR I q (by simp))
  |int j=>obtain⟨t',rfl⟩:=ry;exact PySem.EqNone.eq_none_int (bR I q (by simp))
  |str j=>obtain⟨t',rfl⟩:=ry;exact PySem.EqNone.eq_none_str (bR I q (by simp))
  |_=>exact absurd (show false=true from hs) aJ4
 |bl i=>
  cases rx
  cases y with
  |non=>cases ry;exact PySem.EqNone.eq_bool_none (bR I q (by simp))
  |bl j=>cases ry;exact eq_bool (bR I q w5)
  |str j=>obtain⟨t',rfl⟩:=ry;exact PySem.EqMixed.eq_bool_str (bR I q (by simp))
  |_=>exact absurd (show false=true from hs) aJ4
 |int i=>
  obtain⟨t,rfl⟩:=rx
  cases y with
  |non=>cases ry;exact PySem.EqNone.eq_int_none (bR I q (by simp))
  |int j=>obtain⟨t',rfl⟩:=ry;exact eq_int (bR I q w4)
  |str j=>obtain⟨t',rfl⟩:=ry;exact PySem.EqMixed.eq_int_str (bR I q (by simp))
  |_=>exact absurd (show false=true from hs) aJ4
 |str i=>
  obtain⟨t,rfl⟩:=rx
  cases y with
  |non=>cases ry;exact PySem.EqNone.eq_str_none (bR I q (by simp))
  |bl j=>cases ry;exact PySem.EqMixed.eq_str_bool (bR I q (by simp))
  |int j=>obtain⟨t',rfl⟩:=ry;exact PySem.EqMixed.eq_str_int (bR I q (by simp))
  |str j=>obtain⟨t',rfl⟩:=ry;exact eq_str (bR I q w6)
  |_=>exact absurd (show false=true from hs) aJ4
 |byt i=>
  obtain⟨t,rfl⟩:=rx
  cases y with
  |byt j=>obtain⟨t',rfl⟩:=ry;exact PySem.W.eq_bytes (bR I q w9)
  |_=>exact absurd (show false=true from hs) aJ4
 |_=>cases y<;>exact absurd (show false=true from hs) aJ4
theorem T6:bY X (compareOp .NotEq) vZ:=by
 intro pins s σ H x y v u Q I rx ry h
 obtain⟨hs,q⟩:=h
 cases x with
 |non=>
  cases rx
  cases y with
  |non=>cases ry;exact PySem.EqNone.ne_none_none (bR I q (by simp))
  |bl j=>cases ry;exact PySem.EqNone.ne_none_bool (bR I q (by simp))
  |int j=>obtain⟨t',rfl⟩:=ry;exact PySem.EqNone.ne_none_int (bR I q (by simp))
  |str j=>obtain⟨t',rfl⟩:=ry;exact PySem.EqNone.ne_none_str (bR I q (by simp))
  |_=>exact absurd (show false=true from hs) aJ4
 |bl i=>
  cases rx
  cases y with
  |non=>cases ry;exact PySem.EqNone.ne_bool_none (bR I q (by simp))
  |bl j=>cases ry;exact ne_bool (bR I q (congrArg not w5))
  |str j=>obtain⟨t',rfl⟩:=ry;exact PySem.EqMixed.ne_bool_str (bR I q (by simp))
  |_=>exact absurd (show false=true from hs) aJ4
 |int i=>
  obtain⟨t,rfl⟩:=rx
  cases y with
  |non=>cases ry;exact PySem.EqNone.ne_int_none (bR I q (by simp))
  |int j=>obtain⟨t',rfl⟩:=ry;exact ne_int (bR I q (congrArg not w4))
  |str j=>obtain⟨t',rfl⟩:=ry;exact PySem.EqMixed.ne_int_str (bR I q (by simp))
  |_=>exact absurd (show false=true from hs) aJ4
 |str i=>
  obtain⟨t,rfl⟩:=rx
  cases y with
  |non=>cases ry;exact PySem.EqNone.ne_str_none (bR I q (by simp))
  |bl j=>cases ry;exact PySem.EqMixed.ne_str_bool (bR I q (by simp))
  |int j=>obtain⟨t',rfl⟩:=ry;exact PySem.EqMixed.ne_str_int (bR I q (by simp))
  |str j=>obtain⟨t',rfl⟩:=ry;exact ne_str (bR I q (congrArg not w6))
  |_=>exact absurd (show false=true from hs) aJ4
 |byt i=>
  obtain⟨t,rfl⟩:=rx
  cases y with
  |byt j=>obtain⟨t',rfl⟩:=ry;exact PySem.W.ne_bytes (bR I q (congrArg not w9))
  |_=>exact absurd (show false=true from hs) aJ4
 |_=>cases y<;>exact absurd (show false=true from hs) aJ4
theorem wA:bY X (compareOp .Lt) (gF λi j=>.bl (decide (i<j))):=qH λ_ _ _ _ _ _ _ q=>lt_int q
theorem T7:bY X (compareOp .Gt) (gF λi j=>.bl (decide (j<i))):=qH λ_ _ _ _ _ _ _ q=>gt_int q
theorem T8:bY X (compareOp .GtE) (gF λi j=>.bl (decide (j<=i))):=qH λ_ _ _ _ _ _ _ q=>ge_int q
theorem iI (b:Expr){op:CmpOp}(h:op≠.In:=by decide)(h2:op≠.NotIn:=by decide):behindInMarks op b=false:=by
 have e1:(op==CmpOp.In)=false:=by cases op<;>first|rfl|exact absurd rfl h
 have e2:(op==CmpOp.NotIn)=false:=by cases op<;>first|rfl|exact absurd rfl h2
 cases b<;>simp[behindInMarks,e1,e2]
theorem T9 {op:CmpOp}{r:R2}(ho:bY X (compareOp op) r)(ha:PE X a ta)(hb:PE X b tb)(hm:behindInMarks op b=false):PE X (.Compare a [op] [b] pos) (lI r ta tb):=by
 intro pins s σ H Q I h
 exact wpAny_Compare1 (qG ha hb I h λv u s2 x y H2 I2 rx ry q=>ho pins s2 σ H2 x y v u Q I2 rx ry q) hm
noncomputable def U0 (t:TE):TT:=λσ H Q=>t σ H λx H'=>∃k,x = .bl k/\Q k H'
theorem U1 {op:CmpOp}{r:R2}(ho:bY X (compareOp op) r)(ha:PE X a ta)(hb:PE X b tb)(hm:behindInMarks op b=false):PT X (.Compare a [op] [b] pos) (U0 (lI r ta tb)):=by
 intro pins s σ H Q I h
 refine wpAny_isTrue_Compare1 (aJ (ha pins s σ H _ I h) λv s1 ⟨x,H1,I1,r1,q1⟩=>aJ (hb pins s1 σ H1 _ I1 q1) λu s2 ⟨y,H2,I2,r2,q2⟩=>
  aJ (ho pins s2 σ H2 x y v u _ I2 r1 r2 q2) λc s3 ⟨z,H3,I3,r3,k,e,q3⟩=>?_) hm
 subst e
 cases r3
 exact aS9 ⟨H3,I3,q3⟩
noncomputable def qK (K:ac)(x:V)(H:Hp)(k:Bool):Prop:=
 match x with
 |.non=>k=false
 |.bl b=>k=b
 |.int i=>k=(i != 0)
 |.str y=>y.length<=sizeLine/\k=((y.length:Int) != 0)
 |.byt y=>y.size<=sizeLine/\k=((y.size:Int) != 0)
 |.ref p=>(∃xs,aL K H p xs/\k = !xs.isEmpty)∨(∃xs,aI K H p xs/\k = !xs.isEmpty)∨∃kvs,H p=some (.dK kvs)/\k = !kvs.isEmpty
 |_=>False
theorem U2 {κ:Type}{kvs:List (κ×V)}{vs:List (κ×Value)}(r:KV kvs vs):(!vs.isEmpty) = !kvs.isEmpty:=by
 cases r<;>rfl
theorem wB {xs:List V}{its:List Value}(r:aK xs its):(!its.toArray.isEmpty) = !xs.isEmpty:=by
 cases r<;>simp
theorem kG:(sizeLine:Nat)<2^63:=by rw[sizeLine_eq];decide
theorem U3:S3 X (λx H Q=>∃k,qK X.K x H k/\Q k H):=by
 intro pins s σ H x v Q I rx h
 obtain⟨k,e,q⟩:=h
 have hl:=kG
 have hs:sizeLine=16777216:=sizeLine_eq
 cases x with
 |non=>
  cases rx
  have e':k=false:=e
  subst e'
  exact truthy_none ⟨H,I,q⟩
 |bl b=>
  cases rx
  have e':k=b:=e
  subst e'
  exact aS9 ⟨H,I,q⟩
 |int i=>
  obtain⟨t,rfl⟩:=rx
  have e':k=(i != 0):=e
  subst e'
  exact PySem.P.truthy_int ⟨H,I,q⟩
 |str y=>
  obtain⟨t,rfl⟩:=rx
  obtain⟨hy,e'⟩:y.length<=sizeLine/\k=((y.length:Int) != 0):=e
  subst e'
  exact PySem.P.truthy_str (by omega) ⟨H,I.tok _,q⟩
 |byt y=>
  obtain⟨t,rfl⟩:=rx
  obtain⟨hy,e'⟩:y.size<=sizeLine/\k=((y.size:Int) != 0):=e
  subst e'
  exact PySem.W.truthy_bytes (by omega) ⟨H,I.tok _,q⟩
 |ref p=>
  cases rx
  have e':(∃xs,aL X.K H p xs/\k = !xs.isEmpty)∨(∃xs,aI X.K H p xs/\k = !xs.isEmpty)∨∃kvs,H p=some (.dK kvs)/\k = !kvs.isEmpty:=e
  rcases e' with⟨xs,hx,e'⟩|⟨xs,hx,e'⟩|⟨kvs,hx,e'⟩
  ·subst e'
   obtain⟨its,r,pl,hz⟩:=I.list hx
   have hlen:=r.length
   exact wpAny_truthy_list pl.isList (by simp only[aI4];omega) ⟨H,I.tok _,by rw[wB r];exact q⟩
  ·subst e'
   obtain⟨its,r,pl,hz⟩:=I.tuple hx
   have hlen:=r.length
   exact truthy_tuple pl (by simp only[aI4];omega) ⟨H,I.tok _,by rw[wB r];exact q⟩
  ·subst e'
   obtain⟨hz,hS,vs,r,m⟩:kvs.length<=sizeLine/\(p==sysModules)=false/\∃vs,KV kvs vs/\s.heap.DictOf (dQ X.prog X.w) p vs:=I.hok p _ hx
   have hlen:kvs.length=vs.length:=Paired.length r
   exact wpAny_truthy_dict hS m (by omega) ⟨H,I.tok _,by rw[U2 r];exact q⟩
 |_=>exact (show False from e).elim
theorem U4 (ha:PE X a ta)(he:∀whole,isTrue a X.env whole=(do let v <- whole;standAt a.pos;holding [v] (truthy v))) :
  PT X a (λσ H Q=>ta σ H λx H'=>∃k,qK X.K x H' k/\Q k H'):=by
 intro pins s σ H Q I h
 exact isTrue_plain (aJ (ha pins s σ H _ I h) λv s1 ⟨x,H1,I1,r1,q1⟩=>U3 pins s1 σ H1 x v Q I1 r1 q1) (he _)
theorem gV {x:V}{us:List Value}(r:aK [x] us):∃u,us = [u]/\aQ x u:=by
 cases r with
 |cons r1 r2=>cases r2;exact⟨_,rfl,r1⟩
theorem lK {x y:V}{us:List Value}(r:aK [x,y] us):∃u w',us = [u,w']/\aQ x u/\aQ y w':=by
 cases r with
 |cons r1 r2=>
  cases r2 with
  |cons r3 r4=>cases r4;exact⟨_,_,rfl,r1,r3⟩
theorem U5 (hc:X.calm=true):cN X (.builtin "max") (λxs H Q=>∃i j,xs = [.int i,.int j]/\Q (.int (if j>i then j else i)) H):=by
 intro pins s σ H xs us Q I r h
 obtain⟨i,j,rfl,q⟩:=h
 obtain⟨u,w',rfl,⟨t,rfl⟩,⟨t',rfl⟩⟩:=lK r
 refine max_two_ints (I.ok.hd hc) λh' tk k=>⟨_,H,I.kept k,?_,q⟩
 by_cases hj:j>i
 ·rw[if_pos hj,if_pos hj];exact⟨_,rfl⟩
 ·rw[if_neg hj,if_neg hj];exact⟨_,rfl⟩
theorem U6 (hc:X.calm=true):cN X (.builtin "min") (λxs H Q=>∃i j,xs = [.int i,.int j]/\Q (.int (if j<i then j else i)) H):=by
 intro pins s σ H xs us Q I r h
 obtain⟨i,j,rfl,q⟩:=h
 obtain⟨u,w',rfl,⟨t,rfl⟩,⟨t',rfl⟩⟩:=lK r
 refine min_two_ints (I.ok.hd hc) λh' tk k=>⟨_,H,I.kept k,?_,q⟩
 by_cases hj:j<i
 ·rw[if_pos hj,if_pos hj];exact⟨_,rfl⟩
 ·rw[if_neg hj,if_neg hj];exact⟨_,rfl⟩
end
structure qL (h:Heap)(x dx C:Addr)(mA:Str->Option Value):Prop where
 obj:h.get? x=some (PySem.W.instObj C dx)
 ns:h.Ns1 dx mA
 ne:dx≠x
theorem U7 {h:Heap}{dx:Addr}{mA:Str->Option Value}(n:h.Ns1 dx mA):∃od,h.get? dx=some od/\∀name,PySem.W.lookIn name od=some (mA name):=by
 obtain⟨o,es,ep,ho,hd,hk,_,hm⟩:=n
 refine⟨o,ho,λname=>?_⟩
 have e:=hm name
 unfold nsFind findBy at e
 rw[<- Array.find?_toList]at e
 unfold PySem.W.lookIn
 rw[hd]
 dsimp only
 split
 ·rename_i y q
  rw[q]at e
  exact congrArg some e
 ·rename_i q
  rw[q]at e
  have a:es.toList.any (·.refKey)=false:=by
   rw[List.any_eq_false]
   intro y hy
   obtain⟨z,t,hkey⟩:=hk y (Array.mem_toList_iff.mp hy)
   simp[DictEntry.refKey,hkey]
  have a':¬es.toList.any (·.refKey)=true:=by rw[a];exact aJ4
  rw[if_neg a']
  exact congrArg some e
theorem qL.look {h:Heap}{x dx C:Addr}{mA:Str->Option Value}(I:qL h x dx C mA):∃od,PySem.W.InstAt h x (PySem.W.instObj C dx) C (some od)/\∀name,PySem.W.lookIn name od=some (mA name):=
 let ⟨od,ho,hl⟩:=U7 I.ns
 ⟨od,⟨I.obj,rfl,rfl,ho⟩,hl⟩
section
variable {P:Program}{w:World}{H H':Hp}{h h':Heap}{a C dx:Addr}{fs fs':List (Str×V)}
theorem U8 (hok:bE P w H h)(e:H a=some (.ins C dx fs)):∃mA,qL h a dx C mA/\(∀f,j6 (fs.lookup f) (mA f))/\PySem.Within mA (fs.map (·.1))/\fs.length<=1000/\H dx=some (.own a):=by
 obtain⟨d,z,ne,ob,mA,n,r,q⟩:=(show bM P w H h a (.ins C dx fs) from hok a _ e)
 exact⟨mA,⟨ob,n,ne⟩,r,q,z,d⟩
end
structure qM (K:ac)(C:Addr):Prop where
 pg:PySem.W.plainGet K C Str.empty=true
 hd:PySem.W.hasDictIn K C=true
 po:PySem.W.plainOver K C=true
 sa:PySem.W.findIn K (.ref C) "__setattr__" = some (some (.builtin "object.__setattr__"))
theorem qM.get {K:ac}{C:Addr}(c:qM K C)(f:Str):PySem.W.plainGet K C f=true:=c.pg
section
variable {X:Cx}{pins:List (Addr×Obj)}{σ:St}{H:Hp}{s:Shared}{A:Around}{E:Value→Shared→Prop}{Q:Value→Shared→Prop}{c:Value}{b:Bool}
inductive dY (K:ac)(H:Hp):V->Value->Prop where
 |non:dY K H .non (.type "NoneType")
 |bl (x:Bool):dY K H (.bl x) (.type "bool")
 |int (i:Int):dY K H (.int i) (.type "int")
 |str (x:Str):dY K H (.str x) (.type "str")
 |flt (x:UInt64):dY K H (.flt x) (.type "float")
 |lst {a:Addr}{xs:List V} (e:H a=some (.lst xs)):dY K H (.ref a) (.type "list")
 |frz {a:Addr}{o:Obj}{xs:List V} (e:H a=some (.frz o (.lst xs))):dY K H (.ref a) (.type "list")
 |tup {a:Addr}{xs:List V} (e:H a=some (.tup xs)):dY K H (.ref a) (.type "tuple")
 |dK {a:Addr}{kvs:List (aH×V)} (e:H a=some (.dK kvs)):dY K H (.ref a) (.type "dict")
 |dT {a:Addr}{kvs:List (List aH×V)} (e:H a=some (.dT kvs)):dY K H (.ref a) (.type "dict")
 |ins {a C dx:Addr}{fs:List (Str×V)} (e:H a=some (.ins C dx fs)) (cl:qM K C) (ha:PySem.W.findIn K (.ref C) "__class__" = some (some (.builtin "object.__class__")))
   (hn:PySem.W.specialIn K (.builtin "object.__class__") "__get__" = some (some (.builtin "getset_descriptor.__get__"))) (htk:PySem.W.takesIn K (.builtin "object.__class__")=some true)
   (hm:PySem.W.mroIn K C (.type "object")=some true):dY K H (.ref a) (.ref C)
theorem U9 {x:V}{u t:Value}(I:a5 X pins σ H s)(rx:aQ x u)(ty:dY X.K H x t)(e:PySem.W.kitOne X.K t c=some b)(h:∀tk,Q (.bool b) { s with toks:=tk }) :
  wpAny (model X.prog X.w) A (call (.builtin "isinstance") [u,c]) Q E s:=by
 cases ty with
 |non=>cases (show u=Value.none from rx);exact aN7 PySem.W.kitx_none I.kIn aW4 e (λz=>nomatch z) h
 |bl y=>cases (show u=Value.bool y from rx);exact aN7 PySem.W.kitx_bool I.kIn aW4 e (λz=>nomatch z) h
 |int i=>obtain⟨t,q⟩:=(show ∃t,u=Value.int i t from rx);cases q;exact aN7 PySem.W.kitx_int I.kIn aW4 e (λz=>nomatch z) h
 |str y=>obtain⟨t,q⟩:=(show ∃t,u=Value.str y t from rx);cases q;exact aN7 PySem.W.kitx_str I.kIn aW4 e (λz=>nomatch z) h
 |flt y=>obtain⟨t,q⟩:=(show ∃t,u=Value.float y t from rx);cases q;exact aN7 PySem.W.kitx_float I.kIn aW4 e (λz=>nomatch z) h
 |@lst a xs ea=>
  cases (show u=Value.ref a from rx)
  obtain⟨_,_,n,_,h1⟩:=(show bM X.prog X.w H s.heap a (.lst xs) from I.hok a _ ea)
  exact aN7 PySem.W.kitx_list I.kIn ⟨_,h1,rfl⟩ e (λz=>nomatch z) h
 |@frz a ob xs ea=>
  cases (show u=Value.ref a from rx)
  obtain⟨_,_,_,n,_,h1⟩:=(show bM X.prog X.w H s.heap a (.frz ob (.lst xs)) from I.hok a _ ea)
  exact aN7 PySem.W.kitx_list I.kIn ⟨_,h1,rfl⟩ e (λz=>nomatch z) h
 |@tup a xs ea=>
  cases (show u=Value.ref a from rx)
  obtain⟨_,_,_,p,_⟩:=(show bM X.prog X.w H s.heap a (.tup xs) from I.hok a _ ea)
  obtain⟨o,h1,h2,_⟩:=p
  exact aN7 PySem.W.kitx_tuple I.kIn ⟨o,h1,h2⟩ e (λz=>nomatch z) h
 |@dK a kvs ea=>
  cases (show u=Value.ref a from rx)
  obtain⟨_,_,vs,_,p⟩:=(show bM X.prog X.w H s.heap a (.dK kvs) from I.hok a _ ea)
  obtain⟨o,es,ep,h1,h2,_⟩:=p
  exact aN7 PySem.W.kitx_dict I.kIn ⟨o,h1,h2.1⟩ e (λz=>nomatch z) h
 |@dT a kvs ea=>
  cases (show u=Value.ref a from rx)
  obtain⟨_,_,xs,_,o,es,ep,h1,h2,_⟩:=(show bM X.prog X.w H s.heap a (.dT kvs) from I.hok a _ ea)
  exact aN7 PySem.W.kitx_dict I.kIn ⟨o,h1,h2.1⟩ e (λz=>nomatch z) h
 |@ins a C dx fs ea cl ha hn htk hm=>
  cases (show u=Value.ref a from rx)
  obtain⟨mA,O,_⟩:=U8 I.hok ea
  obtain⟨od,J,_⟩:=O.look
  exact aN7 (PySem.W.kitx_own (cl.get _) cl.hd ha hn htk hm) I.kIn J e (λz=>nomatch z) h
end
structure bI (k:Nat)(A:Around):Prop where
 hd:A.handled=none
 dp:A.depth+3*k+5<recursionLimit
 un:A.units+16*k+200<cLine
theorem bI.mono {j k:Nat}{A:Around}(r:bI k A)(h:j<=k):bI j A:=⟨r.hd,by have:=r.dp;omega,by have:=r.un;omega⟩
theorem bI.deeper {k:Nat}{A:Around}(r:bI (k+1) A)(env:Env):bI k (A.deeper env):=
 ⟨r.hd,by have:=r.dp;show A.depth+1+3*k+5<_;omega,by have:=r.un;show A.units+3+16*k+200<_;omega⟩
theorem bI.depth {k:Nat}{A:Around}(r:bI k A):A.depth<recursionLimit:=by have:=r.dp;omega
theorem bI.units {k:Nat}{A:Around}(r:bI k A):A.units+64<cLine:=by have:=r.un;omega
noncomputable def jB:TA:=λ_ H Q=>Q [] H
noncomputable def gW (ta:TE)(tr:TA):TA:=λσ H Q=>ta σ H λx H1=>tr σ H1 λxs H2=>Q (x::xs) H2
section
variable {X:Cx}{e:Expr}{es:List Expr}{te:TE}{t:TA}{pos:Pos}
theorem fN:PA X [] jB:=λ_ _ _ _ H Q I h=>Calls.spliced_nil ⟨[],H,I,.nil,h⟩
theorem dZ (ha:PE X e te)(hr:PA X es t)(hs:starEach (e::es) X.env=(false,eval e X.env)::starEach es X.env:=by rfl):PA X (e::es) (gW te t):=by
 intro pos pins s σ H Q I h
 rw[hs]
 show wpAny _ _ (spliced ((false,eval e X.env)::backTo pos (starEach es X.env))) _ _ s
 refine Calls.spliced_cons (aJ (ha pins s σ H _ I h) λu s1 ⟨x,H1,I1,r1,q1⟩=>?_)
 exact aJ (hr pos pins s1 σ H1 _ I1 q1) λus s2 ⟨xs,H2,I2,r2,q2⟩=>⟨x::xs,H2,I2,.cons r1 r2,q2⟩
noncomputable def qN (t:TA):TE:=λσ H Q=>t σ H λxs H1=>xs.length<=sizeLine/\∀p,H1 p=none->Q (.ref p) (upd H1 p (.tup xs))
noncomputable def qO (t:TA):TE:=λσ H Q=>t σ H λxs H1=>xs.length<=sizeLine/\∀p,H1 p=none->Q (.ref p) (upd H1 p (.lst xs))
theorem wC {x1}(h:PA X es t):PE X (.Tuple es x1 pos) (qN t):=by
 intro pins s σ H Q I hq
 refine wpAny_Tuple_spliced (aJ (h pos pins s σ H _ I hq) λus s1 ⟨xs,H1,I1,r,z,q⟩=>⟨by rw[<- r.length];exact z,?_⟩)
 have hf:H1 s1.heap.objs.size=none:=I1.hok.fresh (aI6 _)
 refine⟨.ref s1.heap.objs.size,upd H1 s1.heap.objs.size (.tup xs),I1.laid (t':=s1.toks) (λb u e=>aI3 _ e) (aI6 _) ?_,rfl,q _ hf⟩
 exact⟨z,us,r,⟨_,aK1 _ rfl,rfl,_,rfl⟩,gS.new _ _ rfl⟩
theorem qP (h:PA X es t):PE X (.List es pos) (qO t):=by
 intro pins s σ H Q I hq
 refine wpAny_List_spliced (aJ (h pos pins s σ H _ I hq) λus s1 ⟨xs,H1,I1,r,z,q⟩=>⟨by rw[<- r.length];exact z,?_⟩)
 have hf:H1 s1.heap.objs.size=none:=I1.hok.fresh (aI6 _)
 refine⟨.ref s1.heap.objs.size,upd H1 s1.heap.objs.size (.lst xs),I1.laid (t':=s1.toks) (λb u e=>aI3 _ e) (aI6 _) ?_,rfl,q _ hf⟩
 exact⟨z,us,0,r,aK1 _ rfl⟩
end
noncomputable abbrev Sp:=List V->Hp->VK->XK->Prop
noncomputable abbrev eU:=List Env->Hp->Shared->XK->Value->Shared->Prop
structure nH (P:Program)(w:World)(K:ac)(mg:Str->Option Value)(base:Heap)(A:Around)(outer:List Env)(s:Shared)(H:Hp):Prop where
 frames:A.frames=some outer
 mod:Mod K mg base
 bs:∀b o,base.get? b=some o->s.heap.get? b=some o/\H b=none
 bsz:base.objs.size<=s.heap.objs.size
 funs:s.heap.FunFrames base outer
 frf:∀b∈aZ outer,H b=none
 hok:bE P w H s.heap
 bare:AllBare s.gens
noncomputable def CE (outer:List Env)(P:Program)(w:World)(H:Hp)(s:Shared)(Q:VK)(u:Value)(s':Shared):Prop:=
 ∃v H',s'.os=s.os/\AllBare s'.gens/\Un (aZ outer) [] H H' s.heap s'.heap/\bE P w H' s'.heap/\aQ v u/\Q v H'
noncomputable def CR (CX:eU)(outer:List Env)(P:Program)(w:World)(H:Hp)(s:Shared)(Q:VK)(E:XK)(r:Result)(s':Shared):Prop:=
 match r with
 |.ok (.ret u)=>CE outer P w H s Q u s'
 |.ok _=>False
 |.error e=>CX outer H s E e s'
structure cQ (P:Program)(w:World)(K:ac)(mg:Str->Option Value)(base:Heap)(CX:eU)(k:Nat)(f:Addr)(fd:FuncData)(ps:List Str)(sp:Sp):Prop where
 len:∀vs H Q E,sp vs H Q E->vs.length=ps.length
 run:∀(A:Around) (outer:List Env) (s:Shared) (H:Hp) (args:Args) (us:List Value) (vs:List V) (Q:VK) (E:XK),bI k A->nH P w K mg base A outer s H->BindsTo s fd args (ps.zip us)->aK vs us->sp vs H Q E->
  codeAny (model P w) A (.call (.ref f) args) (CR CX outer P w H s Q E) s
theorem cQ.imp {P:Program}{w:World}{K:ac}{mg:Str->Option Value}{base:Heap}{CX:eU}{k:Nat}{f:Addr}{fd:FuncData}{ps:List Str}{sp sp':Sp}(F:cQ P w K mg base CX k f fd ps sp)(h:∀vs H Q E,sp' vs H Q E->sp vs H Q E):cQ P w K mg base CX k f fd ps sp':=
 ⟨λvs H Q E q=>F.len vs H Q E (h _ _ _ _ q),λA outer s H args us vs Q E hr he hb hv hs=>F.run A outer s H args us vs Q E hr he hb hv (h _ _ _ _ hs)⟩
section
variable {X:Cx}{pins:List (Addr×Obj)}{σ:St}{H:Hp}{s s':Shared}
theorem a5.env0 (I:a5 X pins σ H s):nH X.prog X.w X.K X.mg X.base X.A X.stack s H:=
 ⟨I.ok.frames,I.ok.mod,I.bs,aN2 I.ok.bsz I.sz,I.stack,I.stkFree,I.hok,I.bare⟩
theorem a5.after {Q:VK}{u:Value}(I:a5 X pins σ H s)(h:CE X.stack X.prog X.w H s Q u s'):EP X pins σ Q u s':=by
 obtain⟨v,H',os,bare,un,hok,r,q⟩:=h
 obtain⟨hh,g,d,t,os'⟩:=s'
 obtain rfl:os'=s.os:=os
 exact⟨v,H',I.call (h':=hh) (g':=g) (d':=d) (t':=t) (ch:=[]) un hok bare (λb z=>absurd z (by simp)),r,q⟩
end
noncomputable def qQ (sp:Sp)(dvs:List V)(E:XK)(t:TA):TE:=λσ H Q=>t σ H λvs H1=>sp (vs++dvs) H1 Q E
noncomputable def gX (K:ac)(fd:FuncData)(ps:List Str)(ds:List Value):Prop:=
 ∀(s:Shared) (us:List Value),K.In s.heap->(us++ds).length=ps.length->BindsTo s fd ⟨us,[]⟩ (ps.zip (us++ds))
theorem gX.all {K:ac}{fd:FuncData}{ps:List Str}(h:∀us:List Value,us.length=ps.length->bindArgs fd ⟨us,[]⟩=pure (ps.zip us)):gX K fd ps []:=λs us _ hl=>by
 rw[aQ9]at hl ⊢
 exact .of_eq (h us hl)
noncomputable def jC (CX:eU)(X:Cx)(E:XK):Prop:=∀(pins:List (Addr×Obj)) (σ:St) (H:Hp) (s:Shared) (e:Value) (s':Shared),a5 X pins σ H s->CX X.stack H s E e s'->X.xe e s'
section
variable {X:Cx}{CX:eU}{k:Nat}{f C:Addr}{fd:FuncData}{ps:List Str}{sp:Sp}{dvs:List V}{ds:List Value}{E:XK}{x m:Str}{p pos apos:Pos}{e o:Expr}{es:List Expr}{ta:TE}{t:TA}
theorem V0 {pins:List (Addr×Obj)}{σ:St}{H:Hp}{s:Shared}{Q:VK}{us:List Value}{vs:List V}(F:cQ X.prog X.w X.K X.mg X.base CX k f fd ps sp)(hr:bI k X.A)(hb:gX X.K fd ps ds)(hd:aK dvs ds)(hx:jC CX X E)(I:a5 X pins σ H s)(r:aK vs us)(h:sp (vs++dvs) H Q E):wpAny (model X.prog X.w) X.A (call (.ref f) us) (EP X pins σ Q) X.xe s:=by
 have r2:aK (vs++dvs) (us++ds):=r.append hd
 have hl:(us++ds).length=ps.length:=by rw[<- r2.length];exact F.len _ _ _ _ h
 refine wpAny_call (codeAny_mono (F.run X.A X.stack s H ⟨us,[]⟩ (us++ds) (vs++dvs) Q E hr I.env0 (hb s us I.kIn hl) r2 h) λr s' hq=>?_)
 cases r with
 |error e=>exact hx pins σ H s e s' I hq
 |ok fl=>
  cases fl with
  |ret u=>exact I.after hq
  |next=>exact False.elim hq
  |brk=>exact False.elim hq
  |cont=>exact False.elim hq
theorem nI (F:cQ X.prog X.w X.K X.mg X.base CX k f fd ps sp)(hr:bI k X.A)(hg:Gl X x)(hm:X.mg x=some (.ref f))(hk:PySem.W.keepIn X.K (.ref f)=true)(hb:gX X.K fd ps ds)(hd:aK dvs ds)(hx:jC CX X E)(ha:PA X (e::es) t)(hdb:(x==("__debug__":Str))=false:=by decide)(he:starEach (e::es) X.env=(false,eval e X.env)::starEach es X.env:=by rfl)(hpl:(backTo pos (starEach es X.env)).any (·.1)=false:=by rfl) :
  PE X (.Call (.Name x p) (e::es) [] pos) (qQ sp dvs E t):=by
 intro pins s σ H Q I h
 refine wpAny_Call_Name_kw (lE I hg hm ?_ hdb)
 refine PySem.W.callWith_K (h₀:=X.base) I.ok.mod.kin hk (aJ (ha pos pins s σ H _ I h) λus s1 ⟨vs,H1,I1,r,q⟩=>⟨I1.kIn,?_⟩) he hpl
 exact V0 F hr hb hd hx I1 r q
end
noncomputable def PK (X:Cx)(kws:List Keyword)(t:TA):Prop:=
 ∀(pos:Pos) (pins:List (Addr×Obj)) (s:Shared) (σ:St) (H:Hp) (Q:List V->Hp->Prop),a5 X pins σ H s->t σ H Q->wpAny (model X.prog X.w) X.A (evalAll ((backToKw pos (keywordEach kws X.env)).map (·.2))) (AP X pins σ Q) X.xe s
structure FnScope (N P:List Str)(sc:Scope):Prop where
 kind:sc.kind = .function
 co:sc.isCoroutine=false
 gen:sc.isGenerator=false
 nd:N.Nodup
 pre:N.take P.length=P
 par:∀x∈P,sc.names.lookup x=some .local∨sc.names.lookup x=some .cell
 nofree:∀y∈sc.names,y.2≠.free
theorem wD {kindOf:Str->Option NameKind}{x:Str}:∀{binds:List (Str×Value)}{m:Str->Option Value},(∀v,(x,v)∉binds)->bindL kindOf binds m x=m x
 |[],_,_=>rfl
 |(n,v)::r,m,h=>by
  unfold bindL
  rw[wD λw hw=>h w (aK2 _ hw)]
  split
  ·have:x≠n:=by rintro rfl;exact h v aK0
   simp[this]
  ·rfl
theorem wE {kindOf:Str->Option NameKind}{x:Str}:∀{binds:List (Str×Value)}{m:Str->Option Value},(∀v,(x,v)∉binds)->bindC kindOf binds m x=m x
 |[],_,_=>rfl
 |(n,v)::r,m,h=>by
  unfold bindC
  rw[wE λw hw=>h w (aK2 _ hw)]
  split
  ·rfl
  ·have:x≠n:=by rintro rfl;exact h v aK0
   simp[this]
theorem wF {kindOf:Str->Option NameKind}{x:Str}{v:Value}:∀{P:List Str}{vs:List Value}{i:Nat}{m:Str->Option Value},P.Nodup->P[i]? = some x->vs[i]? = some v->kindOf x=some .local->
  bindL kindOf (P.zip vs) m x=some v
 |[],_,_,_,_,h,_,_=>by simp at h
 |_::_,[],_,_,_,_,h,_=>by simp at h
 |p::P,w::vs,0,m,nd,h1,h2,hk=>by
  simp at h1 h2;subst h1;subst h2
  show bindL kindOf ((p,w)::P.zip vs) m p=_
  unfold bindL
  rw[wD λv hv=>(List.nodup_cons.mp nd).1 (List.of_mem_zip hv).1,if_pos hk]
  simp
 |p::P,w::vs,i+1,m,nd,h1,h2,hk=>by
  show bindL kindOf ((p,w)::P.zip vs) m x=_
  unfold bindL
  exact wF (i:=i) (List.nodup_cons.mp nd).2 (by simpa using h1) (by simpa using h2) hk
theorem wG {kindOf:Str->Option NameKind}{x:Str}{v:Value}:∀{P:List Str}{vs:List Value}{i:Nat}{m:Str->Option Value},P.Nodup->P[i]? = some x->vs[i]? = some v->kindOf x≠some .local->
  bindC kindOf (P.zip vs) m x=some v
 |[],_,_,_,_,h,_,_=>by simp at h
 |_::_,[],_,_,_,_,h,_=>by simp at h
 |p::P,w::vs,0,m,nd,h1,h2,hk=>by
  simp at h1 h2;subst h1;subst h2
  show bindC kindOf ((p,w)::P.zip vs) m p=_
  unfold bindC
  rw[wE λv hv=>(List.nodup_cons.mp nd).1 (List.of_mem_zip hv).1,if_neg hk]
  simp
 |p::P,w::vs,i+1,m,nd,h1,h2,hk=>by
  show bindC kindOf ((p,w)::P.zip vs) m x=_
  unfold bindC
  exact wG (i:=i) (List.nodup_cons.mp nd).2 (by simpa using h1) (by simpa using h2) hk
noncomputable def eV (N:List Str)(vs:List V):St:=vs.map some++List.replicate (N.length-vs.length) none
noncomputable def cA (CX:eU)(P:Program)(w:World)(K:ac)(mg:Str->Option Value)(base:Heap)(N:List Str)(qual:Str)(scope:Scope)(f:Addr)(cd:Value)(A:Around)(outer:List Env)(s:Shared)(H:Hp)(E:XK):Cx where
 prog:=P
 w:=w
 K:=K
 mg:=mg
 base:=base
 A:=A.deeper (envOfC qual scope s.heap.objs.size f cd)
 N:=N
 s₀:=s
 H₀:=H
 env:=envOfC qual scope s.heap.objs.size f cd
 outer:=outer
 stack:=envOfC qual scope s.heap.objs.size f cd::outer
 ex:=[]
 calm:=true
 fn:=λ_=>true
 pn:=[]
 xe:=λe s'=>wpAny (model P w) (A.deeper (envOfC qual scope s.heap.objs.size f cd)) (leaving (envOfC qual scope s.heap.objs.size f cd) e) (λ_ s''=>CX outer H s E e s'') (λe' s''=>CX outer H s E e' s'') s'
theorem wH {sc:Scope}{n:Nat}{x:Str}(h:sc.names.lookup x=some .cell):∃c,(cellsFrom n sc.names []).lookup x=some c:=by
 have q:=PySem.W.cellsFrom_some sc.names n [] (.inl h)
 exact Option.isSome_iff_exists.mp q
theorem V1 {CX:eU}{P:Program}{w:World}{K:ac}{mg:Str->Option Value}{base:Heap}{N ps:List Str}{qual:Str}{scope:Scope}{f:Addr}{cd:Value}{A:Around}{outer:List Env}{s s1:Shared}{H:Hp}{E:XK}{us:List Value}{vs:List V}(S:FnScope N ps scope)(hd:A.handled=none)(e0:nH P w K mg base A outer s H)(hl:vs.length=ps.length)(r:aK vs us)(x:InCallC s s.heap.objs.size (bindL (envOfC qual scope s.heap.objs.size f cd).kindOf (ps.zip us) λ_=>none) (cellsFrom (s.heap.objs.size+1) scope.names []) (bindC (envOfC qual scope s.heap.objs.size f cd).kindOf (ps.zip us) λ_=>none) s1) :
  a5 (cA CX P w K mg base N qual scope f cd A outer s H E) [] (eV N vs) H s1:=by
 have hpl:ps.length<=N.length:=by have:=congrArg List.length S.pre;rw[aQ8]at this;omega
 obtain⟨h1,tk,rfl,hk⟩:=x.done
 have noA:∀b:Addr,b∉(cA CX P w K mg base N qual scope f cd A outer s H E).ex:=λb z=>absurd (show b∈([]:List Addr) from z) (by simp)
 refine⟨⟨e0.mod,S.kind,rfl,rfl,aI6 _,λy z c h1 h2=>?_,λy hy=>?_,λy c _ h=>?_,λ_=>hd,Around.frames_deeper e0.frames,.inr ⟨rfl,rfl⟩,λb z=>absurd z (noA b),e0.bs,e0.bsz,λb _ _=>noA b,λb z=>absurd z (noA b),e0.funs,e0.frf⟩,
  rfl,e0.bare,Un.kept hk,⟨_,x.toInCall.ns,λi y v h1 h2 h3=>?_⟩,λy c h=>⟨_,x.cell y c h⟩,e0.hok.fresh (aI6 _),λy c h=>?_,λp hp=>absurd (show p∈([]:List (Addr×Obj)) from hp) (by simp),e0.hok.kept hk,?_⟩
 ·exact name_of_addr x.apart (aM6 h1) (aM6 h2)
 ·have hy:scope.names.lookup y=some .cell∨scope.names.lookup y=some .free:=hy
  rcases hy with hy|hy
  ·exact wH hy
  ·exact absurd rfl (S.nofree _ (aM6 hy))
 ·exact aS6 (x.above y c (aM6 h))
 ·have hi:i<vs.length:=by
   unfold eV at h2
   by_cases hi:i<vs.length
   ·exact hi
   ·rw[aU3 (by simpa using hi)]at h2
    rw[List.getElem?_replicate]at h2
    split at h2<;>cases h2
  have ha:vs[i]? = some v:=by
   unfold eV at h2
   rw[aS1 (by simpa using hi),aJ9]at h2
   cases e:vs[i]? with
   |none=>rw[e]at h2;cases h2
   |some a=>rw[e]at h2;cases h2;rfl
  obtain⟨u,hu,rv⟩:=r.get ha
  have hp:ps[i]? = some y:=by
   rw[<- S.pre,List.getElem?_take_of_lt (by omega)];exact h1
  have ndP:ps.Nodup:=by rw[<- S.pre];exact S.nd.sublist (List.take_sublist _ _)
  refine⟨u,rv,?_⟩
  rcases S.par y (aP1 hp) with k|k
  ·exact .inl ⟨k,wF ndP hp hu k⟩
  ·obtain⟨c,e⟩:=wH (n:=s.heap.objs.size+1) k
   refine .inr ⟨.inl k,c,e,?_⟩
   have q:=x.cell y c e
   rw[wG ndP hp hu (by show scope.names.lookup y≠_;rw[k];decide)]at q
   exact q
 ·exact e0.hok.fresh (aS6 (x.above y c (aM6 h)))
 ·unfold eV
  show _=N.length
  rw[aL5,aJ2,List.length_replicate]
  omega
theorem wI {CX:eU}{P:Program}{w:World}{K:ac}{mg:Str->Option Value}{base:Heap}{k:Nat}{f:Addr}{name qual:Str}{params:Arguments}{body:List Stmt}{scope:Scope}{dV kV doc pm cdv ct oc:Value}{an od:Option Addr}{osl:Array (Option Value)}{N ps:List Str}{sp:Sp}(lk:K.lookup f=some ⟨oc,od,.func (PySem.W.fnOf name qual params body scope dV kV doc pm an cdv ct),osl⟩)(hcd:PySem.W.codeIn K cdv qual=true)(S:FnScope N ps scope)(len:∀vs H Q E,sp vs H Q E->vs.length=ps.length)(hbody:∀(A:Around) (outer:List Env) (s:Shared) (H:Hp) (vs:List V) (Q:VK) (E:XK),bI k (A.deeper (envOfC qual scope s.heap.objs.size f cdv))->sp vs H Q E->
   ∃t,cX (cA CX P w K mg base N qual scope f cdv A outer s H E) body t/\t { nx:=λ_ H'=>Q .non H',rt:=Q } (eV N vs) H) :
  cQ P w K mg base CX (k+1) f (PySem.W.fnOf name qual params body scope dV kV doc pm an cdv ct) ps sp:=by
 refine⟨len,λA outer s H args us vs Q E hr e0 hb r hsp=>?_⟩
 have hl:=len _ _ _ _ hsp
 have KX:K.In s.heap:=e0.mod.kin.keeps λb o e=>(e0.bs b o e).1
 have lim:s.heap.NoLimit:=e0.mod.nolimit.keeps λb o e=>(e0.bs b o e).1
 have hkind:∀y∈ps.zip us,scope.names.lookup y.1=some .local∨(scope.names.lookup y.1=some .cell/\((cellsFrom (s.heap.objs.size+1) scope.names []).lookup y.1).isSome=true):=λ⟨n,v⟩ hy=>by
  rcases S.par n (List.of_mem_zip hy).1 with q|q
  ·exact .inl q
  ·exact .inr ⟨q,PySem.W.cellsFrom_some _ _ _ (.inl q)⟩
 refine codeAny_call_function hr.depth (KX _ _ lk) rfl S.co S.gen rfl (PySem.W.codeRec_of KX hcd) (hb _ _ _ _ ?_)
 refine wpAny_newFunctionEnv_cells S.kind hkind λenv he s1 x=>?_
 subst he
 refine⟨lim.keeps x.toInCall.keep,codeAny_func ?_⟩
 obtain⟨t,ht,hq⟩:=hbody A outer s H vs Q E (hr.deeper _) hsp
 have I:a5 (cA CX P w K mg base N qual scope f cdv A outer s H E) [] (eV N vs) H s1:=V1 S hr.hd e0 hl r x
 refine aN1 (ht [] s1 (eV N vs) H _ I hq) (λfl s' hs=>?_) λe s' hs=>hs
 have fin:∀{σ':St}{H':Hp}{v:V}{u:Value},a5 (cA CX P w K mg base N qual scope f cdv A outer s H E) [] σ' H' s'->aQ v u->Q v H'->CE outer P w H s Q u s':=
  λ{σ' H' v u} J rv q=>⟨v,H',J.os,J.bare,J.base,J.hok,rv,q⟩
 cases fl with
 |ret u=>
  obtain⟨v,σ',H',J,rv,q⟩:=hs
  exact fin J rv q
 |next=>
  obtain⟨σ',H',J,q⟩:=hs
  exact fin (v:=V.non) (u:=Value.none) J rfl q
 |brk=>
  obtain⟨_,_,_,q⟩:=hs
  exact False.elim q
 |cont=>
  obtain⟨_,_,_,q⟩:=hs
  exact False.elim q
section
variable {X:Cx}{x:Str}{p pos:Pos}{e:Expr}{es:List Expr}{t:TA}{id T:String}{r:List V→Hp→VK→Prop}
noncomputable def qR (r:List V->Hp->VK->Prop)(t:TA):TE:=λσ H Q=>t σ H λvs H1=>r vs H1 Q
theorem qS (hc:cN X (.builtin id) r)(hg:Gl X x)(hm:X.mg x=none)(hv:bootBuiltins x=some (.builtin id))(ha:PA X (e::es) t)(hn:x≠"__name__":=by decide)(hdb:(x==("__debug__":Str))=false:=by decide)(he:starEach (e::es) X.env=(false,eval e X.env)::starEach es X.env:=by rfl)(hpl:(backTo pos (starEach es X.env)).any (·.1)=false:=by rfl):PE X (.Call (.Name x p) (e::es) [] pos) (qR r t):=by
 intro pins s σ H Q I h
 refine wpAny_Call_Name_kw (j9 I hg hm hv ?_ hn hdb)
 exact PyProof.Rows.callWith_builtin1 (aJ (ha pos pins s σ H _ I h) λus s1 ⟨vs,H1,I1,r1,q1⟩=>hc pins s1 σ H1 vs us Q I1 r1 q1) he hpl
theorem V2 (hc:cN X (.type T) r)(hg:Gl X x)(hm:X.mg x=none)(hv:bootBuiltins x=some (.type T))(ha:PA X (e::es) t)(hn:x≠"__name__":=by decide)(hdb:(x==("__debug__":Str))=false:=by decide)(he:starEach (e::es) X.env=(false,eval e X.env)::starEach es X.env:=by rfl)(hpl:(backTo pos (starEach es X.env)).any (·.1)=false:=by rfl):PE X (.Call (.Name x p) (e::es) [] pos) (qR r t):=by
 intro pins s σ H Q I h
 refine wpAny_Call_Name_kw (j9 I hg hm hv ?_ hn hdb)
 exact aR4 (aJ (ha pos pins s σ H _ I h) λus s1 ⟨vs,H1,I1,r1,q1⟩=>hc pins s1 σ H1 vs us Q I1 r1 q1) he hpl
end
end L2
namespace HT
open PySem PyProof.Rows
noncomputable def bZ:ae->ae->Bool
 |[],[]=>false
 |[],_::_=>true
 |_::_,[]=>false
 |x::xs,y::ys=>if x=y then bZ xs ys else decide (x<y)
theorem iJ (x y:Int)(xs ys:ae):bZ (x::xs) (y::ys)=if x=y then bZ xs ys else decide (x<y):=rfl
theorem qT:bZ [] []=false:=rfl
theorem V3 (y:Int)(ys:ae):bZ [] (y::ys)=true:=rfl
theorem V4 (x:Int)(xs:ae):bZ (x::xs) []=false:=rfl
theorem V5 (A:Around)(s:Shared)(a:Int)(t:Tok)(c:Int)(u:Tok):∃e,SeqAt.EqAt A s (.int a t) (.int c u) e/\(e=true↔a=c):=
 ⟨(a==c),SeqAt.EqAt.int_int a t c u,by simp⟩
theorem V6 (A:Around)(s:Shared)(a:Int)(t:Tok)(c:Int)(u:Tok)(prog:Program)(w:World)(E:Value->Shared->Prop)(Q:Value->Shared->Prop)(h:Q (.bool (decide (a<c))) s) :
  wpAny (model prog w) A (richCompare .Lt (.int a t) (.int c u)) Q E s:=
 (PyProof.Rows.lt_int h:wpAny (model prog w) A (compareOp .Lt (.int a t) (.int c u)) Q E s)
section
open PySem.SeqAt
open PySem.AutoSeq1 (wpAny_loadPart')
open PySem.MeetsSeq PySem.MeetsSeq2 PySem.MeetsSeq3
theorem V7 (l b:Addr)(items items2:Array Value)(n n2:Nat)(dd dd2:Option Addr)(sl sl2:Array (Option Value))(ns ms:ae)(hi:IntsAre items.toList ns)(hj:IntsAre items2.toList ms) :
  Meets (Builtin.«tuple.__lt__» ⟨[.ref l,.ref b],[]⟩)
   (λ_ R s=>s.heap.get? l=some { cls:=.type "tuple",dict:=dd,data:=.seq items n,slots:=sl }/\s.heap.get? b=some { cls:=.type "tuple",dict:=dd2,data:=.seq items2 n2,slots:=sl2 }/\
    R (.ok (.ret (.bool (bZ ns ms)))) s):=
 .of_wp λprog w A R s h=>by
  obtain⟨hp,g,d,tk,os⟩:=s;obtain⟨hl,hb,h⟩:=h
  have f2:=AutoSeq1.sub_tuple_tuple
  have z1:items.size=ns.length:=by rw[<- hi.length];simp
  have z2:items2.size=ms.length:=by rw[<- hj.length];simp
  wp_walk using wpAny_loadPart' hl,wpAny_loadPart' hb,wpAny_forIn_list _ (λcH b s'=>b.1=none/\s'=⟨hp,g,d,tk,os⟩/\∃(vs ws:List Value) (ns' ms':ae),cH=vs.zip ws/\
   IntsAre vs ns'/\IntsAre ws ms'/\ns'.length+items2.size=ms'.length+items.size/\R (.ok (.ret (.bool (bZ ns' ms')))) ⟨hp,g,d,tk,os⟩) _
  case turn=>
   rintro⟨y,x⟩ cH b s' ⟨hb',rfl,vs,ws,ns',ms',hz,hvi,hwi,hlen,hR⟩
   cases hvi with
   |nil=>rw[List.zip_nil_left]at hz;cases hz
   |cons a t hvi'=>
    cases hwi with
    |nil=>rw[List.zip_nil_right]at hz;cases hz
    |cons c u hwi'=>
     rw[aR2]at hz
     injection hz with hyx hrest
     injection hyx with hy hx
     subst hy hx
     rw[iJ]at hR
     simp only[aM0]at hlen
     obtain⟨e,he,hiff⟩:=V5 A.in1 ⟨hp,g,d,tk,os⟩ a t c u
     refine aI2 (he prog w _ _ ?_)
     cases e with
     |true=>
      rw[if_pos (hiff.mp rfl)]at hR
      wp_walk
      exact⟨rfl,rfl,_,_,_,_,hrest,hvi',hwi',by omega,hR⟩
     |false=>
      rw[if_neg (λq=>absurd (hiff.mpr q) aJ4)]at hR
      have hri:=V6 A.in1 ⟨hp,g,d,tk,os⟩ a t c u prog w
      wp_walk using hri
      exact⟨_,rfl,by simpa using hR⟩
  case fin=>
   rintro⟨b1,b2⟩ s' ⟨hb',rfl,vs,ws,ns',ms',hz,hvi,hwi,hlen,hR⟩
   simp only at hb'
   subst hb'
   have hv:bZ ns' ms'=decide (items.size<items2.size):=by
    cases hvi with
    |nil=>
     cases hwi with
     |nil=>
      simp only[List.length_nil]at hlen
      rw[qT]
      exact (aJ1 (by omega)).symm
     |cons c u hw=>
      simp only[List.length_nil,aM0]at hlen
      rw[V3]
      exact (aJ5 (by omega)).symm
    |cons a t hv=>
     cases hwi with
     |nil=>
      simp only[List.length_nil,aM0]at hlen
      rw[V4]
      exact (aJ1 (by omega)).symm
     |cons c u hw=>
      rw[aR2]at hz
      cases hz
   rw[hv]at hR
   wp_walk
   exact⟨_,rfl,by simpa[Builtin.Tuple.tupleCompareSizes] using hR⟩
  case h=>
   exact⟨rfl,rfl,items.toList,items2.toList,ns,ms,rfl,hi,hj,by omega,h⟩
end
section
variable {prog:Program}{w:World}{A:Around}{E:Value→Shared→Prop}{s:Shared}
theorem V8 {l b:Addr}{items items2:Array Value}{ns ms:ae}{Q:Value->Shared->Prop}(hl:IsTup s.heap l items)(hb:IsTup s.heap b items2)(hi:IntsAre items.toList ns)(hj:IntsAre items2.toList ms)(hu:A.units<cLine)(h:Q (.bool (bZ ns ms)) s):wpAny (model prog w) A (compareOp .Lt (.ref l) (.ref b)) Q E s:=by
 obtain⟨⟨cls,dd,data,sl⟩,ho,hc,n,hd⟩:=id hl
 obtain⟨⟨cls2,dd2,data2,sl2⟩,ho2,hc2,n2,hd2⟩:=id hb
 simp only at hc hd hc2 hd2
 subst hc hd hc2 hd2
 exact richCompare_meets_room (op:=.Lt) ⟨_,ho,rfl⟩ ⟨_,ho2,rfl⟩ PySem.F.slot_tuple_lt PySem.F.entry_tuple_lt (PySem.F.args_tuple_lt_2 _ _) (V7 l b items items2 n n2 dd dd2 sl sl2 ns ms hi hj)
  ⟨ho,ho2,show Value.bool (bZ ns ms)≠Value.notImplemented/\Q (.bool (bZ ns ms)) s from ⟨(λx=>nomatch x),h⟩⟩ hu
noncomputable def aO (n d:Nat):Option Int->Nat
 |none=>d
 |some v=>if v<0 then (v+(n:Int)).toNat else min v.toNat n
theorem V9 (n d:Nat):aO n d none=d:=rfl
theorem wJ (n d k:Nat):aO n d (some (k:Int))=min k n:=by
 show (if (k:Int)<0 then ((k:Int)+(n:Int)).toNat else min (k:Int).toNat n)=min k n
 rw[if_neg (by omega),aQ1]
theorem W0 (n d:Nat)(hd:d<=n)(o:Option Int):aO n d o<=n:=by
 cases o with
 |none=>exact hd
 |some v=>
  show (if v<0 then (v+(n:Int)).toNat else min v.toNat n)<=n
  by_cases hv:v<0
  ·rw[if_pos hv];omega
  ·rw[if_neg hv];exact Nat.min_le_right _ _
theorem wK (v:Int)(n d:Nat):(if v<0 then max (v+(n:Int)) 0 else min v (n:Int))=((aO n d (some v):Nat):Int):=by
 show (if v<0 then max (v+(n:Int)) 0 else min v (n:Int))=(((if v<0 then (v+(n:Int)).toNat else min v.toNat n):Nat):Int)
 by_cases hv:v<0
 ·simp only[if_pos hv];omega
 ·simp only[if_neg hv];omega
theorem W4 (lo hi:Option Int)(n:Nat):Builtin.Slice.sliceAdjust lo hi 1 (n:Int)=(((aO n 0 lo:Nat):Int),((aO n n hi:Nat):Int)):=by
 have h1:¬((1:Int)<0):=by omega
 unfold Builtin.Slice.sliceAdjust
 simp only[h1,aQ2]
 refine Prod.ext ?_ ?_
 ·cases lo with
  |none=>rfl
  |some v=>exact wK v n 0
 ·cases hi with
  |none=>rfl
  |some v=>exact wK v n n
theorem W5 (i j:Nat):Builtin.Slice.slicePlaces (i:Int) (j:Int) 1=j-i:=by
 unfold Builtin.Slice.slicePlaces
 have h1:(1:Int)>0:=by omega
 simp only[h1,if_true,Int.ediv_one]
 split<;>omega
theorem wL {v:Value}{o:Option Int}{Q:Option Int->Shared->Prop}(p:IsPart v o)(h:Q o s):wpAny (model prog w) A (Builtin.Slice.slicePartIndex v) Q E s:=by
 cases p with
 |none=>exact slicePart_none h
 |int i t=>exact slicePart_int h
theorem wM {sl:Addr}{vl vu:Value}{lo hi:Option Int}{n:Nat}{Q:Int×Int×Nat->Shared->Prop}(hs:s.heap.IsSliceOf sl vl vu .none)(pl:IsPart vl lo)(pu:IsPart vu hi)(h:Q (((aO n 0 lo:Nat):Int),1,aO n n hi-aO n 0 lo) s):wpAny (model prog w) A (Builtin.Slice.sliceApplied (.ref sl) (pure (n:Int))) Q E s:=by
 obtain⟨os,hos,hcs,hds⟩:=id hs
 unfold Builtin.Slice.sliceApplied Builtin.Slice.sliceFields
 refine aI2 (aI2 (aL9 hos hds (x:=vl) rfl (aI2 (aL9 hos hds (x:=vu) rfl (aI2 (aL9 hos hds (x:=.none) rfl (aI7 ?_)))))))
 refine aI2 (slicePart_none ?_)
 show wpAny _ _ (if ((1:Int)==0)=true then _ else _) _ _ s
 rw[if_neg (by decide)]
 refine aI2 (wL pl (aI2 (wL pu (aI2 (aI7 ?_)))))
 show wpAny _ _ (match Builtin.Slice.sliceAdjust lo hi 1 (n:Int) with|(lo,hi)=>pure (lo,(1:Int),Builtin.Slice.slicePlaces lo hi 1)) _ _ s
 rw[W4 lo hi n]
 show wpAny _ _ (pure (((aO n 0 lo:Nat):Int),(1:Int),Builtin.Slice.slicePlaces ((aO n 0 lo:Nat):Int) ((aO n n hi:Nat):Int) 1)) _ _ s
 rw[W5]
 exact aI7 h
theorem W6 (xs:Array Value)(i k:Nat):((List.range k).filterMap λ(m:Nat)=>xs[((i:Int)+(m:Int)*1).toNat]?).toArray=((xs.toList.drop i).take k).toArray:=by
 have e:(λ(m:Nat)=>xs[((i:Int)+(m:Int)*1).toNat]?)=λm=>xs[i+m]?:=by
  funext m
  have:((i:Int)+(m:Int)*1).toNat=i+m:=by omega
  rw[this]
 rw[e]
 have:=pick_run xs i k
 rw[List.filterMap_map]at this
 have e2:((λx=>xs[x]?) ∘ λx=>i+x)=λm=>xs[i+m]?:=rfl
 rw[e2]at this
 rw[this]
theorem W7 {t sl:Addr}{items:Array Value}{vl vu:Value}{lo hi:Option Int}{Q:Value->Shared->Prop}(ht:IsTup s.heap t items)(hs:s.heap.IsSliceOf sl vl vu .none)(pl:IsPart vl lo)(pu:IsPart vu hi)(hw:¬(aO items.size 0 lo=0/\aO items.size items.size hi=items.size))(h:Q (.ref s.heap.objs.size) { s with heap:=s.heap.push { cls:=.type "tuple",data:=.seq ((items.toList.drop (aO items.size 0 lo)).take (aO items.size items.size hi-aO items.size 0 lo)).toArray } })(hsz:items.size<=sizeLine):wpAny (model prog w) A (getItem (.ref t) (.ref sl)) Q E s:=by
 have htake:sizeOk (.seq ((items.toList.drop (aO items.size 0 lo)).take (aO items.size items.size hi-aO items.size 0 lo)).toArray):=by
  show ((items.toList.drop (aO items.size 0 lo)).take (aO items.size items.size hi-aO items.size 0 lo)).toArray.size<=sizeLine
  rw[aI4,aQ8,aO8,Array.length_toList]
  omega
 have hj:aO items.size items.size hi<=items.size:=W0 _ _ (aI6 _) hi
 obtain⟨os,hos,hcs,hds⟩:=id hs
 have hTs:s.TypeIs (.ref sl) "slice":=⟨os,hos,hcs⟩
 unfold getItem
 try with_reducible refine aQ6 ?_
 first|refine aI2 (aI7 ?_)|skip
 refine aI2 (wpAny_sequenceKey ht.typeIs (by decide) ?_)
 refine aI2 (aN4 (name:=Str.ofString "__getitem__") ht.typeIs aS0
  (aO9 aS0 ht.typeIs entry_tuple_getitem ?_ (args_tuple_getitem _ _)))
 show wpAny _ _ (Builtin.Tuple.tupleItemsOf (.ref t) >>= _) _ _ s
 refine aI2 (tupleItemsOf_ ht ?_)
 refine aI2 (wpAny_typeOf hTs ?_)
 rw[if_pos (by decide)]
 refine aI2 (wM hs pl pu ?_)
 have hno:¬((((aO items.size 0 lo:Nat):Int)==0&&(1:Int)==1&&(aO items.size items.size hi-aO items.size 0 lo)==items.size)=true):=by
  intro q
  rw[aN8,aN8]at q
  have q1:((aO items.size 0 lo:Nat):Int)=0:=eq_of_beq q.1.1
  have q2:aO items.size items.size hi-aO items.size 0 lo=items.size:=eq_of_beq q.2
  exact hw ⟨by omega,by omega⟩
 show wpAny _ _ (if (((aO items.size 0 lo:Nat):Int)==0&&(1:Int)==1&&(aO items.size items.size hi-aO items.size 0 lo)==items.size)=true then _ else _) _ _ s
 rw[if_neg hno,W6]
 first
  |exact aI2 (m:=Builtin.Tuple.tupleExact _) (aP0 (aI7 ⟨_,rfl,aI7 h⟩) htake)
  |exact aI2 (m:=Builtin.Tuple.tupleExact _) (aP0 (aI2 (aI7 (aI7 ⟨_,rfl,aI7 h⟩))) htake)
  |exact aI2 (aI2 (m:=Builtin.Tuple.tupleExact _) (aP0 (aI7 (aI7 ⟨_,rfl,aI7 h⟩)) htake))
  |exact aI2 (aI2 (m:=Builtin.Tuple.tupleExact _) (aP0 (aI7 ⟨_,rfl,aI7 h⟩) htake))
end
end HT
namespace L2
open PySem PySem.Spec PyProof.Rows
noncomputable abbrev TO:=St->Hp->(Option Int->Hp->Prop)->Prop
noncomputable def PO (X:Cx)(e:Option Expr)(t:TO):Prop:=
 ∀(pins:List (Addr×Obj)) (s:Shared) (σ:St) (H:Hp) (Q:Option Int->Hp->Prop),a5 X pins σ H s->t σ H Q->
  wpAny (model X.prog X.w) X.A (evalPart e X.env) (λu s'=>∃o H',a5 X pins σ H' s'/\IsPart u o/\Q o H') X.xe s
noncomputable def W8:TO:=λ_ H Q=>Q none H
noncomputable def W9 (t:TE):TO:=λσ H Q=>t σ H λx H1=>∃i,x = .int i/\Q (some i) H1
theorem lM {ns:ae}:∀{us:List Value},aK (ns.map V.int) us->IntsAre us ns:=by
 induction ns with
 |nil=>intro us r;rw[List.map_nil]at r;cases r;exact .nil
 |cons n ns ih=>
  intro us r
  rw[aM5]at r
  cases r with
  |cons r1 r2=>
   obtain⟨t,e⟩:=r1
   subst e
   exact .cons n t (ih r2)
section
variable {X:Cx}{e:Expr}{te:TE}{lo hi:Option Expr}{tl th:TO}{pos p2:Pos}
theorem X0:PO X none W8:=by
 intro pins s σ H Q I h
 rw[evalPart_none]
 exact aI7 ⟨none,H,I,.none,h⟩
theorem X1 (h:PE X e te):PO X (some e) (W9 te):=by
 intro pins s σ H Q I hw
 rw[evalPart_some]
 refine aJ (h pins s σ H _ I hw) λu s1 ⟨x,H1,I1,r1,q1⟩=>?_
 obtain⟨i,rfl,q⟩:=q1
 obtain⟨t,rfl⟩:=r1
 exact⟨some i,H1,I1,.int i t,q⟩
noncomputable def iK (X:Cx)(r:V->Option Int->Option Int->Hp->VK->Prop):Prop:=
 ∀(pins:List (Addr×Obj)) (s:Shared) (σ:St) (H:Hp) (x:V) (v vl vu:Value) (lo hi:Option Int) (sl:Addr) (Q:VK),a5 X pins σ H s->aQ x v->s.heap.IsSliceOf sl vl vu .none->IsPart vl lo->IsPart vu hi->r x lo hi H Q->
  ∃T id,typeLookup (.type T) "__getitem__" = pure (some (.builtin id))/\s.TypeIs v T/\wpAny (model X.prog X.w) X.A (getItem v (.ref sl)) (EP X pins σ Q) X.xe s
theorem iK.or {r r':V->Option Int->Option Int->Hp->VK->Prop}(h:iK X r)(h':iK X r'):iK X (λx lo hi H Q=>r x lo hi H Q∨r' x lo hi H Q):=by
 intro pins s σ H x v vl vu lo hi sl Q I rx hs pl pu q
 rcases q with q|q
 ·exact h pins s σ H x v vl vu lo hi sl Q I rx hs pl pu q
 ·exact h' pins s σ H x v vl vu lo hi sl Q I rx hs pl pu q
noncomputable def X2 (r:V->Option Int->Option Int->Hp->VK->Prop)(te:TE)(tl th:TO):TE:=λσ H Q=>te σ H λx H1=>tl σ H1 λl H2=>th σ H2 λu H3=>r x l u H3 Q
theorem X3 {r:V->Option Int->Option Int->Hp->VK->Prop}(hr:iK X r)(he:PE X e te)(hl:PO X lo tl)(hu:PO X hi th):PE X (.Subscript e (.Slice lo hi none p2) pos) (X2 r te tl th):=by
 intro pins s σ H Q I h
 refine Subscript_ (aJ (he pins s σ H _ I h) λv s1 ⟨x,H1,I1,r1,q1⟩=>?_)
 refine wpAny_Slice (aJ (hl pins s1 σ H1 _ I1 q1) λvl s2 ⟨l,H2,I2,pl,q2⟩=>aJ (hu pins s2 σ H2 _ I2 q2) λvu s3 ⟨u,H3,I3,pu,q3⟩=>?_)
 rw[evalPart_none]
 refine aI7 ?_
 have I4:a5 X pins σ H3 { s3 with heap:=s3.heap.push { cls:=.type "slice",data:=.fields #[vl,vu,.none] } }:=I3.kept (t':=s3.toks) λb ob q=>aI3 _ q
 obtain⟨T,id,hT,ht,hg⟩:=hr pins { s3 with heap:=s3.heap.push { cls:=.type "slice",data:=.fields #[vl,vu,.none] } } σ H3 x v vl vu l u s3.heap.objs.size Q I4 r1 (Heap.IsSliceOf.new ..) pl pu q3
 show wpAny (model X.prog X.w) X.A (subscriptTail e (.Slice lo hi none p2) v (.ref s3.heap.objs.size)) (EP X pins σ Q) X.xe { s3 with heap:=s3.heap.push { cls:=.type "slice",data:=.fields #[vl,vu,.none] } }
 exact tail_any (ops:=[.ref s3.heap.objs.size,v]) ht hT hg (by with_unfolding_all rfl)
noncomputable def fO (xs:List V)(lo hi:Option Int):List V:=(xs.drop (HT.aO xs.length 0 lo)).take (HT.aO xs.length xs.length hi-HT.aO xs.length 0 lo)
theorem wN (xs:List V)(lo hi:Option Int):(fO xs lo hi).length<=xs.length:=by
 unfold fO
 rw[aQ8,aO8]
 omega
noncomputable def X4 (K:ac):V->Option Int->Option Int->Hp->VK->Prop:=λx lo hi H Q=>∃a xs,x = .ref a/\aI K H a xs/\
 ¬(HT.aO xs.length 0 lo=0/\HT.aO xs.length xs.length hi=xs.length)/\∀p,H p=none->Q (.ref p) (upd H p (.tup (fO xs lo hi)))
theorem X5:iK X (X4 X.K):=by
 intro pins s σ H x v vl vu lo hi sl Q I rx hs pl pu h
 obtain⟨a,xs,rfl,hx,hw,q⟩:=h
 cases rx
 obtain⟨its,r,ht,hz⟩:=I.tuple hx
 have hlen:its.toArray.size=xs.length:=by rw[aI4];exact r.length.symm
 refine⟨"tuple",_,PyProof.Rows.slot_tuple_getitem.lookup,ht.typeIs,?_⟩
 refine HT.W7 ht hs pl pu (by rw[hlen];exact hw) ?_ (by rw[hlen];exact hz)
 rw[hlen]
 refine⟨.ref s.heap.objs.size,_,I.laid (t':=s.toks) (o:=.tup (fO xs lo hi)) (λb ob q=>aI3 _ q) (aI6 _) ?_,rfl,q _ (I.hok.fresh (aI6 _))⟩
 exact⟨aN2 (wN xs lo hi) hz,_,(r.drop (HT.aO xs.length 0 lo)).take (HT.aO xs.length xs.length hi-HT.aO xs.length 0 lo),IsTup.new _ _,gS.new _ _ rfl⟩
noncomputable def qU (K:ac):R2:=λx y H Q=>∃a b ns ms,x = .ref a/\y = .ref b/\aI K H a (ns.map V.int)/\aI K H b (ms.map V.int)/\Q (.bl (HT.bZ ns ms)) H
theorem X6 (hu:X.A.units<cLine):bY X (compareOp .Lt) (qU X.K):=by
 intro pins s σ H x y v u Q I rx ry h
 obtain⟨a,b,ns,ms,rfl,rfl,ha,hb,q⟩:=h
 cases rx
 cases ry
 obtain⟨its,r1,p1,_⟩:=I.tuple ha
 obtain⟨its2,r2,p2,_⟩:=I.tuple hb
 have i1:IntsAre its.toArray.toList ns:=lM r1
 have i2:IntsAre its2.toArray.toList ms:=lM r2
 exact HT.V8 p1 p2 i1 i2 hu ⟨.bl (HT.bZ ns ms),H,I,rfl,q⟩
end
noncomputable def fP (n:Nat)(i:Int):Option Nat:=if 0<=i then (if i<n then some i.toNat else none) else if -(n:Int)<=i then some (i+n).toNat else none
noncomputable def atI {α:Type}(xs:List α)(i:Int):Option α:=(fP xs.length i).bind λj=>xs[j]?
theorem wO {n:Nat}{i:Int}{j:Nat}(h:fP n i=some j):seqIndex? i n=some j/\j<n/\-(n:Int)<=i/\i<n:=by
 unfold fP at h
 by_cases h0:0<=i
 ·rw[if_pos h0]at h
  by_cases h1:i<n
  ·rw[if_pos h1]at h
   have e:i.toNat=j:=aL1 h
   exact⟨by rw[seqIndex_of h0 h1,e],by omega,by omega,h1⟩
  ·rw[if_neg h1]at h;cases h
 ·rw[if_neg h0]at h
  by_cases h1:-(n:Int)<=i
  ·rw[if_pos h1]at h
   have e:(i+n).toNat=j:=aL1 h
   exact⟨by rw[seqIndex_neg (by omega) h1,e],by omega,h1,by omega⟩
  ·rw[if_neg h1]at h;cases h
theorem qV {α:Type}{xs:List α}{i:Int}{v:α}(h:atI xs i=some v):∃j,seqIndex? i xs.length=some j/\xs[j]? = some v/\j<xs.length/\-(xs.length:Int)<=i/\i<xs.length:=by
 unfold atI at h
 cases e:fP xs.length i with
 |none=>rw[e]at h;cases h
 |some j=>
  rw[e]at h
  obtain⟨h1,h2,h3,h4⟩:=wO e
  exact⟨j,h1,h,h2,h3,h4⟩
theorem qW {α:Type}{xs:List α}{j:Nat}{v:α}(h:xs[j]? = some v):atI xs (j:Int)=some v:=by
 have hj:j<xs.length:=(aK3.mp h).1
 have e:fP xs.length (j:Int)=some j:=by
  unfold fP
  rw[if_pos (by omega),if_pos (by omega)];simp
 unfold atI;rw[e];exact h
noncomputable def wP (b:Expr):Prop:=∀o i,subscripted b false o i=operate [o,i] (getItem o i)
noncomputable def gY (X:Cx)(r:R2):Prop:=
 ∀(value slice:Expr) (pins:List (Addr×Obj)) (s:Shared) (σ:St) (H:Hp) (x y:V) (v u:Value) (Q:VK),a5 X pins σ H s->aQ x v->aQ y u->r x y H Q->
  subscripted slice false v u=operate [v,u] (getItem v u)->wpAny (model X.prog X.w) X.A (subscriptTail value slice v u) (EP X pins σ Q) X.xe s
noncomputable def X7 (X:Cx)(id:String)(r:V->List V->Hp->VK->Prop):Prop:=
 ∀(pins:List (Addr×Obj)) (s:Shared) (σ:St) (H:Hp) (x:V) (xs:List V) (v:Value) (us:List Value) (Q:VK),a5 X pins σ H s->aQ x v->aK xs us->r x xs H Q->
  wpAny (model X.prog X.w) X.A (call (.builtin id) (v::us)) (EP X pins σ Q) X.xe s
section
variable {X:Cx}{a b:Expr}{ta tb:TE}{pos:Pos}
theorem gY.or {r r':R2}(h:gY X r)(h':gY X r'):gY X (λx y H Q=>r x y H Q∨r' x y H Q):=by
 intro value slice pins s σ H x y v u Q I rx ry q hs
 rcases q with q|q
 ·exact h value slice pins s σ H x y v u Q I rx ry q hs
 ·exact h' value slice pins s σ H x y v u Q I rx ry q hs
theorem lN {r:R2}(hr:gY X r)(ha:PE X a ta)(hb:PE X b tb)(hs:wP b):PE X (.Subscript a b pos) (lI r ta tb):=by
 intro pins s σ H Q I h
 exact Subscript_ (qG ha hb I h λv u s2 x y H2 I2 rx ry q=>hr a b pins s2 σ H2 x y v u Q I2 rx ry q (hs _ _))
noncomputable def wQ (K:ac):R2:=λx y H Q=>∃p xs i v,x = .ref p/\y = .int i/\aL K H p xs/\atI xs i=some v/\Q v H
noncomputable def wR (K:ac):R2:=λx y H Q=>∃p xs i v,x = .ref p/\y = .int i/\aI K H p xs/\atI xs i=some v/\Q v H
noncomputable def wS:R2:=λx y H Q=>∃z i c,x = .str z/\y = .int i/\z.length<=sizeLine/\atI z.cps.toList i=some c/\Q (.str ⟨#[c]⟩) H
theorem qX:gY X (wQ X.K):=by
 intro value slice pins s σ H x y v u Q I rx ry h hs
 obtain⟨p,xs,i,z,rfl,rfl,hq,he,q⟩:=h
 cases rx
 obtain⟨t,rfl⟩:=ry
 obtain⟨its,r,pl,hz⟩:=I.list hq
 obtain⟨j,h1,h2,h3,h4,h5⟩:=qV he
 obtain⟨w,ew,rw'⟩:=r.get h2
 have hl:=r.length
 have hn:=kG
 have fin:EP X pins σ Q w s:=⟨z,H,I,rw',q⟩
 by_cases h0:0<=i
 ·have hj:i.toNat=j:=by
   rw[seqIndex_of h0 h5]at h1
   exact aL1 h1
  exact item_listR pl.isList h0 (by omega) (by rw[hj];simpa using ew) fin hs
 ·have hj:(i+(its.toArray.size:Int)).toNat=j:=by
   rw[seqIndex_neg (by omega) h4]at h1
   rw[aI4,<- hl]
   exact aL1 h1
  exact subscriptTail_builtinR (x:=w) pl.isList.typeIs slot_list_getitem.lookup
   (wpAny_getItem_list_neg (Q:=λr s'=>r=w/\EP X pins σ Q r s') pl.isList (by omega) (by rw[aI4]<;>omega) (by omega) (by rw[hj];simpa using ew) ⟨rfl,fin⟩) hs
theorem qY:gY X (wR X.K):=by
 intro value slice pins s σ H x y v u Q I rx ry h hs
 obtain⟨p,xs,i,z,rfl,rfl,hq,he,q⟩:=h
 cases rx
 obtain⟨t,rfl⟩:=ry
 obtain⟨its,r,pl,hz⟩:=I.tuple hq
 obtain⟨j,h1,h2,h3,h4,h5⟩:=qV he
 obtain⟨w,ew,rw'⟩:=r.get h2
 have hl:=r.length
 have hn:=kG
 have fin:EP X pins σ Q w s:=⟨z,H,I,rw',q⟩
 exact subscriptTail_builtinR (x:=w) pl.typeIs slot_tuple_getitem.lookup
  (getItem_tuple (j:=j) (Q:=λr s'=>r=w/\EP X pins σ Q r s') pl (by omega) (by omega) (by rw[aI4,<- hl];exact h1) (by simpa using ew) ⟨rfl,fin⟩) hs
theorem X8:gY X wS:=by
 intro value slice pins s σ H x y v u Q I rx ry h hs
 obtain⟨z,i,c,rfl,rfl,hz,he,q⟩:=h
 obtain⟨t,rfl⟩:=rx
 obtain⟨t',rfl⟩:=ry
 obtain⟨j,h1,h2,h3,h4,h5⟩:=qV he
 have hl:z.cps.toList.length=z.length:=by simp[Str.length]
 rw[hl]at h1 h4 h5
 have hn:=kG
 exact tail_any (typeIs_str s z t) slot_str_getitem.lookup (getItem_str (c:=c) (by
  have e1:decide (i < -(2^63:Int))=false:=aJ1 (by omega)
  have e2:decide (i >= 2^63)=false:=aJ1 (by omega)
  rw[e1,e2,Bool.or_false]) (by rw[h1];simpa using h2) ⟨.str ⟨#[c]⟩,H,I.tok _,⟨_,rfl⟩,q⟩) hs
noncomputable def wT (K:ac):R2:=λx y H Q=>wQ K x y H Q∨wR K x y H Q∨wS x y H Q
theorem X9:gY X (wT X.K):=qX.or (qY.or X8)
theorem Y0 (its:List Value)(n j:Nat)(u:Value):Obj.mapSeq (·.setIfInBounds j u) { cls:=.type "list",data:=.seq its.toArray n }={ cls:=.type "list",data:=.seq (its.set j u).toArray n }:=by
 simp[Obj.mapSeq]
theorem a5.lst {pins:List (Addr×Obj)}{σ:St}{H:Hp}{s:Shared}{p:Addr}{xs:List V}(I:a5 X pins σ H s)(h:H p=some (.lst xs)) :
  ∃(its:List Value) (n:Nat),aK xs its/\s.heap.get? p=some { cls:=.type "list",data:=.seq its.toArray n }/\xs.length<=sizeLine:=by
 obtain⟨z,its,n,r,e⟩:=I.hok p _ h
 exact⟨its,n,r,e,z⟩
theorem a5.lstUpd {pins:List (Addr×Obj)}{σ:St}{H:Hp}{s:Shared}{p:Addr}{xs ys:List V}{its its':List Value}{n n':Nat}{f:Obj->Obj}(I:a5 X pins σ H s)(h:H p=some (.lst xs))(ho:s.heap.get? p=some { cls:=.type "list",data:=.seq its.toArray n })(hf:f { cls:=.type "list",data:=.seq its.toArray n }={ cls:=.type "list",data:=.seq its'.toArray n' })(r:aK ys its')(hz:ys.length<=sizeLine)(t:Nat) :
  a5 X pins σ (upd H p (.lst ys)) { s with heap:=s.heap.update p f,toks:=t }:=by
 have e:(s.heap.update p f).get? p=some { cls:=.type "list",data:=.seq its'.toArray n' }:=by
  rw[aU7 f ho (by rw[hf]<;>rfl),hf]
 refine I.write (x:=p) (e:=p) (by rw[h];trivial) (.inl rfl) (λb u hb q=>(Heap.get?_update_other _ _ (Ne.symm hb)).trans q) ⟨_,e⟩ ?_
 exact⟨hz,its',n',r,e⟩
noncomputable def qZ:V->V->V->Hp->(Hp->Prop)->Prop:=λo i v H Q=>∃p xs k j,o = .ref p/\i = .int k/\H p=some (.lst xs)/\fP xs.length k=some j/\Q (upd H p (.lst (xs.set j v)))
theorem Y1:vL X qZ:=by
 intro pins s σ H o i v ov iv u Q I ro ri rv h
 obtain⟨p,xs,k,j,rfl,rfl,hp,hj,q⟩:=h
 cases ro
 obtain⟨t,rfl⟩:=ri
 obtain⟨its,n,r,ho,hz⟩:=I.lst hp
 obtain⟨h1,h2,h3,h4⟩:=wO hj
 have hl:=r.length
 have hn:=kG
 have I':a5 X pins σ (upd H p (.lst (xs.set j v))) { s with heap:=s.heap.update p (Obj.mapSeq (·.setIfInBounds j u)) }:=
  I.lstUpd hp ho (Y0 its n j u) (r.set rv j) (by rw[aO0];exact hz) s.toks
 by_cases h0:0<=k
 ·have hk:k.toNat=j:=by
   rw[seqIndex_of h0 h4]at h1
   exact aL1 h1
  exact PySem.W.ki_setAt ho h0 (by omega) (by rw[aI4,<- hl];exact h4) (by rw[hk];exact⟨_,I',q⟩)
 ·have hk:(k+(its.toArray.size:Int)).toNat=j:=by
   rw[seqIndex_neg (by omega) h3]at h1
   rw[aI4,<- hl]
   exact aL1 h1
  exact PySem.W.ki_setBack ho (by omega) (by rw[aI4,<- hl];exact h3) (by omega) (by rw[hk];exact⟨_,I',q⟩)
theorem Y2 (lo hi:Option Int)(n:Nat):(sliceBounds lo hi none n).1=((HT.aO n 0 lo:Nat):Int)/\(sliceBounds lo hi none n).2.1=((HT.aO n n hi:Nat):Int)/\(sliceBounds lo hi none n).2.2=1:=by
 refine⟨?_,?_,rfl⟩
 ·cases lo with
  |none=>simp[sliceBounds,HT.aO]
  |some i=>
   simp only[sliceBounds,HT.aO,Option.getD_none,show (1:Int)>0 by decide,if_true]
   by_cases h:i<0
   ·simp only[h,if_true]<;>omega
   ·simp only[h,aQ2]<;>omega
 ·cases hi with
  |none=>simp[sliceBounds,HT.aO]
  |some i=>
   simp only[sliceBounds,HT.aO,Option.getD_none,show (1:Int)>0 by decide,if_true]
   by_cases h:i<0
   ·simp only[h,if_true]<;>omega
   ·simp only[h,aQ2]<;>omega
theorem Y3 (its:List Value)(lo hi:Option Int):slicePick its.toArray lo hi none=((its.drop (HT.aO its.length 0 lo)).take (HT.aO its.length its.length hi-HT.aO its.length 0 lo)).toArray:=by
 obtain⟨h1,h2,h3⟩:=Y2 lo hi its.toArray.size
 unfold slicePick
 rw[h1,h2,h3]
 simp only[sliceRange_one,pick_run,aI4]<;>rfl
noncomputable def Y4 (K:ac):V->Option Int->Option Int->Hp->VK->Prop:=λx lo hi H Q=>∃a xs,x = .ref a/\aL K H a xs/\∀p,H p=none->Q (.ref p) (upd H p (.lst (fO xs lo hi)))
theorem Y5:iK X (Y4 X.K):=by
 intro pins s σ H x v vl vu lo hi sl Q I rx hs pl pu h
 obtain⟨a,xs,rfl,hx,q⟩:=h
 cases rx
 obtain⟨its,r,ht,hz⟩:=I.list hx
 have hlen:=r.length
 refine⟨"list",_,slot_list_getitem.lookup,ht.isList.typeIs,?_⟩
 refine wpAny_getItem_list_slice ht.isList hs pl pu .none (by simp) ?_ (by rw[aI4]<;>omega)
 rw[Y3,<- hlen]
 refine⟨.ref s.heap.objs.size,_,I.laid (t':=s.toks) (o:=.lst (fO xs lo hi)) (λb ob q=>aI3 _ q) (aI6 _) ?_,rfl,q _ (I.hok.fresh (aI6 _))⟩
 exact⟨aN2 (wN xs lo hi) hz,_,0,(r.drop (HT.aO xs.length 0 lo)).take (HT.aO xs.length xs.length hi-HT.aO xs.length 0 lo),aK1 _ rfl⟩
noncomputable def gZ:V->Bool
 |.non=>true
 |.bl _=>true
 |.int _=>true
 |.str _=>true
 |_=>false
noncomputable def fQ:V->V->Bool
 |.non,.non=>true
 |.bl a,.bl b=>a==b
 |.bl a,.int b=>(if a then 1 else 0)==b
 |.int a,.bl b=>a==(if b then 1 else 0)
 |.int a,.int b=>a==b
 |.str a,.str b=>a==b
 |_,_=>false
theorem Y6 {A:Around}{s:Shared}{y x:V}{u v:Value}(ry:aQ y u)(rx:aQ x v)(fy:gZ y=true)(fx:gZ x=true):SeqAt.EqAt A s u v (fQ y x):=by
 cases y with
 |non=>
  cases ry
  cases x with
  |non=>cases rx;exact SeqAt.EqAt.same _
  |bl b=>cases rx;exact SeqAt.EqAt.none_bool b
  |int b=>obtain⟨t,rfl⟩:=rx;exact SeqAt.EqAt.none_int b t
  |str b=>obtain⟨t,rfl⟩:=rx;exact SeqAt.EqAt.none_str b t
  |_=>exact absurd (show false=true from fx) aJ4
 |bl a=>
  cases ry
  cases x with
  |non=>cases rx;exact SeqAt.EqAt.bool_none a
  |bl b=>cases rx;exact SeqAt.EqAt.bool_bool a b
  |int b=>obtain⟨t,rfl⟩:=rx;exact SeqAt.EqAt.bool_int a b t
  |str b=>obtain⟨t,rfl⟩:=rx;exact SeqAt.EqAt.bool_str a b t
  |_=>exact absurd (show false=true from fx) aJ4
 |int a=>
  obtain⟨t',rfl⟩:=ry
  cases x with
  |non=>cases rx;exact SeqAt.EqAt.int_none a t'
  |bl b=>cases rx;exact SeqAt.EqAt.int_bool a t' b
  |int b=>obtain⟨t,rfl⟩:=rx;exact SeqAt.EqAt.int_int a t' b t
  |str b=>obtain⟨t,rfl⟩:=rx;exact SeqAt.EqAt.int_str a t' b t
  |_=>exact absurd (show false=true from fx) aJ4
 |str a=>
  obtain⟨t',rfl⟩:=ry
  cases x with
  |non=>cases rx;exact SeqAt.EqAt.str_none a t'
  |bl b=>cases rx;exact SeqAt.EqAt.str_bool a t' b
  |int b=>obtain⟨t,rfl⟩:=rx;exact SeqAt.EqAt.str_int a t' b t
  |str b=>obtain⟨t,rfl⟩:=rx;exact SeqAt.EqAt.str_str a t' b t
  |_=>exact absurd (show false=true from fx) aJ4
 |_=>exact absurd (show false=true from fy) aJ4
noncomputable def hG (x:V)(u:Value):Bool:=match u with
 |.none=>fQ .non x
 |.bool b=>fQ (.bl b) x
 |.int i _=>fQ (.int i) x
 |.str z _=>fQ (.str z) x
 |_=>false
theorem wU {x y:V}{u:Value}(r:aQ y u)(f:gZ y=true):hG x u=fQ y x:=by
 cases y with
 |non=>cases r;rfl
 |bl b=>cases r;rfl
 |int i=>obtain⟨t,rfl⟩:=r;rfl
 |str z=>obtain⟨t,rfl⟩:=r;rfl
 |_=>exact absurd (show false=true from f) aJ4
theorem r6 {x:V}:∀{xs:List V}{us:List Value},aK xs us->xs.all gZ=true->us.any (hG x)=xs.any λy=>fQ y x
 |_,_,.nil,_=>rfl
 |y::xs,u::us,.cons r t,f=>by
  rw[aR5,aN8]at f
  rw[List.any_cons,List.any_cons,wU r f.1,r6 t f.2]
theorem r9 {A:Around}{s:Shared}{x:V}{v:Value}(rx:aQ x v)(fx:gZ x=true):∀{xs:List V}{us:List Value},aK xs us->xs.all gZ=true->∀u∈us,SeqAt.EqAt A s u v (hG x u)
 |_,_,.nil,_=>λu hu=>by cases hu
 |y::xs,u::us,.cons r t,f=>λu' hu=>by
  rw[aR5,aN8]at f
  rcases aI5.mp hu with rfl|hu
  ·rw[wU r f.1];exact Y6 r rx f.1 fx
  ·exact r9 rx fx t f.2 u' hu
noncomputable def lO (x:V)(xs:List V):Bool:=xs.any λy=>fQ y x
noncomputable def wV (K:ac)(neg:Bool):R2:=λx y H Q=>∃p xs,y = .ref p/\(aL K H p xs∨aI K H p xs)/\gZ x=true/\xs.all gZ=true/\Q (.bl (if neg then !lO x xs else lO x xs)) H
theorem Y7:bY X (compareOp .In) (wV X.K false):=by
 intro pins s σ H x y v u Q I rx ry h
 obtain⟨p,xs,rfl,hq,fx,fs,q⟩:=h
 cases ry
 rcases hq with hq|hq
 ·obtain⟨its,r,pl,hz⟩:=I.list hq
  refine SeqAt.in_listAt (hG x) pl.isList (λw hw=>r9 rx fx r fs w (by simpa using hw)) ⟨.bl _,H,I,rfl,?_⟩
  rw[show its.toArray.any (hG x)=its.any (hG x) by simp,r6 r fs]
  exact q
 ·obtain⟨its,r,pl,hz⟩:=I.tuple hq
  refine SeqAt.in_tupleAt (hG x) pl (λw hw=>r9 rx fx r fs w (by simpa using hw)) ⟨.bl _,H,I,rfl,?_⟩
  rw[show its.toArray.any (hG x)=its.any (hG x) by simp,r6 r fs]
  exact q
theorem Y8:cN X (.builtin "len") (λxs H Q=>∃p ys,xs = [.ref p]/\(aL X.K H p ys∨aI X.K H p ys)/\Q (.int ys.length) H):=by
 intro pins s σ H xs us Q I r h
 obtain⟨p,ys,rfl,hq,q⟩:=h
 obtain⟨u,rfl,rx⟩:=gV r
 cases rx
 have hn:=kG
 rcases hq with hq|hq
 ·obtain⟨its,r',pl,hz⟩:=I.list hq
  have hlen:=r'.length
  exact Calls.call_len_list pl.isList (by simp only[aI4]<;>omega) ⟨.int ys.length,H,I.tok _,⟨s.toks+1,by rw[aI4,hlen]⟩,q⟩
 ·obtain⟨its,r',pl,hz⟩:=I.tuple hq
  have hlen:=r'.length
  exact len_tuple pl (by simp only[aI4]<;>omega) ⟨.int ys.length,H,I.tok _,⟨s.toks+1,by rw[aI4,hlen]⟩,q⟩
theorem cN.or {f:Value}{r r':List V->Hp->VK->Prop}(h:cN X f r)(h':cN X f r'):cN X f (λxs H Q=>r xs H Q∨r' xs H Q):=by
 intro pins s σ H xs us Q I rs q
 rcases q with q|q
 ·exact h pins s σ H xs us Q I rs q
 ·exact h' pins s σ H xs us Q I rs q
theorem Y9:cN X (.type "list") (λxs H Q=>∃p ys,xs = [.ref p]/\(aL X.K H p ys∨aI X.K H p ys)/\∀l,H l=none->Q (.ref l) (upd H l (.lst ys))):=by
 intro pins s σ H xs us Q I r h
 obtain⟨p,ys,rfl,hq,q⟩:=h
 obtain⟨u,rfl,rx⟩:=gV r
 cases rx
 have fin:∀(its:List Value),aK ys its->ys.length<=sizeLine->∀(h':Heap) (c':Nat),(∀b o',s.heap.get? b=some o'->h'.get? b=some o')->
   h'.get? s.heap.objs.size=some { cls:=.type "list",dict:=none,data:=.seq its.toArray c',slots:=#[] }->EP X pins σ Q (.ref s.heap.objs.size) { s with heap:=h' }:=λits r' hz h' c' kp e=>
  ⟨.ref s.heap.objs.size,_,I.laid (t':=s.toks) kp (aI6 _) (show bM X.prog X.w _ h' _ (.lst ys) from ⟨hz,its,c',r',e⟩),rfl,q _ (I.hok.fresh (aI6 _))⟩
 rcases hq with hq|hq
 ·obtain⟨its,r',pl,hz⟩:=I.list hq
  have hlen:=r'.length
  obtain⟨o,ho,hc,n,hd⟩:=pl.isList
  exact call_list_seq p (.inl rfl) ho hc hd (λh' c' kp e=>fin its r' hz h' c' kp e) (by simp only[aI4]<;>omega)
 ·obtain⟨its,r',pl,hz⟩:=I.tuple hq
  have hlen:=r'.length
  obtain⟨o,ho,hc,n,hd⟩:=pl
  exact call_list_seq p (.inr rfl) ho hc hd (λh' c' kp e=>fin its r' hz h' c' kp e) (by simp only[aI4]<;>omega)
theorem Z0:cN X (.type "tuple") (λxs H Q=>∃p ys,xs = [.ref p]/\((aL X.K H p ys/\∀l,H l=none->Q (.ref l) (upd H l (.tup ys)))∨(aI X.K H p ys/\Q (.ref p) H))):=by
 intro pins s σ H xs us Q I r h
 obtain⟨p,ys,rfl,h⟩:=h
 obtain⟨u,rfl,rx⟩:=gV r
 cases rx
 rcases h with⟨hq,q⟩|⟨hq,q⟩
 ·obtain⟨its,r',pl,hz⟩:=I.list hq
  have hlen:=r'.length
  refine call_tuple_list pl.isList (λh' kp=>?_) (by simp only[aI4]<;>omega)
  have I1:a5 X pins σ H { s with heap:=h' }:=I.kept (t':=s.toks) kp
  have I2:a5 X pins σ (upd H h'.objs.size (.tup ys)) { s with heap:=h'.push { cls:=.type "tuple",data:=.seq its.toArray } }:=
   I1.laid (t':=s.toks) (λb o e=>aI3 _ e) (aI6 _) (show bM X.prog X.w _ _ _ (.tup ys) from ⟨hz,its,r',IsTup.new _ _,gS.new _ _ rfl⟩)
  exact⟨.ref h'.objs.size,_,I2,rfl,q _ (I1.hok.fresh (aI6 _))⟩
 ·obtain⟨its,r',pl,hz⟩:=I.tuple hq
  exact call_tuple_same pl ⟨.ref p,H,I,rfl,q⟩
noncomputable def fR (K:ac)(T:String)(x:V)(H:Hp):Prop:=match x with
 |.str _=>T="str"
 |.int _=>T="int"
 |.ref p=>(T="list"/\∃xs,aL K H p xs)∨(T="tuple"/\∃o,K.lookup p=some o/\o.cls = .type "tuple"/\o.dict=none) ∨
   (T="dict"/\((∃kvs,H p=some (.dK kvs))∨∃kvs,H p=some (.dT kvs)))∨(T="set"/\∃S n,H p=some (.set S n))
 |_=>False
theorem Z1 {pins:List (Addr×Obj)}{σ:St}{H:Hp}{s:Shared}{T:String}{x:V}{v:Value}(I:a5 X pins σ H s)(r:aQ x v)(ty:fR X.K T x H) :
  s.TypeIs v T/\∀a,v = .ref a->∃ob,s.heap.get? a=some ob/\ob.dict=none:=by
 cases x with
 |str z=>
  obtain⟨t,rfl⟩:=r
  cases (show T="str" from ty)
  exact⟨typeIs_str s z t,λ_ e=>nomatch e⟩
 |int i=>
  obtain⟨t,rfl⟩:=r
  cases (show T="int" from ty)
  exact⟨typeIs_int s i t,λ_ e=>nomatch e⟩
 |ref p=>
  cases r
  rcases ty with⟨rfl,xs,hq⟩|⟨rfl,o,hk,hc,hd⟩|⟨rfl,hk⟩|⟨rfl,S,n,hk⟩
  ·obtain⟨its,_,pl,_⟩:=I.list hq
   refine⟨pl.isList.typeIs,λa e=>?_⟩
   cases e
   obtain⟨o,n,e,c,hd,_⟩:=pl
   exact⟨o,e,hd⟩
  ·refine⟨⟨o,I.kIn p o hk,hc⟩,λa e=>?_⟩
   cases e
   exact⟨o,I.kIn _ o hk,hd⟩
  ·have z:∃o,s.heap.get? p=some o/\o.ExactDict:=by
    rcases hk with⟨kvs,hk⟩|⟨kvs,hk⟩
    ·obtain⟨_,_,_,_,o,_,_,e,ex,_⟩:=I.hok p _ hk
     exact⟨o,e,ex⟩
    ·obtain⟨_,_,_,_,o,_,_,e,ex,_⟩:=I.hok p _ hk
     exact⟨o,e,ex⟩
   obtain⟨o,e,ex⟩:=z
   refine⟨⟨o,e,ex.1⟩,λa e2=>?_⟩
   cases e2
   exact⟨o,e,ex.2.1⟩
  ·obtain⟨o,_,_,_,e,ex,_⟩:=I.hok p _ hk
   refine⟨⟨o,e,ex.1⟩,λa e2=>?_⟩
   cases e2
   exact⟨o,e,ex.2.1⟩
 |_=>exact False.elim ty
noncomputable def wW (K:ac)(T:String)(r:V->List V->Hp->VK->Prop)(to:TE)(t:TA):TE:=λσ H Q=>to σ H λx H1=>fR K T x H1/\t σ H1 λxs H2=>r x xs H2 Q
variable {o e:Expr}{es:List Expr}{to:TE}{t:TA}{name:Str}{apos cpos:Pos}{T id:String}{r:V→List V→Hp→VK→Prop}
theorem rA (pa:PlainAttrs T)(slot:Slot T name id)(hty:typeOf (.builtin id)=pure (.type "method_descriptor"))(hm:X7 X id r)(ho:PE X o to)(ha:PA X (e::es) t)(hbase:attributeBase o name X.env (eval o X.env)=eval o X.env:=by rfl)(hfew:((backTo cpos (starEach (e::es) X.env)).all (λx=>!x.1)&&(backToKw cpos (keywordEach [] X.env)).all (λx=>x.1.isSome)
  &&decide ((e::es).length+([]:List Keyword).length+(if ([]:List Keyword).isEmpty then 0 else 1)<30))=true:=by rfl)(hline:(apos.endLine==cpos.line)=true:=by rfl)(hs:starEach (e::es) X.env=(false,eval e X.env)::starEach es X.env:=by rfl)(hplain:(backTo cpos (starEach es X.env)).any (·.1)=false:=by rfl) :
  PE X (.Call (.Attribute o name apos) (e::es) [] cpos) (wW X.K T r to t):=by
 intro pins s σ H Q I h
 refine wpAny_Call_method_late hbase hfew hline rfl (aJ (ho pins s σ H _ I h) λv s1 ⟨x,H1,I1,r1,ty,q1⟩=>?_)
 obtain⟨h1,h2⟩:=Z1 I1 r1 ty
 refine⟨T,id,pa,slot,hty,h1,h2,?_⟩
 have hA:=ha cpos pins s1 σ H1 _ I1 q1
 rw[hs]at hA ⊢
 refine Calls.callWith_builtin (by show (false||(backTo cpos (starEach es X.env)).any (·.1))=false;rw[hplain]<;>rfl) (Calls.evalArgs_plain ?_)
 exact aJ hA λus s2 ⟨vs,H2,I2,r2,q2⟩=>hm pins s2 σ H2 x vs v us Q I2 r1 r2 q2
end
noncomputable def wX (X:Cx)(id:String)(r:V->List V->Hp->VK->Prop):Prop:=
 ∀(pins:List (Addr×Obj)) (s:Shared) (σ:St) (H:Hp) (x:V) (xs:List V) (v:Value) (us:List Value) (Q:VK),a5 X pins σ H s->aQ x v->aK xs us->r x xs H Q->
  wpAny (model X.prog X.w) X.A (call (.builtin id) (v::us)) (EP X pins σ Q) X.xe s
theorem aK.one {x:V}{us:List Value}(h:aK [x] us):∃u,us = [u]/\aQ x u:=by
 cases h with
 |cons r t=>
  cases t
  exact⟨_,rfl,r⟩
theorem aK.two {x y:V}{us:List Value}(h:aK [x,y] us):∃u v,us = [u,v]/\aQ x u/\aQ y v:=by
 cases h with
 |cons r t=>
  cases t with
  |cons q t=>
   cases t
   exact⟨_,_,rfl,r,q⟩
theorem aK.rep {xs:List V}{us:List Value}(h:aK xs us):∀k:Nat,aK (List.replicate k xs).flatten (List.replicate k us).flatten
 |0=>.nil
 |k+1=>by
  rw[aP9,aP9,aT0,aT0]
  exact aK.append h (aK.rep h k)
theorem wY (its:List Value):∀(k:Nat) (acc:List Value),
  List.foldl (λx1 x2=>x1++x2) acc.toArray (List.replicate k its.toArray)=(acc++(List.replicate k its).flatten).toArray
 |0,acc=>by simp
 |k+1,acc=>by
  have e:acc.toArray++its.toArray=(acc++its).toArray:=by simp
  have e2:(acc++its)++(List.replicate k its).flatten=acc++(List.replicate (k+1) its).flatten:=by
   rw[aP9,aT0,aK7]
  rw[<- e2,<- wY its k (acc++its),<- e,aP9,List.foldl_cons]
section
variable {X:Cx}{pins:List (Addr×Obj)}{σ:St}{H:Hp}{s:Shared}{l b:Addr}{xs ys zs:List V}
theorem a5.lset {its its':List Value}{n:Nat}{f:Array Value->Array Value}{t':Nat}(I:a5 X pins σ H s)(hH:H l=some (.lst xs))(e:s.heap.get? l=some { cls:=.type "list",data:=.seq its.toArray n })(hf:f its.toArray=its'.toArray)(hv:aK ys its')(hz:ys.length<=sizeLine) :
  a5 X pins σ (upd H l (.lst ys)) { s with heap:=s.heap.update l (Obj.mapSeq f),toks:=t' }:=by
 have q:=PySem.IsL.update e f
 rw[hf]at q
 refine I.write (x:=l) (e:=l) (by rw[hH];exact trivial) (.inl rfl) (λb' u hb hu=>(Heap.get?_update_other s.heap (Obj.mapSeq f) (Ne.symm hb)).trans hu) ⟨_,q⟩ ?_
 exact⟨hz,its',_,hv,q⟩
theorem a5.lnew {its:List Value}{t':Nat}(I:a5 X pins σ H s)(hv:aK ys its)(hz:ys.length<=sizeLine) :
  a5 X pins σ (upd H s.heap.objs.size (.lst ys)) { s with heap:=s.heap.push { cls:=.type "list",data:=.seq its.toArray },toks:=t' }:=
 I.laid (λ_ _ q=>aI3 _ q) (aI6 _) ⟨hz,its,0,hv,aK1 _ rfl⟩
theorem a5.fresh (I:a5 X pins σ H s):H s.heap.objs.size=none:=I.hok.fresh (aI6 _)
theorem a5.lstM (I:a5 X pins σ H s)(hH:H l=some (.lst xs)):xs.length<=sizeLine/\∃(its:List Value) (n:Nat),aK xs its/\xs.length=its.length/\s.heap.get? l=some { cls:=.type "list",data:=.seq its.toArray n }:=by
 obtain⟨z,its,n,r,e⟩:=I.hok l _ hH
 exact⟨z,its,n,r,r.length,e⟩
theorem wZ {n:Nat}(h:n<=sizeLine):Builtin.List.listTooLong n=false:=by
 unfold Builtin.List.listTooLong
 exact aJ1 (by omega)
end
section
variable {X:Cx}
noncomputable def x5:V->List V->Hp->VK->Prop:=λx vs H Q=>∃l xs y,x = .ref l/\vs = [y]/\H l=some (.lst xs)/\xs.length<sizeLine/\Q .non (upd H l (.lst (xs++[y])))
theorem lP:wX X "list.append" x5:=by
 intro pins s σ H x vs v us Q I rx rv h
 obtain⟨l,xs,y,rfl,rfl,hH,hz,q⟩:=h
 cases rx
 obtain⟨u,rfl,ru⟩:=rv.one
 obtain⟨z,its,n,r,hl,e⟩:=I.lstM hH
 refine call_meets F.slot_list_append ⟨_,e,rfl⟩ F.entry_list_append (F.args_list_append_2 _ _) (PySem.list_append l its.toArray n u (by rw[aI4];omega)) ⟨e,?_⟩
 refine⟨.non,_,I.lset (its':=its++[u]) hH e (by simp) (r.append (.cons ru .nil)) ?_,rfl,q⟩
 rw[aL5,aS2]
 omega
noncomputable def Z2:V->List V->Hp->VK->Prop:=λx vs H Q=>∃l b xs zs,x = .ref l/\vs = [.ref b]/\H l=some (.lst xs)/\H b=some (.lst zs)/\xs.length+zs.length<=sizeLine/\Q .non (upd H l (.lst (xs++zs)))
theorem aH7:wX X "list.extend" Z2:=by
 intro pins s σ H x vs v us Q I rx rv h
 obtain⟨l,b,xs,zs,rfl,rfl,hH,hB,hz,q⟩:=h
 cases rx
 obtain⟨u,rfl,ru⟩:=rv.one
 cases ru
 obtain⟨z,its,n,r,hl,e⟩:=I.lstM hH
 obtain⟨z2,its2,n2,r2,hl2,e2⟩:=I.lstM hB
 have hsz:its.toArray.size+its2.toArray.size<=sizeLine:=by rw[aI4,aI4];omega
 have hlong:¬(!its.toArray.isEmpty&&Builtin.List.listTooLong (its.toArray.size+its2.toArray.size))=true:=by
  rw[wZ hsz,Bool.and_false]
  exact aJ4
 refine call_meets F.slot_list_extend ⟨_,e,rfl⟩ F.entry_list_extend (F.args_list_extend_2 _ _)
  (AutoSeq1.list_extend_list_list_0 l its.toArray n b its2.toArray n2 hlong (by rw[aI4];omega) (by omega)) ⟨e,e2,?_⟩
 refine⟨.non,_,I.lset (its':=its++its2) hH e (by simp) (r.append r2) ?_,rfl,q⟩
 rw[aL5]
 omega
noncomputable def x6:R2:=λx y H Q=>∃l b xs zs,x = .ref l/\y = .ref b/\H l=some (.lst xs)/\H b=some (.lst zs)/\xs.length+zs.length<=sizeLine/\∀p,H p=none->Q (.ref p) (upd H p (.lst (xs++zs)))
theorem Z3:bY X (binaryOp .Add) x6:=by
 intro pins s σ H x y v u Q I rx ry h
 obtain⟨l,b,xs,zs,rfl,rfl,hH,hB,hz,q⟩:=h
 cases rx
 cases ry
 obtain⟨z,its,n,r,hl,e⟩:=I.lstM hH
 obtain⟨z2,its2,n2,r2,hl2,e2⟩:=I.lstM hB
 refine PySem.P.add_list e e2 ?_ (by rw[aI4,aI4];omega)
 have ea:its.toArray++its2.toArray=(its++its2).toArray:=by simp
 rw[ea]
 exact⟨.ref _,_,I.lnew (t':=s.toks) (r.append r2) (by rw[aL5];omega),rfl,q _ I.fresh⟩
noncomputable def x8:R2:=λx y H Q=>∃l k xs,x = .ref l/\y = .int k/\H l=some (.lst xs)/\-(2^63)<=k/\k<2^63/\xs.length*k.toNat<=sizeLine/\
 ∀p,H p=none->Q (.ref p) (upd H p (.lst (List.replicate k.toNat xs).flatten))
theorem Z4 {α:Type}(xs:List α)(k:Nat):(List.replicate k xs).flatten.length=k*xs.length:=by
 induction k with
 |zero=>simp
 |succ k ih=>rw[aP9,aT0,aL5,ih,Nat.succ_mul,Nat.add_comm]
theorem Z5:bY X (binaryOp .Mult) x8:=by
 intro pins s σ H x y v u Q I rx ry h
 obtain⟨l,k,xs,rfl,rfl,hH,h1,h2,hz,q⟩:=h
 cases rx
 obtain⟨t,rfl⟩:=ry
 obtain⟨z,its,n,r,hl,e⟩:=I.lstM hH
 have hlen:its.toArray.size*k.toNat<=sizeLine:=by rw[aI4,<- hl];exact hz
 have hcap:¬its.toArray.size*k.toNat>(2^63-1)/8:=by
  have:(sizeLine:Nat)<=(2^63-1)/8:=by decide
  omega
 have hfit:¬(!Builtin.List.listFitsIndex k)=true:=by
  rw[fitsIndex_both h1 h2]
  exact aJ4
 have hlong:¬Builtin.List.listTooLong (its.toArray.size*k.toNat)=true:=by
  rw[wZ hlen]
  exact aJ4
 have hnew:List.foldl (λx1 x2=>x1++x2) #[] (List.replicate (if its.toArray.isEmpty=true then 0 else k.toNat) its.toArray)=(List.replicate k.toNat its).flatten.toArray:=by
  have f0:∀m:Nat,List.foldl (λx1 x2=>x1++x2) #[] (List.replicate m its.toArray)=(List.replicate m its).flatten.toArray:=λm=>by
   have:=wY its m []
   rw[List.nil_append]at this
   exact this
  rw[f0]
  cases its with
  |nil=>simp
  |cons a r'=>rw[if_neg (by simp)]
 refine wpAny_binaryOp_repeat_ref (T:="list") (U:="int") (by decide) ⟨_,e,rfl⟩ (λs'=>typeIs_int s' k t) noFill_list_mul F.fills_int_mul F.slot_int_rmul repeat_list F.slot_int_index.lookup
  (call_meets F.slot_int_rmul (typeIs_int s k t) F.entry_int_rmul (F.args_int_rmul_2 _ _) (int___rmul___int_list k t l its.toArray n)
   ⟨e,rfl,⟨_,e,rfl⟩,call_meets F.slot_list_mul ⟨_,e,rfl⟩ F.entry_list_mul (F.args_list_mul_2 _ _) (AutoListH.list___mul___list_int_3 l its.toArray n k t hfit hcap hlong) ⟨e,?_⟩⟩)
 rw[hnew]
 exact⟨.ref _,_,I.lnew (t':=s.toks) (r.rep k.toNat) (by rw[Z4,Nat.mul_comm];exact hz),rfl,q _ I.fresh⟩
end
section
variable {κ:Type}[DecidableEq κ]
noncomputable def dR (kvs:List (κ×V))(k:κ):Option V:=(kvs.find? λkv=>decide (kv.1=k)).map (·.2)
noncomputable def e8 (kvs:List (κ×V))(k:κ)(v:V):List (κ×V):=
 if (kvs.any λkv=>decide (kv.1=k))=true then kvs.map (λkv=>if kv.1=k then (kv.1,v) else kv) else kvs++[(k,v)]
theorem rB {p:κ×V}{r:List (κ×V)}{k:κ}(e:p.1=k):dR (p::r) k=some p.2:=by simp[dR,aR0,e]
theorem rC {p:κ×V}{r:List (κ×V)}{k:κ}(e:¬p.1=k):dR (p::r) k=dR r k:=by simp[dR,aR0,e]
theorem x9 (k:κ):∀kvs:List (κ×V),(kvs.any λkv=>decide (kv.1=k))=(dR kvs k).isSome
 |[]=>rfl
 |p::r=>by
  rw[List.any_cons]
  by_cases e:p.1=k
  ·simp only[rB e,aJ5 e,Bool.true_or,Option.isSome_some]
  ·rw[rC e,aJ1 e,Bool.false_or];exact x9 k r
theorem xA (kvs:List (κ×V))(k:κ)(v:V):(e8 kvs k v).length<=kvs.length+1:=by
 unfold e8
 split
 ·rw[aJ2];omega
 ·rw[aL5,aM0,List.length_nil];omega
theorem j6.isSome_eq {o:Option V}{u:Option Value}(r:j6 o u):o.isSome=u.isSome:=by
 cases o with
 |none=>cases u with
  |none=>rfl
  |some _=>exact (show False from r).elim
 |some _=>cases u with
  |none=>exact (show False from r).elim
  |some _=>rfl
theorem KV.val {kvs:List (κ×V)}{vs:List (κ×Value)}(r:KV kvs vs)(k:κ):j6 (dR kvs k) (valueAt vs k):=by
 unfold KV at r
 induction r with
 |nil=>exact aW4
 |@cons p q ps qs h t ih=>
  obtain⟨h1,h2⟩:=h
  by_cases e:p.1=k
  ·have e':q.1=k:=h1.symm.trans e
   have b:valueAt (q::qs) k=some q.2:=by simp[valueAt,aR0,e']
   rw[rB e,b];exact h2
  ·have e':¬q.1=k:=λz=>e (h1.trans z)
   have b:valueAt (q::qs) k=valueAt qs k:=by simp[valueAt,aR0,e']
   rw[rC e,b];exact ih
theorem KV.any {kvs:List (κ×V)}{vs:List (κ×Value)}(r:KV kvs vs)(k:κ):(kvs.any λkv=>decide (kv.1=k))=vs.any λkv=>decide (kv.1=k):=by
 unfold KV at r
 induction r with
 |nil=>rfl
 |cons h t ih=>rw[List.any_cons,List.any_cons,ih,h.1]
theorem KV.repl {kvs:List (κ×V)}{vs:List (κ×Value)}(r:KV kvs vs)(k:κ){y:V}{u:Value}(ry:aQ y u) :
  KV (kvs.map λkv=>if kv.1=k then (kv.1,y) else kv) (vs.map λkv=>if kv.1=k then (kv.1,u) else kv):=by
 unfold KV at r ⊢
 induction r with
 |nil=>exact .nil
 |@cons p q ps qs h t ih=>
  rw[aM5,aM5]
  refine .cons ?_ ih
  obtain⟨h1,h2⟩:=h
  by_cases e:p.1=k
  ·rw[if_pos e,if_pos (h1.symm.trans e)];exact⟨h1,ry⟩
  ·rw[if_neg e,if_neg (λz=>e (h1.trans z))];exact⟨h1,h2⟩
theorem KV.put {kvs:List (κ×V)}{vs:List (κ×Value)}(r:KV kvs vs)(k:κ){y:V}{u:Value}(ry:aQ y u):KV (e8 kvs k y) (stored vs k u):=by
 unfold e8 stored
 rw[r.any k]
 by_cases e:(vs.any λkv=>decide (kv.1=k))=true
 ·rw[if_pos e,if_pos e];exact r.repl k ry
 ·rw[if_neg e,if_neg e];exact Paired.snoc r ⟨rfl,ry⟩
theorem KV.length {kvs:List (κ×V)}{vs:List (κ×Value)}(r:KV kvs vs):kvs.length=vs.length:=Paired.length r
end
theorem rD {P:Program}{w:World}{k:aH}{u:Value}(r:aQ (kV k) u):(dQ P w).is k u=true:=by
 cases k with
 |inl i=>obtain⟨t,e⟩:=(show ∃t,u=Value.int i t from r);subst e;exact O3 P w i t
 |inr x=>obtain⟨t,e⟩:=(show ∃t,u=Value.str x t from r);subst e;exact O4 P w x t
theorem xB {P:Program}{w:World}:∀{ks:List aH}{us:List Value},aK (ks.map kV) us->ItemsAre (dQ P w) ks us
 |[],_,r=>by rw[List.map_nil]at r;cases r;exact .nil
 |k::ks,_,r=>by
  rw[aM5]at r
  cases r with
  |cons h t=>exact .cons (rD h) (xB t)
noncomputable abbrev KT (H:Hp):List (List aH×V)->List (List aH×Addr×Value)->Prop:=Paired λp q=>p.1=q.1/\H q.2.1=some (.tup (p.1.map kV))/\aQ p.2 q.2.2
theorem KT.val {H:Hp}{kvs:List (List aH×V)}{xs:List (List aH×Addr×Value)}(r:KT H kvs xs)(k:List aH):j6 (dR kvs k) ((atKey xs k).map (·.2)):=by
 induction r with
 |nil=>exact aW4
 |@cons p q ps qs h t ih=>
  obtain⟨h1,_,h2⟩:=h
  by_cases e:p.1=k
  ·have e':q.1=k:=h1.symm.trans e
   have b:atKey (q::qs) k=some q.2:=by simp[atKey,aR0,e']
   rw[rB e,b];exact h2
  ·have e':¬q.1=k:=λz=>e (h1.trans z)
   have b:atKey (q::qs) k=atKey qs k:=by simp[atKey,aR0,e']
   rw[rC e,b];exact ih
theorem KT.repl {H:Hp}{kvs:List (List aH×V)}{xs:List (List aH×Addr×Value)}(r:KT H kvs xs)(k:List aH){y:V}{u:Value}(ry:aQ y u) :
  KT H (kvs.map λkv=>if kv.1=k then (kv.1,y) else kv) (xs.map (putAt k u)):=by
 induction r with
 |nil=>exact .nil
 |@cons p q ps qs h t ih=>
  rw[aM5,aM5]
  refine .cons ?_ ih
  obtain⟨h1,h2,h3⟩:=h
  unfold putAt
  by_cases e:p.1=k
  ·rw[if_pos e,if_pos (h1.symm.trans e)];exact⟨h1,h2,ry⟩
  ·rw[if_neg e,if_neg (λz=>e (h1.trans z))];exact⟨h1,h2,h3⟩
theorem KT.put {H:Hp}{kvs:List (List aH×V)}{xs:List (List aH×Addr×Value)}(r:KT H kvs xs)(k:List aH){b:Addr}{y:V}{u:Value}(hb:H b=some (.tup (k.map kV)))(ry:aQ y u) :
  KT H (e8 kvs k y) (storedH xs k b u):=by
 have e:(kvs.any λkv=>decide (kv.1=k))=(atKey xs k).isSome:=by
  rw[x9,(r.val k).isSome_eq,Option.isSome_map]
 unfold e8 storedH
 rw[e]
 by_cases q:(atKey xs k).isSome=true
 ·rw[if_pos q,if_pos q];exact r.repl k ry
 ·rw[if_neg q,if_neg q];exact Paired.snoc r ⟨rfl,hb,ry⟩
theorem KT.keeps {H H':Hp}{kvs:List (List aH×V)}{xs:List (List aH×Addr×Value)}(r:KT H kvs xs)(ht:∀b ys,H b=some (.tup ys)->H' b=some (.tup ys)):KT H' kvs xs:=
 Paired.mapP r λ_ _ z=>⟨z.1,ht _ _ z.2.1,z.2.2⟩
section
variable {P:Program}{w:World}{H:Hp}{h:Heap}{a:Addr}
theorem xC {u:HO}(ok:bE P w H h)(e:Rd H a u):bM P w H h a u:=e.ok ok
theorem nJ {kvs:List (aH×V)}(ok:bE P w H h)(e:Rd H a (.dK kvs)):kvs.length<=sizeLine/\(a==sysModules)=false/\∃vs,KV kvs vs/\h.DictOf (dQ P w) a vs:=
 show bM P w H h a (.dK kvs) from xC ok e
theorem Z6 {kvs:List (aH×V)}(ok:bE P w H h)(e:H a=some (.dK kvs)):kvs.length<=sizeLine/\(a==sysModules)=false/\∃vs,KV kvs vs/\h.DictOf (dQ P w) a vs:=nJ ok (.inl e)
theorem nK {ks:List aH}(ok:bE P w H h)(e:H a=some (.tup (ks.map kV))):(tupleKind (dQ P w)).is h ks a:=by
 obtain⟨_,its,r,⟨o,h1,h2,n,h3⟩,_⟩:=(show bM P w H h a (.tup (ks.map kV)) from ok a _ e)
 exact⟨o,its.toArray,n,h1,h2,h3,by simpa using xB r⟩
theorem rE {kvs:List (List aH×V)}(ok:bE P w H h)(e:Rd H a (.dT kvs)):kvs.length<=sizeLine/\(a==sysModules)=false/\
  ∃xs,KT H kvs xs/\h.DictOfH (tupleKind (dQ P w)) a xs:=by
 obtain⟨z,y,xs,r,o,es,ep,h1,h2,h3,h4,h5⟩:=(show bM P w H h a (.dT kvs) from xC ok e)
 refine⟨z,y,xs,r,o,es,ep,h1,h2,h3,h4,λx hx=>?_,h5⟩
 have all:∀{l:List (List aH×V)}{m:List (List aH×Addr×Value)},KT H l m->∀x∈m,(tupleKind (dQ P w)).is h x.1 x.2.1:=by
  intro l m q
  induction q with
  |nil=>intro x hx;exact nomatch hx
  |@cons p q ps qs hq t ih=>
   intro x hx
   rcases aI5.mp hx with e|hx
   ·subst e
    exact nK ok (by rw[<- hq.1];exact hq.2.1)
   ·exact ih x hx
 exact all r x hx
theorem xD {kvs:List (List aH×V)}(ok:bE P w H h)(e:H a=some (.dT kvs)):kvs.length<=sizeLine/\(a==sysModules)=false/\
  ∃xs,KT H kvs xs/\h.DictOfH (tupleKind (dQ P w)) a xs:=rE ok (.inl e)
end
noncomputable def hI (H:Hp)(a:Addr)(y:V)(r:Option V):Prop:=
 (∃kvs k,Rd H a (.dK kvs)/\y=kV k/\r=dR kvs k)∨∃kvs k b,Rd H a (.dT kvs)/\y = .ref b/\H b=some (.tup (k.map kV))/\r=dR kvs k
noncomputable def lQ (H:Hp)(a:Addr)(y v:V)(H':Hp):Prop:=
 (∃kvs k,H a=some (.dK kvs)/\y=kV k/\kvs.length<sizeLine/\H'=upd H a (.dK (e8 kvs k v))) ∨
 ∃kvs k b,H a=some (.dT kvs)/\y = .ref b/\H b=some (.tup (k.map kV))/\kvs.length<sizeLine/\H'=upd H a (.dT (e8 kvs k v))
theorem hI.k {H:Hp}{a:Addr}{kvs:List (aH×V)}{k:aH}(e:H a=some (.dK kvs)):hI H a (kV k) (dR kvs k):=.inl ⟨kvs,k,.inl e,rfl,rfl⟩
theorem hI.t {H:Hp}{a b:Addr}{kvs:List (List aH×V)}{k:List aH}(e:H a=some (.dT kvs))(eb:H b=some (.tup (k.map kV))):hI H a (.ref b) (dR kvs k):=.inr ⟨kvs,k,b,.inl e,rfl,eb,rfl⟩
theorem lQ.t {H:Hp}{a b:Addr}{kvs:List (List aH×V)}{k:List aH}{v:V}(e:H a=some (.dT kvs))(eb:H b=some (.tup (k.map kV)))(hl:kvs.length<sizeLine) :
  lQ H a (.ref b) v (upd H a (.dT (e8 kvs k v))):=.inr ⟨kvs,k,b,e,rfl,eb,hl,rfl⟩
section
variable {X:Cx}{pins:List (Addr×Obj)}{σ:St}{H:Hp}{s:Shared}{a:Addr}{y v:V}{u r:Value}{o:Option V}{A:Around}{E:Value→Shared→Prop}
theorem a5.big (I:a5 X pins σ H s):sysModules<s.heap.objs.size:=by
 have h:mainGlobals<s.heap.objs.size:=(I.mod.glob.keeps I.bk).lt
 exact Nat.lt_trans (by decide) h
theorem Z7 {Q:Value->Shared->Prop}(hu:A.units+1<cLine)(I:a5 X pins σ H s)(g:hI H a y o)(ry:aQ y u)(h:∀s',a5 X pins σ H s'->Q (.bool o.isSome) s') :
  wpAny (model X.prog X.w) A (compareOp .In u (.ref a)) Q E s:=by
 rcases g with⟨kvs,k,e,ey,l⟩|⟨kvs,k,b,e,ey,eb,l⟩
 ·subst ey
  obtain⟨z,hd,vs,rel,dd⟩:=nJ I.hok e
  refine wpAny_in_of (rD ry) hd dd.mapOf ?_
  rw[<- (rel.val k).isSome_eq,<- l]
  exact h _ (I.tok _)
 ·subst ey
  cases (show u=Value.ref b from ry)
  obtain⟨z,hd,xs,rel,dd⟩:=rE I.hok e
  refine wpAny_in_heap (tupleKind_room_in1 hu) (nK I.hok eb) hd dd ?_
  have q:=(rel.val k).isSome_eq
  rw[Option.isSome_map]at q
  rw[<- q,<- l]
  exact h _ (I.tok _)
theorem rF {h':Heap}{t':Nat}{ob:HO}(I:a5 X pins σ H s)(mu:lD (H a))(hs:Heap.SameBut a s.heap h')(he:∃q,h'.get? a=some q)(new:bM X.prog X.w (upd H a ob) h' a ob) :
  a5 X pins σ (upd H a ob) { s with heap:=h',toks:=t' }:=
 I.write (x:=a) (e:=a) mu (.inl rfl) (λb q hb z=>(hs.2 b hb).trans z) he new
theorem Z8 {P:Program}{w:World}{H':Hp}{h':Heap}{kvs:List (aH×V)}{vs:List (aH×Value)}(z:kvs.length<=sizeLine)(hd:(a==sysModules)=false)(rel:KV kvs vs)(dd:h'.DictOf (dQ P w) a vs) :
  bM P w H' h' a (.dK kvs):=⟨z,hd,vs,rel,dd⟩
theorem Z9 {H':Hp}{Q:Unit->Shared->Prop}(hu:A.units+1<cLine)(I:a5 X pins σ H s)(g:lQ H a y v H')(ry:aQ y u)(rv:aQ v r)(h:∀s',a5 X pins σ H' s'->Q () s') :
  wpAny (model X.prog X.w) A (setItem (.ref a) u r) Q E s:=by
 rcases g with⟨kvs,k,e,ey,l,eH⟩|⟨kvs,k,b,e,ey,eb,l,eH⟩
 ·subst ey eH
  obtain⟨z,hd,vs,rel,dd⟩:=Z6 I.hok e
  have hz:vs.length<=sizeLine:=by rw[<- rel.length];exact z
  have hl:(e8 kvs k v).length<=sizeLine:=by have:=xA kvs k v;omega
  refine wpAny_setItem_pairs (hsz:=hz) (rD ry) dd λh' dd' hs=>h _ ?_
  have he:∃q,h'.get? a=some q:=let ⟨q,_,_,hq,_⟩:=dd';⟨q,hq⟩
  exact rF I (by rw[e];exact aW4) hs he (Z8 hl hd (rel.put k rv) dd')
 ·subst ey eH
  cases (show u=Value.ref b from ry)
  obtain⟨z,hd,xs,rel,dd⟩:=xD I.hok e
  have hz:xs.length<=sizeLine:=by rw[<- Paired.length rel];exact z
  have hl:(e8 kvs k v).length<=sizeLine:=by have:=xA kvs k v;omega
  refine wpAny_setItem_heap (hsz:=hz) (tupleKind_room_in1 hu) (nK I.hok eb) dd λh' dd' hs=>h _ ?_
  obtain⟨q,es,ep,hq,h2,h3,h4,_,h5⟩:=dd'
  refine rF I (by rw[e];exact aW4) hs ⟨q,hq⟩ ⟨hl,hd,_,(rel.put k eb rv).keeps λc ys ec=>?_,q,es,ep,hq,h2,h3,h4,h5⟩
  rw[aN (v8 ec e (λz=>nomatch z))]
  exact ec
end
section
variable {X:Cx}{pins:List (Addr×Obj)}{σ:St}{H:Hp}{s:Shared}{a:Addr}{kvs:List (aH×V)}{k:aH}{u:Value}{A:Around}{E:Value→Shared→Prop}
theorem aa0 {Q:Value->Shared->Prop}(I:a5 X pins σ H s)(e:Rd H a (.dK kvs))(h:∀t s',a5 X pins σ H s'->Q (.int kvs.length t) s'):wpAny (model X.prog X.w) A (call (.builtin "len") [.ref a]) Q E s:=by
 obtain⟨z,hd,vs,rel,dd⟩:=nJ I.hok e
 refine call_len_dict hd dd (by rw[<- rel.length];rw[sizeLine_eq]at z;omega) ?_
 rw[<- rel.length]
 exact h _ _ (I.tok _)
end
noncomputable def xE (ty td:TE):TE:=λσ H Q=>ty σ H λy H1=>td σ H1 λx H2=>∃a o,x = .ref a/\hI H2 a y o/\Q (.bl o.isSome) H2
noncomputable def xF (td ty tv:TE):TS:=λD σ H=>tv σ H λv H1=>td σ H1 λx H2=>ty σ H2 λy H3=>∃a H4,x = .ref a/\lQ H3 a y v H4/\D.nx σ H4
section
variable {X:Cx}{o i e value:Expr}{pos pos' tpos:Pos}{td ty tv:TE}
theorem aa1 (hu:X.A.units+1<cLine)(hi:PE X i ty)(ho:PE X o td):PC X .In i o (xE ty td):=by
 intro pins s σ H Q I h
 refine aJ (hi pins s σ H _ I h) λiv s1 ⟨y,H1,I1,ry,q1⟩=>aJ (ho pins s1 σ H1 _ I1 q1) λu s2 ⟨x,H2,I2,rx,a,ov,ex,g,q2⟩=>?_
 subst ex
 obtain rfl:u=Value.ref a:=rx
 exact Z7 hu I2 g ry λs3 I3=>⟨.bl ov.isSome,H2,I3,rfl,q2⟩
theorem aa2 (hu:X.A.units+1<cLine)(ho:PE X o td)(hi:PE X i ty)(hv:PE X value tv)(hs:swapsWith value (some (.Subscript o i pos')) pos.line X.env=pure false) :
  PS X (.Assign [.Subscript o i pos'] value pos) (xF td ty tv):=by
 intro pins s σ H D I h
 refine wpAny_Assign_Subscript (aJ (hv pins s σ H _ I h) λr s1 ⟨v,H1,I1,rv,q1⟩=>aJ (ho pins s1 σ H1 _ I1 q1) λu s2 ⟨x,H2,I2,rx,q2⟩=>aJ (hi pins s2 σ H2 _ I2 q2) λiv s3 ⟨y,H3,I3,ry,a,H4,ex,g,q3⟩=>?_) hs
 subst ex
 obtain rfl:u=Value.ref a:=rx
 exact Z9 hu I3 g ry rv λs4 I4=>⟨σ,H4,I4,q3⟩
end
theorem aa3 {P:Program}{w:World}{H:Hp}(h:Heap)(hb:sysModules<h.objs.size):bM P w H (h.push { cls:=.type "dict",data:=.dict #[] }) h.objs.size (.dT []):=
 ⟨aP8 _,beq_eq_false_iff_ne.mpr (Ne.symm (aL4 hb)),[],.nil,_,#[],0,aK1 _ rfl,⟨rfl,rfl,rfl⟩,rfl,rfl,List.nodup_nil⟩
noncomputable def xG:TE:=λ_ H Q=>∀p,H p=none->Q (.ref p) (upd H p (.dT []))
section
variable {X:Cx}{pos:Pos}
theorem aa4:PE X (.Dict [] [] pos) xG:=λpins s σ H Q I h=>
 wpAny_Dict_empty ⟨.ref s.heap.objs.size,_,I.laid (a:=s.heap.objs.size) (o:=.dT []) (t':=s.toks) (λ_ _ q=>aI3 _ q) (aI6 _) (aa3 s.heap I.big),rfl,h _ (I.hok.fresh (aI6 _))⟩
end
structure M1 (X:Cx)(o:Expr)(m:Str)(apos:Pos)(e:Expr)(cpos:Pos):Prop where
 base:attributeBase o m X.env (eval o X.env)=eval o X.env
 few:((backTo cpos (starEach [e] X.env)).all (λx=>!x.1)&&(backToKw cpos (keywordEach [] X.env)).all (λx=>x.1.isSome)
 &&decide (([e]:List Expr).length+([]:List Keyword).length+(if ([]:List Keyword).isEmpty then 0 else 1)<30))=true
 line:(apos.endLine==cpos.line)=true
 trees:backTo cpos (starEach [e] X.env) = [(false,eval e X.env)]
structure M2 (X:Cx)(o:Expr)(m:Str)(apos:Pos)(e f:Expr)(cpos:Pos):Prop where
 base:attributeBase o m X.env (eval o X.env)=eval o X.env
 few:((backTo cpos (starEach [e,f] X.env)).all (λx=>!x.1)&&(backToKw cpos (keywordEach [] X.env)).all (λx=>x.1.isSome)
 &&decide (([e,f]:List Expr).length+([]:List Keyword).length+(if ([]:List Keyword).isEmpty then 0 else 1)<30))=true
 line:(apos.endLine==cpos.line)=true
 trees:backTo cpos (starEach [e,f] X.env) = [(false,eval e X.env),(false,eval f X.env)]
noncomputable def xH (H:Hp)(a:Addr):Prop:=(∃kvs,Rd H a (.dK kvs))∨∃kvs,Rd H a (.dT kvs)
theorem aa5 {X:Cx}{pins:List (Addr×Obj)}{σ:St}{H:Hp}{s:Shared}{a:Addr}(I:a5 X pins σ H s)(d:xH H a) :
  s.TypeIs (.ref a) "dict"/\(∀b,Value.ref a = .ref b->∃ob,s.heap.get? b=some ob/\ob.dict=none)/\(a==sysModules)=false:=by
 rcases d with⟨kvs,e⟩|⟨kvs,e⟩
 ·obtain⟨_,hd,vs,_,dd⟩:=nJ I.hok e
  refine⟨dd.typeIs,λb q=>?_,hd⟩
  cases q
  obtain⟨ob,_,_,h1,h2,_⟩:=dd
  exact⟨ob,h1,h2.2.1⟩
 ·obtain⟨_,hd,xs,_,dd⟩:=rE I.hok e
  refine⟨dd.typeIs,λb q=>?_,hd⟩
  cases q
  obtain⟨ob,_,_,h1,h2,_⟩:=dd
  exact⟨ob,h1,h2.2.1⟩
end L2
namespace Att
open PySem PySem.W PySem.Calls PyProof.Rows
theorem aa6 {P:Params}{h:Heap}:∀(ns:ae) (vs:List Value),WellAll P h vs (ns.map WData.int)->IntsAre vs ns:=by
 intro ns
 induction ns with
 |nil=>
  intro vs w
  rw[List.map_nil]at w
  cases w
  exact .nil
 |cons n ns ih=>
  intro vs w
  rw[aM5]at w
  cases w with
  |cons a b=>
   cases a
   exact .cons _ _ (ih _ b)
theorem xI {l:OpenLaw}{n:Nat}(hn:l.most=some n){P:Params}{h:Heap}{args:List WData}{vals:List Value}(hpre:l.row.toRowW.claim.pre args=true)(hwl:WellAll P h vals args) :
  ∃a vs ns,vals = [Value.ref a]/\args = [WData.list (ns.map WData.int)]/\h.get? a=some { cls:=.type "list",data:=.seq vs.toArray }/\IntsAre vs ns/\ns.length<=n:=by
 have hsh:WShape.hasAll [] args [.list .int]=true:=(pre_splitW hpre).1
 have hc:l.pre.holds [] { args:=args }=true:=(pre_splitW hpre).2
 obtain⟨d,r,rfl,h1,h2⟩:=hasAllW_cons hsh
 obtain rfl:=hasAllW_nil h2
 obtain⟨xs,rfl,h3⟩:=hasW_list h1
 obtain⟨ns,rfl⟩:=items_int h3
 have hlen:ns.length<=n:=by
  unfold OpenLaw.pre at hc
  have h4:(WTm.not (.lt (.lit (.int (n:Int))) (.len (.arg 0)))).holds [] { args:=[.list (ns.map .int)] }=true:=by
   have h4:=(holds_andW hc).1
   rw[hn]at h4
   exact h4
  have h5:=condW_of h4 (w_not (w_lt w_lit (w_len_list (w_arg rfl))))
  rw[aJ2]at h5
  refine Nat.le_of_not_lt λq=>?_
  have q':(n:Int)<((ns.length:Nat):Int):=by omega
  first
   |(rw[aJ5 q']at h5;exact absurd h5 (by decide))
   |(simp at h5;omega)
 cases hwl with
 |cons w1 w2=>
  cases w2
  cases w1 with
  |list ho hall=>exact⟨_,_,ns,rfl,rfl,ho,aa6 ns _ hall,hlen⟩
theorem xJ (l:OpenLaw)(args:List WData):l.row.toRowW.claim.post args (.bool true) args=true:=
 postW_of (r:=l.row.toRowW) (X:=(true==true))
  (show WShape.has [] (.bool true) .bool=true by first|rfl|decide|simp[WShape.has,WShape.arms,WShape.armsAll])
  (show (WTm.eq .res (.lit (.bool true))).value [] { args:=args,res:=some (.bool true),after:=args }=some (.bool (true==true)) from w_eq_bool (w_res rfl) w_lit) rfl
theorem aH8 {l:OpenLaw}{n:Nat}{q:Program}{loose:List Str}{XP:(Str->Option Value)->Heap->Prop}{YP:World->Heap->Prop}{d:DefRec}{x:Str}(hn:l.most=some n)(hdf:d.params.defaults = [])(hbind:∀pm cd doc v:Value,bindArgs (docDef d.name d.params d.body d.scope pm cd doc) ⟨[v],[]⟩=pure [(x,v)])(hx:d.scope.names.lookup x=some .local∨d.scope.names.lookup x=some .cell)(hk:d.scope.kind = .function)(hco:d.scope.isCoroutine=false)(hgen:d.scope.isGenerator=false)(body:∀(w:World) (s₀ s₁ s:Shared) (mg mb:Str->Option Value) (fa:Addr) (o:Obj) (pm cd doc:Value) (a:Addr) (vs:List Value) (ns:ae),
   Ground q loose [] XP w s₀ mg mb s₁.heap->YP w s₁.heap->
   s₁.heap.get? fa=some o->o.data = .func (docDef d.name d.params d.body d.scope pm cd doc)->s₁.heap.CodeRec cd d.name->mg d.name=some (.ref fa)->
   s₁.heap.get? a=some { cls:=.type "list",data:=.seq vs.toArray }->IntsAre vs ns->ns.length<=n->
   s.gens = #[]->s.os=s₁.os->
   Fr s₁.heap s₁.heap.objs.size s.heap (bindL (envOfC d.name d.scope s₁.heap.objs.size fa cd).kindOf [(x,.ref a)] λ_=>none)->
   Cl s₁.heap.objs.size (cellsFrom (s₁.heap.objs.size+1) d.scope.names []) s.heap (bindC (envOfC d.name d.scope s₁.heap.objs.size fa cd).kindOf [(x,.ref a)] λ_=>none)->
   wpAny (model l.prog w) (callerA.deeper (envOfC d.name d.scope s₁.heap.objs.size fa cd)) (execs d.body (envOfC d.name d.scope s₁.heap.objs.size fa cd))
    (λf s'=>f = .ret (.bool true)/\OldK s₁.heap s'.heap/\s'.os=s₁.os/\AllBare s'.gens) (λ_ _=>False) s) :
  WalkO q loose XP YP l.row.toRowW d [] (λf vs=>PySem.call f vs):=by
 intro w s₀ s₁ mg mb G Y fa o pm cd doc dV kV ho hd hcd hD hmg hg args vals as hpre hlay hrd hwl hlo
 obtain rfl:dV = .none:=Dflts.none hD hdf
 obtain rfl:kV = .none:=Dflts.noKw hD
 obtain⟨a,vs,ns,rfl,rfl,hobj,hints,hlen⟩:=xI hn hpre hwl
 refine enter_call ?_
 refine call_cells_ret (o:=o) (by rw[depth_caller];decide) ho (fd_plain hd) G.T.nolimit hcd (hbind pm cd doc (.ref a)) (λy hy=>?_) (λh₁ tk F X=>?_) hco hgen hk
 ·obtain rfl:y=(x,Value.ref a):=aJ7.mp hy
  rcases hx with e|e
  ·exact .inl e
  ·exact .inr ⟨e,cellsFrom_some _ _ _ (.inl e)⟩
 ·refine aN1 (body w s₀ s₁ { s₁ with heap:=h₁,toks:=tk } mg mb fa o pm cd doc a vs ns G Y ho (fd_plain hd) hcd hmg hobj hints hlen hg rfl F X) (λf s' hq=>?_) (λ_ _ hq=>hq)
  obtain⟨rfl,h2,h3,h4⟩:=hq
  exact⟨.inl ⟨.bool true,.bool true,[],rfl,λ_=>rfl,.bool true,xJ l _,λ_=>⟨List.Pairwise.nil,λ_ hm=>(nomatch hm)⟩⟩,h2,h3,h4⟩
theorem aa7 {l:OpenLaw}{n:Nat}{q:Program}{loose:List Str}{XP:(Str->Option Value)->Heap->Prop}{YP:World->Heap->Prop}{d:DefRec}(hn:l.most=some n)(hdf:d.params.defaults = [])(call:∀(w:World) (s₀ s₁:Shared) (mg mb:Str->Option Value) (fa:Addr) (o:Obj) (pm cd doc:Value) (a:Addr) (vs:List Value) (ns:ae),
   Ground q loose [] XP w s₀ mg mb s₁.heap->YP w s₁.heap->
   s₁.heap.get? fa=some o->o.data = .func (docDef d.name d.params d.body d.scope pm cd doc)->s₁.heap.CodeRec cd d.name->mg d.name=some (.ref fa)->
   s₁.heap.get? a=some { cls:=.type "list",data:=.seq vs.toArray }->IntsAre vs ns->ns.length<=n->s₁.gens = #[]->
   codeAny (model l.prog w) callerA (.call (.ref fa) ⟨[.ref a],[]⟩) (λr s'=>r = .ok (.ret (.bool true))/\OldK s₁.heap s'.heap/\s'.os=s₁.os/\AllBare s'.gens) s₁) :
  WalkO q loose XP YP l.row.toRowW d [] (λf vs=>PySem.call f vs):=by
 intro w s₀ s₁ mg mb G Y fa o pm cd doc dV kV ho hd hcd hD hmg hg args vals as hpre hlay hrd hwl hlo
 obtain rfl:dV = .none:=Dflts.none hD hdf
 obtain rfl:kV = .none:=Dflts.noKw hD
 obtain⟨a,vs,ns,rfl,rfl,hobj,hints,hlen⟩:=xI hn hpre hwl
 refine enter_call (codeAny_mono (call w s₀ s₁ mg mb fa o pm cd doc a vs ns G Y ho (fd_plain hd) hcd hmg hobj hints hlen hg) λr s' hq=>?_)
 obtain⟨rfl,h2,h3,h4⟩:=hq
 exact⟨.inl ⟨.bool true,.bool true,[],rfl,λ_=>rfl,.bool true,xJ l _,λ_=>⟨List.Pairwise.nil,λ_ hm=>(nomatch hm)⟩⟩,h2,h3,h4⟩
end Att
namespace L2
open PySem PySem.Spec PyProof.Rows
theorem xK:∀{vs:List Value}{ns:ae},IntsAre vs ns->aK (ns.map V.int) vs
 |_,_,.nil=>.nil
 |_,_,.cons n t h=>.cons ⟨t,rfl⟩ (xK h)
noncomputable def nL (H:Hp):Prop:=∀b,H b=none∨∃o xs,H b=some (.frz o (.lst xs))
theorem aa8 {P:Program}{w:World}{K:ac}{mg mb:Str->Option Value}{CX:eU}{k:Nat}{fa a:Addr}{fd:FuncData}{x:Str}{sp:Sp}{s₁:Shared}{vs:List Value}{ns:ae}(KX:K.In s₁.heap)(hns:s₁.heap.Ns mainGlobals mg)(hb:s₁.heap.Ns builtinsNs mb)(hbb:∀x:Str,x≠"__name__"->mb x=bootBuiltins x)(hlim:s₁.heap.NoLimit)(hg:s₁.gens = #[])(ha:s₁.heap.get? a=some { cls:=.type "list",data:=.seq vs.toArray })(hi:IntsAre vs ns)(hl:ns.length<=sizeLine)(hr:bI k callerA)(F:∀base:Heap,K.In base->base.Ns mainGlobals mg->cQ P w K mg base CX k fa fd [x] sp)(hbind:∀(s:Shared) (u:Value),BindsTo s fd ⟨[u],[]⟩ [(x,u)])(hsp:∀H:Hp,nL H->aL K H a (ns.map V.int)->sp [.ref a] H (λv _=>v = .bl true) λ_ _ _=>False)(hCX:∀H e s',CX [] H s₁ (λ_ _ _=>False) e s'->False) :
  codeAny (model P w) callerA (.call (.ref fa) ⟨[.ref a],[]⟩) (λr s'=>r = .ok (.ret (.bool true))/\OldK s₁.heap s'.heap/\s'.os=s₁.os/\AllBare s'.gens) s₁:=by
 have rv:=xK hi
 have lenV:=hi.length
 have core:∀H:Hp,nL H->aL K H a (ns.map V.int)->bE P w H s₁.heap->(∀b,H b≠none->b=a)->(H a≠none->K.lookup a=none)->
   codeAny (model P w) callerA (.call (.ref fa) ⟨[.ref a],[]⟩) (λr s'=>r = .ok (.ret (.bool true))/\OldK s₁.heap s'.heap/\s'.os=s₁.os/\AllBare s'.gens) s₁:=by
  intro H hO hS hok hA hK
  have base_of:∀{b:Addr}{o:Obj},s₁.heap.get? b=some o->H b=none->(gT s₁.heap H).get? b=some o:=λe n=>O6 e n
  have noA:∀{b:Addr}{o:Obj}{es:Array DictEntry}{ep:Nat},s₁.heap.get? b=some o->o.data = .dict es ep->H b=none:=λ{b o es ep} e d=>by
   cases q:H b with
   |none=>rfl
   |some u=>
    have e':b=a:=hA b (by rw[q];simp)
    subst e'
    rw[ha]at e;cases e
    have d':Data.seq vs.toArray _=Data.dict es ep:=d
    cases d'
  have nsK:∀{b:Addr}{m:Str->Option Value},s₁.heap.Ns b m->(gT s₁.heap H).Ns b m:=λ{b m} ⟨o,es,ep,e,d,r⟩=>⟨o,es,ep,base_of e (noA e d),d,r⟩
  have hKb:K.In (gT s₁.heap H):=λb o e=>base_of (KX b o e) (by
   cases q:H b with
   |none=>rfl
   |some u=>
    have e':b=a:=hA b (by rw[q];simp)
    subst e'
    rw[hK (by rw[q];simp)]at e;cases e)
  have hM:Mod K mg (gT s₁.heap H):=⟨hKb,nsK hns,⟨mb,nsK hb,hbb⟩,let ⟨mc,h1,h2⟩:=hlim;⟨mc,nsK h1,h2⟩⟩
  have e0:nH P w K mg (gT s₁.heap H) callerA [] s₁ H:=⟨rfl,hM,λb o e=>O7 e,Nat.le_of_eq (O5 _ _),trivial,λb hb=>absurd (show b∈([]:List Addr) from hb) (by simp),hok,.of_eq hg⟩
  refine codeAny_mono ((F _ hKb (nsK hns)).run callerA [] s₁ H ⟨[.ref a],[]⟩ [.ref a] [.ref a] _ _ hr e0 (hbind s₁ (.ref a)) (.cons rfl .nil) (hsp H hO hS)) λr s' h=>?_
  cases r with
  |error e=>exact (hCX H e s' h).elim
  |ok fl=>
   cases fl with
   |next=>exact False.elim h
   |brk=>exact False.elim h
   |cont=>exact False.elim h
   |ret u=>
    obtain⟨v,H',os,bare,un,hok',r',q⟩:=h
    have q':v = .bl true:=q
    subst q'
    obtain rfl:u=Value.bool true:=r'
    refine⟨rfl,OldK.of_keep λb o e=>?_,os,bare⟩
    cases q:H b with
    |none=>exact un.keep b o e q (by intro z;exact absurd (show b∈([]:List Addr) from z) (by simp)) (by simp)
    |some u=>
     rcases hO b with z|⟨ob,xs,z⟩
     ·rw[q]at z;cases z
     ·have z2:=un.frzs b ob _ z
      obtain⟨e1,_⟩:=hok b _ z
      obtain⟨e2,_⟩:=hok' b _ z2
      rw[e]at e1;cases e1
      exact e2
 cases hk:K.lookup a with
 |some o=>
  have e:=KX a o hk
  rw[ha]at e
  cases e
  refine core (λ_=>none) (λ_=>.inl rfl) (.inr ⟨_,vs.toArray,_,hk,rfl,rfl,rfl,by rw[aI4,lenV];exact hl,by simpa using rv⟩) (λb u z=>by have z':(none:Option HO)=some u:=z;cases z') (λb z=>absurd rfl z) λz=>absurd rfl z
 |none=>
  refine core (λb=>if b=a then some (.frz { cls:=.type "list",data:=.seq vs.toArray } (.lst (ns.map V.int))) else none) (λb=>?_) (.inl (.inr ⟨{ cls:=.type "list",data:=.seq vs.toArray },if_pos rfl⟩)) (λb u z=>?_) (λb z=>?_) λ_=>hk
  ·by_cases hb:b=a
   ·exact .inr ⟨_,_,if_pos hb⟩
   ·exact .inl (if_neg hb)
  ·by_cases hb:b=a
   ·have z':=(if_pos hb).symm.trans z
    cases z'
    subst hb
    exact⟨ha,by rw[aJ2];exact hl,vs,_,rv,ha⟩
   ·have z':=(if_neg hb).symm.trans z
    cases z'
  ·by_cases hb:b=a
   ·exact hb
   ·exact absurd (if_neg hb) z
theorem aa9 {l:PySem.W.OpenLaw}{n k:Nat}{q:Program}{loose:List Str}{XP:(Str->Option Value)->Heap->Prop}{YP:World->Heap->Prop}{d:DefRec}{K:Params->ac}{CX:World->eU}{sp:World->Sp}{x:Str}(hn:l.most=some n)(hn2:n<=sizeLine)(hdf:d.params.defaults = [])(hr:bI k callerA)(hY:∀(w:World) (h:Heap),YP w h->(K w.params).In h)(F:∀(w:World) (mg:Str->Option Value) (fa:Addr) (h:Heap),(K w.params).In h->h.Ns mainGlobals mg->mg d.name=some (.ref fa)->
   ∃fd:FuncData,(∀(s:Shared) (u:Value),BindsTo s fd ⟨[u],[]⟩ [(x,u)])/\
    ∀base:Heap,(K w.params).In base->base.Ns mainGlobals mg->cQ l.prog w (K w.params) mg base (CX w) k fa fd [x] (sp w))(hsp:∀(w:World) (H:Hp) (a:Addr) (ns:ae),ns.length<=n->nL H->aL (K w.params) H a (ns.map V.int)->sp w [.ref a] H (λv _=>v = .bl true) λ_ _ _=>False)(hCX:∀(w:World) (H:Hp) (s:Shared) (e:Value) (s':Shared),CX w [] H s (λ_ _ _=>False) e s'->False) :
  PySem.W.WalkO q loose XP YP l.row.toRowW d [] (λf vs=>PySem.call f vs):=by
 refine Att.aa7 hn hdf λw s₀ s₁ mg mb fa o pm cd doc a vs ns G Y ho hd hcd hmg hobj hints hlen hg=>?_
 have KX:=hY w _ Y
 obtain⟨fd,hb,hF⟩:=F w mg fa _ KX G.T.g hmg
 exact aa8 KX G.T.g G.T.b G.T.builtins G.T.nolimit hg hobj hints (aN2 hlen hn2) hr hF hb (λH hO hS=>hsp w H a ns hlen hO hS) λH e s'=>hCX w H s₁ e s'
noncomputable def gG (s:Stmt):Arguments:=match s with
 |.FunctionDef _ a _ _ _ _ _ _ _ _=>a
 |_=>{ posonlyargs:=[],args:=[],vararg:=none,kwonlyargs:=[],kw_defaults:=[],kwarg:=none,defaults:=[] }
noncomputable def cY (s:Stmt):List Stmt:=match s with
 |.FunctionDef _ _ b _ _ _ _ _ _ _=>b
 |_=>[]
noncomputable def aT (s:Stmt):Scope:=match s with
 |.FunctionDef _ _ _ _ _ _ sc _ _ _=>sc
 |_=>{ kind:=.function,names:=[],isGenerator:=false,isCoroutine:=false }
noncomputable abbrev dH:eU:=λ_ _ _ _ _ _=>False
noncomputable abbrev E0:XK:=λ_ _ _=>False
theorem ab0 {X:Cx}:jC dH X E0:=λ_ _ _ _ _ _ _ h=>h.elim
structure dI (K:ac)(x qual:Str)(st:Stmt)(f:Addr)(fd:FuncData):Prop where
 ex:∃(oc:Value) (od:Option Addr) (kV doc pm:Value) (an:Option Addr) (cdv ct:Value) (osl:Array (Option Value)),
  fd=PySem.W.fnOf x qual (gG st) (cY st) (aT st) .none kV doc pm an cdv ct/\K.lookup f=some ⟨oc,od,.func fd,osl⟩/\PySem.W.codeIn K cdv qual=true
 kp:PySem.W.keepIn K (.ref f)=true
section
variable {P:Program}{w:World}{K:ac}{mg:Str→Option Value}{base:Heap}
theorem dI.ok {x qual:Str}{st:Stmt}{f:Addr}{fd:FuncData}{N ps:List Str}{k:Nat}{sp:Sp}(F:dI K x qual st f fd)(S:FnScope N ps (aT st))(len:∀vs H Q E,sp vs H Q E->vs.length=ps.length)(hbody:∀(cdv:Value) (A:Around) (outer:List Env) (s:Shared) (H:Hp) (vs:List V) (Q:VK) (E:XK),bI k (A.deeper (envOfC qual (aT st) s.heap.objs.size f cdv))->sp vs H Q E->
   ∃t,cX (cA dH P w K mg base N qual (aT st) f cdv A outer s H E).nox (cY st) t/\t { nx:=λ_ H'=>Q .non H',rt:=Q } (eV N vs) H):cQ P w K mg base dH (k+1) f fd ps sp:=by
 obtain⟨oc,od,kV,doc,pm,an,cdv,ct,osl,rfl,lk,hcd⟩:=F.ex
 refine wI lk hcd S len λA outer s H vs Q E hr hsp=>?_
 obtain⟨t,h,q⟩:=hbody cdv A outer s H vs Q E hr hsp
 exact⟨t,h.nox,q⟩
theorem dI.binds {x qual:Str}{st:Stmt}{f:Addr}{fd:FuncData}{ps:List Str}(F:dI K x qual st f fd)(h:∀(kV doc pm:Value) (an:Option Addr) (cdv ct:Value) (us:List Value),us.length=ps.length->bindArgs (PySem.W.fnOf x qual (gG st) (cY st) (aT st) .none kV doc pm an cdv ct) ⟨us,[]⟩=pure (ps.zip us)):gX K fd ps []:=by
 obtain⟨oc,od,kV,doc,pm,an,cdv,ct,osl,rfl,lk,hcd⟩:=F.ex
 exact .all (h kV doc pm an cdv ct)
theorem ab1 {x qual:Str}{st:Stmt}{f:Addr}{oc:Value}{od an:Option Addr}{osl:Array (Option Value)}{kV doc pm cdv ct:Value}(l:K.lookup f=some ⟨oc,od,.func (PySem.W.fnOf x qual (gG st) (cY st) (aT st) .none kV doc pm an cdv ct),osl⟩)(c:PySem.W.codeIn K cdv qual=true)(k:PySem.W.keepIn K (.ref f)=true):dI K x qual st f (PySem.W.fnOf x qual (gG st) (cY st) (aT st) .none kV doc pm an cdv ct):=⟨⟨oc,od,kV,doc,pm,an,cdv,ct,osl,rfl,l,c⟩,k⟩
end
theorem xL {A:Around}{k:Nat}(hr:bI k A):A.units+1<cLine:=Nat.lt_of_le_of_lt (Nat.add_le_add_left (by decide:1<=64) _) hr.units
theorem xM {n:Nat}(h:n<=1000):n<sizeLine:=Nat.lt_of_le_of_lt h (by decide)
section
variable {X:Cx}
theorem pv (i:Nat){x:Str}{pos:Pos}(hN:X.N[i]? = some x:=by rfl)(hv:fI X.env.scope x:=by first|exact Or.inl rfl|exact Or.inr (Or.inl rfl)|exact Or.inr (Or.inr rfl))(hd:(x==("__debug__":Str))=false:=by decide)(hcd:(x==("__classdict__":Str))=false:=by decide):PE X (.Name x pos) (j7 i):=j8 hN hv hd hcd
theorem ab2:cN X (.builtin "len") (λxs H Q=>∃a kvs,xs = [V.ref a]/\H a=some (.dK kvs)/\Q (.int kvs.length) H):=by
 intro pins s σ H xs us Q I r h
 obtain⟨a,kvs,rfl,ha,q⟩:=h
 obtain⟨u,rfl,ru⟩:=gV r
 cases ru
 exact aa0 I (.inl ha) λt s' I'=>⟨.int kvs.length,H,I',⟨t,rfl⟩,q⟩
end
theorem aW {A B:Prop}(h:B):if false=true then A else B:=by
 rw[if_neg aJ4]
 exact h
theorem b8 {A B:Prop}(h:A):if true=true then A else B:=by
 rw[if_pos rfl]
 exact h
noncomputable def aE (H H':Hp):Prop:=∀b o,H b=some o->H' b=some o
theorem aE.refl (H:Hp):aE H H:=λ_ _ h=>h
theorem aE.trans {H H1 H2:Hp}(a:aE H H1)(b:aE H1 H2):aE H H2:=λc o h=>b c o (a c o h)
theorem aE.free {H H':Hp}(e:aE H H'){l:Addr}(h:H' l=Option.none):H l=Option.none:=by
 cases q:H l with
 |none=>rfl
 |some o=>
  rw[e l o q]at h
  cases h
noncomputable def cZ (cells:List (Str×Addr)):List (Str×NameKind)->List (Str×Addr)->List (Str×Addr)
 |[],cs=>cs
 |(n,k)::r,cs=>cZ cells r (if k==.free then (n,(cells.lookup n).getD 0)::cs else cs)
theorem rG {env:Env}:∀(ns:List (Str×NameKind)) (cs:List (Str×Addr)),(∀x∈ns,x.2 = .free->∃c,env.cells.lookup x.1=some c)->
  (forIn ns cs (λ(x:Str×NameKind) r=>(match x with
   |(name,kind)=>if (kind==.free)=true then (do let y <- cellOf env name;pure (ForInStep.yield ((name,y)::r))) else pure (ForInStep.yield r)):_->_->Sem _))=(pure (cZ env.cells ns cs):Sem (List (Str×Addr)))
 |[],cs,_=>by rw[List.forIn_nil];rfl
 |(n,k)::r,cs,h=>by
  rw[List.forIn_cons]
  have hr:∀x∈r,x.2 = .free->∃c,env.cells.lookup x.1=some c:=λx hx=>h x (aK2 _ hx)
  cases hk:(k==NameKind.free) with
  |true=>
   have e:k = .free:=by simpa using hk
   obtain⟨c,hc⟩:=h (n,k) aK0 e
   simp only[hk,if_true]
   have e1:cellOf env n=pure c:=by unfold cellOf;rw[hc]
   rw[e1]
   show ((pure c >>= λy=>pure (ForInStep.yield ((n,y)::cs))) >>= _:Sem _)=_
   rw[pure_bind,pure_bind]
   have:=rG (env:=env) r ((n,c)::cs) hr
   refine this.trans ?_
   unfold cZ
   simp only[hk,if_true,hc,Option.getD_some]
   cases r<;>rfl
  |false=>
   simp only[hk,aL2,aQ2]
   rw[pure_bind]
   have:=rG (env:=env) r cs hr
   refine this.trans ?_
   conv=>rhs;unfold cZ
   simp only[hk,aL2,aQ2]
theorem nM {scope:Scope}{env:Env}(h:∀x∈scope.names,x.2 = .free->∃c,env.cells.lookup x.1=some c):closureFor scope env=pure (cZ env.cells scope.names []):=by
 have e:=rG (env:=env) scope.names [] h
 unfold closureFor
 rw[show (pure (cZ env.cells scope.names []):Sem (List (Str×Addr)))=(pure (cZ env.cells scope.names []) >>= pure) by rw[pure_bind]]
 rw[<- e]
theorem lR {cells:List (Str×Addr)}:∀(ns:List (Str×NameKind)) (cs:List (Str×Addr)) {x:Str}{c:Addr},(∀y∈ns,y.2 = .free->∃c,cells.lookup y.1=some c)->
  (∀x c,cs.lookup x=some c->cells.lookup x=some c)->(cZ cells ns cs).lookup x=some c->cells.lookup x=some c
 |[],cs,x,c,_,hc,h=>hc x c h
 |(n,k)::r,cs,x,c,hn,hc,h=>by
  unfold cZ at h
  have hr:∀y∈r,y.2 = .free->∃c,cells.lookup y.1=some c:=λy hy=>hn y (aK2 _ hy)
  cases hk:(k==NameKind.free) with
  |false=>
   simp only[hk,aL2,aQ2]at h
   exact lR r cs hr hc h
  |true=>
   simp only[hk,if_true]at h
   refine lR r _ hr (λy d e=>?_) h
   obtain⟨c0,h0⟩:=hn (n,k) aK0 (by simpa using hk)
   have h0:cells.lookup n=some c0:=h0
   rw[h0]at e
   rw[aO1]at e
   by_cases hyn:y=n
   ·subst hyn
    simp only[aP7,Option.getD_some]at e
    rw[h0];exact e
   ·have:(y==n)=false:=beq_eq_false_iff_ne.mpr hyn
    simp only[this]at e
    exact hc y d e
theorem rH {cells:List (Str×Addr)}:∀(ns:List (Str×NameKind)) (cs:List (Str×Addr)) {x:Str},((x,NameKind.free)∈ns∨∃c,cs.lookup x=some c)->∃c,(cZ cells ns cs).lookup x=some c
 |[],cs,x,h=>by
  rcases h with h|h
  ·simp at h
  ·exact h
 |(n,k)::r,cs,x,h=>by
  unfold cZ
  refine rH r _ ?_
  rcases h with h|⟨c,h⟩
  ·rcases aI5.mp h with e|e
   ·cases e
    exact .inr ⟨_,by simp[aO1];rfl⟩
   ·exact .inl e
  ·right
   cases hk:(k==NameKind.free) with
   |false=>exact⟨c,by simpa[hk] using h⟩
   |true=>
    simp only[if_true]
    rw[aO1]
    by_cases hxn:(x==n)=true
    ·simp only[hxn];exact⟨_,rfl⟩
    ·simp only[Bool.eq_false_iff.mpr hxn];exact⟨c,h⟩
theorem nN {env:Env}:∀{names:List (Str×NameKind)}{x:Str}{k:NameKind},(names.map λ(n,k)=>if (k==NameKind.free&&env.scope.kind==.function&&env.kindOf n==some .cell) then (n,NameKind.cell) else (n,k)).lookup x=some k->
  names.lookup x=some k∨(names.lookup x=some .free/\k = .cell)
 |[],_,_,h=>by simp at h
 |(n,q)::r,x,k,h=>by
  have ih:=@nN env r x k
  rw[aM5]at h
  by_cases hx:(x==n)=true
  ·have e:x=n:=by simpa using hx
   subst e
   by_cases hc:(q==NameKind.free&&env.scope.kind==.function&&env.kindOf x==some .cell)=true
   ·simp only[hc,if_true,aO1,aP7]at h
    have hq:q = .free:=by simp at hc;exact hc.1.1
    exact .inr ⟨by simp[aO1,hq],(aL1 h).symm⟩
   ·simp only[hc,aL2,aQ2,aO1,aP7]at h
    exact .inl (by simp[aO1];exact aL1 h)
  ·have hx':(x==n)=false:=Bool.eq_false_iff.mpr hx
   have h':(r.map λ(n,k)=>if (k==NameKind.free&&env.scope.kind==.function&&env.kindOf n==some .cell) then (n,NameKind.cell) else (n,k)).lookup x=some k:=by
    by_cases hc:(q==NameKind.free&&env.scope.kind==.function&&env.kindOf n==some .cell)=true
    ·simp only[hc,if_true,aO1,hx']at h;exact h
    ·simp only[hc,aL2,aQ2,aO1,hx']at h;exact h
   simp only[aO1,hx']
   exact ih h'
noncomputable def cW (fr:List (Option Nat))(σ:St):St:=fr.map λo=>o.bind λj=>(σ[j]?).join
noncomputable def Wk (σ₁ σ₂:St):Prop:=σ₁.length=σ₂.length/\∀(i:Nat) v,σ₁[i]? = some (some v)->σ₂[i]? = some (some v)
theorem Wk.refl (σ:St):Wk σ σ:=⟨rfl,λ_ _ h=>h⟩
theorem Wk.set {σ τ:St}{i:Nat}{v:V}(h:Wk σ τ)(hi:σ[i]? = some none):Wk σ (τ.set i (some v)):=by
 refine⟨by rw[aO0];exact h.1,λj w e=>?_⟩
 by_cases hj:j=i
 ·subst hj;rw[hi]at e;cases e
 ·rw[aK8 (Ne.symm hj)];exact h.2 j w e
theorem hJ:∀(ns:List (Str×NameKind)) (n:Nat) (cs:List (Str×Addr)),cellsFrom n ns cs=cellsFrom n ns []++cs
 |[],_,_=>rfl
 |(x,k)::r,n,cs=>by
  unfold cellsFrom
  split
  ·rw[hJ r (n+1) ((x,n)::cs),hJ r (n+1) [(x,n)]];simp
  ·exact hJ r n cs
theorem rJ:∀(ns:List (Str×NameKind)) (n:Nat) {x:Str}{c:Addr},(x,c)∈cellsFrom n ns []->(x,NameKind.cell)∈ns
 |[],_,_,_,h=>by simp[cellsFrom]at h
 |(y,k)::r,n,x,c,h=>by
  unfold cellsFrom at h
  split at h
  ·rename_i hk
   rw[hJ]at h
   rcases aP6.mp h with z|z
   ·exact aK2 _ (rJ r _ z)
   ·rw[aJ7]at z
    cases z
    have:k = .cell:=by simpa using hk
    rw[this];exact aK0
  ·exact aK2 _ (rJ r _ h)
theorem nO:∀(ns:List (Str×NameKind)) (n:Nat) {x:Str},(x,NameKind.cell)∈ns->∃c,(x,c)∈cellsFrom n ns []
 |(y,k)::r,n,x,h=>by
  unfold cellsFrom
  rcases aI5.mp h with z|z
  ·cases z
   rw[if_pos (by rfl),hJ]
   exact⟨n,aK9 _ (by simp)⟩
  ·split
   ·obtain⟨c,hc⟩:=nO r (n+1) z
    rw[hJ]
    exact⟨c,aV0 _ hc⟩
   ·exact nO r n z
theorem rK {α:Type}:∀{l:List (Str×α)}{x:Str}{c:α},(x,c)∈l->∃d,l.lookup x=some d
 |(y,v)::r,x,c,h=>by
  rw[aO1]
  cases hb:x==y with
  |true=>exact⟨v,rfl⟩
  |false=>
   rcases aI5.mp h with z|z
   ·cases z;simp at hb
   ·exact rK z
theorem nP {α:Type}{x:Str}:∀(l r:List (Str×α)),(l++r).lookup x=(match l.lookup x with|some v=>some v|none=>r.lookup x)
 |[],_=>rfl
 |(y,v)::l,r=>by
  rw[List.cons_append,aO1,aO1]
  cases hb:x==y with
  |true=>rfl
  |false=>exact nP l r
noncomputable def dA (X:Cx)(scope:Scope)(C:Addr):List (Str×Addr):=cellsFrom (C+1) scope.names (cZ X.env.cells scope.names [])
theorem iL {X:Cx}{scope:Scope}{C:Addr}{x:Str}{c:Addr}(h:(dA X scope C).lookup x=some c) :
  (x,c)∈cellsFrom (C+1) scope.names []∨((∀d,(x,d)∉cellsFrom (C+1) scope.names [])/\(cZ X.env.cells scope.names []).lookup x=some c):=by
 unfold dA at h
 rw[hJ,nP]at h
 cases e:(cellsFrom (C+1) scope.names []).lookup x with
 |some v=>rw[e]at h;cases h;exact .inl (aM6 e)
 |none=>
  rw[e]at h
  refine .inr ⟨λd hd=>?_,h⟩
  obtain⟨d',z⟩:=rK hd
  rw[e]at z;cases z
theorem ab3 {X:Cx}{scope:Scope}{C:Addr}{x:Str}{c:Addr}(hn:(x,NameKind.cell)∉scope.names)(h:(cZ X.env.cells scope.names []).lookup x=some c):(dA X scope C).lookup x=some c:=by
 unfold dA
 rw[hJ,nP]
 cases e:(cellsFrom (C+1) scope.names []).lookup x with
 |some v=>exact absurd (rJ _ _ (aM6 e)) hn
 |none=>exact h
theorem xN {X:Cx}{scope:Scope}{C:Addr}{x:Str}(h:(x,NameKind.cell)∈scope.names∨∃c,(cZ X.env.cells scope.names []).lookup x=some c):∃c,(dA X scope C).lookup x=some c:=by
 unfold dA
 rw[hJ,nP]
 cases e:(cellsFrom (C+1) scope.names []).lookup x with
 |some v=>exact⟨v,rfl⟩
 |none=>
  rcases h with h|h
  ·obtain⟨c,hc⟩:=nO scope.names (C+1) h
   obtain⟨d,hd⟩:=rK hc
   rw[e]at hd;cases hd
  ·exact h
noncomputable def aX (X:Cx)(scope:Scope)(N:List Str)(s:Shared)(H:Hp)(C:Addr)(fp:List Addr)(E:Value->Shared->Prop):Cx:=
 { X with N:=N,s₀:=s,H₀:=H,env:=compEnvC scope (dA X scope C) C X.env,outer:=X.stack,ex:=fp,fn:=λx=>scope.names.lookup x==some .cell,pn:=[],xe:=E }
structure cB (X:Cx)(scope:Scope)(N:List Str)(fr:List (Option Nat)):Prop where
 kind:scope.kind = .function
 own:∀y∈scope.names,y.2 = .cell->scope.names.lookup y.1=some .cell
 names:∀y∈scope.names,y.2 = .local->scope.names.lookup y.1=some .local
 free:∀y∈scope.names,y.2 = .free->X.env.scope.names.lookup y.1=some .cell∨X.env.scope.names.lookup y.1=some .free
 len:fr.length=N.length
 from_:∀(i j:Nat),fr[i]? = some (some j)->∃x,N[i]? = some x/\X.N[j]? = some x/\scope.names.lookup x=some .free
section
variable {X:Cx}{pins:List (Addr×Obj)}{σ:St}{H:Hp}{s:Shared}{scope:Scope}{N:List Str}{fr:List (Option Nat)}
theorem cB.cells (S:cB X scope N fr)(I:a5 X pins σ H s):∀y∈scope.names,y.2 = .free->∃c,X.env.cells.lookup y.1=some c:=λy hy hk=>I.ok.has y.1 (S.free y hy hk)
theorem xO {C D:Addr}{fp:List Addr}{E:Value->Shared->Prop}{h1:Heap}{tk:Nat}{m:Str->Option Value}(S:cB X scope N fr)(I:a5 X pins σ H s)(hf:∀b∈fp,dG X pins H b)(hfl:∀b∈fp,b<s.heap.objs.size)(hD:s.heap.objs.size<=D)(hC:s.heap.objs.size<=C)(hDC:D<C)(old:∀b o,s.heap.get? b=some o->h1.get? b=some o)(hns:h1.Ns C m)(hacc:h1.get? D=some { cls:=.type "list",data:=.seq #[] 0 })(hco:CellsOk h1 (C+1) (cellsFrom (C+1) scope.names [])) :
  a5 (aX X scope N s H C fp E) [] (cW fr σ) (upd H D (.lst [])) { s with heap:=h1,toks:=tk }:=by
 have hHD:H D=none:=I.hok.fresh hD
 have cl:=S.cells I
 have cs:∀{x:Str}{c:Addr},(cZ X.env.cells scope.names []).lookup x=some c->X.env.cells.lookup x=some c:=λ{x c} h=>lR scope.names [] cl (λ_ _ z=>by simp at z) h
 have clt:∀{x:Str}{c:Addr},X.env.cells.lookup x=some c->c<s.heap.objs.size:=λ{x c} h=>by obtain⟨v,z⟩:=I.cell x c h;exact z.lt
 have nge:∀{x:Str}{c:Addr},(x,c)∈cellsFrom (C+1) scope.names []->C<c:=λ{x c} h=>(hco.empty x c h).2
 refine⟨⟨I.ok.mod,?_,I.ok.glob,I.ok.blt,hC,?_,?_,?_,I.ok.hd,I.ok.frames,.inl rfl,?_,I.bs,aN2 I.ok.bsz I.sz,?_,?_,I.stack,I.stkFree⟩,rfl,I.bare,Un.laid old hD hHD,⟨m,hns,?_⟩,?_,?_,?_,λp hp=>absurd (show p∈([]:List (Addr×Obj)) from hp) (by simp),?_,?_⟩
 ·exact S.kind
 ·intro x y c h1 h2
  rcases iL h1 with a|⟨_,a⟩<;>rcases iL h2 with b|⟨_,b⟩
  ·exact name_of_addr hco.apart a b
  ·exact absurd (aI9 (Nat.lt_trans (nge a) (clt (cs b))) hC) (aM4 _)
  ·exact absurd (aI9 (Nat.lt_trans (nge b) (clt (cs a))) hC) (aM4 _)
  ·exact I.ok.inj x y c (cs a) (cs b)
 ·intro x hx
  have hx:(relabel scope X.env).names.lookup x=some .cell∨(relabel scope X.env).names.lookup x=some .free:=hx
  have fin:(x,NameKind.free)∈scope.names->∃c,(dA X scope C).lookup x=some c:=λz=>xN (.inr (rH scope.names [] (.inl z)))
  rcases hx with hx|hx
  ·rcases nN hx with z|z
   ·exact xN (.inl (aM6 z))
   ·exact fin (aM6 z.1)
  ·rcases nN hx with z|z
   ·exact fin (aM6 z)
   ·exact absurd z.2 (by decide)
 ·intro x c hx h
  have hx:(scope.names.lookup x==some NameKind.cell)=true:=hx
  have hx:scope.names.lookup x=some .cell:=by simpa using hx
  rcases iL h with a|⟨a,_⟩
  ·exact aN2 hC (aS6 (nge a))
  ·obtain⟨d,hd⟩:=nO scope.names (C+1) (aM6 hx)
   exact absurd hd (a d)
 ·intro b hb
  refine⟨aL4 (aI9 (hfl b hb) hC),λx c e=>?_⟩
  rcases iL e with a|⟨_,a⟩
  ·exact aQ0 (Nat.lt_trans (aI9 (hfl b hb) hC) (nge a))
  ·exact (hf b hb).2.2.2.2.1 x c (cs a)
 ·intro b o e hb
  rcases (hf b hb).2.2.2.1 with z|z
  ·exact I.ok.noex b o e z
  ·exact absurd (aI9 (aJ3 e) (aN2 I.ok.bsz z)) (aM4 _)
 ·intro b hb z
  rcases aI5.mp (I.stkSub b z) with e|e
  ·exact (hf b hb).2.1 e
  ·exact (hf b hb).2.2.1 e
 ·intro i x v e1 e2 e3
  have e2:(fr.map λo=>o.bind λj=>(σ[j]?).join)[i]? = some (some v):=e2
  rw[aJ9]at e2
  cases ef:fr[i]? with
  |none=>rw[ef]at e2;cases e2
  |some o=>
   rw[ef]at e2
   cases o with
   |none=>cases e2
   |some j=>
    have e2:some ((σ[j]?).join)=some (some v):=e2
    have ej:σ[j]? = some (some v):=by
     cases q:σ[j]? with
     |none=>rw[q]at e2;cases e2
     |some w=>rw[q]at e2;cases w with
      |none=>cases e2
      |some w=>cases e2;rfl
    obtain⟨y,a1,a2,a4⟩:=S.from_ i j ef
    have e1:N[i]? = some x:=e1
    rw[e1]at a1
    cases a1
    have a3:(x,NameKind.free)∈scope.names:=aM6 a4
    have vis:fI X.env.scope x:=(S.free _ a3 rfl).elim (λz=>.inr (.inl z)) λz=>.inr (.inr z)
    obtain⟨m0,hn0,hl0⟩:=I.loc
    obtain⟨u,r,l⟩:=hl0 j x v a2 ej vis
    refine⟨u,r,.inr ⟨?_,?_⟩⟩
    ·have e3:(relabel scope X.env).names.lookup x=some .local∨(relabel scope X.env).names.lookup x=some .cell∨(relabel scope X.env).names.lookup x=some .free:=e3
     rcases e3 with z|z|z
     ·rcases nN z with y|y
      ·rw[a4]at y;cases y
      ·exact absurd y.2 (by decide)
     ·exact .inl z
     ·exact .inr z
    ·obtain⟨c,hc⟩:=rH (cells:=X.env.cells) scope.names [] (x:=x) (.inl a3)
     refine⟨c,ab3 (λz=>by have:=S.own _ z rfl;rw[a4]at this;cases this) hc,?_⟩
     have hc':=cs hc
     have S1:=S.free (x,.free) a3 rfl
     rcases l with⟨k,_⟩|⟨_,c2,hc2,z⟩
     ·have k:X.env.scope.names.lookup x=some .local:=k
      rcases S1 with q|q<;>(have q:X.env.scope.names.lookup x=_:=q;rw[k]at q;cases q)
     ·rw[hc']at hc2;cases hc2
      obtain⟨oc,ho,hd⟩:=z
      exact⟨oc,old c oc ho,hd⟩
 ·intro x c e
  rcases iL e with a|⟨_,a⟩
  ·exact⟨_,(hco.empty x c a).1⟩
  ·obtain⟨v,oc,ho,hd⟩:=I.cell x c (cs a)
   exact⟨v,oc,old c oc ho,hd⟩
 ·show upd H D (.lst []) C=none
  rw[aN (aQ0 hDC)];exact I.hok.fresh hC
 ·intro x c e
  show upd H D (.lst []) c=none
  rcases iL e with a|⟨_,a⟩
  ·rw[aN (aQ0 (Nat.lt_trans hDC (nge a)))];exact I.hok.fresh (aN2 hC (aS6 (nge a)))
  ·have q:=cs a
   rw[aN (aL4 (aI9 (clt q) hD))]
   exact I.freeC x c q
 ·exact I.hok.laid old hD ⟨aP8 _,[],0,.nil,hacc⟩
 ·show (cW fr σ).length=N.length
  unfold cW;rw[aJ2];exact S.len
end
noncomputable def fS (X:Cx)(ifs:List Expr)(t:TT):Prop:=
 ∀(pins:List (Addr×Obj)) (s:Shared) (σ:St) (H:Hp) (Q:Bool->Hp->Prop),a5 X pins σ H s->t σ H Q->
  wpAny (model X.prog X.w) X.A (forIn ifs true λc r=>if r=true then do let ok <- isTrue c X.env (eval c X.env);pure (ForInStep.yield ok) else pure (ForInStep.yield r)) (TP X pins σ Q) X.xe s
noncomputable def rL:TT:=λ_ H Q=>Q true H
theorem xP {X:Cx}:fS X [] rL:=λ_ _ _ H _ I h=>wpAny_tests_nil ⟨H,I,h⟩
theorem ab4 {X:Cx}{c:Expr}{t:TT}(h:PT X c t):fS X [c] t:=λpins s σ H Q I hq=>wpAny_tests_one (h pins s σ H Q I hq)
section
variable {prog:Program}{w:World}{A:Around}
noncomputable def nQ (prog:Program)(w:World)(A:Around)(elt tg:Expr)(ifs:List Expr)(it acc:Value)(env:Env)(lost:Value->Shared->Prop)(stop next:Shared->Prop)(s:Shared):Prop:=
 let M:=model prog w
 let tests:Sem Bool:=forIn ifs true λc r=>if r=true then do let ok <- isTrue c env (eval c env);pure (ForInStep.yield ok) else pure (ForInStep.yield r)
 let put:Shared->Prop:=wpAny M A (eval elt env) (λx=>wpAny M A (call (.builtin "list.append") [acc,x]) (λ_=>next) lost) lost
 let taken:Value->Shared->Prop:=λv=>wpAny M A (letOwnedTupleGo tg it v) (λ_=>wpAny M A (assign tg env v) (λ_=>wpAny M A tests (λok s'=>if ok=true then put s' else next s') lost) lost) lost
 wpAny M A (pyNext it) (λr s'=>match r with
  |none=>stop s'
  |some v=>taken v s') lost s
theorem xQ {R:Result->Shared->Prop}{s:Shared}{elt tg iter:Expr}{ifs:List Expr}{scope:Scope}{pos:Pos}{it acc:Value}{env:Env}(I:Nat->Shared->Prop)(turn:∀n s,I n s->nQ prog w A elt tg ifs it acc env (notedBy (model prog w) A env λe=>R (.error e)) (R (.ok .next)) (λs'=>∃m,m<n/\I m s') s)(n:Nat)(h:I n s) :
  codeAny (model prog w) A (.compLoop (.ListComp elt [⟨tg,iter,ifs,0⟩] scope pos) 0 it acc env) R s:=by
 apply codeAny_loop rfl I _ n h
 intro k s1 h1
 change wpAny _ A ((compTurn _ 0 it acc env).onRaise (λx=>do noteFrame x env;theTreesLotGoes x)) _ _ s1
 apply wpAny_noted
 rw[compTurn_list]
 have t:=turn k s1 h1
 unfold nQ at t
 apply aI2
 apply wpAny_standAt
 apply aI2
 refine aN1 t (λr s2 h2=>?_) λ_ _ z=>z
 cases r with
 |none=>exact aI7 h2
 |some v=>
  apply aI2
  refine aN1 h2 (λ_ s3 h3=>?_) λ_ _ z=>z
  apply aI2
  refine aN1 h3 (λ_ s4 h4=>?_) λ_ _ z=>z
  apply aI2
  refine aN1 h4 (λok s5 h5=>?_) λ_ _ z=>z
  cases ok with
  |false=>exact aI7 ⟨rfl,h5⟩
  |true=>
   apply aI2
   apply aI2
   refine aN1 h5 (λx s6 h6=>?_) λ_ _ z=>z
   apply aI2
   exact aN1 h6 (λ_ s7 h7=>aI7 (aI7 ⟨rfl,h7⟩)) λ_ _ z=>z
end
noncomputable def kH (g:TG)(tc:TT)(te:TE)(σ0:St)(J:It)(D:Addr)(Q:VK)(W:Nat->Nat->List V->Hp->Prop):Prop:=
 ∀i m acc H',W i m acc H'->H' D=some (.lst acc)/\((J.stop i H'/\Q (.ref D) H')∨(J.go i H'/\∀x H2,J.yld i H' x H2->g x σ0 H2 λσ2 H3=>Wk σ0 σ2/\tc σ2 H3 λb H4=>
  if b=true then te σ2 H4 λv H5=>H5 D=some (.lst acc)/\acc.length<sizeLine/\∃m',m'<m/\W (i+1) m' (acc++[v]) (upd H5 D (.lst (acc++[v]))) else ∃m',m'<m/\W (i+1) m' acc H4))
noncomputable def ab5 (wi:TI)(fr:List (Option Nat))(g:TG)(tc:TT)(te:TE):TE:=λσ H Q=>wi σ H λJ H1=>∀D,H1 D=none->
 ∃W:Nat->Nat->List V->Hp->Prop,(∃m,W 0 m [] (upd H1 D (.lst [])))/\kH g tc te (cW fr σ) J D Q W
section
variable {M:Model}{A:Around}{E:Value→Shared→Prop}{s:Shared}
theorem xR {scope:Scope}{globals:Addr}{cl:List (Str×Addr)}{qual:Str}{func:Option Addr}{code:Value}{builtins:Addr}{outer:Env}{Q:Env->Shared->Prop}(hQ:∀h',h'.Ns s.heap.objs.size (λ_=>none)->(∀b o,s.heap.get? b=some o->h'.get? b=some o)->CellsOk h' (s.heap.objs.size+1) (cellsFrom (s.heap.objs.size+1) scope.names [])->
   Q (newEnv scope s.heap.objs.size globals (cellsFrom (s.heap.objs.size+1) scope.names cl) qual func code (some outer) builtins) { s with heap:=h' }) :
  wpAny M A (newFunctionEnv scope globals cl [] qual func code (some outer) builtins) Q E s:=by
 simp only[newFunctionEnv,Option.isSome_some,if_true]
 refine aI2 (wpAny_alloc ?_)
 refine aI2 (wpAny_layCells _ (λname kind cells=>by cases hkc:kind==NameKind.cell<;>simp[hkc]) _ _ _ _ ?_)
 have ok:=cellsFrom_ok scope.names (s.heap.push { cls:=.type "dict",data:=.dict #[] }) (s.heap.objs.size+1) [] ⟨λ_ _ hm=>(nomatch hm),List.Pairwise.nil⟩ (by rw[aQ5];exact aI6 _)
 rw[aQ5]at ok
 rw[show ({ s with heap:=s.heap.push { cls:=.type "dict",data:=.dict #[] } }:Shared).heap.objs.size=s.heap.objs.size+1 from aQ5 ..]
 rw[List.forIn_nil]
 refine aI2 (aI7 (aI7 (hQ _ ((Heap.Ns.new s.heap (.type "dict")).keeps (pushCells_keeps _ _)) (λb o e=>pushCells_keeps _ _ b o (aI3 _ e)) ok)))
end
section
variable {X:Cx}{pins:List (Addr×Obj)}{σ:St}{H:Hp}{s:Shared}{scope:Scope}{N:List Str}{fr:List (Option Nat)}{tg iter elt:Expr}{ifs:List Expr}{pos:Pos}{wi:TI}{g:TG}{tc:TT}{te:TE}
structure jD (X:Cx)(scope:Scope)(N:List Str)(tg:Expr)(ifs:List Expr)(elt:Expr)(s:Shared)(H:Hp)(g:TG)(tc:TT)(te:TE):Prop where
 tg:∀(C:Addr) (fp:List Addr),PG (aX X scope N s H C fp λ_ _=>False) tg g
 ifs:∀(C:Addr) (fp:List Addr),fS (aX X scope N s H C fp λ_ _=>False) ifs tc
 elt:∀(C:Addr) (fp:List Addr),PE (aX X scope N s H C fp λ_ _=>False) elt te
structure rM (X:Cx)(scope:Scope)(N:List Str)(tg:Expr)(ifs:List Expr)(elt:Expr)(g:TG)(tc:TT)(te:TE):Prop where
 tg:∀(s:Shared) (H:Hp) (C:Addr) (fp:List Addr),PG (aX X scope N s H C fp λ_ _=>False) tg g
 ifs:∀(s:Shared) (H:Hp) (C:Addr) (fp:List Addr),fS (aX X scope N s H C fp λ_ _=>False) ifs tc
 elt:∀(s:Shared) (H:Hp) (C:Addr) (fp:List Addr),PE (aX X scope N s H C fp λ_ _=>False) elt te
theorem rM.at (B:rM X scope N tg ifs elt g tc te)(s:Shared)(H:Hp):jD X scope N tg ifs elt s H g tc te:=⟨B.tg s H,B.ifs s H,B.elt s H⟩
theorem rN {C:Addr}{fp:List Addr}{E:Value->Shared->Prop}{pins':List (Addr×Obj)}{σ':St}{H':Hp}{s':Shared}(I:a5 X pins σ H s)(hf:∀b∈fp,dG X pins H b)(I':a5 (aX X scope N s H C fp E) pins' σ' H' s'):a5 X pins σ H' s':=
 I.call' (ch:=fp) I'.os I'.base I'.hok I'.bare λb hb=>⟨(hf b hb).2.2.2.1,(hf b hb).2.1,(hf b hb).2.2.2.2.1,(hf b hb).2.2.2.2.2⟩
theorem rO {Rr:Value->Addr->Result->Shared->Prop}{J:It}{fp:List Addr}{it:Addr}{tn:Nat->Heap->Prop}{Q:VK}(hc:X.calm=true)(S:cB X scope N fr)(B:jD X scope N tg ifs elt s H g tc te)(I:a5 X pins σ H s)(T:fM X.prog X.w X.K tg J fp it tn)(hst:tn 0 s.heap)(hf:∀b∈fp,dG X pins H b)(h:∀D,H D=none->∃W:Nat->Nat->List V->Hp->Prop,(∃m,W 0 m [] (upd H D (.lst [])))/\kH g tc te (cW fr σ) J D Q W)(hend:∀(D C:Addr) (s':Shared) (H':Hp) (m:Str->Option Value),s.heap.objs.size<=C->s.heap.objs.size<=D->a5 X pins σ H' s'->s'.heap.Ns C m->H' C=none->Q (.ref D) H'->Rr (.ref D) C (.ok .next) s') :
  wpAny (model X.prog X.w) X.A (newList []) (λacc s₃=>wpAny (model X.prog X.w) X.A (newFunctionEnv scope X.env.globals (cZ X.env.cells scope.names []) [] X.env.qual none .none (some X.env)) (λcenv s₄=>
   codeAny (model X.prog X.w) X.A (.compStart (.ListComp elt [⟨tg,iter,ifs,0⟩] scope pos) 0 (.ref it) acc { cenv with scope:=relabel scope X.env }) (Rr acc cenv.locals) s₄) X.xe s₃) X.xe s:=by
 refine aP0 (xR (λh₁ hns₁ keep₁ hco₁=>?_))
 dsimp only at hns₁ keep₁ hco₁ ⊢
 generalize hH2:s.heap.push { cls:=.type "list",dict:=none,data:=.seq ([]:List Value).toArray }=H2 at hns₁ keep₁ hco₁ ⊢
 have hC:H2.objs.size=s.heap.objs.size+1:=by rw[<- hH2,aQ5]
 have hDC:s.heap.objs.size<H2.objs.size:=by rw[hC];exact Nat.lt_succ_self _
 have hCle:s.heap.objs.size<=H2.objs.size:=by rw[hC];exact Nat.le_succ _
 have old:∀b o,s.heap.get? b=some o->h₁.get? b=some o:=λb o e=>keep₁ b o (hH2▸aI3 _ e)
 have hacc:h₁.get? s.heap.objs.size=some { cls:=.type "list",data:=.seq #[] 0 }:=keep₁ _ _ (hH2▸aK1 _ rfl)
 have hfl:∀b∈fp,b<s.heap.objs.size:=λb hb=>by obtain⟨o,e,_⟩:=T.obj _ _ hst b hb;exact aJ3 e
 obtain⟨W,⟨m0,w0⟩,turn⟩:=h s.heap.objs.size (I.hok.fresh (aI6 _))
 have st1:tn 0 h₁:=T.keep _ _ _ hst λb _ o e=>old b o e
 have fr0:∀b∈fp,upd H s.heap.objs.size (.lst []) b=none:=λb hb=>by rw[aN (aL4 (hfl b hb))];exact (hf b hb).1
 have stat:∀{H':Hp},(∀b∈fp,H' b=none)->∀b∈fp,dG (aX X scope N s H H2.objs.size fp λ_ _=>False) [] H' b:=λ{H'} hn b hb=>by
  have f:=hf b hb
  refine⟨hn b hb,aL4 (aI9 (hfl b hb) hCle),λz=>?_,.inl hb,λx c e=>(iL e).elim (λz=>aQ0 (Nat.lt_trans (aI9 (hfl b hb) hCle) (hco₁.empty x c z).2)) λz=>f.2.2.2.2.1 x c (lR scope.names [] (S.cells I) (λ_ _ z=>by simp at z) z.2),λp hp=>absurd (show p∈([]:List (Addr×Obj)) from hp) (by simp)⟩
  rcases aI5.mp (I.stkSub b z) with e|e
  ·exact f.2.1 e
  ·exact f.2.2.1 e
 generalize hX:aX X scope N s H H2.objs.size fp (λ_ _=>False)=Y at stat
 have I0:a5 Y [] (cW fr σ) (upd H s.heap.objs.size (.lst [])) { s with heap:=h₁ }:=hX▸xO S I hf hfl (aI6 _) hCle hDC old hns₁ hacc hco₁
 have bt:PG Y tg g:=hX▸B.tg H2.objs.size fp
 have bi:fS Y ifs tc:=hX▸B.ifs H2.objs.size fp
 have be:PE Y elt te:=hX▸B.elt H2.objs.size fp
 have eP:Y.prog=X.prog:=by rw[<- hX];rfl
 have ew:Y.w=X.w:=by rw[<- hX];rfl
 have eK:Y.K=X.K:=by rw[<- hX];rfl
 have eA:Y.A=X.A:=by rw[<- hX];rfl
 have eE:Y.env=compEnvC scope (dA X scope H2.objs.size) H2.objs.size X.env:=by rw[<- hX];rfl
 have eX:Y.xe=λ_ _=>False:=by rw[<- hX];rfl
 have ec:Y.calm=true:=by rw[<- hX];exact hc
 have never:∀{E:Value->Shared->Prop} (e:Value) (s':Shared),Y.xe e s'->E e s':=λ{E} e s' z=>by rw[eX]at z;exact z.elim
 have out:∀{pins' σ' H' s'},a5 Y pins' σ' H' s'->a5 X pins σ H' s':=λ{_ _ _ _} I'=>rN (C:=H2.objs.size) (E:=λ_ _=>False) (scope:=scope) (N:=N) I hf (hX▸I')
 have loop:codeAny (model X.prog X.w) X.A (.compLoop (.ListComp elt [⟨tg,iter,ifs,0⟩] scope pos) 0 (.ref it) (.ref s.heap.objs.size) (compEnvC scope (dA X scope H2.objs.size) H2.objs.size X.env))
   (Rr (.ref s.heap.objs.size) H2.objs.size) { s with heap:=h₁ }:=by
  refine xQ (λn s'=>∃i acc H',a5 Y [] (cW fr σ) H' s'/\tn i s'.heap/\(∀b∈fp,H' b=none)/\W i n acc H') ?_ m0 ⟨0,[],_,I0,st1,fr0,w0⟩
  rintro n s3 ⟨i,acc,H3,I3,st3,fr3,w3⟩
  unfold nQ
  dsimp only
  obtain⟨hD3,step⟩:=turn i n acc H3 w3
  rcases step with⟨stop,qn⟩|⟨go,step⟩
  ·have z:=T.done Y eP ew eK ec i [] s3 _ H3 (notedBy (model X.prog X.w) X.A (compEnvC scope (dA X scope H2.objs.size) H2.objs.size X.env) λe s'=>Rr (.ref s.heap.objs.size) H2.objs.size (.error e) s') I3 (stat fr3) st3 stop
   rw[eA]at z
   refine aJ z λr s4 ⟨hr,I4⟩=>?_
   subst hr
   obtain⟨m4,hn4,_⟩:=I4.loc
   rw[eE]at hn4
   have f4:=I4.free
   rw[eE]at f4
   exact hend _ _ s4 H3 m4 hCle (aI6 _) (out I4) hn4 f4 qn
  ·have z:=T.item Y eP ew eK ec i [] s3 _ H3 (notedBy (model X.prog X.w) X.A (compEnvC scope (dA X scope H2.objs.size) H2.objs.size X.env) λe s'=>Rr (.ref s.heap.objs.size) H2.objs.size (.error e) s') I3 (stat fr3) st3 go
   rw[eA]at z
   refine aJ z λr s4 ⟨u,hr,h4⟩=>?_
   subst hr
   refine aJ h4 λ_ s5 ⟨x,H5,I5,r5,y5,st5,fr5⟩=>?_
   have I5':=I5.pinned (stat fr5) (T.obj _ _ st5)
   have q1:=bt _ s5 _ H5 x u _ I5' r5 (step x H5 y5)
   rw[eP,ew,eA,eE]at q1
   refine aN1 q1 (λ_ s6 ⟨σ6,H6,I6,wk,q6⟩=>?_) never
   have q2:=bi _ s6 σ6 H6 _ I6 q6
   rw[eP,ew,eA,eE]at q2
   refine aN1 q2 (λb s7 ⟨H7,I7,q7⟩=>?_) never
   have again:∀{H8:Hp}{s8:Shared}{acc':List V},a5 Y ([]++kE fp s5.heap) σ6 H8 s8->(∃m',m'<n/\W (i+1) m' acc' H8)->∃m,m<n/\∃i acc H',a5 Y [] (cW fr σ) H' s8/\tn i s8.heap/\(∀b∈fp,H' b=none)/\W i m acc H':=λ{H8 s8 acc'} I8 n8=>by
    obtain⟨m',hm,w8⟩:=n8
    refine⟨m',hm,i+1,acc',H8,(I8.unpinned).weak wk.1 wk.2,T.keep _ _ _ st5 λb hb o e=>(I8.pin (b,o) (aK9 _ (aK9 _ (kF hb e)))).1,λb hb=>?_,w8⟩
    obtain⟨o,e,d⟩:=T.obj _ _ st5 b hb
    exact (I8.pin (b,o) (aK9 _ (aK9 _ (kF hb e)))).2.1
   cases b with
   |false=>
    rw[if_neg aJ4]at q7 ⊢
    exact again I7 q7
   |true=>
    rw[if_pos rfl]at q7 ⊢
    have q3:=be _ s7 σ6 H7 _ I7 q7
    rw[eP,ew,eA,eE]at q3
    refine aN1 q3 (λv s8 ⟨y,H8,I8,r8,hD8,hz8,q8⟩=>?_) never
    have q4:=lP _ s8 σ6 H8 (.ref s.heap.objs.size) [y] (.ref s.heap.objs.size) [v] (λ_ H9=>∃m',m'<n/\W (i+1) m' (acc++[y]) H9) I8 rfl (.cons r8 .nil) ⟨_,_,_,rfl,rfl,hD8,hz8,q8⟩
    rw[eP,ew,eA]at q4
    exact aN1 q4 (λ_ s9 ⟨_,H9,I9,_,q9⟩=>again I9 q9) never
 exact codeAny_compStart_list loop (T.self _ 0 _ _ _ st1 loop)
end
section
variable {X:Cx}{scope:Scope}{N:List Str}{fr:List (Option Nat)}{tg iter elt:Expr}{ifs:List Expr}{pos:Pos}{wi:TI}{g:TG}{tc:TT}{te:TE}
theorem a5.drop {pins:List (Addr×Obj)}{σ:St}{H H':Hp}{s s':Shared}{C:Addr}{h':Heap}(I0:a5 X pins σ H s)(hC:s.heap.objs.size<=C){σ':St}(I:a5 X pins σ' H' s')(hn:H' C=none)(sb:Heap.SameBut C s'.heap h'):a5 X pins σ' H' { s' with heap:=h' }:=by
 refine I.turned (t':=s'.toks) (it:=C) (λb o hb e=>(sb.2 b hb).trans e) hn (aQ0 (aI9 I0.lt hC)) (.inr (aN2 I0.sz hC)) (λx c e z=>?_) λp hp z=>?_
 ·obtain⟨v,q⟩:=I0.cell x c e
  exact absurd (aI9 q.lt (by rw[z];exact hC)) (aM4 _)
 ·exact absurd (aI9 (aJ3 (I0.pin p hp).1) (by rw[z];exact hC)) (aM4 _)
theorem ab6 {i:Nat}{x:Str}{px spos:Pos}(hc:X.calm=true)(S:cB X scope N fr)(hi:PI X tg iter wi)(B:rM X scope N tg ifs elt g tc te)(hN:X.N.Nodup)(hix:X.N[i]? = some x)(hx:X.env.scope.names.lookup x=some .local)(hsw:swapsWith (.ListComp elt [⟨tg,iter,ifs,0⟩] scope pos) (some (.Name x px)) spos.line X.env=pure true)(hs:∀x,foldedSetIterable iter X.env x=pure x:=by intro _;rfl) :
  PS X (.Assign [.Name x px] (.ListComp elt [⟨tg,iter,ifs,0⟩] scope pos) spos) (iG (ab5 wi fr g tc te) (cJ i)):=by
 intro pins s σ H D I h
 rw[exec_Assign_Name_used _ _ _ _ hsw]
 refine aI2 (wpAny_standAt (aI2 ?_))
 show wpAny _ _ (do let _ <- comprehension (.ListComp elt [⟨tg,iter,ifs,0⟩] scope pos) scope X.env _ (newList []) false (eval iter X.env) (some (assign (.Name x px) X.env))) _ _ s
 refine aI2 (aN1 (wpAny_comprehension_free (Q:=λ_ s'=>SP X pins D .next s') (use:=some (assign (.Name x px) X.env)) rfl hs (nM (S.cells I)) S.kind S.names (aJ (hi pins s σ H _ I h) λv s1 h1=>aJ h1 λitv s2 h2=>?_))
  (λ_ s' hq=>aI7 (aI7 hq)) λ_ _ e=>e)
 obtain⟨it,fp,tn,J,H2,e,I2,T,st2,f2,hW⟩:=h2
 subst e
 refine rO (Rr:=λacc C=>compPost (model X.prog X.w) X.A X.xe (some (assign (.Name x px) X.env)) (λ_ s'=>SP X pins D .next s') acc C) hc S (B.at _ _) I2 T st2 f2 hW ?_
 intro D' C s' H' m hC hD I' hns hHC q
 refine wpAny_assign_Name (pW I' hN hix (.inl hx) (v:=.ref D') rfl (λs'' I'' sb=>?_) (.inr hx))
 obtain⟨a,sb,ha⟩:=sb
 have hCa:C≠a:=by
  rcases ha with z|z
  ·rw[z];exact aQ0 (aI9 I2.lt hC)
  ·intro e;subst e
   obtain⟨v,q⟩:=I2.cell x _ z
   exact absurd (aI9 q.lt hC) (aM4 _)
 exact⟨m,hns.sameBut sb hCa,λh' sb'=>⟨_,H',I2.drop hC I'' hHC sb',q⟩⟩
variable {gh:Hp→TG}{tch:Hp→TT}{teh:Hp→TE}
noncomputable def rP (wi:TI)(fr:List (Option Nat))(gh:Hp->TG)(tch:Hp->TT)(teh:Hp->TE):TE:=λσ H Q=>wi σ H λJ H1=>∀D,H1 D=none->
 ∃W:Nat->Nat->List V->Hp->Prop,(∃m,W 0 m [] (upd H1 D (.lst [])))/\kH (gh H1) (tch H1) (teh H1) (cW fr σ) J D Q W
theorem rQ (hc:X.calm=true)(S:cB X scope N fr)(hi:PI X tg iter wi)(B:∀(s:Shared) (H:Hp),jD X scope N tg ifs elt s H (gh H) (tch H) (teh H))(hs:∀x,foldedSetIterable iter X.env x=pure x:=by intro _;rfl):PE X (.ListComp elt [⟨tg,iter,ifs,0⟩] scope pos) (rP wi fr gh tch teh):=by
 intro pins s σ H Q I h
 rw[eval_ListComp]
 refine wpAny_comprehension_free (use:=none) rfl hs (nM (S.cells I)) S.kind S.names (aJ (hi pins s σ H _ I h) λv s1 h1=>aJ h1 λitv s2 h2=>?_)
 obtain⟨it,fp,tn,J,H2,e,I2,T,st2,f2,hW⟩:=h2
 subst e
 refine rO (Rr:=λacc C=>compPost (model X.prog X.w) X.A X.xe none (EP X pins σ Q) acc C) hc S (B _ _) I2 T st2 f2 hW ?_
 intro D C s' H' m hC hD I' hns hHC q
 exact⟨m,hns,λh' sb=>⟨.ref D,H',I2.drop hC I' hHC sb,rfl,q⟩⟩
theorem rR {i:Nat}{x:Str}{px spos:Pos}(hc:X.calm=true)(S:cB X scope N fr)(hi:PI X tg iter wi)(B:∀(s:Shared) (H:Hp),jD X scope N tg ifs elt s H (gh H) (tch H) (teh H))(hN:X.N.Nodup)(hix:X.N[i]? = some x)(hx:X.env.scope.names.lookup x=some .local)(hsw:swapsWith (.ListComp elt [⟨tg,iter,ifs,0⟩] scope pos) (some (.Name x px)) spos.line X.env=pure true)(hs:∀x,foldedSetIterable iter X.env x=pure x:=by intro _;rfl) :
  PS X (.Assign [.Name x px] (.ListComp elt [⟨tg,iter,ifs,0⟩] scope pos) spos) (iG (rP wi fr gh tch teh) (cJ i)):=by
 intro pins s σ H D I h
 rw[exec_Assign_Name_used _ _ _ _ hsw]
 refine aI2 (wpAny_standAt (aI2 ?_))
 show wpAny _ _ (do let _ <- comprehension (.ListComp elt [⟨tg,iter,ifs,0⟩] scope pos) scope X.env _ (newList []) false (eval iter X.env) (some (assign (.Name x px) X.env))) _ _ s
 refine aI2 (aN1 (wpAny_comprehension_free (Q:=λ_ s'=>SP X pins D .next s') (use:=some (assign (.Name x px) X.env)) rfl hs (nM (S.cells I)) S.kind S.names (aJ (hi pins s σ H _ I h) λv s1 h1=>aJ h1 λitv s2 h2=>?_))
  (λ_ s' hq=>aI7 (aI7 hq)) λ_ _ e=>e)
 obtain⟨it,fp,tn,J,H2,e,I2,T,st2,f2,hW⟩:=h2
 subst e
 refine rO (Rr:=λacc C=>compPost (model X.prog X.w) X.A X.xe (some (assign (.Name x px) X.env)) (λ_ s'=>SP X pins D .next s') acc C) hc S (B _ _) I2 T st2 f2 hW ?_
 intro D' C s' H' m hC hD I' hns hHC q
 refine wpAny_assign_Name (pW I' hN hix (.inl hx) (v:=.ref D') rfl (λs'' I'' sb=>?_) (.inr hx))
 obtain⟨a,sb,ha⟩:=sb
 have hCa:C≠a:=by
  rcases ha with z|z
  ·rw[z];exact aQ0 (aI9 I2.lt hC)
  ·intro e;subst e
   obtain⟨v,q⟩:=I2.cell x _ z
   exact absurd (aI9 q.lt hC) (aM4 _)
 exact⟨m,hns.sameBut sb hCa,λh' sb'=>⟨_,H',I2.drop hC I'' hHC sb',q⟩⟩
end
theorem b7 {H:Hp}{p:Addr}(h:H p=none)(o:HO):aE H (upd H p o):=λb u q=>by rw[aN (cG q h)];exact q
theorem aE.tup {K:ac}{H H':Hp}{a:Addr}{xs:List V}(e:aE H H')(h:aI K H a xs):aI K H' a xs:=by
 rcases h with (h|⟨o,h⟩)|h
 ·exact .inl (.inl (e _ _ h))
 ·exact .inl (.inr ⟨o,e _ _ h⟩)
 ·exact .inr h
structure xS (H:Hp)(J:It)(xs:List V):Prop where
 go:∀i H',aE H H'->i<xs.length->J.go i H'
 yld:∀i H' x H2,aE H H'->J.yld i H' x H2->i<xs.length->xs[i]? = some x/\H2=H'
 stop:∀H',aE H H'->J.stop xs.length H'
theorem ab7 {K:ac}{H:Hp}{a:Addr}{xs:List V}(h:aI K H a xs):xS H (iH K a) xs:=
 ⟨λi H' e hi=>⟨xs,xs[i],e.tup h,by simp[hi]⟩,λi H' x H2 e y hi=>⟨y.2 xs (e.tup h),y.1⟩,λH' e=>⟨xs,e.tup h,aI6 _⟩⟩
noncomputable def CW (H1:Hp)(D:Addr)(n:Nat)(Pv:Nat->List V->Hp->Prop):Nat->Nat->List V->Hp->Prop:=λi m acc H'=>m=n-i/\i<=n/\acc.length<=i/\aE H1 H'/\H' D=some (.lst acc)/\Pv i acc H'
noncomputable def xT (H1:Hp)(D:Addr)(n:Nat)(Pv:Nat->List V->Hp->Prop)(i:Nat)(acc:List V)(v:V)(H5:Hp):Prop:=H5 D=some (.lst acc)/\acc.length<sizeLine/\∃m',m'<n-i/\CW H1 D n Pv (i+1) m' (acc++[v]) (upd H5 D (.lst (acc++[v])))
noncomputable def CNo (H1:Hp)(D:Addr)(n:Nat)(Pv:Nat->List V->Hp->Prop)(i:Nat)(acc:List V)(H4:Hp):Prop:=∃m',m'<n-i/\CW H1 D n Pv (i+1) m' acc H4
structure rS (H1:Hp)(D:Addr)(n i:Nat)(acc:List V)(H':Hp):Prop where
 lt:i<n
 few:acc.length<=i
 sz:n<=sizeLine
 same:aE H1 H'
 new:H1 D=none
 acc:H' D=some (.lst acc)
theorem rS.yes {H1:Hp}{D:Addr}{n i:Nat}{acc:List V}{H' H5:Hp}{Pv:Nat->List V->Hp->Prop}{v:V}(c:rS H1 D n i acc H')(s:aE H' H5)(p:Pv (i+1) (acc++[v]) (upd H5 D (.lst (acc++[v])))):xT H1 D n Pv i acc v H5:=by
 refine⟨s _ _ c.acc,Nat.lt_of_le_of_lt c.few (aI9 c.lt c.sz),_,?_,rfl,c.lt,?_,λb o e=>?_,bB,p⟩
 ·have:=c.lt;omega
 ·rw[aL5,aS2];exact Nat.succ_le_succ c.few
 ·rw[aN (cG e c.new)];exact s _ _ (c.same _ _ e)
theorem ab8 {H1:Hp}{J:It}{xs:List V}{g:TG}{tc:TT}{te:TE}{σ0:St}{Q:VK}(O:xS H1 J xs)(Pv:Nat->List V->Hp->Prop)(hn:xs.length<=sizeLine)(h0:∀D,H1 D=none->Pv 0 [] (upd H1 D (.lst [])))(hs:∀i x acc D H',xs[i]? = some x->rS H1 D xs.length i acc H'->Pv i acc H'->g x σ0 H' λσ2 H3=>Wk σ0 σ2/\tc σ2 H3 λb H4=>
   if b=true then te σ2 H4 λv H5=>xT H1 D xs.length Pv i acc v H5 else CNo H1 D xs.length Pv i acc H4)(hd:∀D acc H',H1 D=none->aE H1 H'->H' D=some (.lst acc)->acc.length<=xs.length->Pv xs.length acc H'->Q (.ref D) H') :
  ∀D,H1 D=none->∃W:Nat->Nat->List V->Hp->Prop,(∃m,W 0 m [] (upd H1 D (.lst [])))/\kH g tc te σ0 J D Q W:=by
 intro D hD
 refine⟨CW H1 D xs.length Pv,⟨xs.length,rfl,aP8 _,aI6 _,b7 hD _,bB,h0 D hD⟩,?_⟩
 rintro i m acc H' ⟨rfl,hi,ha,sm,hDa,p⟩
 refine⟨hDa,?_⟩
 by_cases hlt:i<xs.length
 ·refine .inr ⟨O.go i H' sm hlt,λx H2 y=>?_⟩
  obtain⟨hx,e⟩:=O.yld i H' x H2 sm y hlt
  subst e
  exact hs i x acc D H2 hx ⟨hlt,ha,hn,sm,hD,hDa⟩ p
 ·have e:i=xs.length:=by omega
  subst e
  exact .inl ⟨O.stop H' sm,hd D acc H' hD sm hDa ha p⟩
end L2
namespace Srt
open PySem PySem.W PyProof.Rows
noncomputable abbrev G (p:Array Nat)(i:Nat):Nat:=p.getD i 0
noncomputable def PP (n:Nat)(p:Array Nat):Prop:=p.toList.Perm (List.range n)
structure Ord (c:Nat->Nat->Bool):Prop where
 asym:∀{i j},c i j=true->c j i=false
 ntr:∀{i j k},c i j=false->c j k=false->c i k=false
end Srt
namespace L2
open PySem PySem.Spec PyProof.Rows
theorem rT:∀{xs:List V}{us:List Value} (i:Nat),i<xs.length->aK xs us->aQ (xs.getD i .non) (us.getD i Value.none)
 |_,_,_,h,.nil=>by simp at h
 |_,_,0,_,.cons r _=>by simpa using r
 |_,_,i+1,h,.cons _ t=>by
  have:=rT i (by simpa using h) t
  simpa using this
theorem rV {α:Type}:∀l:List α,(l.zip l).map (·.2)=l
 |[]=>rfl
 |a::l=>by
  show a::((l.zip l).map (·.2))=a::l
  rw[rV l]
theorem ab9 {prog:Program}{w:World}{A:Around}{E:Value->Shared->Prop}{s:Shared}{a:Addr}{vs:List Value}{n:Nat}{P:PySem.Fin->Shared->Prop}(e:s.heap.get? a=some (seqObj "list" vs.toArray n))(few:vs.length<2)(q:P (.done (.ret .none)) { s with heap:=sortedHeap s.heap a vs vs.toArray }):wpAny (model prog w) A (Builtin.«list.sort» ⟨[.ref a],[]⟩) P E s:=by
 have big:vs.length<=sizeLine:=aN2 (aS6 few) (by decide)
 have la:=aJ3 e
 have c:vs.toArray.size<2:=by simpa using few
 have same:(arrOf (SortSt.mk' general' (vs.toArray.zip vs.toArray) #[] 7 none)).map (·.2)=vs.toArray:=by
  change (vs.toArray.zip vs.toArray).map (·.2)=vs.toArray
  apply Array.ext'
  simpa using rV vs
 obtain⟨k,ek⟩:∃k,(s.heap.update a (Obj.mapSeq λ_=>#[])).get? a=some (seqObj "list" #[] k):=⟨_,get?_update_seq e λ_=>#[]⟩
 have there:(((s.heap.update a (Obj.mapSeq λ_=>#[])).push (seqObj "tuple" vs.toArray 0)).push (seqObj "list" #[] 0)).get? a=some (seqObj "list" #[] k):=
  aI3 _ (aI3 _ ek)
 rw[list_sort_plain]
 apply aI2
 apply listItems_at e rfl
 apply aI2
 refine listUpdate_at e rfl ?_ (by simpa using big) (aP8 _)
 apply aI2
 apply seqEpoch_at ek rfl
 apply aI2
 refine wpAny_newTuple ?_ big
 apply aI2
 refine wpAny_newList ?_ (aP8 _)
 apply aQ6
 simp only[c,if_true,StateT.run_pure]
 apply aI2
 apply aI7
 apply aI2
 apply aI7
 apply aI2
 apply seqEpoch_at there rfl
 apply aI2
 refine listUpdate_at there rfl ?_ (aP8 _) (by rw[same,aI4];exact Nat.le_succ_of_le big)
 rw[same]
 simp only[bne_self_eq_false,aL2,aQ2]
 exact aI7 q
theorem ac0 {prog:Program}{w:World}{A:Around}{E:Value->Shared->Prop}{s:Shared}{l:Addr}{vs:List Value}{Q:Value->Shared->Prop}(hl:s.heap.IsList l vs.toArray)(few:vs.length<2)(q:Q (.ref (s.heap.objs.size+1)) { s with heap:=sortedAll s.heap vs vs.toArray }):wpAny (model prog w) A (call (.builtin "sorted") [.ref l]) Q E s:=by
 have big:vs.length<=sizeLine:=aN2 (aS6 few) (by decide)
 apply Calls.call_function_entry kind_sorted plain_sorted entry_sorted (args_sorted1 _)
 simp only[Builtin.«sorted»]
 apply aI2 (m:=checkCount "sorted" 1 1 _)
 apply aI7
 apply aI2
 refine collect_list hl ?_ big
 apply aI2
 refine wpAny_newList ?_ big
 have one:((s.heap.push (seqObj "list" #[] 0)).update s.heap.objs.size (Obj.mapSeq (·++vs.toArray))).objs.size=s.heap.objs.size+1:=(Heap.size_update _ _ _).trans (size_push' _ _)
 have at1:(((s.heap.push (seqObj "list" #[] 0)).update s.heap.objs.size (Obj.mapSeq (·++vs.toArray))).push (seqObj "list" vs.toArray 0)).get? (s.heap.objs.size+1)=some (seqObj "list" vs.toArray 0):=one▸aK1 _ rfl
 change wpAny _ _ _ _ _ { s with heap:=((s.heap.push (seqObj "list" #[] 0)).update s.heap.objs.size (Obj.mapSeq (·++vs.toArray))).push (seqObj "list" vs.toArray 0) }
 rw[one]
 apply aI2
 apply aQ6
 refine aO9 slot_list_sort ⟨_,at1,rfl⟩ entry_list_sort ?_ (args_list_sort _)
 refine ab9 at1 few ⟨_,rfl,?_⟩
 exact aI7 ⟨_,rfl,q⟩
section
variable {prog:Program}{w:World}{A:Around}{s:Shared}{Q:Bool→Shared→Prop}
theorem xU:∀{us ws:List Value}{xs ys:ae} (i:Nat),IntsAre us xs->IntsAre ws ys->Q (HT.bZ xs ys) s->PySem.W.KatLex prog w A true (decide (us.length<ws.length)) Q (us.zip ws) i s
 |_,_,_,_,_,.nil,.nil,h=>h
 |_,_,_,_,_,.nil,.cons _ _ _,h=>h
 |_,_,_,_,_,.cons _ _ _,.nil,h=>h
 |_,_,_,_,i,.cons (vs:=us) x t hx,.cons (vs:=ws) y u hy,h=>by
  refine PySem.W.kat_cons (wpAny_eqBool_int ?_)
  rw[HT.iJ]at h
  by_cases e:x=y
  ·rw[if_pos e]at h
   have eb:(x==y)=true:=by simpa using e
   rw[eb]
   refine PySem.W.kat_yes ?_
   have e2:decide ((Value.int x t::us).length<(Value.int y u::ws).length)=decide (us.length<ws.length):=by simp
   rw[e2]
   exact xU (i+1) hx hy h
  ·rw[if_neg e]at h
   have eb:(x==y)=false:=by simpa using e
   rw[eb]
   refine PySem.W.kat_no ?_
   cases hi:(true&&i==0) with
   |true=>exact PySem.W.kat_lt_int h
   |false=>exact PySem.W.kat_one _ _ (lt_int h)
end
end L2
namespace Raw
open PySem PySem.W PySem.Calls PyProof.Rows
noncomputable def eW (h:Heap)(d:Addr)(es:Array DictEntry)(ep:Nat):Prop:=∃o,h.get? d=some o/\o.ExactDict/\o.data = .dict es ep
theorem eW.ty {s:Shared}{d:Addr}{es:Array DictEntry}{ep:Nat}(x:eW s.heap d es ep):s.TypeIs (.ref d) "dict":=x.elim λo y=>⟨o,y.1,y.2.1.1⟩
theorem eW.lt {h:Heap}{d:Addr}{es:Array DictEntry}{ep:Nat}(x:eW h d es ep):d<h.objs.size:=x.elim λ_ y=>aJ3 y.1
theorem eW.keep {h h':Heap}{d:Addr}{es:Array DictEntry}{ep:Nat}(x:eW h d es ep)(k:∀o,h.get? d=some o->h'.get? d=some o):eW h' d es ep:=x.elim λo y=>⟨o,k o y.1,y.2⟩
section
variable {prog:Program}{w:World}{A:Around}{E:Value→Shared→Prop}{s:Shared}{d it:Addr}{es:Array DictEntry}{ep i:Nat}
theorem made (far:(d==sysModules)=false)(x:eW s.heap d es ep){Q:Value->Shared->Prop}(q:Q (.ref s.heap.objs.size) { s with heap:=s.heap.push { cls:=.type "dict_keyiterator",data:=.fields #[.ref d,.int 0 0,.int es.size 0,.int ep 0] } }):wpAny (model prog w) A (pyIter (.ref d)) Q E s:=by
 have T:=x.ty
 obtain⟨o,e1,e2,e3⟩:=x
 apply wpAny_pyIter_slot T PySem.F.slot_dict_iter
 apply aO9 PySem.F.slot_dict_iter T PySem.F.entry_dict_iter _ (PySem.F.args_dict_iter_1 _)
 simp only[Builtin.«dict.__iter__»,Builtin.Dict.dictSlotNone]
 apply aI2
 apply aI2
 apply wpAny_notOrdered_dict T
 apply aI7
 change wpAny _ _ (Builtin.Dict.showsAll d >>= _) _ _ s
 have far':Builtin.Dict.showsAll d=pure ():=by
  unfold Builtin.Dict.showsAll
  simp only[far,aL2,aQ2]
 rw[far',pure_bind]
 apply aI2
 apply wpAny_dictEntries e1 e3
 apply aI2
 apply wpAny_dictEpoch e1 e3
 apply aI2
 refine aP0 (aI7 ?_)
 refine⟨.ref s.heap.objs.size,rfl,"dict_keyiterator",_,⟨_,aK1 _ rfl,rfl⟩,PySem.F.slot_dict_keyiterator_next.lookup,?_⟩
 simpa only[rawInt] using q
theorem turn (hh:A.handled=none)(hi:s.heap.IsKeyIter it d i es.size ep)(x:eW s.heap d es ep){Q:Option Value->Shared->Prop}(yes:∀(lt:i<es.size) h',h'.IsKeyIter it d (i+1) es.size ep->Heap.SameBut it s.heap h'->Q (some es[i].key) { s with heap:=h' })(no:es.size<=i->∀h',Heap.ExtBut it s.heap h'->Q none { s with heap:=h' }):wpAny (model prog w) A (pyNext (.ref it)) Q E s:=by
 have T:=hi.typeIs
 obtain⟨oi,f1,f2,f3⟩:=hi
 obtain⟨o,e1,e2,e3⟩:=x
 have slot:=PySem.F.slot_dict_keyiterator_next
 have plain:Builtin.Dict_items.ownsTuple "dict_keyiterator" = false:=by decide
 have isref:(Value.ref d==Value.none)=false:=rfl
 have nn:¬(i:Int)<0:=by omega
 unfold pyNext
 apply aI2
 apply wpAny_attempt
 apply aN4 (name:=Str.ofString "__next__") T slot
 apply aO9 slot T PySem.F.entry_dict_keyiterator_next _ (PySem.F.args_dict_keyiterator_next_1 _)
 apply aI2
 apply aI7
 apply aI2
 apply aI2
 apply aI2
 first
  |apply wpAny_typeNameOfWhole_keyiter T
  |apply wpAny_typeNameOf_keyiter T
 apply aI7
 apply aI2
 apply wpAny_fieldsOf f1 f3
 simp only[plain,aL2,aQ2]
 change wpAny _ _ (if (Value.ref d==Value.none)=true then _ else _) _ _ s
 have adr:Builtin.Dict_items.addrOf (Value.ref d)=pure d:=rfl
 simp only[isref,aL2,aQ2,adr,pure_bind]
 apply aI2
 apply wpAny_dictEntries e1 e3
 simp only[bne_self_eq_false,aL2,aQ2]
 apply aI2
 apply wpAny_dictEpoch e1 e3
 simp only[bne_self_eq_false,aL2,aQ2]
 apply aI7
 simp only[nn,aQ2,aQ1]
 by_cases lt:i<es.size
 ·simp only[Array.getElem?_eq_getElem lt]
  apply aI2
  apply aI2
  first
   |apply wpAny_typeNameOfWhole_keyiter T
   |apply wpAny_typeNameOf_keyiter T
  apply aI7
  apply aI2
  apply wpAny_isOneOf_keyiter T
  change wpAny _ _ (setField (.ref it) 1 (rawInt ((i:Int)+1)) >>= _) _ _ s
  apply aI2
  refine wpAny_setField f1 f3 (by simp) ?_
  have again:(s.heap.update it (Obj.mapFields (·.setIfInBounds 1 (rawInt ((i:Int)+1))))).IsKeyIter it d (i+1) es.size ep:=by
   refine⟨_,aU7 _ f1 (Obj.isFreed_of_fields (aU4 f3 _)),?_,?_⟩
   ·rw[Obj.cls_mapFields];exact f2
   ·rw[aU4 f3];simp[rawInt]
  apply aI2
  apply aQ6
  apply aI2
  refine wpAny_isOneOf_keyiter (s:={ s with heap:=s.heap.update it (Obj.mapFields (·.setIfInBounds 1 (rawInt ((i:Int)+1)))) }) again.typeIs ?_
  change wpAny _ _ (pure es[i].key) _ _ _
  apply aI7
  apply aI7
  exact⟨es[i].key,rfl,aI7 (yes lt _ again (Heap.SameBut.update ..))⟩
 ·have ge:es.size<=i:=Nat.le_of_not_lt lt
  simp only[Array.getElem?_eq_none ge]
  apply aI2
  apply aI2
  first
   |apply wpAny_typeNameOfWhole_keyiter T
   |apply wpAny_typeNameOf_keyiter T
  apply aI7
  change wpAny _ _ (setField (.ref it) 0 .none >>= _) _ _ s
  apply aI2
  refine wpAny_setField f1 f3 (by simp) ?_
  apply aI2
  simp only[newExc,newTuple]
  apply aI2
  refine aP0 ?_ (by size_fits)
  apply aI2
  refine wpAny_of_eq (a:=Value.none) (by first|rfl|(simp only[firstArgMember];rfl)) ?_
  refine aP0 ?_ (by size_fits)
  unfold raiseNew
  apply aI2
  apply wpAny_handled
  have quiet:A.in1.handled=none:=hh
  rw[quiet]
  refine wpAny_throw ?_
  apply aI2
  refine wpAny_isInstance (T:="StopIteration") (b:=true) ⟨_,aK1 _ rfl,rfl⟩ isSubtype_stop ?_
  exact aI7 (no ge _ (((Heap.SameBut.update ..).extBut.push _).push _))
theorem ac1 (hh:A.handled=none)(ne:d≠it):Walks prog w A it [it,d] [it] es.size (λi v=>∃lt:i<es.size,es[i].key=v) (λi h=>h.IsKeyIter it d i es.size ep/\eW h d es ep) where
 sub:=by intro b hb;rw[aJ7.mp hb];exact aK0
 frame:=by
  intro i h h' st hk
  exact⟨st.1.at (hk it aK0),st.2.keep (hk d (aK2 _ aK0))⟩
 item:=by
  intro i s Q E lt st hQ
  refine turn hh st.1 st.2 (λlt' h' again sb=>?_) λge=>absurd lt (Nat.not_lt.mpr ge)
  exact hQ _ h' s.toks ⟨lt',rfl⟩ ⟨again,st.2.keep λo e=>sb.extBut d o ne e⟩ λb o hb e=>sb.extBut b o (λz=>hb (aJ7.mpr z)) e
 done:=by
  intro s Q E st hQ
  refine turn hh st.1 st.2 (λlt=>absurd lt (aM4 _)) λ_ h' eb=>?_
  exact hQ h' s.toks λb o hb e=>eb b o (λz=>hb (aJ7.mpr z)) e
 self:=by intro i s Q E st hQ;exact wpAny_pyIter_keyiter st.1 hQ
theorem ac2 (far:(d==sysModules)=false):KdlSrc prog w "dict" d d es.size (λi v=>∃lt:i<es.size,es[i].key=v) (λh=>eW h d es ep) where
 type:=λ_ x=>x.ty
 there:=λ_ x=>⟨x.lt,x.lt⟩
 keep:=λ_ _ x k=>x.keep (k d (.inl rfl))
 notList:=by decide
 notTuple:=by decide
 hint:=λ_ _ _ _ x q=>kdl_hint_dict x.ty q
 iter:=λ_ _ hh x=>⟨_,_,λ_ _ q=>made far x q,ac1 hh (aL4 x.lt),⟨_,aK1 _ rfl,rfl,rfl⟩,x.keep λo e=>aI3 _ e⟩
end
end Raw
namespace L2
open PySem PySem.Spec PyProof.Rows
section
variable {X:Cx}{pins:List (Addr×Obj)}{σ:St}{H:Hp}{s:Shared}{a:Addr}
noncomputable def nR (H:Hp)(y:V)(k:List aH):Prop:=∃q,y = .ref q/\H q=some (.tup (k.map kV))
theorem ac3 {kvs:List (List aH×V)}(I:a5 X pins σ H s)(h:H a=some (.dT kvs)):∃es ep ys,Raw.eW s.heap a es ep/\(a==sysModules)=false/\Paired (nR H) ys (kvs.map (·.1))/\aK ys (es.toList.map (·.key))/\kvs.length<=sizeLine:=by
 obtain⟨z,far,xs,rel,o,es,ep,e1,e2,e3,e4,nd⟩:=(show bM X.prog X.w H s.heap a (.dT kvs) from I.hok a _ h)
 refine⟨es,ep,xs.map λq=>V.ref q.2.1,⟨o,e1,e2,e3⟩,far,?_,?_,z⟩
 ·clear e4 nd h z
  induction rel with
  |nil=>exact .nil
  |cons r rs ih=>exact .cons ⟨_,rfl,r.2.1⟩ ih
 ·rw[e4]
  clear rel e4 nd
  induction xs with
  |nil=>exact .nil
  |cons q qs ih=>exact .cons rfl ih
theorem ac4 {es:Array DictEntry}{acc:Array Value}(h:ItemsOf (λi v=>∃lt:i<es.size,es[i].key=v) acc es.size):acc.toList=es.toList.map (·.key):=by
 apply List.ext_getElem?
 intro j
 have h1:=h.1
 by_cases hj:j<es.size
 ·have hj':j<acc.size:=by rw[h1];exact hj
  obtain⟨_,e⟩:=h.2 j acc[j] (by simp[hj'])
  rw[aJ9]
  simp[hj,hj',e]
 ·have hj':¬j<acc.size:=by rw[h1];exact hj
  rw[aJ9]
  simp[Nat.le_of_not_lt hj,Nat.le_of_not_lt hj']
theorem ac5 (hc:X.calm=true):cN X (.type "list") (λxs H Q=>∃a kvs,xs = [.ref a]/\H a=some (.dT kvs)/\∀l ys,H l=none->Paired (nR H) ys (kvs.map (·.1))->Q (.ref l) (upd H l (.lst ys))):=by
 intro pins s σ H xs us Q I r h
 obtain⟨a,kvs,rfl,ha,q⟩:=h
 obtain⟨u,rfl,ru⟩:=gV r
 cases ru
 obtain⟨es,ep,ys,rd,far,pk,vk,z⟩:=ac3 I ha
 have hl:=vk.length
 have hl2:=pk.length
 rw[aJ2]at hl hl2
 have hsz:es.toList.length=es.size:=Array.length_toList
 refine PySem.W.kdl_call (Raw.ac2 far) (I.ok.hd hc) rd (by omega) λh' tk acc c kp e it=>?_
 refine⟨.ref s.heap.objs.size,_,I.laid (t':=tk) kp (aI6 _) (show bM X.prog X.w _ h' _ (.lst ys) from ⟨by omega,acc.toList,c,by rw[ac4 it];exact vk,by simpa using e⟩),rfl,q _ ys (I.hok.fresh (aI6 _)) pk⟩
end
section
variable {X:Cx}
theorem ac6:cN X (.builtin "isinstance") (λxs H Q=>∃x t n b,xs = [x,.ty n]/\dY X.K H x t/\PySem.W.kitOne X.K t (.type n)=some b/\Q (.bl b) H):=by
 intro pins s σ H xs us Q I r h
 obtain⟨x,t,n,b,rfl,ty,e,q⟩:=h
 obtain⟨u,u',rfl,ru,ru'⟩:=lK r
 cases ru'
 exact U9 I ru ty e λtk=>⟨.bl b,H,I.tok tk,rfl,q⟩
end
noncomputable def xV (outer:List (Str×NameKind))(XN:List Str)(names:List (Str×NameKind))(N:List Str)(fr:List (Option Nat)):Bool:=
 names.all (λy=>!(y.2==.cell)||names.lookup y.1==some .cell)&&names.all (λy=>!(y.2==.local)||names.lookup y.1==some .local) &&
 names.all (λy=>!(y.2==.free)||(outer.lookup y.1==some .cell||outer.lookup y.1==some .free))&&fr.length==N.length &&
 (fr.zip N).all (λp=>match p.1 with
  |none=>true
  |some j=>XN[j]?==some p.2&&names.lookup p.2==some .free)
theorem cB.of {X:Cx}{scope:Scope}{N:List Str}{fr:List (Option Nat)}(hk:scope.kind = .function)(h:xV X.env.scope.names X.N scope.names N fr=true):cB X scope N fr:=by
 unfold xV at h
 simp only[aN8]at h
 obtain⟨⟨⟨⟨h1,h2⟩,h3⟩,h4⟩,h5⟩:=h
 refine⟨hk,λy hy e=>?_,λy hy e=>?_,λy hy e=>?_,by simpa using h4,λi j e=>?_⟩
 ·have:=aT8.mp h1 y hy
  rw[e]at this;simpa using this
 ·have:=aT8.mp h2 y hy
  rw[e]at this;simpa using this
 ·have:=aT8.mp h3 y hy
  rw[e]at this;simpa using this
 ·have hl:fr.length=N.length:=by simpa using h4
  have hi:i<fr.length:=(aK3.mp e).1
  have m:(some j,N[i]'(by omega))∈fr.zip N:=by
   have:(fr.zip N)[i]? = some (some j,N[i]'(by omega)):=by
    rw[List.getElem?_zip_eq_some]
    exact⟨e,by simp⟩
   exact aP1 this
  have:=aT8.mp h5 _ m
  simp only[aN8,beq_iff_eq]at this
  exact⟨N[i]'(by omega),by simp,this.1,this.2⟩
theorem wk0 {n:Option V}{r:St}{v:V}:Wk (none::r) (some v::r):=(Wk.refl (none::r)).set (i:=0) rfl
noncomputable def lS (H:Hp)(ys:List V)(ls:aa):Prop:=Paired (λy l=>∃b,y = .ref b/\H b=some (.tup [.int l.1,.int l.2])) ys ls
structure xW (H:Hp)(v:V)(ws:ae)(ls:aa):Prop where
 at_:∃a p q ys,v = .ref a/\H a=some (.tup [.ref p,.ref q])/\H p=some (.tup (ws.map V.int))/\H q=some (.tup ys)/\lS H ys ls
theorem lS.get {H:Hp}:∀{ys:List V}{ls:aa}{i:Nat}{y:V},lS H ys ls->ys[i]? = some y->∃l b,ls[i]? = some l/\y = .ref b/\H b=some (.tup [.int l.1,.int l.2])
 |_,_,_,_,.nil,e=>by simp at e
 |_,_,0,_,.cons (b:=l) ⟨b,h1,h2⟩ _,e=>by simp at e;subst e;exact⟨l,b,rfl,h1,h2⟩
 |_,_,i+1,_,.cons _ t,e=>by
  obtain⟨l,b,h1,h2⟩:=lS.get (i:=i) t (by simpa using e)
  exact⟨l,b,by simpa using h1,h2⟩
noncomputable def bN (ls:aa)(k:Int):ae:=ls.flatMap λl=>(if l.1=k then [l.2] else [])++(if l.2=k then [l.1] else [])
theorem ac7 (ls:aa)(l:Int×Int)(k:Int):bN (ls++[l]) k=bN ls k++((if l.1=k then [l.2] else [])++(if l.2=k then [l.1] else [])):=by
 unfold bN;rw[List.flatMap_append];simp
theorem ac8 {ls:aa}{i:Nat}{l:Int×Int}(h:ls[i]? = some l)(k:Int):bN (ls.take (i+1)) k=bN (ls.take i) k++((if l.1=k then [l.2] else [])++(if l.2=k then [l.1] else [])):=by
 rw[aO2,h];exact ac7 _ _ _
structure hU (H H':Hp)(r:Addr)(bs:List Addr)(f:Nat->ae):Prop where
 new:H r=none
 news:∀b∈bs,H b=none/\b≠r
 nd:bs.Nodup
 row:H' r=some (.lst (bs.map V.ref))
 rows:∀(k:Nat) (b:Addr),bs[k]? = some b->H' b=some (.lst ((f k).map V.int))
 same:aE H H'
theorem hU.congr {H H':Hp}{r:Addr}{bs:List Addr}{f g:Nat->ae}(h:hU H H' r bs f)(e:∀k,k<bs.length->f k=g k):hU H H' r bs g:=
 ⟨h.new,h.news,h.nd,h.row,λk b hb=>by rw[<- e k (aK3.mp hb).1];exact h.rows k b hb,h.same⟩
theorem hU.app {H H':Hp}{r:Addr}{bs:List Addr}{f:Nat->ae}(h:hU H H' r bs f){k:Nat}{b:Addr}(hb:bs[k]? = some b)(x:Int) :
  hU H (upd H' b (.lst ((f k).map V.int++[V.int x]))) r bs (λj=>if j=k then f j++[x] else f j):=by
 have hm:b∈bs:=aP1 hb
 refine⟨h.new,h.news,h.nd,by rw[aN (Ne.symm (h.news b hm).2)];exact h.row,λj c hc=>?_,λc o e=>by rw[aN (cG e (h.news b hm).1)];exact h.same c o e⟩
 by_cases hj:j=k
 ·subst hj
  rw[hb]at hc;cases hc
  rw[bB,if_pos rfl];simp
 ·rw[if_neg hj]
  have ne:c≠b:=λz=>by
   subst z
   obtain⟨i1,e1⟩:=aK3.mp hb
   obtain⟨i2,e2⟩:=aK3.mp hc
   refine hj (Nat.le_antisymm (Nat.le_of_not_lt λz=>?_) (Nat.le_of_not_lt λz=>?_))
   ·exact aP2.mp h.nd _ _ i1 i2 z (e1.trans e2.symm)
   ·exact aP2.mp h.nd _ _ i2 i1 z (e2.trans e1.symm)
  rw[aN ne];exact h.rows j c hc
theorem xX (ls:aa)(k:Int):(bN ls k).length<=2*ls.length:=by
 induction ls with
 |nil=>exact aI6 _
 |cons l r ih=>
  have e:bN (l::r) k=((if l.1=k then [l.2] else [])++(if l.2=k then [l.1] else []))++bN r k:=rfl
  rw[e,aL5,aL5,aM0]
  have h1:(if l.1=k then [l.2] else []).length<=1:=by split<;>simp
  have h2:(if l.2=k then [l.1] else []).length<=1:=by split<;>simp
  omega
theorem rW {α:Type}{xs:List α}{i:Int}{v:α}(h0:0<=i)(h:xs[i.toNat]? = some v):atI xs i=some v:=by
 have:=qW h
 rwa [show ((i.toNat:Nat):Int)=i by omega]at this
theorem jE {n:Nat}(h:n<=16000000):n<sizeLine:=by rw[sizeLine_eq];omega
theorem ac9 {σ:St}{H:Hp}{A B:Hp->Prop}(h:A H):rL σ H λb H4=>if b=true then A H4 else B H4:=by
 show if true=true then A H else B H
 rw[if_pos rfl];exact h
theorem rX {K:ac}{H:Hp}{p:Addr}{xs:List V}(h:aL K H p xs):fR K "list" (.ref p) H:=.inl ⟨rfl,xs,h⟩
end L2
namespace Zp
open PySem PyProof.Rows
section
variable {prog:Program}{w:World}{A:Around}{E:Value→Shared→Prop}{s:Shared}
theorem xY {it t:Addr}{i:Nat}{items:Array Value}{x:Value}{Q:Value->Shared->Prop}(hi:s.heap.IsTupleIter it t i)(ht:s.heap.IsTuple t items)(hx:items[i]? = some x)(q:∀h',h'.IsTupleIter it t (i+1)->Heap.SameBut it s.heap h'->Q x { s with heap:=h' }):wpAny (model prog w) A (Builtin.SmallTypes.nextOf (.ref it)) Q E s:=by
 have T:=hi.typeIs
 obtain⟨o,e1,e2,e3⟩:=hi
 obtain⟨u,f1,_,k,f3⟩:=ht
 have slot:=PySem.F.slot_tuple_iterator_next
 have isref:(Value.ref t==Value.none)=false:=rfl
 unfold Builtin.SmallTypes.nextOf
 apply aI2
 apply aN4 (name:=Str.ofString "__next__") T slot
 apply aO9 slot T PySem.F.entry_tuple_iterator_next _ (PySem.F.args_tuple_iterator_next_1 _)
 change wpAny _ _ (field (.ref it) 0 >>= _) _ _ s
 apply aI2
 refine aL9 e1 e3 (x:=.ref t) rfl ?_
 change wpAny _ _ (if (Value.ref t==Value.none)=true then _ else _) _ _ s
 simp only[isref,aL2,aQ2]
 change wpAny _ _ (field (.ref it) 1 >>= _) _ _ s
 apply aI2
 refine aL9 e1 e3 (x:=.int i 0) rfl ?_
 change wpAny _ _ (seqItems? (.ref t) >>= _) _ _ s
 apply aI2
 apply aU5 f1 f3
 simp only[aQ1,hx]
 apply aI2
 refine wpAny_setField e1 e3 (by simp) ?_
 apply aI7
 refine⟨x,rfl,aI7 (q _ ⟨_,aU7 _ e1 (Obj.isFreed_of_fields (aU4 e3 _)),?_,?_⟩ (Heap.SameBut.update ..))⟩
 ·rw[Obj.cls_mapFields];exact e2
 ·rw[aU4 e3];simp[rawInt]
theorem xZ {it t:Addr}{i:Nat}{items:Array Value}{Q:Value->Shared->Prop}(hh:A.handled=none)(hi:s.heap.IsTupleIter it t i)(ht:s.heap.IsTuple t items)(hx:items[i]? = none)(q:∀h' e,Heap.ExtBut it s.heap h'->(∃o,h'.get? e=some o/\o.cls = .type "StopIteration")->E (.ref e) { s with heap:=h' }):wpAny (model prog w) A (Builtin.SmallTypes.nextOf (.ref it)) Q E s:=by
 have T:=hi.typeIs
 obtain⟨o,e1,e2,e3⟩:=hi
 obtain⟨u,f1,_,k,f3⟩:=ht
 have slot:=PySem.F.slot_tuple_iterator_next
 have isref:(Value.ref t==Value.none)=false:=rfl
 unfold Builtin.SmallTypes.nextOf
 apply aI2
 apply aN4 (name:=Str.ofString "__next__") T slot
 apply aO9 slot T PySem.F.entry_tuple_iterator_next _ (PySem.F.args_tuple_iterator_next_1 _)
 change wpAny _ _ (field (.ref it) 0 >>= _) _ _ s
 apply aI2
 refine aL9 e1 e3 (x:=.ref t) rfl ?_
 change wpAny _ _ (if (Value.ref t==Value.none)=true then _ else _) _ _ s
 simp only[isref,aL2,aQ2]
 change wpAny _ _ (field (.ref it) 1 >>= _) _ _ s
 apply aI2
 refine aL9 e1 e3 (x:=.int i 0) rfl ?_
 change wpAny _ _ (seqItems? (.ref t) >>= _) _ _ s
 apply aI2
 apply aU5 f1 f3
 simp only[aQ1,hx]
 apply aI2
 apply aV8
 apply aI2
 refine wpAny_setField e1 e3 (by simp) ?_
 apply aI2
 simp only[newExc,newTuple]
 apply aI2
 refine aP0 ?_ (by size_fits)
 apply aI2
 refine wpAny_of_eq (a:=Value.none) (by first|rfl|(simp only[firstArgMember];rfl)) ?_
 refine aP0 ?_ (by size_fits)
 unfold raiseNew
 apply aI2
 apply wpAny_handled
 have quiet:A.in1.handled=none:=hh
 rw[quiet]
 refine wpAny_throw ?_
 exact q _ _ (((Heap.SameBut.update ..).extBut.push _).push _) ⟨_,aK1 _ rfl,rfl⟩
theorem ad0 (hh:A.handled=none)(it t:Addr)(ne:t≠it)(items:Array Value):Draws prog w A it [it,t] items.size (λi v=>items[i]? = some v) (λi h=>h.IsTupleIter it t i/\h.IsTuple t items) where
 live:=λ_ _ st=>st.1.elim λo y=>⟨o,y.1⟩
 frame:=λ_ _ _ st k=>⟨st.1.at λo e=>k it aK0 o e,st.2.elim λo y=>⟨o,k t (aK2 _ aK0) o y.1,y.2⟩⟩
 item:=λi s Q E lt st q=>xY st.1 st.2 (Array.getElem?_eq_getElem lt) λh' again sb=>q _ h' s.toks (Array.getElem?_eq_getElem lt) ⟨again,st.2.elim λo y=>⟨o,sb.extBut t o ne y.1,y.2⟩⟩ sb
 done:=λs Q E st q=>xZ hh st.1 st.2 (Array.getElem?_eq_none (aI6 _)) q
end
structure Ap (z TI TO i1 i2:Addr)(fp1 fp2:List Addr):Prop where
 TIz:TI≠z
 TOz:TO≠z
 TITO:TI≠TO
 z1:z∉fp1
 z2:z∉fp2
 o1:TO∉fp1
 o2:TO∉fp2
 t1:TI∉fp1
 t2:TI∉fp2
 m1:i1∈fp1
 m2:i2∈fp2
 n1:i1∉fp2
 n2:i2∉fp1
structure rY (z TI TO i1 i2:Addr)(St1 St2:Nat->Heap->Prop)(f0:Value)(i j:Nat)(h:Heap):Prop where
 zz:IsZip h z TI TO f0
 ti:IsPair h TI (.ref i1) (.ref i2)
 to_:∃a b,IsPair h TO a b
 s1:St1 i h
 s2:St2 j h
section
variable {prog:Program}{w:World}{A:Around}{E:Value→Shared→Prop}{s:Shared}{z TI TO i1 i2:Addr}{fp1 fp2:List Addr}{n1 n2:Nat}{P1 P2:Nat→Value→Prop}{St1 St2:Nat→Heap→Prop}
theorem kI (ap:Ap z TI TO i1 i2 fp1 fp2){b:Addr}(h:b∉fp1):b≠i1:=λe=>h (e▸ap.m1)
theorem nS (ap:Ap z TI TO i1 i2 fp1 fp2){b:Addr}(h:b∉fp2):b≠i2:=λe=>h (e▸ap.m2)
theorem item (D1:Draws prog w A.in1 i1 fp1 n1 P1 St1)(D2:Draws prog w A.in1 i2 fp2 n2 P2 St2)(ap:Ap z TI TO i1 i2 fp1 fp2){i:Nat}(l1:i<n1)(l2:i<n2)(st:rY z TI TO i1 i2 St1 St2 .none i i s.heap){Q:Option Value->Shared->Prop}(q:∀x y h' tk,P1 i x->P2 i y->rY z TI TO i1 i2 St1 St2 (rawInt s.heap.objs.size) (i+1) (i+1) h'->IsPair h' s.heap.objs.size x y->(∀c o,c≠z->c≠TO->c≠i1->c≠i2->s.heap.get? c=some o->h'.get? c=some o)->
   h'.objs.size=s.heap.objs.size+1->Q (some (.ref s.heap.objs.size)) { s with heap:=h',toks:=tk }):wpAny (model prog w) A (pyNext (.ref z)) Q E s:=by
 obtain⟨hz,hti,⟨a,b,hto⟩,h1,h2⟩:=st
 have T:s.TypeIs (.ref z) "zip":=⟨_,hz,rfl⟩
 have slot:=PySem.F.slot_zip_next
 unfold pyNext
 apply aI2
 apply wpAny_attempt
 apply aN4 (name:=Str.ofString "__next__") T slot
 apply aO9 slot T PySem.F.entry_zip_next _ (PySem.F.args_zip_next_1 _)
 change wpAny _ _ (field (.ref z) 2 >>= _) _ _ _
 apply aI2
 refine aL9 hz rfl (x:=.bool false) rfl ?_
 change wpAny _ _ (field (.ref z) 3 >>= _) _ _ _
 apply aI2
 refine aL9 hz rfl (x:=.ref TI) rfl ?_
 apply aI2
 apply aU5 hti rfl
 change wpAny _ _ (Builtin.SmallTypes.ownedTupleIsFree (.ref z) >>= _) _ _ _
 apply aI2
 unfold Builtin.SmallTypes.ownedTupleIsFree
 apply aI2
 refine aL9 hz rfl (x:=.none) rfl (aI7 ?_)
 simp only[if_true]
 apply aI2
 apply aV8
 apply aI2
 refine aL9 hz rfl (x:=.ref TO) rfl ?_
 apply aI2
 refine aO4 hz (by simp) λg1 hz1 sb1=>?_
 have k1:∀c o,c≠z->s.heap.get? c=some o->g1.get? c=some o:=λc o c1 e=>sb1.extBut c o c1 e
 apply aI2
 simp only[List.zipIdx_cons,List.zipIdx_nil,List.forIn_cons,List.forIn_nil]
 apply aI2
 apply aI2
 apply wpAny_onRaise
 change wpAny _ _ (Builtin.SmallTypes.nextOf (.ref i1) >>= _) _ _ _
 apply aI2
 refine D1.item i { s with heap:=g1 } _ _ l1 (D1.frame _ _ _ h1 λc hc o e=>k1 c o (λy=>ap.z1 (y▸hc)) e) λx g2 tk2 px st1 sb2=>aI7 ?_
 have k2:∀c o,c≠z->c≠i1->s.heap.get? c=some o->g2.get? c=some o:=λc o c1 c2 e=>sb2.extBut c o c2 (k1 c o c1 e)
 have to2:IsPair g2 TO a b:=k2 _ _ ap.TOz (kI ap ap.o1) hto
 apply aI2
 apply aU5 to2 rfl
 apply aI2
 refine wpAny_updateSeq_pair to2 λg3 to3 sb3=>?_
 have to3:IsPair g3 TO x b:=to3
 apply aI2
 apply wpAny_letGo
 apply aI7
 apply aI2
 apply aI2
 apply wpAny_onRaise
 change wpAny _ _ (Builtin.SmallTypes.nextOf (.ref i2) >>= _) _ _ _
 apply aI2
 have k3:∀c o,c≠z->c≠i1->c≠TO->s.heap.get? c=some o->g3.get? c=some o:=λc o c1 c2 c3 e=>sb3.extBut c o c3 (k2 c o c1 c2 e)
 refine D2.item i { s with heap:=g3,toks:=tk2 } _ _ l2 (D2.frame _ _ _ h2 λc hc o e=>k3 c o (λy=>ap.z2 (y▸hc)) (λy=>ap.n1 (y▸hc)) (λy=>ap.o2 (y▸hc)) e) λy g4 tk4 py st2 sb4=>aI7 ?_
 have to4:IsPair g4 TO x b:=sb4.extBut _ _ (nS ap ap.o2) to3
 apply aI2
 apply aU5 to4 rfl
 apply aI2
 refine wpAny_updateSeq_pair to4 λg5 to5 sb5=>?_
 have to5:IsPair g5 TO x y:=to5
 apply aI2
 apply wpAny_letGo
 apply aI7
 apply aI7
 apply aI2
 apply aU5 to5 rfl
 apply aI2
 refine wpAny_newTuple ?_ (by show 2<=sizeLine;decide)
 have size:g5.objs.size=s.heap.objs.size:=by rw[sb5.1,sb4.1,sb3.1,sb2.1,sb1.1]
 have k5:∀c o,c≠z->c≠TO->c≠i1->c≠i2->s.heap.get? c=some o->g5.get? c=some o:=λc o c1 c2 c3 c4 e=>sb5.extBut c o c2 (sb4.extBut c o c4 (k3 c o c1 c3 c2 e))
 have z5:IsZip g5 z TI TO .ellipsis:=sb5.extBut _ _ (Ne.symm ap.TOz) (sb4.extBut _ _ (nS ap ap.z2) (sb3.extBut _ _ (Ne.symm ap.TOz) (sb2.extBut _ _ (kI ap ap.z1) hz1)))
 change wpAny _ _ (Builtin.SmallTypes.ownedTupleHandOut (.ref z) (.ref g5.objs.size) >>= _) _ _ _
 apply aI2
 unfold Builtin.SmallTypes.ownedTupleHandOut
 apply aI2
 have z6:IsZip (g5.push { cls:=.type "tuple",data:=.seq #[x,y] }) z TI TO .ellipsis:=aI3 _ z5
 refine aO4 z6 (by simp) λg7 z7 sb7=>?_
 have z7:IsZip g7 z TI TO (rawInt g5.objs.size):=z7
 refine aO4 z7 (by simp) λg8 z8 sb8=>?_
 have z8:IsZip g8 z TI TO (rawInt g5.objs.size):=z8
 have zlt:z<g5.objs.size:=aJ3 z5
 have up:∀c o,c≠z->g5.get? c=some o->g8.get? c=some o:=λc o c1 e=>sb8.extBut c o c1 (sb7.extBut c o c1 (aI3 _ e))
 have p8:IsPair g8 g5.objs.size x y:=sb8.extBut _ _ (aQ0 zlt) (sb7.extBut _ _ (aQ0 zlt) (aK1 _ rfl))
 have s8:g8.objs.size=g5.objs.size+1:=by rw[sb8.1,sb7.1,aQ5]
 have f1:St1 (i+1) g8:=D1.frame _ _ _ st1 λc hc o e=>up c o (λy=>ap.z1 (y▸hc)) (sb5.extBut c o (λy=>ap.o1 (y▸hc)) (sb4.extBut c o (λy=>ap.n2 (y▸hc)) (sb3.extBut c o (λy=>ap.o1 (y▸hc)) e)))
 have f2:St2 (i+1) g8:=D2.frame _ _ _ st2 λc hc o e=>up c o (λy=>ap.z2 (y▸hc)) (sb5.extBut c o (λy=>ap.o2 (y▸hc)) e)
 have ti8:IsPair g8 TI (.ref i1) (.ref i2):=up _ _ ap.TIz (k5 _ _ ap.TIz ap.TITO (kI ap ap.t1) (nS ap ap.t2) hti)
 rw[size]at z8 p8 s8
 apply aI7
 refine⟨_,rfl,aI7 ?_⟩
 change Q (some (.ref g5.objs.size)) _
 rw[size]
 exact q x y g8 tk4 px py ⟨z8,ti8,⟨x,y,up _ _ ap.TOz to5⟩,f1,f2⟩ p8 (λc o c1 c2 c3 c4 e=>up c o c1 (k5 c o c1 c2 c3 c4 e)) s8
theorem fin (D1:Draws prog w A.in1 i1 fp1 n1 P1 St1)(D2:Draws prog w A.in1 i2 fp2 n2 P2 St2)(ap:Ap z TI TO i1 i2 fp1 fp2){i:Nat}(le:i=n1∨(i<n1/\i=n2))(st:rY z TI TO i1 i2 St1 St2 .none i i s.heap){Q:Option Value->Shared->Prop}(q:∀h' tk,(∀c o,c≠z->c≠TO->c≠i1->c≠i2->s.heap.get? c=some o->h'.get? c=some o)->Q none { s with heap:=h',toks:=tk }):wpAny (model prog w) A (pyNext (.ref z)) Q E s:=by
 obtain⟨hz,hti,⟨a,b,hto⟩,h1,h2⟩:=st
 have T:s.TypeIs (.ref z) "zip":=⟨_,hz,rfl⟩
 have slot:=PySem.F.slot_zip_next
 unfold pyNext
 apply aI2
 apply wpAny_attempt
 apply aN4 (name:=Str.ofString "__next__") T slot
 apply aO9 slot T PySem.F.entry_zip_next _ (PySem.F.args_zip_next_1 _)
 change wpAny _ _ (field (.ref z) 2 >>= _) _ _ _
 apply aI2
 refine aL9 hz rfl (x:=.bool false) rfl ?_
 change wpAny _ _ (field (.ref z) 3 >>= _) _ _ _
 apply aI2
 refine aL9 hz rfl (x:=.ref TI) rfl ?_
 apply aI2
 apply aU5 hti rfl
 change wpAny _ _ (Builtin.SmallTypes.ownedTupleIsFree (.ref z) >>= _) _ _ _
 apply aI2
 unfold Builtin.SmallTypes.ownedTupleIsFree
 apply aI2
 refine aL9 hz rfl (x:=.none) rfl (aI7 ?_)
 simp only[if_true]
 apply aI2
 apply aV8
 apply aI2
 refine aL9 hz rfl (x:=.ref TO) rfl ?_
 apply aI2
 refine aO4 hz (by simp) λg1 hz1 sb1=>?_
 have k1:∀c o,c≠z->s.heap.get? c=some o->g1.get? c=some o:=λc o c1 e=>sb1.extBut c o c1 e
 apply aI2
 simp only[List.zipIdx_cons,List.zipIdx_nil,List.forIn_cons,List.forIn_nil]
 apply aI2
 apply aI2
 apply wpAny_onRaise
 change wpAny _ _ (Builtin.SmallTypes.nextOf (.ref i1) >>= _) _ _ _
 apply aI2
 have z1:IsZip g1 z TI TO .ellipsis:=hz1
 rcases le with rfl|⟨lt,rfl⟩
 ·refine D1.done { s with heap:=g1 } _ _ (D1.frame _ _ _ h1 λc hc o e=>k1 c o (λy=>ap.z1 (y▸hc)) e) λg2 e eb ex=>?_
  have z2:IsZip g2 z TI TO .ellipsis:=eb _ _ (kI ap ap.z1) z1
  refine aO4 z2 (by simp) λg3 z3 sb3=>?_
  obtain⟨oe,eo,co⟩:=ex
  have ne:e≠z:=λy=>by
   rw[y,z2]at eo
   have:=aL1 eo
   rw[<- this]at co;exact absurd (show Value.type "zip" = Value.type "StopIteration" from co) (by decide)
  apply aI2
  refine wpAny_isInstance (T:="StopIteration") (b:=true) ⟨oe,sb3.extBut _ _ ne eo,co⟩ isSubtype_stop ?_
  exact aI7 (q g3 s.toks λc o c1 _ c3 _ e=>sb3.extBut c o c1 (eb c o c3 (k1 c o c1 e)))
 ·refine D1.item i { s with heap:=g1 } _ _ lt (D1.frame _ _ _ h1 λc hc o e=>k1 c o (λy=>ap.z1 (y▸hc)) e) λx g2 tk2 px st1 sb2=>aI7 ?_
  have k2:∀c o,c≠z->c≠i1->s.heap.get? c=some o->g2.get? c=some o:=λc o c1 c2 e=>sb2.extBut c o c2 (k1 c o c1 e)
  have to2:IsPair g2 TO a b:=k2 _ _ ap.TOz (kI ap ap.o1) hto
  apply aI2
  apply aU5 to2 rfl
  apply aI2
  refine wpAny_updateSeq_pair to2 λg3 to3 sb3=>?_
  apply aI2
  apply wpAny_letGo
  apply aI7
  apply aI2
  apply aI2
  apply wpAny_onRaise
  change wpAny _ _ (Builtin.SmallTypes.nextOf (.ref i2) >>= _) _ _ _
  apply aI2
  have k3:∀c o,c≠z->c≠i1->c≠TO->s.heap.get? c=some o->g3.get? c=some o:=λc o c1 c2 c3 e=>sb3.extBut c o c3 (k2 c o c1 c2 e)
  refine D2.done { s with heap:=g3,toks:=tk2 } _ _ (D2.frame _ _ _ h2 λc hc o e=>k3 c o (λy=>ap.z2 (y▸hc)) (λy=>ap.n1 (y▸hc)) (λy=>ap.o2 (y▸hc)) e) λg4 e eb ex=>?_
  have z4:IsZip g4 z TI TO .ellipsis:=eb _ _ (nS ap ap.z2) (sb3.extBut _ _ (Ne.symm ap.TOz) (sb2.extBut _ _ (kI ap ap.z1) z1))
  refine aO4 z4 (by simp) λg5 z5 sb5=>?_
  obtain⟨oe,eo,co⟩:=ex
  have ne:e≠z:=λy=>by
   rw[y,z4]at eo
   have:=aL1 eo
   rw[<- this]at co;exact absurd (show Value.type "zip" = Value.type "StopIteration" from co) (by decide)
  apply aI2
  refine wpAny_isInstance (T:="StopIteration") (b:=true) ⟨oe,sb5.extBut _ _ ne eo,co⟩ isSubtype_stop ?_
  exact aI7 (q g5 tk2 λc o c1 c2 c3 c4 e=>sb5.extBut c o c1 (eb c o c4 (k3 c o c1 c3 c2 e)))
end
noncomputable def eF (h:Heap)(t u:Addr):Heap:=
 ((((h.push { cls:=.type "tuple_iterator",data:=.fields #[.ref t,.int 0 0] }).push { cls:=.type "tuple_iterator",data:=.fields #[.ref u,.int 0 0] }).push { cls:=.type "tuple",data:=.seq #[.ref h.objs.size,.ref (h.objs.size+1)] }).push
  { cls:=.type "tuple",data:=.seq #[.none,.none] }).push { cls:=.type "zip",data:=.fields #[.none,.bool false,.bool false,.ref (h.objs.size+2),.ref (h.objs.size+3)] }
theorem ad1 (t u:Addr)(xs ys:Array Value):Meets (Builtin.«zip.__new__» ⟨[.type "zip",.ref t,.ref u],[]⟩) (λ_ R s=>s.heap.IsTuple t xs/\s.heap.IsTuple u ys/\R (.ok (.ret (.ref (s.heap.objs.size+4)))) { s with heap:=eF s.heap t u }):=
 .of_wp λprog w A R s h=>by
  obtain⟨hp,g,d,tk,os⟩:=s
  obtain⟨ht,hu,h⟩:=h
  have sub:=sub_zip
  have a1:Heap.IsTuple (Shared.heap ⟨hp,g,d,tk,os⟩) t xs:=ht
  have a2:Heap.IsTuple (Shared.heap ⟨hp.push { cls:=.type "tuple_iterator",data:=.fields #[.ref t,.int 0 0] },g,d,tk,os⟩) u ys:=hu.elim λo y=>⟨o,aI3 _ y.1,y.2⟩
  wp_walk using aS3 a1,aS3 a2
  have e:∀(o:Obj) (k:Heap),(k.push o).objs.size=k.objs.size+1:=λo k=>aQ5 ..
  refine⟨_,rfl,?_⟩
  simp only[eF,e]at h ⊢
  exact h
section
variable {prog:Program}{w:World}{A:Around}{E:Value→Shared→Prop}{s:Shared}
theorem ad2 {t u:Addr}{xs ys:Array Value}{Q:Value->Shared->Prop}(ht:s.heap.IsTuple t xs)(hu:s.heap.IsTuple u ys)(q:∀h',IsZip h' (s.heap.objs.size+4) (s.heap.objs.size+2) (s.heap.objs.size+3) .none->IsPair h' (s.heap.objs.size+2) (.ref s.heap.objs.size) (.ref (s.heap.objs.size+1))->
   IsPair h' (s.heap.objs.size+3) .none .none->h'.IsTupleIter s.heap.objs.size t 0->h'.IsTupleIter (s.heap.objs.size+1) u 0->(∀c o,s.heap.get? c=some o->h'.get? c=some o)->Q (.ref (s.heap.objs.size+4)) { s with heap:=h' }) :
  wpAny (model prog w) A (call (.type "zip") [.ref t,.ref u]) Q E s:=by
 refine callType_new PySem.F.called_zip (by decide) (PySem.F.typeCall_zip_2 _ _) (PySem.F.newCall_zip_2 _ _) (λobj=>PySem.F.args_object_init_3 obj _ _) PySem.F.entry_zip_new (ad1 t u xs ys) ⟨ht,hu,?_⟩
 have e:∀(o:Obj) (k:Heap),(k.push o).objs.size=k.objs.size+1:=λo k=>aQ5 ..
 have p0:∀(k:Heap) (o:Obj) (m:Nat),o.isFreed=false->m=k.objs.size->(k.push o).get? m=some o:=λk o m f z=>by rw[z];exact aK1 _ f
 have g0:(eF s.heap t u).get? s.heap.objs.size=some { cls:=.type "tuple_iterator",data:=.fields #[.ref t,.int 0 0] }:=by
  unfold eF
  exact aI3 _ (aI3 _ (aI3 _ (aI3 _ (p0 _ _ _ rfl rfl))))
 have g1:(eF s.heap t u).get? (s.heap.objs.size+1)=some { cls:=.type "tuple_iterator",data:=.fields #[.ref u,.int 0 0] }:=by
  unfold eF
  exact aI3 _ (aI3 _ (aI3 _ (p0 _ _ _ rfl (by simp only[e]))))
 have g2:(eF s.heap t u).get? (s.heap.objs.size+2)=some { cls:=.type "tuple",data:=.seq #[.ref s.heap.objs.size,.ref (s.heap.objs.size+1)] }:=by
  unfold eF
  exact aI3 _ (aI3 _ (p0 _ _ _ rfl (by simp only[e])))
 have g3:(eF s.heap t u).get? (s.heap.objs.size+3)=some { cls:=.type "tuple",data:=.seq #[.none,.none] }:=by
  unfold eF
  exact aI3 _ (p0 _ _ _ rfl (by simp only[e]))
 have g4:(eF s.heap t u).get? (s.heap.objs.size+4)=some { cls:=.type "zip",data:=.fields #[.none,.bool false,.bool false,.ref (s.heap.objs.size+2),.ref (s.heap.objs.size+3)] }:=by
  unfold eF
  exact p0 _ _ _ rfl (by simp only[e])
 refine⟨⟨_,g4,rfl⟩,q _ g4 g2 g3 ⟨_,g0,rfl,rfl⟩ ⟨_,g1,rfl,rfl⟩ λc o z=>?_⟩
 unfold eF
 exact aI3 _ (aI3 _ (aI3 _ (aI3 _ (aI3 _ z))))
end
end Zp
namespace L2
open PySem PySem.Spec PyProof.Rows
noncomputable def rZ (K:ac)(a b:Addr):It:=
  ⟨λi H=>∃xs ys x y,aI K H a xs/\aI K H b ys/\xs[i]? = some x/\ys[i]? = some y,
   λi H v H'=>∃T x y,H T=none/\v = .ref T/\H'=upd H T (.tup [x,y])/\∀xs ys,aI K H a xs->aI K H b ys->xs[i]? = some x/\ys[i]? = some y,
   λi H=>∃xs ys,aI K H a xs/\aI K H b ys/\(i=xs.length∨(i<xs.length/\i=ys.length))⟩
noncomputable def Sq (t:Bool)(K:ac)(H:Hp)(a:Addr)(xs:List V):Prop:=match t with
 |true=>aI K H a xs
 |false=>aL K H a xs
noncomputable def eG (t:Bool)(h:Heap)(i a:Addr)(n:Nat):Prop:=match t with
 |true=>h.IsTupleIter i a n
 |false=>h.IsListIter i a n
noncomputable def yA (t:Bool)(h:Heap)(a:Addr)(xs:Array Value):Prop:=match t with
 |true=>h.IsTuple a xs
 |false=>h.IsList a xs
theorem eG.at {h h':Heap}{i a:Addr}{n:Nat}:∀{t:Bool},eG t h i a n->(∀o,h.get? i=some o->h'.get? i=some o)->eG t h' i a n
 |true,x,k=>Heap.IsTupleIter.at x k
 |false,x,k=>Heap.IsListIter.at x k
theorem eG.ob {h:Heap}{i a:Addr}{n:Nat}:∀{t:Bool},eG t h i a n->∃o,h.get? i=some o/\∀v,o.data≠.cell v
 |true,⟨o,f,_,d⟩=>⟨o,f,λv q=>by rw[d]at q;cases q⟩
 |false,⟨o,f,_,d⟩=>⟨o,f,λv q=>by rw[d]at q;cases q⟩
theorem eG.draws {prog:Program}{w:World}{A:Around}:∀(t:Bool) (hh:A.handled=none) (it a:Addr) (ne:a≠it) (items:Array Value),Draws prog w A it [it,a] items.size (λi v=>items[i]? = some v) (λi h=>eG t h it a i/\yA t h a items)
 |true,hh,it,a,ne,items=>Zp.ad0 hh it a ne items
 |false,hh,it,a,ne,items=>Draws.list hh it a ne items
section
variable {X:Cx}{pins:List (Addr×Obj)}{σ:St}{H:Hp}{s:Shared}{a:Addr}{xs ys:List V}
theorem Sq.get (I:a5 X pins σ H s):∀{t:Bool},Sq t X.K H a xs->∃us,aK xs us/\yA t s.heap a us.toArray
 |true,h=>by obtain⟨us,r,p,_⟩:=I.tuple h;exact⟨us,r,p⟩
 |false,h=>by obtain⟨us,r,p,_⟩:=I.list h;exact⟨us,r,p.isList⟩
theorem Sq.inj (I:a5 X pins σ H s):∀{t:Bool},Sq t X.K H a xs->Sq t X.K H a ys->xs=ys
 |true,h,g=>I.tuple_inj h g
 |false,h,g=>I.list_inj h g
theorem Sq.off (I:a5 X pins σ H s)(he:H a=none)(hb:X.base.get? a=none):∀{t:Bool},Sq t X.K H a xs->False
 |true,h=>by
  rcases h with (h|⟨_,h⟩)|⟨o,_,_,h,_⟩
  ·rw[he]at h;cases h
  ·rw[he]at h;cases h
  ·have:=I.ok.mod.kin a o h
   rw[hb]at this;cases this
 |false,h=>by
  rcases h with (h|⟨_,h⟩)|⟨o,_,_,h,_⟩
  ·rw[he]at h;cases h
  ·rw[he]at h;cases h
  ·have:=I.ok.mod.kin a o h
   rw[hb]at this;cases this
end
noncomputable def ad3 (t1 t2:Bool)(K:ac)(a b:Addr):It:=
  ⟨λi H=>∃xs ys x y,Sq t1 K H a xs/\Sq t2 K H b ys/\xs[i]? = some x/\ys[i]? = some y,
   λi H v H'=>∃T x y,H T=none/\v = .ref T/\H'=upd H T (.tup [x,y])/\∀xs ys,Sq t1 K H a xs->Sq t2 K H b ys->xs[i]? = some x/\ys[i]? = some y,
   λi H=>∃xs ys,Sq t1 K H a xs/\Sq t2 K H b ys/\(i=xs.length∨(i<xs.length/\i=ys.length))⟩
structure sA (t1 t2:Bool)(z TI TO i1 i2 a b:Addr)(i:Nat)(h:Heap):Prop where
 zz:IsZip h z TI TO .none
 ti:IsPair h TI (.ref i1) (.ref i2)
 to_:∃x y,IsPair h TO x y
 s1:eG t1 h i1 a i
 s2:eG t2 h i2 b i
theorem yB (t1 t2:Bool){P:Program}{w:World}{K:ac}{elts:List Expr}{k:Nat}{pos:Pos}(a b z TI TO i1 i2:Addr)(d:[z,TI,TO,i1,i2].Nodup) :
  fM P w K (.Tuple elts k pos) (ad3 t1 t2 K a b) [z,TI,TO,i1,i2] z (sA t1 t2 z TI TO i1 i2 a b):=by
 have nd:z≠TI/\z≠TO/\z≠i1/\z≠i2/\TI≠TO/\TI≠i1/\TI≠i2/\TO≠i1/\TO≠i2/\i1≠i2:=by
  simp only[List.nodup_cons,aI5,aJ6,aM1,not_or]at d
  obtain⟨⟨a1,a2,a3,a4⟩,⟨b1,b2,b3⟩,⟨c1,c2⟩,e1,_⟩:=d
  exact⟨a1,a2,a3,a4,b1,b2,b3,c1,c2,e1⟩
 obtain⟨n1,n2,n3,n4,n5,n6,n7,n8,n9,n10⟩:=nd
 have offBase:∀{X:Cx}{pins:List (Addr×Obj)}{σ:St}{H:Hp}{s:Shared},a5 X pins σ H s->(∀c∈[z,TI,TO,i1,i2],dG X pins H c)->∀c∈[z,TI,TO,i1,i2],X.base.get? c=none:=by
  intro X pins σ H s I hf c hc
  cases q:X.base.get? c with
  |none=>rfl
  |some o=>
   rcases (hf c hc).2.2.2.1 with h|h
   ·exact absurd h (I.ok.noex c o q)
   ·exact absurd (aI9 (aJ3 q) (aN2 I.ok.bsz h)) (aM4 _)
 have off:∀{t:Bool}{X:Cx}{pins:List (Addr×Obj)}{σ:St}{H:Hp}{s:Shared}{c:Addr}{zs:List V},a5 X pins σ H s->(∀c∈[z,TI,TO,i1,i2],dG X pins H c)->Sq t X.K H c zs->c∉[z,TI,TO,i1,i2]:=by
  intro t X pins σ H s c zs I hf hc hm
  exact Sq.off I (hf c hm).1 (offBase I hf c hm) hc
 have ap:∀{c e:Addr},c∉[z,TI,TO,i1,i2]->e∉[z,TI,TO,i1,i2]->Zp.Ap z TI TO i1 i2 [i1,c] [i2,e]:=λ{c e} hc he=>by
  simp only[aI5,aJ6,aM1,not_or]at hc he
  obtain⟨c1,c2,c3,c4,c5⟩:=hc
  obtain⟨e1,e2,e3,e4,e5⟩:=he
  have two:∀{q u v:Addr},q≠u->q≠v->q∉[u,v]:=λ{q u v} h1 h2 hm=>by
   simp only[aI5,aJ6,aM1]at hm
   exact hm.elim h1 h2
  exact⟨n1.symm,n2.symm,n5,two n3 (Ne.symm c1),two n4 (Ne.symm e1),two n8 (Ne.symm c3),two n9 (Ne.symm e3),two n6 (Ne.symm c2),two n7 (Ne.symm e2),aK0,aK0,two n10 (Ne.symm e4),two n10.symm (Ne.symm c5)⟩
 refine⟨by simp,λi h st c hc=>?_,λi h h' st kp=>?_,?_,?_,λA i s Q E st q=>wpAny_pyIter_zip st.zz q⟩
 ·simp only[aI5,aJ6,aM1]at hc
  obtain⟨x,y,to⟩:=st.to_
  rcases hc with rfl|rfl|rfl|rfl|rfl
  ·exact⟨_,st.zz,λv q=>by cases q⟩
  ·exact⟨_,st.ti,λv q=>by cases q⟩
  ·exact⟨_,to,λv q=>by cases q⟩
  ·exact st.s1.ob
  ·exact st.s2.ob
 ·obtain⟨x,y,to⟩:=st.to_
  exact⟨kp z (by simp) _ st.zz,kp TI (by simp) _ st.ti,⟨x,y,kp TO (by simp) _ to⟩,st.s1.at λo e=>kp i1 (by simp) o e,st.s2.at λo e=>kp i2 (by simp) o e⟩
 ·
  intro X hP hw hK hc i pins s σ H E I hf st hg
  subst hP hw hK
  obtain⟨xs,ys,x,y,ha,hb,hx,hy⟩:=hg
  obtain⟨us,ru,pu⟩:=Sq.get I ha
  obtain⟨vs,rv,pv'⟩:=Sq.get I hb
  obtain⟨ux,eux,rux⟩:=ru.get hx
  obtain⟨vy,evy,rvy⟩:=rv.get hy
  have fa:=off I hf ha
  have fb:=off I hf hb
  have hh:X.A.in1.handled=none:=I.ok.hd hc
  have l1:i<us.toArray.size:=by simpa using (aK3.mp eux).1
  have l2:i<vs.toArray.size:=by simpa using (aK3.mp evy).1
  have fa':a≠i1:=λq=>fa (by rw[q];simp)
  have fb':b≠i2:=λq=>fb (by rw[q];simp)
  have D1:=eG.draws t1 (prog:=X.prog) (w:=X.w) hh i1 a fa' us.toArray
  have D2:=eG.draws t2 (prog:=X.prog) (w:=X.w) hh i2 b fb' vs.toArray
  refine Zp.item D1 D2 (ap fa fb) l1 l2 ⟨st.zz,st.ti,st.to_,⟨st.s1,pu⟩,⟨st.s2,pv'⟩⟩ λp q h' tk hp hq st' pr kp sz=>⟨_,rfl,?_⟩
  obtain rfl:p=ux:=by
   have:us.toArray[i]? = some ux:=by simpa using eux
   rw[this]at hp;exact (aL1 hp).symm
  obtain rfl:q=vy:=by
   have:vs.toArray[i]? = some vy:=by simpa using evy
   rw[this]at hq;exact (aL1 hq).symm
  refine wpAny_letOwnedTupleGo_zip (s:={ s with heap:=h',toks:=tk }) st'.zz λg zz sb=>?_
  have hzl:z<s.heap.objs.size:=aJ3 st.zz
  have up:∀c o,c≠z->c≠TO->c≠i1->c≠i2->s.heap.get? c=some o->g.get? c=some o:=λc o c1 c2 c3 c4 e=>sb.extBut c o c1 (kp c o c1 c2 c3 c4 e)
  have hT:H s.heap.objs.size=none:=I.hok.fresh (aI6 _)
  have prG:IsPair g s.heap.objs.size p q:=sb.extBut _ _ (aQ0 hzl) pr
  have fpn:∀c u,H c=some u->c∉[z,TI,TO,i1,i2]:=λc u e hm=>by rw[(hf c hm).1]at e;cases e
  have upH:∀c o u,H c=some u->s.heap.get? c=some o->g.get? c=some o:=λc o u e z=>by
   have:=fpn c u e
   simp only[aI5,aJ6,aM1,not_or]at this
   exact up c o this.1 this.2.2.1 this.2.2.2.1 this.2.2.2.2 z
  have ns:∀m,s.heap.Ns X.env.locals m->g.Ns X.env.locals m:=λm hm=>by
   obtain⟨o,es,ep,e1,e2⟩:=hm
   exact⟨o,es,ep,up _ o (Ne.symm (hf z (by simp)).2.1) (Ne.symm (hf TO (by simp)).2.1) (Ne.symm (hf i1 (by simp)).2.1) (Ne.symm (hf i2 (by simp)).2.1) e1,e2⟩
  have I2:a5 X pins σ (upd H s.heap.objs.size (.tup [x,y])) { s with heap:=g,toks:=tk }:=by
   refine I.step (g':=s.gens) (d':=s.drawn) (ch:=[z,TO,i1,i2]) (λc hc'=>?_) (λc o _ _ hc' e _=>?_) (λc o _ _ hc' e _=>⟨o.slots,?_⟩) (λc o _ e n=>?_) (λc o hc' e=>⟨o,?_⟩)
    (λc zs e=>by rw[aN (cG e hT)];exact e) (λc u zs e=>by rw[aN (cG e hT)];exact e) (λc ps e=>⟨#[],by rw[aN (cG e hT),e];simp⟩) ns (λc u e=>?_) I.bare
   ·have hm:c∈[z,TI,TO,i1,i2]:=by
     simp only[aI5,aJ6,aM1]at hc' ⊢
     rcases hc' with h|h|h|h<;>simp[h]
    exact⟨(hf c hm).2.2.2.1,(hf c hm).2.1,(hf c hm).2.2.2.2.1,(hf c hm).2.2.2.2.2⟩
   ·simp only[aI5,aJ6,aM1,not_or]at hc'
    exact up c o hc'.1 hc'.2.1 hc'.2.2.1 hc'.2.2.2 e
   ·simp only[aI5,aJ6,aM1,not_or]at hc'
    exact up c o hc'.1 hc'.2.1 hc'.2.2.1 hc'.2.2.2 e
   ·rw[aN (aL4 (aJ3 e))];exact n
   ·simp only[aI5,aJ6,aM1,not_or]at hc'
    exact up c o hc'.1 hc'.2.1 hc'.2.2.1 hc'.2.2.2 e
   ·by_cases hcT:c=s.heap.objs.size
    ·subst hcT
     rw[bB]at e;cases e
     exact⟨by show 2<=sizeLine;decide,[p,q],.cons rux (.cons rvy .nil),⟨_,prG,rfl,_,rfl⟩,λu e=>by rw[prG]at e;cases e;rfl⟩
    ·rw[aN hcT]at e
     refine (I.hok c u e).stay (λc' o' hc2 q'=>?_) (λc' q'=>by rw[aN (cG q' hT)];exact q') λc' zs q'=>by rw[aN (cG q' hT)];exact q'
     rcases hc2 with rfl|hc2
     ·exact upH _ _ _ e q'
     ·exact upH _ _ _ hc2 q'
  obtain⟨x',y',to'⟩:=st'.to_
  refine⟨.ref s.heap.objs.size,_,I2,rfl,⟨_,x,y,hT,rfl,rfl,λxs' ys' ha' hb'=>?_⟩,⟨zz,sb.extBut _ _ n1.symm st'.ti,⟨x',y',sb.extBut _ _ n2.symm to'⟩,st'.s1.1.at λo e=>sb.extBut _ o n3.symm e,st'.s2.1.at λo e=>sb.extBut _ o n4.symm e⟩,λc hc'=>?_⟩
  ·rw[Sq.inj I ha' ha,Sq.inj I hb' hb];exact⟨hx,hy⟩
  ·obtain⟨o,e,_⟩:∃o,s.heap.get? c=some o/\True:=by
    simp only[aI5,aJ6,aM1]at hc'
    obtain⟨x2,y2,to2⟩:=st.to_
    obtain⟨o1,f1,_⟩:=st.s1.ob
    obtain⟨o2,f2,_⟩:=st.s2.ob
    rcases hc' with rfl|rfl|rfl|rfl|rfl
    ·exact⟨_,st.zz,trivial⟩
    ·exact⟨_,st.ti,trivial⟩
    ·exact⟨_,to2,trivial⟩
    ·exact⟨_,f1,trivial⟩
    ·exact⟨_,f2,trivial⟩
   rw[aN (aL4 (aJ3 e))];exact (hf c hc').1
 ·
  intro X hP hw hK hc i pins s σ H E I hf st hg
  subst hP hw hK
  obtain⟨xs,ys,ha,hb,hi⟩:=hg
  obtain⟨us,ru,pu⟩:=Sq.get I ha
  obtain⟨vs,rv,pv'⟩:=Sq.get I hb
  have fa:=off I hf ha
  have fb:=off I hf hb
  have hh:X.A.in1.handled=none:=I.ok.hd hc
  have fa':a≠i1:=λq=>fa (by rw[q];simp)
  have fb':b≠i2:=λq=>fb (by rw[q];simp)
  have D1:=eG.draws t1 (prog:=X.prog) (w:=X.w) hh i1 a fa' us.toArray
  have D2:=eG.draws t2 (prog:=X.prog) (w:=X.w) hh i2 b fb' vs.toArray
  have e1:=ru.length
  have e2:=rv.length
  refine Zp.fin D1 D2 (ap fa fb) (by simp only[aI4];omega) ⟨st.zz,st.ti,st.to_,⟨st.s1,pu⟩,⟨st.s2,pv'⟩⟩ λg tk kp=>⟨rfl,?_⟩
  have fpn:∀c u,H c=some u->c∉[z,TI,TO,i1,i2]:=λc u e hm=>by rw[(hf c hm).1]at e;cases e
  have upH:∀c o u,H c=some u->s.heap.get? c=some o->g.get? c=some o:=λc o u e z=>by
   have:=fpn c u e
   simp only[aI5,aJ6,aM1,not_or]at this
   exact kp c o this.1 this.2.2.1 this.2.2.2.1 this.2.2.2.2 z
  have ns:∀m,s.heap.Ns X.env.locals m->g.Ns X.env.locals m:=λm hm=>by
   obtain⟨o,es,ep,e1,e2⟩:=hm
   exact⟨o,es,ep,kp _ o (Ne.symm (hf z (by simp)).2.1) (Ne.symm (hf TO (by simp)).2.1) (Ne.symm (hf i1 (by simp)).2.1) (Ne.symm (hf i2 (by simp)).2.1) e1,e2⟩
  refine I.step (g':=s.gens) (d':=s.drawn) (ch:=[z,TO,i1,i2]) (λc hc'=>?_) (λc o _ _ hc' e _=>?_) (λc o _ _ hc' e _=>⟨o.slots,?_⟩) (λc o _ e n=>n) (λc o hc' e=>⟨o,?_⟩)
   (λc zs e=>e) (λc u zs e=>e) (λc ps e=>⟨#[],by rw[e];simp⟩) ns (λc u e=>?_) I.bare
  ·have hm:c∈[z,TI,TO,i1,i2]:=by
    simp only[aI5,aJ6,aM1]at hc' ⊢
    rcases hc' with h|h|h|h<;>simp[h]
   exact⟨(hf c hm).2.2.2.1,(hf c hm).2.1,(hf c hm).2.2.2.2.1,(hf c hm).2.2.2.2.2⟩
  ·simp only[aI5,aJ6,aM1,not_or]at hc'
   exact kp c o hc'.1 hc'.2.1 hc'.2.2.1 hc'.2.2.2 e
  ·simp only[aI5,aJ6,aM1,not_or]at hc'
   exact kp c o hc'.1 hc'.2.1 hc'.2.2.1 hc'.2.2.2 e
  ·simp only[aI5,aJ6,aM1,not_or]at hc'
   exact kp c o hc'.1 hc'.2.1 hc'.2.2.1 hc'.2.2.2 e
  ·refine (I.hok c u e).stay (λc' o' hc2 q'=>?_) (λ_ q'=>q') λ_ _ q'=>q'
   rcases hc2 with rfl|hc2
   ·exact upH _ _ _ e q'
   ·exact upH _ _ _ hc2 q'
noncomputable abbrev ad4:=sA true true
theorem ad5 {P:Program}{w:World}{K:ac}{elts:List Expr}{k:Nat}{pos:Pos}(a b z TI TO i1 i2:Addr)(d:[z,TI,TO,i1,i2].Nodup) :
  fM P w K (.Tuple elts k pos) (rZ K a b) [z,TI,TO,i1,i2] z (ad4 z TI TO i1 i2 a b):=yB true true a b z TI TO i1 i2 d
section
variable {X:Cx}
theorem ad6 (hc:X.calm=true):cN X (.builtin "all") (λxs H Q=>∃(a:Addr) (bs:List Bool),xs = [.ref a]/\aL X.K H a (bs.map V.bl)/\Q (.bl (bs.all id)) H):=by
 intro pins s σ H xs us Q I r h
 obtain⟨a,bs,rfl,hq,q⟩:=h
 obtain⟨u,rfl,ru⟩:=gV r
 cases ru
 obtain⟨its,rv,p,hz⟩:=I.list hq
 have hl:=rv.length
 rw[aJ2]at hl
 have hlt:a<s.heap.objs.size:=by obtain⟨o,e,_⟩:=p.isList;exact aJ3 e
 refine call_all_walk (wpAny_pyIter_list p.isList ?_)
 have hh:X.A.in1.handled=none:=I.ok.hd hc
 refine⟨s.heap.objs.size,_,_,_,_,_,λi=>bs.getD i false,rfl,Walks.list hh s.heap.objs.size a (aL4 hlt) its.toArray,⟨⟨_,aK1 _ rfl,rfl,rfl⟩,p.isList.push _⟩,?_,λh' tk kp=>?_⟩
 ·intro i v s' Q' E' hP hQ'
  have hi:its[i]? = some v:=by simpa using hP
  have hil:i<bs.length:=by rw[hl];exact (aK3.mp hi).1
  obtain⟨u,e1,e2⟩:=rv.get (i:=i) (x:=.bl bs[i]) (by simp[hil])
  rw[hi]at e1;cases e1
  cases e2
  have:bs.getD i false=bs[i]:=by rw[aL7,aI8 hil];rfl
  have hQ2:Q' (bs.getD i false) s':=hQ'
  rw[this]at hQ2
  exact aS9 hQ2
 ·have all_eq:(List.range its.toArray.size).all (λi=>bs.getD i false)=bs.all id:=by
   rw[aI4,<- hl]
   clear q rv hz hl hq hlt p hh kp
   induction bs with
   |nil=>rfl
   |cons b r ih=>
    rw[aM0,List.range_succ_eq_map,aR5,List.all_map,aR5,<- ih]
    rfl
  rw[all_eq]
  refine⟨.bl (bs.all id),H,I.kept (t':=tk) (h':=h') λb o e=>kp b o (λz=>?_) (aI3 _ e),rfl,q⟩
  rw[aJ7.mp z]at e
  exact absurd (aJ3 e) (aM4 _)
end
end L2
namespace HT
open PySem PyProof.Rows
section
variable {prog:Program}{w:World}{A:Around}{E:Value→Shared→Prop}{s:Shared}
theorem ad7 {t sl:Addr}{items:Array Value}{vl vu:Value}{lo hi:Option Int}{Q:Value->Shared->Prop}(ht:IsTup s.heap t items)(hs:s.heap.IsSliceOf sl vl vu .none)(pl:IsPart vl lo)(pu:IsPart vu hi)(h1:aO items.size 0 lo=0)(h2:aO items.size items.size hi=items.size)(h:Q (.ref t) s):wpAny (model prog w) A (getItem (.ref t) (.ref sl)) Q E s:=by
 obtain⟨o,e1,e2,e3⟩:=id hs
 have T:s.TypeIs (.ref sl) "slice":=⟨o,e1,e2⟩
 unfold getItem
 try with_reducible refine aQ6 ?_
 first|refine aI2 (aI7 ?_)|skip
 apply aI2
 apply wpAny_sequenceKey ht.typeIs (by decide)
 apply aI2
 apply aN4 (name:=Str.ofString "__getitem__") ht.typeIs aS0
 apply aO9 aS0 ht.typeIs entry_tuple_getitem _ (args_tuple_getitem _ _)
 change wpAny _ _ (Builtin.Tuple.tupleItemsOf (.ref t) >>= _) _ _ s
 apply aI2
 apply tupleItemsOf_ ht
 apply aI2
 apply wpAny_typeOf T
 rw[if_pos (by decide)]
 apply aI2
 apply wM hs pl pu
 rw[h1,h2]
 have yes:((((0:Nat):Int)==0&&(1:Int)==1&&(items.size-0)==items.size)=true):=by simp
 change wpAny _ _ (if ((((0:Nat):Int)==0&&(1:Int)==1&&(items.size-0)==items.size)=true) then _ else _) _ _ s
 rw[if_pos yes]
 apply aI2
 unfold Builtin.Tuple.tupleIsExact
 apply aI2
 apply wpAny_typeOf ht.typeIs
 apply aI7
 change wpAny _ _ (rule "tuple.getitem.whole" >>= λ_=>ret (Value.ref t)) _ _ s
 apply aI2
 apply aV8
 exact aI7 ⟨_,rfl,aI7 h⟩
end
end HT
namespace L2
open PySem PySem.Spec PyProof.Rows
section
variable {X:Cx}
noncomputable def ad8 (K:ac):V->Option Int->Option Int->Hp->VK->Prop:=λx lo hi H Q=>∃a xs,x = .ref a/\aI K H a xs/\(∀p,H p=none->Q (.ref p) (upd H p (.tup (fO xs lo hi))))/\(fO xs lo hi=xs->Q (.ref a) H)
theorem ad9:iK X (ad8 X.K):=by
 intro pins s σ H x v vl vu lo hi sl Q I rx hs pl pu h
 obtain⟨a,xs,ex,hx,q1,q2⟩:=h
 by_cases hw:HT.aO xs.length 0 lo=0/\HT.aO xs.length xs.length hi=xs.length
 ·subst ex
  cases rx
  obtain⟨its,r,ht,hz⟩:=I.tuple hx
  have hlen:its.toArray.size=xs.length:=by rw[aI4];exact r.length.symm
  refine⟨"tuple",_,PyProof.Rows.slot_tuple_getitem.lookup,ht.typeIs,?_⟩
  refine HT.ad7 ht hs pl pu (by rw[hlen];exact hw.1) (by rw[hlen];exact hw.2) ⟨.ref a,H,I,rfl,q2 ?_⟩
  unfold fO
  rw[hw.1,hw.2]
  simp
 ·exact X5 pins s σ H x v vl vu lo hi sl Q I rx hs pl pu ⟨a,xs,ex,hx,hw,q1⟩
end
noncomputable def sB (K:ac)(a b:Addr):It:=
  ⟨λi H=>∃xs ys x y,aL K H a xs/\aL K H b ys/\xs[i]? = some x/\ys[i]? = some y,
   λi H v H'=>∃T x y,H T=none/\v = .ref T/\H'=upd H T (.tup [x,y])/\∀xs ys,aL K H a xs->aL K H b ys->xs[i]? = some x/\ys[i]? = some y,
   λi H=>∃xs ys,aL K H a xs/\aL K H b ys/\(i=xs.length∨(i<xs.length/\i=ys.length))⟩
noncomputable abbrev ae0:=sA false false
theorem ae1 {P:Program}{w:World}{K:ac}{elts:List Expr}{k:Nat}{pos:Pos}(a b z TI TO i1 i2:Addr)(d:[z,TI,TO,i1,i2].Nodup) :
  fM P w K (.Tuple elts k pos) (sB K a b) [z,TI,TO,i1,i2] z (ae0 z TI TO i1 i2 a b):=yB false false a b z TI TO i1 i2 d
end L2
namespace PP
open PySem L2
inductive PV where
 |non|bl (b:Bool)|int (i:Int)|str (x:Str)|tup (xs:List PV)|lst (xs:List PV)
 |dK (kvs:List (aH×PV))|dT (kvs:List (List aH×PV))|scr (ns:ae)|kt (xs:List PV)|exc (c:Str)|fK (kvs:List (aH×PV))|fT (kvs:List (List aH×PV))|fL (xs:List PV)|fn (x:Str)|ob (a:Addr)
mutual
noncomputable def flat:PV->Bool
 |.tup xs=>flats xs
 |.lst _=>false
 |.dK _=>false
 |.dT _=>false
 |.non=>true
 |.bl _=>true
 |.int _=>true
 |.str _=>true
 |.scr _=>true
 |.kt xs=>flats xs
 |.exc _=>true
 |.fK _=>false
 |.fT _=>false
 |.fL xs=>flats xs
 |.fn _=>true
 |.ob _=>true
noncomputable def flats:List PV->Bool
 |[]=>true
 |x::r=>flat x&&flats r
end
noncomputable def hV (K:ac)(H:Hp)(a:Addr)(ns:ae):Prop:=(∃o,H a=some (.frz o (.lst (ns.map V.int)))) ∨
  ∃(o:Obj) (its:Array Value) (n:Nat),K.lookup a=some o/\o.cls = .type "list"/\o.dict=none/\o.data = .seq its n/\its.size<=sizeLine/\aK (ns.map V.int) its.toList
noncomputable def kJ (K:ac)(a:Addr)(us:List V):Prop:=∃(o:Obj) (its:Array Value) (n:Nat),K.lookup a=some o/\o.cls = .type "tuple"/\o.data = .seq its n/\its.size<=sizeLine/\aK us its.toList
mutual
inductive aF (K:ac)(M:Addr->Prop)(H:Hp):V->PV->Prop
 |non:aF K M H .non .non
 |bl (b:Bool):aF K M H (.bl b) (.bl b)
 |int (i:Int):aF K M H (.int i) (.int i)
 |str (x:Str):aF K M H (.str x) (.str x)
 |tup {a:Addr}{us:List V}{xs:List PV}:H a=some (.tup us)->Reps K M H us xs->aF K M H (.ref a) (.tup xs)
 |lst {a:Addr}{us:List V}{xs:List PV}:M a->H a=some (.lst us)->Reps K M H us xs->aF K M H (.ref a) (.lst xs)
 |dK {a:Addr}{kvs:List (aH×V)}{ps:List (aH×PV)}:M a->H a=some (.dK kvs)->kvs.map (·.1)=ps.map (·.1)->Reps K M H (kvs.map (·.2)) (ps.map (·.2))->aF K M H (.ref a) (.dK ps)
 |dT {a:Addr}{kvs:List (List aH×V)}{ps:List (List aH×PV)}:M a->H a=some (.dT kvs)->kvs.map (·.1)=ps.map (·.1)->Reps K M H (kvs.map (·.2)) (ps.map (·.2))->aF K M H (.ref a) (.dT ps)
 |scr {a:Addr}{ns:ae}:hV K H a ns->aF K M H (.ref a) (.scr ns)
 |kt {a:Addr}{us:List V}{xs:List PV}:kJ K a us->Reps K M H us xs->aF K M H (.ref a) (.kt xs)
 |exc {a C:Addr}{o:Obj}{c:Str}:H a=some (.frz o (.own a))->PySem.W.nsIn K mainGlobals c=some (some (.ref C))->o.cls = .ref C->aF K M H (.ref a) (.exc c)
 |fK {a:Addr}{o:Obj}{kvs:List (aH×V)}{ps:List (aH×PV)}:H a=some (.frz o (.dK kvs))->kvs.map (·.1)=ps.map (·.1)->Reps K M H (kvs.map (·.2)) (ps.map (·.2))->aF K M H (.ref a) (.fK ps)
 |fT {a:Addr}{o:Obj}{kvs:List (List aH×V)}{ps:List (List aH×PV)}:H a=some (.frz o (.dT kvs))->kvs.map (·.1)=ps.map (·.1)->Reps K M H (kvs.map (·.2)) (ps.map (·.2))->aF K M H (.ref a) (.fT ps)
 |fL {a:Addr}{o:Obj}{us:List V}{xs:List PV}:H a=some (.frz o (.lst us))->Reps K M H us xs->aF K M H (.ref a) (.fL xs)
 |fn {f:Addr}{x:Str}:PySem.W.nsIn K mainGlobals x=some (some (.ref f))->aF K M H (.ref f) (.fn x)
 |ob {a:Addr}:aF K M H (.ref a) (.ob a)
inductive Reps (K:ac)(M:Addr->Prop)(H:Hp):List V->List PV->Prop
 |nil:Reps K M H [] []
 |cons {v:V}{x:PV}{vs:List V}{xs:List PV}:aF K M H v x->Reps K M H vs xs->Reps K M H (v::vs) (x::xs)
end
noncomputable def sC:HO->Bool
 |.frz _ _=>true
 |_=>false
noncomputable def yC:HO->Bool
 |.frz _ u=>sC u
 |.ins _ _ _=>true
 |_=>false
structure fU (M M':Addr->Prop)(H H':Hp):Prop where
 lst:∀a us,M a->H a=some (.lst us)->M' a/\H' a=some (.lst us)
 dK:∀a kvs,M a->H a=some (.dK kvs)->M' a/\H' a=some (.dK kvs)
 dT:∀a kvs,M a->H a=some (.dT kvs)->M' a/\H' a=some (.dT kvs)
 tup:∀a us,H a=some (.tup us)->H' a=some (.tup us)
 frz:∀a o u,H a=some (.frz o u)->sC u=false->H' a=some (.frz o u)
theorem hV.keep {K:ac}{H H':Hp}{a:Addr}{ns:ae}(k:∀a o u,H a=some (.frz o u)->sC u=false->H' a=some (.frz o u))(h:hV K H a ns):hV K H' a ns:=
 h.elim (λ⟨o,e⟩=>.inl ⟨o,k _ _ _ e rfl⟩) .inr
mutual
theorem aF.keep {K:ac}{M M':Addr->Prop}{H H':Hp}(k:fU M M' H H'):∀{v:V}{x:PV},aF K M H v x->aF K M' H' v x
 |_,_,.non=>.non
 |_,_,.bl b=>.bl b
 |_,_,.int i=>.int i
 |_,_,.str x=>.str x
 |_,_,.tup h r=>.tup (k.tup _ _ h) (Reps.keep k r)
 |_,_,.lst m h r=>.lst (k.lst _ _ m h).1 (k.lst _ _ m h).2 (Reps.keep k r)
 |_,_,.dK m h e r=>.dK (k.dK _ _ m h).1 (k.dK _ _ m h).2 e (Reps.keep k r)
 |_,_,.dT m h e r=>.dT (k.dT _ _ m h).1 (k.dT _ _ m h).2 e (Reps.keep k r)
 |_,_,.scr h=>.scr (h.keep k.frz)
 |_,_,.kt h r=>.kt h (Reps.keep k r)
 |_,_,.exc h e c=>.exc (k.frz _ _ _ h rfl) e c
 |_,_,.fK h e r=>.fK (k.frz _ _ _ h rfl) e (Reps.keep k r)
 |_,_,.fT h e r=>.fT (k.frz _ _ _ h rfl) e (Reps.keep k r)
 |_,_,.fL h r=>.fL (k.frz _ _ _ h rfl) (Reps.keep k r)
 |_,_,.fn h=>.fn h
 |_,_,.ob=>.ob
theorem Reps.keep {K:ac}{M M':Addr->Prop}{H H':Hp}(k:fU M M' H H'):∀{vs:List V}{xs:List PV},Reps K M H vs xs->Reps K M' H' vs xs
 |_,_,.nil=>.nil
 |_,_,.cons r t=>.cons (aF.keep k r) (Reps.keep k t)
end
mutual
theorem aF.flat {K:ac}{M M':Addr->Prop}{H:Hp}{v:V}{x:PV}(f:flat x=true)(r:aF K M H v x):aF K M' H v x:=by
 cases r with
 |non=>exact .non
 |bl b=>exact .bl b
 |int i=>exact .int i
 |str x=>exact .str x
 |tup h r=>exact .tup h (Reps.flat (by unfold PP.flat at f;exact f) r)
 |lst m h r=>unfold PP.flat at f;cases f
 |dK m h e r=>unfold PP.flat at f;cases f
 |dT m h e r=>unfold PP.flat at f;cases f
 |scr h=>exact .scr h
 |kt h r=>exact .kt h (Reps.flat (by unfold PP.flat at f;exact f) r)
 |exc h e c=>exact .exc h e c
 |fK h e r=>unfold PP.flat at f;cases f
 |fT h e r=>unfold PP.flat at f;cases f
 |fL h r=>exact .fL h (Reps.flat (by unfold PP.flat at f;exact f) r)
 |fn h=>exact .fn h
 |ob=>exact .ob
theorem Reps.flat {K:ac}{M M':Addr->Prop}{H:Hp}{vs:List V}{xs:List PV}(f:flats xs=true)(r:Reps K M H vs xs):Reps K M' H vs xs:=by
 cases r with
 |nil=>exact .nil
 |cons r t=>
  unfold PP.flats at f
  rw[aN8]at f
  exact .cons (aF.flat f.1 r) (Reps.flat f.2 t)
end
theorem fU.same {M M':Addr->Prop}{H H':Hp}(s:aE H H')(m:∀a,M a->M' a):fU M M' H H':=
 ⟨λa _ h e=>⟨m a h,s _ _ e⟩,λa _ h e=>⟨m a h,s _ _ e⟩,λa _ h e=>⟨m a h,s _ _ e⟩,λ_ _ e=>s _ _ e,λ_ _ _ e _=>s _ _ e⟩
theorem aF.same {K:ac}{M M':Addr->Prop}{H H':Hp}{v:V}{x:PV}(r:aF K M H v x)(s:aE H H')(m:∀a,M a->M' a):aF K M' H' v x:=r.keep (.same s m)
theorem Reps.same {K:ac}{M M':Addr->Prop}{H H':Hp}{v:List V}{x:List PV}(r:Reps K M H v x)(s:aE H H')(m:∀a,M a->M' a):Reps K M' H' v x:=r.keep (.same s m)
noncomputable def dJ:HO->Bool
 |.lst _=>true
 |.dK _=>true
 |.dT _=>true
 |_=>false
theorem fU.upd {M M':Addr->Prop}{H:Hp}{a:Addr}{o o':HO}(h:H a=some o')(mu:dJ o'=true)(m:∀b,M b->b≠a/\M' b):fU M M' H (upd H a o):=
 ⟨λb _ hb e=>⟨(m b hb).2,by rw[aN (m b hb).1];exact e⟩,λb _ hb e=>⟨(m b hb).2,by rw[aN (m b hb).1];exact e⟩,λb _ hb e=>⟨(m b hb).2,by rw[aN (m b hb).1];exact e⟩,
  λb _ e=>by rw[aN (λz=>by rw[z,h]at e;cases e;cases mu)];exact e,
  λb _ _ e _=>by rw[aN (λz=>by rw[z,h]at e;cases e;cases mu)];exact e⟩
theorem Reps.length {K:ac}{M:Addr->Prop}{H:Hp}:∀{vs:List V}{xs:List PV},Reps K M H vs xs->vs.length=xs.length
 |_,_,.nil=>rfl
 |_,_,.cons _ t=>congrArg (·+1) t.length
theorem Reps.get {K:ac}{M:Addr->Prop}{H:Hp}:∀{vs:List V}{xs:List PV}{i:Nat}{v:V},Reps K M H vs xs->vs[i]? = some v->∃x,xs[i]? = some x/\aF K M H v x
 |_,_,_,_,.nil,e=>by simp at e
 |_,_,0,_,.cons r _,e=>by simp at e;subst e;exact⟨_,rfl,r⟩
 |_,_,i+1,v,.cons _ t,e=>by
  rw[aN5]at e
  obtain⟨x,h1,h2⟩:=t.get e
  exact⟨x,by rw[aN5];exact h1,h2⟩
theorem Reps.at {K:ac}{M:Addr->Prop}{H:Hp}:∀{vs:List V}{xs:List PV}{i:Nat}{x:PV},Reps K M H vs xs->xs[i]? = some x->∃v,vs[i]? = some v/\aF K M H v x
 |_,_,_,_,.nil,e=>by simp at e
 |_,_,0,_,.cons r _,e=>by simp at e;subst e;exact⟨_,rfl,r⟩
 |_,_,i+1,v,.cons _ t,e=>by
  rw[aN5]at e
  obtain⟨x,h1,h2⟩:=t.at e
  exact⟨x,by rw[aN5];exact h1,h2⟩
theorem Reps.append {K:ac}{M:Addr->Prop}{H:Hp}:∀{vs:List V}{xs:List PV}{us:List V}{ys:List PV},Reps K M H vs xs->Reps K M H us ys->Reps K M H (vs++us) (xs++ys)
 |_,_,_,_,.nil,s=>s
 |_,_,_,_,.cons r t,s=>.cons r (t.append s)
theorem Reps.set {K:ac}{M:Addr->Prop}{H:Hp}{v:V}{x:PV}(q:aF K M H v x):∀(i:Nat) {vs:List V}{xs:List PV},Reps K M H vs xs->Reps K M H (vs.set i v) (xs.set i x)
 |_,_,_,.nil=>.nil
 |0,_,_,.cons r t=>.cons q t
 |i+1,_,_,.cons r t=>.cons r (Reps.set q i t)
theorem Reps.take {K:ac}{M:Addr->Prop}{H:Hp}:∀(n:Nat) {vs:List V}{xs:List PV},Reps K M H vs xs->Reps K M H (vs.take n) (xs.take n)
 |0,_,_,_=>by simp;exact .nil
 |_+1,_,_,.nil=>.nil
 |n+1,_,_,.cons r t=>.cons r (Reps.take n t)
theorem Reps.drop {K:ac}{M:Addr->Prop}{H:Hp}:∀(n:Nat) {vs:List V}{xs:List PV},Reps K M H vs xs->Reps K M H (vs.drop n) (xs.drop n)
 |0,_,_,r=>r
 |_+1,_,_,.nil=>.nil
 |n+1,_,_,.cons _ t=>Reps.drop n t
theorem Reps.eraseIdx {K:ac}{M:Addr->Prop}{H:Hp}:∀(n:Nat) {vs:List V}{xs:List PV},Reps K M H vs xs->Reps K M H (vs.eraseIdx n) (xs.eraseIdx n)
 |_,_,_,.nil=>.nil
 |0,_,_,.cons _ t=>t
 |n+1,_,_,.cons r t=>.cons r (Reps.eraseIdx n t)
noncomputable abbrev intz (ns:ae):List PV:=ns.map PV.int
theorem Reps.intz {K:ac}{M:Addr->Prop}{H:Hp}:∀(ns:ae),Reps K M H (ns.map V.int) (intz ns)
 |[]=>.nil
 |n::r=>.cons (.int n) (Reps.intz r)
theorem Reps.ofInts {K:ac}{M:Addr->Prop}{H:Hp}:∀{ns:ae}{us:List V},Reps K M H us (PP.intz ns)->us=ns.map V.int
 |[],_,.nil=>rfl
 |n::r,_,.cons q t=>by
  cases q
  rw[Reps.ofInts t];rfl
theorem eI:∀(ns:ae),flats (intz ns)=true
 |[]=>rfl
 |n::r=>by show (flat (.int n)&&flats (intz r))=true;rw[eI r];rfl
inductive Tg|rd|sh|nw|fr
inductive Slot|sh (g:Bool) (x:PV)|own (x:PV)|kp (g:Bool) (a:Addr) (st un:List PV)
noncomputable def Slot.val:Slot->PV
 |.sh _ x=>x
 |.own x=>x
 |.kp _ a _ _=>.ob a
noncomputable def Slot.tag:Slot->Tg
 |.sh true _=>.nw
 |.sh false _=>.sh
 |.own _=>.rd
 |.kp _ _ _ _=>.nw
noncomputable abbrev b9:=List (Option Slot)
noncomputable def Ms (H0:Hp)(W:Addr->Prop):Bool->Addr->Prop
 |false,a=>¬W a
 |true,a=>¬W a/\H0 a=none
noncomputable def Mg (H0:Hp)(W:Addr->Prop)(Hs:Hp):Tg->Addr->Prop
 |.rd,_=>True
 |.sh,a=>¬W a
 |.nw,a=>¬W a/\H0 a=none
 |.fr,a=>Hs a=none
noncomputable def fV (K:ac)(M:Addr->Prop)(H:Hp)(a:Addr):PV->Prop
 |.lst xs=>∃us,H a=some (.lst us)/\Reps K M H us xs
 |.dK ps=>∃kvs,H a=some (.dK kvs)/\kvs.map (·.1)=ps.map (·.1)/\Reps K M H (kvs.map (·.2)) (ps.map (·.2))
 |.dT ps=>∃kvs,H a=some (.dT kvs)/\kvs.map (·.1)=ps.map (·.1)/\Reps K M H (kvs.map (·.2)) (ps.map (·.2))
 |_=>False
noncomputable def gH (K:ac)(H0 H:Hp)(a:Addr)(st un:List PV):Prop:=∃(C dx l1 l2:Addr) (o1 o2:Obj) (us1 us2:List V),PySem.W.nsIn K mainGlobals "Keeper" = some (some (.ref C))/\(H0 a=none/\H0 dx=none/\H0 l1=none/\H0 l2=none)/\l1≠l2/\H dx=some (.own a)/\
 H a=some (.ins C dx [("standing",.ref l1),("undone",.ref l2)])/\H l1=some (.frz o1 (.frz o1 (.lst us1)))/\H l2=some (.frz o2 (.frz o2 (.lst us2)))/\Reps K (λ_=>False) H us1 st/\Reps K (λ_=>False) H us2 un
theorem gH.keep {K:ac}{H0 H H':Hp}{a:Addr}{st un:List PV}(k:fU (λ_=>False) (λ_=>False) H H')(f:∀b o,H b=some o->dJ o=false->H' b=some o)(h:gH K H0 H a st un):gH K H0 H' a st un:=by
 obtain⟨C,dx,l1,l2,o1,o2,us1,us2,h1,h2,h3,h4,h5,h6,h7,r1,r2⟩:=h
 exact⟨C,dx,l1,l2,o1,o2,us1,us2,h1,h2,h3,f _ _ h4 rfl,f _ _ h5 rfl,f _ _ h6 rfl,f _ _ h7 rfl,r1.keep k,r2.keep k⟩
theorem gH.same {K:ac}{H0 H H':Hp}{a:Addr}{st un:List PV}(s:aE H H')(h:gH K H0 H a st un):gH K H0 H' a st un:=h.keep (.same s λ_ z=>z) λ_ _ e _=>s _ _ e
theorem gH.upd {K:ac}{H0 H:Hp}{a c:Addr}{o o':HO}{st un:List PV}(e:H c=some o')(mu:dJ o'=true)(h:gH K H0 H a st un):gH K H0 (upd H c o) a st un:=
 h.keep (.upd e mu λ_ z=>z.elim) λb u e2 m2=>by rw[aN (λz=>by rw[z,e]at e2;cases e2;rw[mu]at m2;cases m2)];exact e2
noncomputable def yD (K:ac)(H0:Hp)(W:Addr->Prop)(H:Hp)(v:V):Slot->Prop
 |.sh g x=>aF K (Ms H0 W g) H v x
 |.own x=>∃a,v = .ref a/\W a/\fV K (Ms H0 W true) H a x
 |.kp g a st un=>v = .ref a/\gH K (cond g H0 λ_=>none) H a st un
structure PX (K:ac)(H0:Hp)(W:Addr->Prop)(σ:St)(ρ:b9)(H:Hp):Prop where
 len:ρ.length=σ.length
 same:aE H0 H
 wm:∀a,W a->H0 a=none/\∃o,H a=some o/\dJ o=true
 sl:∀(i:Nat) (m:Slot),ρ[i]? = some (some m)->∃v,σ[i]? = some (some v)/\yD K H0 W H v m
 dis:∀(i j:Nat) (x y:PV) (a:Addr),ρ[i]? = some (some (.own x))->ρ[j]? = some (some (.own y))->σ[i]? = some (some (.ref a))->σ[j]? = some (some (.ref a))->i=j
theorem fV.keep {K:ac}{M M':Addr->Prop}{H H':Hp}{a:Addr}(k:fU M M' H H')(ha:∀o,H a=some o->H' a=some o):∀{x:PV},fV K M H a x->fV K M' H' a x
 |.lst _,⟨us,e,r⟩=>⟨us,ha _ e,r.keep k⟩
 |.dK _,⟨us,e,q,r⟩=>⟨us,ha _ e,q,r.keep k⟩
 |.dT _,⟨us,e,q,r⟩=>⟨us,ha _ e,q,r.keep k⟩
theorem fV.at {K:ac}{M:Addr->Prop}{H:Hp}{a:Addr}:∀{x:PV},fV K M H a x->∃o,H a=some o/\dJ o=true
 |.lst _,⟨us,e,r⟩=>⟨_,e,rfl⟩
 |.dK _,⟨us,e,q,r⟩=>⟨_,e,rfl⟩
 |.dT _,⟨us,e,q,r⟩=>⟨_,e,rfl⟩
theorem fV.rep {K:ac}{M M':Addr->Prop}{H:Hp}{a:Addr}(m:∀b,M b->M' b)(ha:M' a):∀{x:PV},fV K M H a x->aF K M' H (.ref a) x
 |.lst _,⟨us,e,r⟩=>.lst ha e (r.same (aE.refl _) m)
 |.dK _,⟨us,e,q,r⟩=>.dK ha e q (r.same (aE.refl _) m)
 |.dT _,⟨us,e,q,r⟩=>.dT ha e q (r.same (aE.refl _) m)
section
variable {K:ac}{H0:Hp}{W W':Addr→Prop}{σ:St}{ρ:b9}{H H':Hp}
theorem PX.mono (p:PX K H0 W σ ρ H)(s:aE H H'):PX K H0 W σ ρ H':=by
 refine⟨p.len,p.same.trans s,λa h=>⟨(p.wm a h).1,let ⟨o,e,m⟩:=(p.wm a h).2;⟨o,s _ _ e,m⟩⟩,λi m h=>?_,p.dis⟩
 obtain⟨v,e,r⟩:=p.sl i m h
 refine⟨v,e,?_⟩
 cases m with
 |sh g x=>exact aF.same r s λ_ z=>z
 |own x=>
  obtain⟨a,e1,e2,r⟩:=r
  exact⟨a,e1,e2,r.keep (.same s λ_ z=>z) λ_ z=>s _ _ z⟩
 |kp g a st un=>exact⟨r.1,r.2.same s⟩
theorem PX.new (p:PX K H0 W σ ρ H){a:Addr}(h:H a=none):¬W a/\H0 a=none:=
 ⟨λz=>(by obtain⟨_,o,e,_⟩:=p.wm a z;rw[h]at e;cases e),p.same.free h⟩
theorem Mg.back {g:Tg}{H1:Hp}(s:aE H H1){a:Addr}(h:Mg H0 W H1 g a):Mg H0 W H g a:=by
 cases g with
 |fr=>exact s.free h
 |rd=>exact h
 |sh=>exact h
 |nw=>exact h
end
noncomputable abbrev PK:=PV->Tg->Prop
noncomputable abbrev aA:=b9->PK->Prop
noncomputable abbrev bW:=b9->(Bool->Prop)->Prop
noncomputable abbrev c7:=b9->(List (PV×Tg)->Prop)->Prop
inductive eY (K:ac)(H0:Hp)(W:Addr->Prop)(Hs H:Hp):List V->List (PV×Tg)->Prop
 |nil:eY K H0 W Hs H [] []
 |cons {v:V}{x:PV}{g:Tg}{vs:List V}{xs:List (PV×Tg)}:aF K (Mg H0 W Hs g) H v x->eY K H0 W Hs H vs xs->eY K H0 W Hs H (v::vs) ((x,g)::xs)
noncomputable def nT (K:ac)(H0:Hp)(W:Addr->Prop)(H:Hp)(Q:PK)(Q':VK):Prop:=∀v H' x g,aE H H'->aF K (Mg H0 W H g) H' v x->Q x g->Q' v H'
noncomputable def LE (X:Cx)(t:aA):TE:=λσ H Q'=>∃(W:Addr->Prop) (ρ:b9) (Q:PK),PX X.K X.H₀ W σ ρ H/\t ρ Q/\nT X.K X.H₀ W H Q Q'
noncomputable def LT (X:Cx)(t:bW):TT:=λσ H Q'=>∃(W:Addr->Prop) (ρ:b9) (Q:Bool->Prop),PX X.K X.H₀ W σ ρ H/\t ρ Q/\∀b H',aE H H'->Q b->Q' b H'
noncomputable def LA (X:Cx)(t:c7):TA:=λσ H Q'=>∃(W:Addr->Prop) (ρ:b9) (Q:List (PV×Tg)->Prop),PX X.K X.H₀ W σ ρ H/\t ρ Q/\∀vs H' xs,aE H H'->eY X.K X.H₀ W H H' vs xs->Q xs->Q' vs H'
theorem eY.same {K:ac}{H0:Hp}{W:Addr->Prop}{Hs Hs' H H':Hp}(s:aE H H')(b:aE Hs' Hs):∀{vs:List V}{xs:List (PV×Tg)},eY K H0 W Hs H vs xs->eY K H0 W Hs' H' vs xs
 |_,_,.nil=>.nil
 |_,_,.cons r t=>.cons (r.same s λ_ z=>Mg.back b z) (t.same s b)
theorem eY.any {K:ac}{H0:Hp}{W:Addr->Prop}{Hs H:Hp}:∀{vs:List V}{xs:List (PV×Tg)},eY K H0 W Hs H vs xs->Reps K (λ_=>True) H vs (xs.map (·.1))
 |_,_,.nil=>.nil
 |_,_,.cons r t=>.cons (r.same (aE.refl _) λ_ _=>trivial) t.any
noncomputable def Nw:Tg->PV->Prop
 |.fr,_=>True
 |.nw,_=>True
 |_,x=>flat x=true
noncomputable def jF (xs:List (PV×Tg)):Prop:=∀p∈xs,Nw p.2 p.1
section
variable {K:ac}{H0 Hs H:Hp}{W:Addr→Prop}{σ:St}{ρ:b9}
theorem Nw.rep {g:Tg}{x:PV}{v:V}(px:PX K H0 W σ ρ Hs)(n:Nw g x)(r:aF K (Mg H0 W Hs g) H v x):aF K (Ms H0 W true) H v x:=by
 cases g with
 |fr=>exact r.same (aE.refl _) λa z=>px.new z
 |nw=>exact r.same (aE.refl _) λa z=>z
 |sh=>exact r.flat n
 |rd=>exact r.flat n
theorem jF.reps {vs:List V}:∀{xs:List (PV×Tg)}{vs:List V},PX K H0 W σ ρ Hs->jF xs->eY K H0 W Hs H vs xs->Reps K (Ms H0 W true) H vs (xs.map (·.1))
 |_,_,px,n,.nil=>.nil
 |_,_,px,n,.cons r t=>.cons (Nw.rep px (n _ aK0) r) (jF.reps (vs:=vs) px (λp hp=>n p (aK2 _ hp)) t)
theorem yE {v:V}{m:Slot}(r:yD K H0 W H v m):aF K (Mg H0 W Hs m.tag) H v m.val:=by
 cases m with
 |sh g x=>
  cases g with
  |true=>exact aF.same r (aE.refl _) λ_ z=>z
  |false=>exact aF.same r (aE.refl _) λ_ z=>z
 |own x=>
  obtain⟨a,rfl,_,r⟩:=r
  exact r.rep (λ_ _=>trivial) trivial
 |kp g a st un=>obtain⟨rfl,_⟩:=r;exact .ob
end
section
variable {X:Cx}{σ:St}{H:Hp}{Q':VK}{ta tb:aA}
noncomputable def a6 (i:Nat):aA:=λρ Q=>∃m,ρ[i]? = some (some m)/\Q m.val m.tag
noncomputable def qC (x:PV):aA:=λ_ Q=>Q x .fr
theorem ae2 {i:Nat}(h:LE X (a6 i) σ H Q'):j7 i σ H Q':=by
 obtain⟨W,ρ,Q,px,⟨m,e,q⟩,k⟩:=h
 obtain⟨v,ev,r⟩:=px.sl i m e
 exact⟨v,ev,k v H _ _ (aE.refl _) (yE r) q⟩
theorem lT {x:PV}{v:V}(hr:∀M,aF X.K M H v x)(h:LE X (qC x) σ H Q'):tC v σ H Q':=by
 obtain⟨W,ρ,Q,px,q,k⟩:=h
 exact k v H _ _ (aE.refl _) (hr _) q
noncomputable def dL (X:Cx)(R:PV->Tg->PV->Tg->PK->Prop)(r:R2):Prop:=∀(W:Addr->Prop) (Hs H:Hp) (u v:V) (x y:PV) (g g':Tg) (Q:PK) (Q':VK),aE Hs H->
 (∀a,Hs a=none->¬W a/\X.H₀ a=none)->aF X.K (Mg X.H₀ W Hs g) H u x->aF X.K (Mg X.H₀ W Hs g') H v y->R x g y g' Q->(∀w H' z gz,aE H H'->aF X.K (Mg X.H₀ W Hs gz) H' w z->Q z gz->Q' w H')->r u v H Q'
noncomputable def q2 (R:PV->Tg->PV->Tg->PK->Prop)(ta tb:aA):aA:=λρ Q=>ta ρ λx g=>tb ρ λy g'=>R x g y g' Q
theorem nU {R:PV->Tg->PV->Tg->PK->Prop}{r:R2}(c:dL X R r)(h:LE X (q2 R ta tb) σ H Q'):lI r (LE X ta) (LE X tb) σ H Q':=by
 obtain⟨W,ρ,Q,px,q,k⟩:=h
 refine⟨W,ρ,_,px,q,λu H1 x g s1 r1 q1=>⟨W,ρ,_,px.mono s1,q1,λv H2 y g' s2 r2 q2=>?_⟩⟩
 exact c W H H2 u v x y g g' Q Q' (s1.trans s2) (λa z=>px.new z) (r1.same s2 λ_ z=>z) (r2.same (aE.refl _) λ_ z=>Mg.back s1 z) q2 λw H' z gz s3 r3 q3=>k w H' z gz ((s1.trans s2).trans s3) r3 q3
noncomputable def RI (C:Int->Int->Prop)(f:Int->Int->PV):PV->Tg->PV->Tg->PK->Prop:=λx _ y _ Q=>∃i j,x = .int i/\y = .int j/\C i j/\Q (f i j) .fr
noncomputable def eJ (f:Int->Int->PV):PV->Tg->PV->Tg->PK->Prop:=λx _ y _ Q=>∃i j,x = .int i/\y = .int j/\Q (f i j) .fr
theorem nV {C:Int->Int->Prop}{f:Int->Int->Int}:dL X (RI C λi j=>.int (f i j)) (rI C λi j=>.int (f i j)):=by
 rintro W Hs H u v x y g g' Q Q' s n r1 r2 ⟨i,j,rfl,rfl,c,q⟩ k
 cases r1;cases r2
 exact⟨i,j,rfl,rfl,c,k _ _ _ _ (aE.refl _) (.int _) q⟩
theorem yF {f:Int->Int->Int}:dL X (eJ λi j=>.int (f i j)) (gF λi j=>.int (f i j)):=by
 rintro W Hs H u v x y g g' Q Q' s n r1 r2 ⟨i,j,rfl,rfl,q⟩ k
 cases r1;cases r2
 exact⟨i,j,rfl,rfl,k _ _ _ _ (aE.refl _) (.int _) q⟩
theorem nW {f:Int->Int->Bool}:dL X (eJ λi j=>.bl (f i j)) (gF λi j=>.bl (f i j)):=by
 rintro W Hs H u v x y g g' Q Q' s n r1 r2 ⟨i,j,rfl,rfl,q⟩ k
 cases r1;cases r2
 exact⟨i,j,rfl,rfl,k _ _ _ _ (aE.refl _) (.bl _) q⟩
noncomputable def kK (neg:Bool):PV->Tg->PV->Tg->PK->Prop:=λx _ y _ Q=>(∃i j,x = .int i/\y = .int j/\Q (.bl (if neg=true then !decide (i=j) else decide (i=j))) .fr)∨(∃i j,x = .bl i/\y = .bl j/\Q (.bl (if neg=true then !decide (i=j) else decide (i=j))) .fr)
theorem yG (i j:Int):decide (V.int i=V.int j)=decide (i=j):=by
 rw[aT4,aM2,aM2];exact⟨λz=>V.int.inj z,λz=>congrArg V.int z⟩
theorem yH (i j:Bool):decide (V.bl i=V.bl j)=decide (i=j):=by
 rw[aT4,aM2,aM2];exact⟨λz=>V.bl.inj z,λz=>congrArg V.bl z⟩
theorem ae3:dL X (kK false) vY:=by
 rintro W Hs H u v x y g g' Q Q' s n r1 r2 (⟨i,j,rfl,rfl,q⟩|⟨i,j,rfl,rfl,q⟩) k
 ·cases r1;cases r2
  exact⟨rfl,by rw[yG];exact k _ _ _ _ (aE.refl _) (.bl _) q⟩
 ·cases r1;cases r2
  exact⟨rfl,by rw[yH];exact k _ _ _ _ (aE.refl _) (.bl _) q⟩
theorem ae4:dL X (kK true) vZ:=by
 rintro W Hs H u v x y g g' Q Q' s n r1 r2 (⟨i,j,rfl,rfl,q⟩|⟨i,j,rfl,rfl,q⟩) k
 ·cases r1;cases r2
  exact⟨rfl,by rw[yG];exact k _ _ _ _ (aE.refl _) (.bl _) q⟩
 ·cases r1;cases r2
  exact⟨rfl,by rw[yH];exact k _ _ _ _ (aE.refl _) (.bl _) q⟩
noncomputable def aU (t:aA):bW:=λρ Q=>t ρ λx _=>∃b,x = .bl b/\Q b
theorem sD {t:aA}{Q':Bool->Hp->Prop}(h:LT X (aU t) σ H Q'):LE X t σ H λx H'=>∃k,x = .bl k/\Q' k H':=by
 obtain⟨W,ρ,Q,px,q,k⟩:=h
 refine⟨W,ρ,_,px,q,?_⟩
 rintro v H1 x g s r ⟨b,rfl,q⟩
 cases r
 exact⟨b,rfl,k _ _ s q⟩
noncomputable def iM (t u:bW):bW:=λρ Q=>t ρ λc=>if c=true then u ρ Q else Q false
noncomputable def eZ (t u:bW):bW:=λρ Q=>t ρ λc=>if c=true then Q true else u ρ Q
noncomputable def eL (t:bW):bW:=λρ Q=>t ρ λc=>Q (!c)
variable {t u:bW}{Qb:Bool→Hp→Prop}
theorem ae5 (h:LT X (iM t u) σ H Qb):vA (LT X t) (LT X u) σ H Qb:=by
 obtain⟨W,ρ,Q,px,q,k⟩:=h
 refine⟨W,ρ,_,px,q,λb H1 s1 q1=>?_⟩
 cases b with
 |true=>exact b8 ⟨W,ρ,Q,px.mono s1,by simpa using q1,λb H2 s2 q2=>k _ _ (s1.trans s2) q2⟩
 |false=>exact aW (k _ _ s1 (by simpa using q1))
theorem ae6 (h:LT X (eZ t u) σ H Qb):vB (LT X t) (LT X u) σ H Qb:=by
 obtain⟨W,ρ,Q,px,q,k⟩:=h
 refine⟨W,ρ,_,px,q,λb H1 s1 q1=>?_⟩
 cases b with
 |false=>exact aW ⟨W,ρ,Q,px.mono s1,by simpa using q1,λb H2 s2 q2=>k _ _ (s1.trans s2) q2⟩
 |true=>exact b8 (k _ _ s1 (by simpa using q1))
theorem ae7 (h:LT X (eL t) σ H Qb):vC (LT X t) σ H Qb:=by
 obtain⟨W,ρ,Q,px,q,k⟩:=h
 exact⟨W,ρ,_,px,q,λb H1 s1 q1=>k _ _ s1 q1⟩
noncomputable def nX (ta tb:aA):aA:=λρ Q=>ta ρ λx _=>∃c,x = .bl c/\if c=true then tb ρ Q else Q (.bl false) .fr
noncomputable def sE (ta:aA):aA:=λρ Q=>ta ρ λx _=>∃c,x = .bl c/\Q (.bl (!c)) .fr
theorem nT.back {K:ac}{H0:Hp}{W:Addr->Prop}{H H1:Hp}{Q:PK}(k:nT K H0 W H Q Q')(s:aE H H1):nT K H0 W H1 Q Q':=λv H' x g s' r q=>k v H' x g (s.trans s') (r.same (aE.refl _) λ_ z=>Mg.back s z) q
theorem ae8 (h:LE X (nX ta tb) σ H Q'):vD (LE X ta) (LE X tb) σ H Q':=by
 obtain⟨W,ρ,Q,px,q,k⟩:=h
 refine⟨W,ρ,_,px,q,?_⟩
 rintro v H1 x g s1 r ⟨c,rfl,q⟩
 cases r
 refine⟨c,rfl,?_⟩
 cases c with
 |true=>exact b8 ⟨W,ρ,Q,px.mono s1,by simpa using q,k.back s1⟩
 |false=>exact aW (k _ _ _ _ s1 (.bl _) (by simpa using q))
theorem ae9 (h:LE X (sE ta) σ H Q'):vE (LE X ta) σ H Q':=by
 obtain⟨W,ρ,Q,px,q,k⟩:=h
 refine⟨W,ρ,_,px,q,?_⟩
 rintro v H1 x g s1 r ⟨c,rfl,q⟩
 cases r
 exact⟨c,rfl,k _ _ _ _ s1 (.bl _) q⟩
noncomputable def aB:c7:=λ_ Q=>Q []
noncomputable def a7 (te:aA)(tr:c7):c7:=λρ Q=>te ρ λx g=>tr ρ λxs=>Q ((x,g)::xs)
variable {Qa:List V→Hp→Prop}{tr:c7}
theorem af0 (h:LA X aB σ H Qa):jB σ H Qa:=by
 obtain⟨W,ρ,Q,px,q,k⟩:=h
 exact k _ _ _ (aE.refl _) .nil q
theorem af1 (h:LA X (a7 ta tr) σ H Qa):gW (LE X ta) (LA X tr) σ H Qa:=by
 obtain⟨W,ρ,Q,px,q,k⟩:=h
 refine⟨W,ρ,_,px,q,λv H1 x g s1 r1 q1=>⟨W,ρ,_,px.mono s1,q1,λvs H2 xs s2 r2 q2=>?_⟩⟩
 exact k _ _ _ (s1.trans s2) (.cons (r1.same s2 λ_ z=>z) (r2.same (aE.refl _) s1)) q2
noncomputable def lU (t:c7):aA:=λρ Q=>t ρ λxs=>xs.length<=1000/\jF xs/\Q (.tup (xs.map (·.1))) .nw
noncomputable def cC (t:c7):aA:=λρ Q=>t ρ λxs=>xs.length<=1000/\flats (xs.map (·.1))=true/\Q (.tup (xs.map (·.1))) .fr
noncomputable def fA (t:c7):aA:=λρ Q=>t ρ λxs=>xs.length<=1000/\flats (xs.map (·.1))=true/\Q (.lst (xs.map (·.1))) .fr
theorem eY.length {K:ac}{H0:Hp}{W:Addr->Prop}{Hs H:Hp}:∀{vs:List V}{xs:List (PV×Tg)},eY K H0 W Hs H vs xs->vs.length=xs.length
 |_,_,.nil=>rfl
 |_,_,.cons _ t=>congrArg (·+1) t.length
theorem lV {n:Nat}(h:n<=1000):n<=sizeLine:=aS6 (xM h)
theorem af2 (h:LE X (lU tr) σ H Q'):qN (LA X tr) σ H Q':=by
 obtain⟨W,ρ,Q,px,q,k⟩:=h
 refine⟨W,ρ,_,px,q,?_⟩
 rintro vs H1 xs s1 r ⟨hl,n,q⟩
 refine⟨by rw[r.length];exact lV hl,λp hp=>k _ _ _ .nw (s1.trans (b7 hp _)) (.tup bB ?_) q⟩
 exact (jF.reps (vs:=vs) px n r).same (b7 hp _) λ_ z=>z
theorem af3 (h:LE X (cC tr) σ H Q'):qN (LA X tr) σ H Q':=by
 obtain⟨W,ρ,Q,px,q,k⟩:=h
 refine⟨W,ρ,_,px,q,?_⟩
 rintro vs H1 xs s1 r ⟨hl,n,q⟩
 refine⟨by rw[r.length];exact lV hl,λp hp=>k _ _ _ .fr (s1.trans (b7 hp _)) (.tup bB ?_) q⟩
 exact (r.any.flat n).same (b7 hp _) λ_ z=>z
theorem af4 (h:LE X (fA tr) σ H Q'):qO (LA X tr) σ H Q':=by
 obtain⟨W,ρ,Q,px,q,k⟩:=h
 refine⟨W,ρ,_,px,q,?_⟩
 rintro vs H1 xs s1 r ⟨hl,n,q⟩
 refine⟨by rw[r.length];exact lV hl,λp hp=>k _ _ _ .fr (s1.trans (b7 hp _)) (.lst (s1.free hp) bB ?_) q⟩
 exact (r.any.flat n).same (b7 hp _) λ_ z=>z
noncomputable def eM (X:Cx)(R:List PV->(PV->Prop)->Prop)(r:List V->Hp->VK->Prop):Prop:=∀(H:Hp) (vs:List V) (xs:List PV) (Q:PV->Prop) (Q':VK),Reps X.K (λ_=>True) H vs xs->R xs Q->
 (∀w H' z,aE H H'->aF X.K (λa=>H a=none) H' w z->Q z->Q' w H')->r vs H Q'
noncomputable def aM (R:List PV->(PV->Prop)->Prop)(t:c7):aA:=λρ Q=>t ρ λxs=>R (xs.map (·.1)) λz=>Q z .fr
theorem yI {R:List PV->(PV->Prop)->Prop}{r:List V->Hp->VK->Prop}(c:eM X R r)(h:LE X (aM R tr) σ H Q'):qR r (LA X tr) σ H Q':=by
 obtain⟨W,ρ,Q,px,q,k⟩:=h
 refine⟨W,ρ,_,px,q,λvs H1 xs s1 r1 q1=>c H1 vs _ _ Q' r1.any q1 λw H' z s2 r2 q2=>k w H' z .fr (s1.trans s2) (r2.same (aE.refl _) λ_ z=>s1.free z) q2⟩
end
structure gI where
 nx:b9->Prop
 rt:PV->Prop
 bk:b9->Prop:=λ_=>False
 ct:b9->Prop:=λ_=>False
noncomputable abbrev aR:=gI->b9->Prop
noncomputable def Ev (W:Addr->Prop)(H:Hp)(W':Addr->Prop)(H':Hp):Prop:=∀b o,H b=some o->¬W b->yC o=false->H' b=some o/\¬W' b
theorem Ev.trans {W W1 W2:Addr->Prop}{H H1 H2:Hp}(a:Ev W H W1 H1)(b:Ev W1 H1 W2 H2):Ev W H W2 H2:=λc o h n z=>let ⟨h1,n1⟩:=a c o h n z;b c o h1 n1 z
theorem Ev.same {W:Addr->Prop}{H H':Hp}(s:aE H H'):Ev W H W H':=λc o h n _=>⟨s _ _ h,n⟩
theorem Ev.refl (W:Addr->Prop)(H:Hp):Ev W H W H:=Ev.same (aE.refl _)
structure lW (X:Cx)(W:Addr->Prop)(H:Hp)(D':gI)(D:cI):Prop where
 nx:∀W' σ' H' ρ',Ev W H W' H'->PX X.K X.H₀ W' σ' ρ' H'->D'.nx ρ'->D.nx σ' H'
 rt:∀v H' x,aE X.H₀ H'->aF X.K (λa=>X.H₀ a=none) H' v x->D'.rt x->D.rt v H'
 bk:∀W' σ' H' ρ',Ev W H W' H'->PX X.K X.H₀ W' σ' ρ' H'->D'.bk ρ'->D.bk σ' H'
 ct:∀W' σ' H' ρ',Ev W H W' H'->PX X.K X.H₀ W' σ' ρ' H'->D'.ct ρ'->D.ct σ' H'
theorem lW.step {X:Cx}{W W1:Addr->Prop}{H H1:Hp}{D':gI}{D:cI}(k:lW X W H D' D)(e:Ev W H W1 H1):lW X W1 H1 D' D:=
 ⟨λW' σ' H' ρ' e'=>k.nx W' σ' H' ρ' (e.trans e'),k.rt,λW' σ' H' ρ' e'=>k.bk W' σ' H' ρ' (e.trans e'),λW' σ' H' ρ' e'=>k.ct W' σ' H' ρ' (e.trans e')⟩
noncomputable def LS (X:Cx)(t:aR):TS:=λD σ H=>∃(W:Addr->Prop) (ρ:b9) (D':gI),PX X.K X.H₀ W σ ρ H/\t D' ρ/\lW X W H D' D
theorem eN {α:Type}{l:List α}{i j:Nat}{a b:α}(h:(l.set i a)[j]? = some b):(j=i/\i<l.length/\b=a)∨(j≠i/\l[j]? = some b):=by
 by_cases e:j=i
 ·subst e
  have hl:j<(l.set j a).length:=(aK3.mp h).1
  rw[aO0]at hl
  rw[aP4 hl]at h
  exact .inl ⟨rfl,hl,(aL1 h).symm⟩
 ·rw[aK8 (Ne.symm e)]at h
  exact .inr ⟨e,h⟩
section
variable {K:ac}{H0:Hp}{W W':Addr→Prop}{σ:St}{ρ:b9}{H H' Hs:Hp}
theorem PX.setSh {i:Nat}{v:V}{g:Bool}{x:PV}(p:PX K H0 W σ ρ H)(r:aF K (Ms H0 W g) H v x):PX K H0 W (σ.set i (some v)) (ρ.set i (some (.sh g x))) H:=by
 refine⟨by rw[aO0,aO0];exact p.len,p.same,p.wm,λj m h=>?_,λj k y z a h1 h2 h3 h4=>?_⟩
 ·rcases eN h with⟨rfl,hl,e⟩|⟨hne,h⟩
  ·cases e
   rw[p.len]at hl
   exact⟨v,aP4 hl,r⟩
  ·obtain⟨u,e,q⟩:=p.sl j m h
   exact⟨u,by rw[aK8 (Ne.symm hne)];exact e,q⟩
 ·rcases eN h1 with⟨_,_,e⟩|⟨n1,h1⟩
  ·cases e
  ·rcases eN h2 with⟨_,_,e⟩|⟨n2,h2⟩
   ·cases e
   ·rw[aK8 (Ne.symm n1)]at h3
    rw[aK8 (Ne.symm n2)]at h4
    exact p.dis j k y z a h1 h2 h3 h4
theorem PX.setNone {i:Nat}{o:Option V}(p:PX K H0 W σ ρ H):PX K H0 W (σ.set i o) (ρ.set i none) H:=by
 refine⟨by rw[aO0,aO0];exact p.len,p.same,p.wm,λj m h=>?_,λj k y z a h1 h2 h3 h4=>?_⟩
 ·rcases eN h with⟨rfl,hl,e⟩|⟨hne,h⟩
  ·cases e
  ·obtain⟨u,e,q⟩:=p.sl j m h
   exact⟨u,by rw[aK8 (Ne.symm hne)];exact e,q⟩
 ·rcases eN h1 with⟨_,_,e⟩|⟨n1,h1⟩
  ·cases e
  ·rcases eN h2 with⟨_,_,e⟩|⟨n2,h2⟩
   ·cases e
   ·rw[aK8 (Ne.symm n1)]at h3
    rw[aK8 (Ne.symm n2)]at h4
    exact p.dis j k y z a h1 h2 h3 h4
noncomputable def kL (W:Addr->Prop)(a:Addr):Addr->Prop:=λb=>W b∨b=a
theorem sF {g:Bool}{a b:Addr}(n:b≠a)(h:Ms H0 W g b):Ms H0 (kL W a) g b:=by
 cases g with
 |true=>exact⟨λz=>z.elim h.1 n,h.2⟩
 |false=>exact λz=>z.elim h n
theorem PX.setOwn {i:Nat}{a:Addr}{x:PV}(p:PX K H0 W σ ρ Hs)(s:aE Hs H)(ha:Hs a=none)(r:fV K (Ms H0 (kL W a) true) H a x):PX K H0 (kL W a) (σ.set i (some (.ref a))) (ρ.set i (some (.own x))) H:=by
 have old:∀b o,Hs b=some o->b≠a:=λb o e z=>by rw[z,ha]at e;cases e
 have kp:∀g,fU (Ms H0 W g) (Ms H0 (kL W a) g) Hs H:=λg=>⟨λb _ m e=>⟨sF (old _ _ e) m,s _ _ e⟩,λb _ m e=>⟨sF (old _ _ e) m,s _ _ e⟩,λb _ m e=>⟨sF (old _ _ e) m,s _ _ e⟩,λ_ _ e=>s _ _ e,λ_ _ _ e _=>s _ _ e⟩
 have wa:¬W a:=(p.new ha).1
 refine⟨by rw[aO0,aO0];exact p.len,p.same.trans s,λb z=>?_,λj m h=>?_,λj k y z b h1 h2 h3 h4=>?_⟩
 ·rcases z with z|rfl
  ·obtain⟨h1,o,h2,h3⟩:=p.wm b z
   exact⟨h1,o,s _ _ h2,h3⟩
  ·exact⟨(p.new ha).2,r.at⟩
 ·rcases eN h with⟨rfl,hl,e⟩|⟨hne,h⟩
  ·cases e
   rw[p.len]at hl
   exact⟨_,aP4 hl,a,rfl,.inr rfl,r⟩
  ·obtain⟨u,e,q⟩:=p.sl j m h
   refine⟨u,by rw[aK8 (Ne.symm hne)];exact e,?_⟩
   cases m with
   |sh g y=>exact aF.keep (kp g) q
   |own y=>
    obtain⟨b,e1,e2,q⟩:=q
    exact⟨b,e1,.inl e2,q.keep (kp true) λo z=>s _ _ z⟩
   |kp g c st un=>exact⟨q.1,q.2.same s⟩
 ·have ne:∀{j:Nat}{y:PV},ρ[j]? = some (some (.own y))->σ[j]?≠some (some (.ref a)):=λ{j y} h1 h2=>by
   obtain⟨u,e,c,e1,e2,_⟩:=p.sl j _ h1
   rw[h2]at e
   cases e
   cases e1
   exact wa e2
  rcases eN h1 with⟨e1,l1,_⟩|⟨n1,h1⟩
  ·rcases eN h2 with⟨e2,_,_⟩|⟨n2,h2⟩
   ·rw[e1,e2]
   ·rw[e1,aP4 (by rw[<- p.len];exact l1)]at h3
    rw[aK8 (Ne.symm n2)]at h4
    cases h3
    exact absurd h4 (ne h2)
  ·rw[aK8 (Ne.symm n1)]at h3
   rcases eN h2 with⟨e2,l2,_⟩|⟨n2,h2⟩
   ·rw[e2,aP4 (by rw[<- p.len];exact l2)]at h4
    cases h4
    exact absurd h3 (ne h1)
   ·rw[aK8 (Ne.symm n2)]at h4
    exact p.dis j k y z b h1 h2 h3 h4
theorem Ev.own {a:Addr}(s:aE Hs H)(ha:Hs a=none):Ev W Hs (kL W a) H:=λb o e n _=>⟨s _ _ e,λz=>z.elim n λz=>by rw[z,ha]at e;cases e⟩
theorem lX {g:Bool}{a b:Addr}(wa:W a)(h:Ms H0 W g b):b≠a:=by
 cases g with
 |true=>exact λz=>h.1 (by rw[z];exact wa)
 |false=>exact λz=>h (by rw[z];exact wa)
theorem PX.updOwn {i:Nat}{a:Addr}{x y:PV}{o:HO}(p:PX K H0 W σ ρ H)(hi:ρ[i]? = some (some (.own x)))(ha:σ[i]? = some (some (.ref a)))(wa:W a)(mu:dJ o=true)(r:fV K (Ms H0 W true) (upd H a o) a y) :
  PX K H0 W σ (ρ.set i (some (.own y))) (upd H a o):=by
 obtain⟨w0,o',e',mu'⟩:=p.wm a wa
 have kp:∀g,fU (Ms H0 W g) (Ms H0 W g) H (upd H a o):=λg=>.upd e' mu' λb m=>⟨lX wa m,m⟩
 refine⟨by rw[aO0];exact p.len,λb u e=>by rw[aN (λz=>by rw[z,w0]at e;cases e)];exact p.same _ _ e,λb z=>?_,λj m h=>?_,λj k y' z b h1 h2 h3 h4=>?_⟩
 ·by_cases e:b=a
  ·subst e;exact⟨w0,o,bB,mu⟩
  ·obtain⟨h1,o2,h2,h3⟩:=p.wm b z
   exact⟨h1,o2,by rw[aN e];exact h2,h3⟩
 ·rcases eN h with⟨rfl,hl,e⟩|⟨hne,h⟩
  ·cases e
   exact⟨_,ha,a,rfl,wa,r⟩
  ·obtain⟨u,e,q⟩:=p.sl j m h
   refine⟨u,e,?_⟩
   cases m with
   |sh g y=>exact aF.keep (kp g) q
   |own y=>
    obtain⟨b,e1,e2,q⟩:=q
    have hb:b≠a:=λz=>by
     subst e1
     rw[z]at e
     exact hne (p.dis j i _ _ a h hi e ha)
    exact⟨b,e1,e2,q.keep (kp true) λo z=>by rw[aN hb];exact z⟩
   |kp g c st un=>exact⟨q.1,q.2.upd e' mu'⟩
 ·have g1:∃y,ρ[j]? = some (some (.own y)):=by
   rcases eN h1 with⟨e,_,_⟩|⟨_,h⟩
   ·exact⟨x,by rw[e];exact hi⟩
   ·exact⟨_,h⟩
  have g2:∃y,ρ[k]? = some (some (.own y)):=by
   rcases eN h2 with⟨e,_,_⟩|⟨_,h⟩
   ·exact⟨x,by rw[e];exact hi⟩
   ·exact⟨_,h⟩
  obtain⟨y1,g1⟩:=g1
  obtain⟨y2,g2⟩:=g2
  exact p.dis j k y1 y2 b g1 g2 h3 h4
theorem Ev.upd {a:Addr}{o:HO}(wa:W a):Ev W H W (upd H a o):=λb u e n _=>⟨by rw[aN (λz=>n (by rw[z];exact wa))];exact e,n⟩
end
section
variable {X:Cx}{σ:St}{H:Hp}{D:cI}{te:aA}{t u:aR}
noncomputable def bX:aR:=λD ρ=>D.nx ρ
noncomputable def aP (t u:aR):aR:=λD ρ=>t { D with nx:=u D } ρ
theorem af5 (h:LS X bX D σ H):vG D σ H:=by
 obtain⟨W,ρ,D',px,q,k⟩:=h
 exact k.nx W σ H ρ (Ev.refl _ _) px q
theorem af6 (h:LS X (aP t u) D σ H):vH (LS X t) (LS X u) D σ H:=by
 obtain⟨W,ρ,D',px,q,k⟩:=h
 exact⟨W,ρ,_,px,q,λW' σ' H' ρ' e px' q'=>⟨W',ρ',D',px',q',k.step e⟩,k.rt,k.bk,k.ct⟩
noncomputable def sG:Tg->PV->Bool
 |.fr,_=>true
 |.nw,_=>true
 |_,x=>flat x
noncomputable def nY:Tg->PV->Prop
 |.rd,x=>flat x=true
 |_,_=>True
theorem yJ {K:ac}{H0 Hs H:Hp}{W:Addr->Prop}{σ:St}{ρ:b9}{g:Tg}{x:PV}{v:V}(px:PX K H0 W σ ρ Hs)(n:nY g x)(r:aF K (Mg H0 W Hs g) H v x):aF K (Ms H0 W (sG g x)) H v x:=by
 cases g with
 |fr=>exact Nw.rep (g:=.fr) px trivial r
 |nw=>exact Nw.rep (g:=.nw) px trivial r
 |sh=>
  show aF K (Ms H0 W (flat x)) H v x
  cases e:flat x with
  |true=>exact r.flat e
  |false=>exact r.same (aE.refl _) λ_ z=>z
 |rd=>exact r.flat n
noncomputable def bA (i:Nat)(te:aA):aR:=λD ρ=>te ρ λx g=>nY g x/\D.nx (ρ.set i (some (.sh (sG g x) x)))
theorem sH {i:Nat}(h:LS X (bA i te) D σ H):iG (LE X te) (cJ i) D σ H:=by
 obtain⟨W,ρ,D',px,q,k⟩:=h
 refine⟨W,ρ,_,px,q,?_⟩
 rintro v H1 x g s r ⟨n,q⟩
 exact k.nx W _ H1 _ (Ev.same s) ((px.mono s).setSh (yJ px n r)) q
noncomputable def yK:PV->Bool
 |.lst xs=>flats xs
 |.dK ps=>flats (ps.map (·.2))
 |.dT ps=>flats (ps.map (·.2))
 |_=>false
theorem af7 {K:ac}{M:Addr->Prop}{H:Hp}{v:V}{x:PV}(r:aF K M H v x)(o:yK x=true):∃a,v = .ref a/\M a/\∀M',fV K M' H a x:=by
 cases r with
 |lst m e r=>exact⟨_,rfl,m,λ_=>⟨_,e,r.flat o⟩⟩
 |dK m e q r=>exact⟨_,rfl,m,λ_=>⟨_,e,q,r.flat o⟩⟩
 |dT m e q r=>exact⟨_,rfl,m,λ_=>⟨_,e,q,r.flat o⟩⟩
 |_=>cases o
noncomputable def jG (i:Nat)(te:aA):aR:=λD ρ=>te ρ λx g=>g = .fr/\yK x=true/\D.nx (ρ.set i (some (.own x)))
theorem yL {i:Nat}(h:LS X (jG i te) D σ H):iG (LE X te) (cJ i) D σ H:=by
 obtain⟨W,ρ,D',px,q,k⟩:=h
 refine⟨W,ρ,_,px,q,?_⟩
 rintro v H1 x g s r ⟨rfl,o,q⟩
 obtain⟨a,rfl,m,w⟩:=af7 r o
 exact k.nx _ _ H1 _ (Ev.own s m) (px.setOwn s m (w _)) q
noncomputable def bJ (te:aA):aR:=λD ρ=>te ρ λx g=>Nw g x/\D.rt x
theorem af8 (h:LS X (bJ te) D σ H):vI (LE X te) D σ H:=by
 obtain⟨W,ρ,D',px,q,k⟩:=h
 refine⟨W,ρ,_,px,q,?_⟩
 rintro v H1 x g s r ⟨n,q⟩
 exact k.rt v H1 x (px.same.trans s) ((Nw.rep px n r).same (aE.refl _) λ_ z=>z.2) q
noncomputable def Slot.nw:Slot->Prop
 |.own _=>True
 |.kp _ _ _ _=>True
 |.sh true _=>True
 |.sh false x=>flat x=true
noncomputable def bS (c:bW)(t u:aR):aR:=λD ρ=>c ρ λb=>if b=true then t D ρ else u D ρ
theorem af9 {c:bW}(h:LS X (bS c t u) D σ H):vK (LT X c) (LS X t) (LS X u) D σ H:=by
 obtain⟨W,ρ,D',px,q,k⟩:=h
 refine⟨W,ρ,_,px,q,λb H1 s q1=>?_⟩
 cases b with
 |true=>exact b8 ⟨W,ρ,D',px.mono s,by simpa using q1,k.step (Ev.same s)⟩
 |false=>exact aW ⟨W,ρ,D',px.mono s,by simpa using q1,k.step (Ev.same s)⟩
end
theorem lim {n:Nat}(h:n<=16000000):n<=sizeLine:=aS6 (jE h)
theorem aF.sqT {K:ac}{M:Addr->Prop}{H:Hp}{v:V}{xs:List PV}(r:aF K M H v (.tup xs)):∃a us,v = .ref a/\H a=some (.tup us)/\Reps K M H us xs:=by
 cases r with
 |tup e r=>exact⟨_,_,rfl,e,r⟩
theorem aF.sqL {K:ac}{M:Addr->Prop}{H:Hp}{v:V}{xs:List PV}(r:aF K M H v (.lst xs)):∃a us,v = .ref a/\M a/\H a=some (.lst us)/\Reps K M H us xs:=by
 cases r with
 |lst m e r=>exact⟨_,_,rfl,m,e,r⟩
theorem hV.sqL {K:ac}{H:Hp}{a:Addr}{ns:ae}(h:hV K H a ns):aL K H a (ns.map V.int):=h.elim (λz=>.inl (.inr z)) .inr
noncomputable def hZ:PV->Option (List PV)
 |.tup xs=>some xs
 |.lst xs=>some xs
 |.scr ns=>some (intz ns)
 |.kt xs=>some xs
 |.fL xs=>some xs
 |_=>none
theorem aF.seq {K:ac}{M:Addr->Prop}{H:Hp}{v:V}{x:PV}{xs:List PV}(r:aF K M H v x)(e:hZ x=some xs):∃a us,v = .ref a/\(aL K H a us∨aI K H a us)/\Reps K M H us xs:=by
 cases r with
 |tup h r=>cases e;exact⟨_,_,rfl,.inr (aI.of h),r⟩
 |lst m h r=>cases e;exact⟨_,_,rfl,.inl (aL.of h),r⟩
 |scr h=>cases e;exact⟨_,_,rfl,.inl h.sqL,Reps.intz _⟩
 |kt h r=>cases e;exact⟨_,_,rfl,.inr (.inr h),r⟩
 |fL h r=>cases e;exact⟨_,_,rfl,.inl (.inl (.inr ⟨_,h⟩)),r⟩
 |_=>cases e
section
variable {X:Cx}{σ:St}{H:Hp}{D:cI}{te ti to:aA}{t u:aR}{Q':VK}
theorem _root_.PP.PX.updL {K:ac}{H0:Hp}{W:Addr->Prop}{σ:St}{ρ:b9}{H:Hp}{i:Nat}{a:Addr}{x:PV}{us:List V}{ys:List PV}(p:PX K H0 W σ ρ H)(hi:ρ[i]? = some (some (.own x)))(ha:σ[i]? = some (some (.ref a)))(wa:W a)(r:Reps K (Ms H0 W true) (upd H a (.lst us)) us ys) :
  PX K H0 W σ (ρ.set i (some (.own (.lst ys)))) (upd H a (.lst us)):=p.updOwn hi ha wa rfl (y:=.lst ys) ⟨us,bB,r⟩
noncomputable def sI (i:Nat)(te:aA):aR:=λD ρ=>∃xs,ρ[i]? = some (some (.own (.lst xs)))/\te ρ λx g=>Nw g x/\xs.length<16000000/\D.nx (ρ.set i (some (.own (.lst (xs++[x])))))
theorem ag0 {i:Nat}(h:LS X (sI i te) D σ H):qA (wW X.K "list" x5 (j7 i) (gW (LE X te) jB)) D σ H:=by
 obtain⟨W,ρ,D',px,⟨xs,hi,q⟩,k⟩:=h
 obtain⟨v,ev,a,rfl,wa,us,ea,r⟩:=px.sl i _ hi
 refine⟨_,ev,rX (aL.of ea),W,ρ,_,px,q,?_⟩
 rintro w H1 x g s rx ⟨n,hl,q⟩
 have ea1:=s _ _ ea
 refine⟨a,us,w,rfl,rfl,ea1,jE (by rw[r.length];omega),?_⟩
 refine k.nx W σ _ _ ((Ev.same s).trans (Ev.upd wa)) ((px.mono s).updL hi ev wa ?_) q
 exact ((r.same s λ_ z=>z).append (.cons (Nw.rep px n rx) .nil)).keep (.upd ea1 rfl λb m=>⟨lX wa m,m⟩)
noncomputable def sJ (i:Nat)(tk te:aA):aR:=λD ρ=>te ρ λx g=>∃xs,ρ[i]? = some (some (.own (.lst xs)))/\tk ρ λy _=>∃n j,y = .int n/\fP xs.length n=some j/\Nw g x/\D.nx (ρ.set i (some (.own (.lst (xs.set j x)))))
theorem ag1 {i:Nat}{tk:aA}(h:LS X (sJ i tk te) D σ H):iG (LE X te) (qD (j7 i) (LE X tk) qZ) D σ H:=by
 obtain⟨W,ρ,D',px,q,k⟩:=h
 refine⟨W,ρ,_,px,q,?_⟩
 rintro w H1 x g s rx ⟨xs,hi,q1⟩
 obtain⟨v,ev,a,rfl,wa,us,ea,r⟩:=(px.mono s).sl i _ hi
 refine⟨_,ev,W,ρ,_,px.mono s,q1,?_⟩
 rintro kv H2 y gy s2 ry ⟨n,j,rfl,hj,nw,q2⟩
 cases ry
 have ea2:=s2 _ _ ea
 refine⟨a,us,n,j,rfl,rfl,ea2,by rw[r.length];exact hj,?_⟩
 refine k.nx W σ _ _ ((Ev.same (s.trans s2)).trans (Ev.upd wa)) ((px.mono (s.trans s2)).updL hi ev wa ?_) q2
 exact (Reps.set ((Nw.rep px nw rx).same s2 λ_ z=>z) j (r.same s2 λ_ z=>z)).keep (.upd ea2 rfl λb m=>⟨lX wa m,m⟩)
end
theorem Reps.atI {K:ac}{M:Addr->Prop}{H:Hp}{us:List V}{xs:List PV}{i:Int}{z:PV}(r:Reps K M H us xs)(h:L2.atI xs i=some z):∃v,L2.atI us i=some v/\aF K M H v z:=by
 unfold L2.atI at h ⊢
 rw[r.length]
 cases e:fP xs.length i with
 |none=>rw[e]at h;cases h
 |some j=>rw[e]at h;exact r.at h
section
variable {X:Cx}{σ:St}{H:Hp}{Q':VK}{ta tb te:aA}{tr:c7}
noncomputable def sK:PV->Tg->PV->Tg->PK->Prop:=λx g y _ Q=>∃xs i z,hZ x=some xs/\y = .int i/\L2.atI xs i=some z/\Q z g
theorem ag2:dL X sK (wT X.K):=by
 rintro W Hs H u v x y g g' Q Q' s n r1 r2 ⟨xs,i,z,e,rfl,hz,q⟩ k
 cases r2
 obtain⟨a,us,rfl,hs,r⟩:=r1.seq e
 obtain⟨v,hv,rv⟩:=r.atI hz
 rcases hs with hs|hs
 ·exact .inl ⟨a,us,i,v,rfl,rfl,hs,hv,k v H z g (aE.refl _) rv q⟩
 ·exact .inr (.inl ⟨a,us,i,v,rfl,rfl,hs,hv,k v H z g (aE.refl _) rv q⟩)
noncomputable def sL:PV->Option Nat
 |.tup xs=>some xs.length
 |.lst xs=>some xs.length
 |.scr ns=>some ns.length
 |.dK ps=>some ps.length
 |.kt xs=>some xs.length
 |.fL xs=>some xs.length
 |_=>none
noncomputable def eO:List PV->(PV->Prop)->Prop:=λxs Q=>∃x n,xs = [x]/\sL x=some n/\Q (.int n)
theorem Reps.one {K:ac}{M:Addr->Prop}{H:Hp}{vs:List V}{x:PV}(r:Reps K M H vs [x]):∃v,vs = [v]/\aF K M H v x:=by
 cases r with
 |cons r t=>cases t;exact⟨_,rfl,r⟩
theorem Reps.two {K:ac}{M:Addr->Prop}{H:Hp}{vs:List V}{x y:PV}(r:Reps K M H vs [x,y]):∃v w,vs = [v,w]/\aF K M H v x/\aF K M H w y:=by
 cases r with
 |cons r t=>
  obtain⟨w,rfl,q⟩:=t.one
  exact⟨_,_,rfl,r,q⟩
theorem ag3:eM X eO (λxs H Q=>(∃p ys,xs = [.ref p]/\(aL X.K H p ys∨aI X.K H p ys)/\Q (.int ys.length) H)∨∃a kvs,xs = [V.ref a]/\H a=some (.dK kvs)/\Q (.int kvs.length) H):=by
 rintro H vs xs Q Q' r ⟨x,n,rfl,e,q⟩ k
 obtain⟨v,rfl,r1⟩:=r.one
 have fin:∀{m:Nat},m=n->Q' (.int m) H:=λ{m} z=>by rw[z];exact k _ _ _ (aE.refl _) (.int _) q
 cases r1 with
 |tup h r2=>cases e;exact .inl ⟨_,_,rfl,.inr (aI.of h),fin r2.length⟩
 |lst m h r2=>cases e;exact .inl ⟨_,_,rfl,.inl (aL.of h),fin r2.length⟩
 |scr h=>cases e;exact .inl ⟨_,_,rfl,.inl h.sqL,fin (by rw[aJ2])⟩
 |kt h r2=>cases e;exact .inl ⟨_,_,rfl,.inr (.inr h),fin r2.length⟩
 |fL h r2=>cases e;exact .inl ⟨_,_,rfl,.inl (.inl (.inr ⟨_,h⟩)),fin r2.length⟩
 |dK m h e' r=>
  cases e
  refine .inr ⟨_,_,rfl,h,fin ?_⟩
  have:=congrArg List.length e'
  rw[aJ2,aJ2]at this
  exact this
 |_=>cases e
noncomputable def seqT:PV->Option (List PV)
 |.kt _=>none
 |x=>hZ x
noncomputable def yM:List PV->(PV->Prop)->Prop:=λxs Q=>∃x ys,xs = [x]/\seqT x=some ys/\flats ys=true/\Q (.tup ys)
noncomputable def nZ:List PV->(PV->Prop)->Prop:=λxs Q=>∃x ys,xs = [x]/\hZ x=some ys/\flats ys=true/\Q (.lst ys)
theorem ag4:eM X (λxs Q=>yM xs Q/\∀ns,xs≠[.scr ns]) (λxs H Q=>∃p ys,xs = [.ref p]/\((aL X.K H p ys/\∀l,H l=none->Q (.ref l) (upd H l (.tup ys)))∨(aI X.K H p ys/\Q (.ref p) H))):=by
 rintro H vs xs Q Q' r ⟨⟨x,ys,rfl,e,f,q⟩,nsc⟩ k
 obtain⟨v,rfl,r1⟩:=r.one
 cases r1 with
 |tup h r2=>cases e;exact⟨_,_,rfl,.inr ⟨aI.of h,k _ _ _ (aE.refl _) (.tup h (r2.flat f)) q⟩⟩
 |lst m h r2=>cases e;exact⟨_,_,rfl,.inl ⟨aL.of h,λl hl=>k _ _ _ (b7 hl _) (.tup bB ((r2.flat f).same (b7 hl _) λ_ z=>z)) q⟩⟩
 |scr h=>exact absurd rfl (nsc _)
 |fL h r2=>cases e;exact⟨_,_,rfl,.inl ⟨.inl (.inr ⟨_,h⟩),λl hl=>k _ _ _ (b7 hl _) (.tup bB ((r2.flat f).same (b7 hl _) λ_ z=>z)) q⟩⟩
 |_=>cases e
theorem ag5:eM X nZ (λxs H Q=>∃p ys,xs = [.ref p]/\(aL X.K H p ys∨aI X.K H p ys)/\∀l,H l=none->Q (.ref l) (upd H l (.lst ys))):=by
 rintro H vs xs Q Q' r ⟨x,ys,rfl,e,f,q⟩ k
 obtain⟨v,rfl,r1⟩:=r.one
 obtain⟨a,us,rfl,hs,r2⟩:=r1.seq e
 exact⟨_,_,rfl,hs,λl hl=>k _ _ _ (b7 hl _) (.lst hl bB ((r2.flat f).same (b7 hl _) λ_ z=>z)) q⟩
noncomputable def sM:List PV->(PV->Prop)->Prop:=λxs Q=>∃bs:List Bool,xs = [.lst (bs.map PV.bl)]/\Q (.bl (bs.all id))
theorem Reps.ofBls {K:ac}{M:Addr->Prop}{H:Hp}:∀{ns:List Bool}{us:List V},Reps K M H us (ns.map PV.bl)->us=ns.map V.bl
 |[],_,.nil=>rfl
 |n::r,_,.cons q t=>by
  cases q
  rw[Reps.ofBls t];rfl
theorem ag6:eM X sM (λxs H Q=>∃(a:Addr) (bs:List Bool),xs = [.ref a]/\aL X.K H a (bs.map V.bl)/\Q (.bl (bs.all id)) H):=by
 rintro H vs xs Q Q' r ⟨bs,rfl,q⟩ k
 obtain⟨v,rfl,r1⟩:=r.one
 obtain⟨a,us,rfl,_,h,r2⟩:=r1.sqL
 obtain rfl:=r2.ofBls
 exact⟨a,bs,rfl,aL.of h,k _ _ _ (aE.refl _) (.bl _) q⟩
noncomputable def sN:List PV->(PV->Prop)->Prop:=λxs Q=>∃i j,xs = [.int i,.int j]/\Q (.int (if j<i then j else i))
noncomputable def lY:List PV->(PV->Prop)->Prop:=λxs Q=>∃i j,xs = [.int i,.int j]/\Q (.int (if j>i then j else i))
theorem ag7:eM X sN (λxs H Q=>∃i j,xs = [.int i,.int j]/\Q (.int (if j<i then j else i)) H):=by
 rintro H vs xs Q Q' r ⟨i,j,rfl,q⟩ k
 obtain⟨v,w,rfl,r1,r2⟩:=r.two
 cases r1;cases r2
 exact⟨i,j,rfl,k _ _ _ (aE.refl _) (.int _) q⟩
theorem ag8:eM X lY (λxs H Q=>∃i j,xs = [.int i,.int j]/\Q (.int (if j>i then j else i)) H):=by
 rintro H vs xs Q Q' r ⟨i,j,rfl,q⟩ k
 obtain⟨v,w,rfl,r1,r2⟩:=r.two
 cases r1;cases r2
 exact⟨i,j,rfl,k _ _ _ (aE.refl _) (.int _) q⟩
noncomputable abbrev c8:=List PV->(PV->Prop)->Prop
noncomputable def lZ (K:ac)(p:c8):Sp:=λvs H Q _=>∃xs Qp,Reps K (λ_=>True) H vs xs/\p xs Qp/\∀v H' x,aE H H'->aF K (λa=>H a=none) H' v x->Qp x->Q v H'
theorem ag9 {p:c8}{E:XK}(h:LE X (aM p tr) σ H Q'):qQ (lZ X.K p) [] E (LA X tr) σ H Q':=by
 obtain⟨W,ρ,Q,px,q,k⟩:=h
 refine⟨W,ρ,_,px,q,λvs H1 xs s1 r1 q1=>⟨_,_,by rw[aQ9];exact r1.any,q1,λv H' x s2 r2 q2=>k v H' x .fr (s1.trans s2) (r2.same (aE.refl _) λ_ z=>s1.free z) q2⟩⟩
noncomputable def ah0:PV->Option Bool
 |.non=>some false
 |.bl b=>some b
 |.int i=>some (i != 0)
 |.tup xs=>some (!xs.isEmpty)
 |.lst xs=>some (!xs.isEmpty)
 |.dK ps=>some (!ps.isEmpty)
 |_=>none
noncomputable def sO (t:aA):bW:=λρ Q=>t ρ λx _=>∃b,ah0 x=some b/\Q b
theorem sP {α β:Type}:∀{l:List α}{m:List β},l.length=m.length->l.isEmpty=m.isEmpty
 |[],[],_=>rfl
 |_::_,_::_,_=>rfl
theorem ah1 {t:aA}{Qb:Bool->Hp->Prop}(h:LT X (sO t) σ H Qb):LE X t σ H λx H'=>∃k,qK X.K x H' k/\Qb k H':=by
 obtain⟨W,ρ,Q,px,q,k⟩:=h
 refine⟨W,ρ,_,px,q,?_⟩
 rintro v H1 x g s r ⟨b,e,q⟩
 refine⟨b,?_,k _ _ s q⟩
 cases r with
 |non=>cases e;rfl
 |bl b=>cases e;rfl
 |int i=>cases e;rfl
 |str x=>cases e
 |tup h r=>cases e;exact .inr (.inl ⟨_,aI.of h,by rw[sP r.length]⟩)
 |lst m h r=>cases e;exact .inl ⟨_,aL.of h,by rw[sP r.length]⟩
 |dK m h e' r=>
  cases e
  refine .inr (.inr ⟨_,h,?_⟩)
  have:=congrArg List.length e'
  rw[aJ2,aJ2]at this
  rw[sP this]
 |dT m h e' r=>cases e
 |scr h=>cases e
 |kt h r=>cases e
 |exc h e' c=>cases e
 |fK h e' r=>cases e
 |fT h e' r=>cases e
 |fL h r=>cases e
 |fn h=>cases e
 |ob=>cases e
end
structure iN (K:ac)(H0:Hp)(W:Addr->Prop)(g:Bool)(H1:Hp)(J:It)(xs:List PV):Prop where
 go:∀W' H' i,Ev W H1 W' H'->i<xs.length->J.go i H'
 yld:∀W' H' i v H2,Ev W H1 W' H'->J.yld i H' v H2->i<xs.length->aE H' H2/\∃x,xs[i]? = some x/\aF K (Ms H0 W' g) H2 v x
 stop:∀W' H',Ev W H1 W' H'->J.stop xs.length H'
noncomputable abbrev dB:=b9->(List PV->Bool->Prop)->Prop
noncomputable def LI (X:Cx)(t:dB):TI:=λσ H R=>∃(W:Addr->Prop) (ρ:b9) (Q:List PV->Bool->Prop),PX X.K X.H₀ W σ ρ H/\t ρ Q/\∀J H1 xs g,aE H H1->iN X.K X.H₀ W g H1 J xs->Q xs g->R J H1
theorem Ev.keep {H0:Hp}{W W':Addr->Prop}{H H':Hp}{g:Bool}(e:Ev W H W' H')(tw:∀a,W a->∃o,H a=some o/\dJ o=true):fU (Ms H0 W g) (Ms H0 W' g) H H':=by
 have m:∀{a:Addr}{o:HO},Ms H0 W g a->H a=some o->yC o=false->Ms H0 W' g a/\H' a=some o:=λ{a o} z h hk=>by
  cases g with
  |true=>
   obtain⟨h1,h2⟩:=e a _ h z.1 hk
   exact⟨⟨h2,z.2⟩,h1⟩
  |false=>
   obtain⟨h1,h2⟩:=e a _ h z hk
   exact⟨h2,h1⟩
 refine⟨λa _ z h=>m z h rfl,λa _ z h=>m z h rfl,λa _ z h=>m z h rfl,λa _ h=>(e a _ h (λz=>?_) rfl).1,λa _ _ h f=>(e a _ h (λz=>?_) f).1⟩
 ·obtain⟨o,h',mu⟩:=tw a z;rw[h]at h';cases h';cases mu
 ·obtain⟨o,h',mu⟩:=tw a z;rw[h]at h';cases h';cases mu
section
variable {X:Cx}{σ:St}{H:Hp}{te:aA}{tr:c7}{R:It→Hp→Prop}
noncomputable def yN (K:ac)(tl:TE):TI:=λσ H R=>tl σ H λx H1=>∃a,x = .ref a/\((∃xs,aL K H1 a xs/\R (kD K a) H1)∨(∃xs,aI K H1 a xs/\R (iH K a) H1))
noncomputable def sQ:Tg->List PV->Bool
 |.fr,_=>true
 |.nw,_=>true
 |_,xs=>flats xs
noncomputable def fW (te:aA):dB:=λρ Q=>te ρ λx g=>∃xs,hZ x=some xs/\(g = .rd->flat x=true)/\Q xs (sQ g xs)
theorem sR {K:ac}{H0:Hp}{W:Addr->Prop}{g:Bool}{H1:Hp}{a:Addr}{us:List V}{xs:List PV}(tw:∀a,W a->∃o,H1 a=some o/\dJ o=true)(ha:∀W' H',Ev W H1 W' H'->aL K H' a us)(r:Reps K (Ms H0 W g) H1 us xs):iN K H0 W g H1 (kD K a) xs:=by
 have lr:=r.length
 refine⟨λW' H' i e hi=>⟨us,us[i]'(by omega),ha W' H' e,by simp⟩,λW' H' i v H2 e y hi=>?_,λW' H' e=>⟨us,ha W' H' e,by omega⟩⟩
 obtain⟨rfl,y⟩:=y
 obtain⟨x,hx,rx⟩:=r.get (y us (ha W' _ e))
 exact⟨aE.refl _,x,hx,rx.keep (e.keep tw)⟩
theorem yO {K:ac}{H0:Hp}{W:Addr->Prop}{g:Bool}{H1:Hp}{a:Addr}{us:List V}{xs:List PV}(tw:∀a,W a->∃o,H1 a=some o/\dJ o=true)(ha:∀W' H',Ev W H1 W' H'->aI K H' a us)(r:Reps K (Ms H0 W g) H1 us xs):iN K H0 W g H1 (iH K a) xs:=by
 have lr:=r.length
 refine⟨λW' H' i e hi=>⟨us,us[i]'(by omega),ha W' H' e,by simp⟩,λW' H' i v H2 e y hi=>?_,λW' H' e=>⟨us,ha W' H' e,by omega⟩⟩
 obtain⟨rfl,y⟩:=y
 obtain⟨x,hx,rx⟩:=r.get (y us (ha W' _ e))
 exact⟨aE.refl _,x,hx,rx.keep (e.keep tw)⟩
theorem jH {K:ac}{H0 Hs H:Hp}{W:Addr->Prop}{σ:St}{ρ:b9}{g:Tg}{us:List V}{xs:List PV}(px:PX K H0 W σ ρ Hs)(hg:g = .rd->flats xs=true)(r:Reps K (Mg H0 W Hs g) H us xs):Reps K (Ms H0 W (sQ g xs)) H us xs:=by
 cases g with
 |fr=>exact r.same (aE.refl _) λ_ z=>px.new z
 |nw=>exact r.same (aE.refl _) λ_ z=>z
 |sh=>
  show Reps K (Ms H0 W (flats xs)) H us xs
  cases e:flats xs with
  |true=>exact r.flat e
  |false=>exact r.same (aE.refl _) λ_ z=>z
 |rd=>exact r.flat (hg rfl)
theorem ah2 (h:LI X (fW te) σ H R):yN X.K (LE X te) σ H R:=by
 obtain⟨W,ρ,Q,px,q,k⟩:=h
 refine⟨W,ρ,_,px,q,?_⟩
 rintro v H1 x g s r ⟨xs,e,hg,q⟩
 have px1:=px.mono s
 have tw:∀a,W a->∃o,H1 a=some o/\dJ o=true:=λa z=>(px1.wm a z).2
 cases r with
 |tup h r=>
  cases e
  refine⟨_,rfl,.inr ⟨_,aI.of h,k _ _ _ _ s (yO tw (λW' H' e=>aI.of (e _ _ h (λz=>?_) rfl).1) (jH px (λz=>by have:=hg z;unfold flat at this;exact this) r)) q⟩⟩
  obtain⟨o,h',mu⟩:=tw _ z;rw[h]at h';cases h';cases mu
 |@lst a us xs' m h r=>
  cases e
  have wa:¬W a:=by
   cases g with
   |fr=>exact (px.new m).1
   |nw=>exact m.1
   |sh=>exact m
   |rd=>have:=hg rfl;unfold flat at this;cases this
  exact⟨_,rfl,.inl ⟨_,aL.of h,k _ _ _ _ s (sR tw (λW' H' e=>aL.of (e _ _ h wa rfl).1) (jH px (λz=>by have:=hg z;unfold flat at this;cases this) r)) q⟩⟩
 |scr h=>
  cases e
  refine⟨_,rfl,.inl ⟨_,h.sqL,k _ _ _ _ s (sR tw (λW' H' e=>(hV.keep (λa o u hz f=>(e _ _ hz (λz=>?_) f).1) h).sqL) (jH (g:=g) px (λz=>eI _) (Reps.intz _))) q⟩⟩
  obtain⟨o,h',mu⟩:=tw _ z;rw[hz]at h';cases h';cases mu
 |kt h r=>
  cases e
  exact⟨_,rfl,.inr ⟨_,.inr h,k _ _ _ _ s (yO tw (λW' H' e=>.inr h) (jH px (λz=>by have:=hg z;unfold flat at this;exact this) r)) q⟩⟩
 |fL h r=>
  cases e
  refine⟨_,rfl,.inl ⟨_,.inl (.inr ⟨_,h⟩),k _ _ _ _ s (sR tw (λW' H' e=>.inl (.inr ⟨_,(e _ _ h (λz=>?_) rfl).1⟩)) (jH px (λz=>by have:=hg z;unfold flat at this;exact this) r)) q⟩⟩
  obtain⟨o,h',mu⟩:=tw _ z;rw[h]at h';cases h';cases mu
 |_=>cases e
noncomputable def i4 (lo:Int)(n:Nat):List PV:=(List.range n).map λ(i:Nat)=>PV.int (lo+(i:Int))
theorem iO (lo:Int)(n:Nat):(i4 lo n).length=n:=by unfold i4;rw[aJ2,aT1]
theorem yP {lo:Int}{n i:Nat}(h:i<n):(i4 lo n)[i]? = some (.int (lo+i)):=by unfold i4;rw[aJ9,aT5 h];rfl
noncomputable def m3 (te:aA):dB:=λρ Q=>te ρ λx _=>∃j:Int,x = .int j/\-1000000<=j/\j<=1000000/\Q (i4 0 j.toNat) true
noncomputable def sS (ta tb:aA):dB:=λρ Q=>ta ρ λx _=>tb ρ λy _=>∃i j:Int,x = .int i/\y = .int j/\(-1000000<=i/\i<=1000000/\-1000000<=j/\j<=1000000)/\Q (i4 i (j-i).toNat) true
theorem yQ {K:ac}{H0:Hp}{W:Addr->Prop}{H1:Hp}(lo:Int)(n:Nat):iN K H0 W true H1 (lH lo n) (i4 lo n):=by
 refine⟨λW' H' i e hi=>by rw[iO]at hi;exact hi,λW' H' i v H2 e y hi=>?_,λW' H' e=>by show n<=(i4 lo n).length;rw[iO];exact aI6 _⟩
 rw[iO]at hi
 obtain⟨rfl,rfl⟩:=y
 exact⟨aE.refl _,_,yP hi,.int _⟩
theorem ah3 (h:LI X (m3 te) σ H R):vS (gW (LE X te) jB) σ H R:=by
 obtain⟨W,ρ,Q,px,q,k⟩:=h
 refine⟨W,ρ,_,px,q,?_⟩
 rintro v H1 x g s r ⟨j,rfl,h1,h2,q⟩
 cases r
 exact⟨j,rfl,by omega,by omega,k _ _ _ _ s (yQ 0 j.toNat) q⟩
theorem ah4 {ta tb:aA}(h:LI X (sS ta tb) σ H R):vT (gW (LE X ta) (gW (LE X tb) jB)) σ H R:=by
 obtain⟨W,ρ,Q,px,q,k⟩:=h
 refine⟨W,ρ,_,px,q,λv H1 x g s r q=>⟨W,ρ,_,px.mono s,q,?_⟩⟩
 rintro w H2 y g' s2 r2 ⟨i,j,rfl,rfl,h,q⟩
 cases r;cases r2
 exact⟨i,j,rfl,by omega,k _ _ _ _ (s.trans s2) (yQ i (j-i).toNat) q⟩
end
noncomputable abbrev fX:=PV->Bool->b9->(b9->Prop)->Prop
noncomputable def jI (K:ac)(own:Nat->Prop)(p:fX)(t:TG):Prop:=∀(H0:Hp) (W:Addr->Prop) (σ:St) (ρ:b9) (H:Hp) (v:V) (x:PV) (g:Bool) (Q:b9->Prop) (Q':St->Hp->Prop),
 PX K H0 W σ ρ H->aF K (Ms H0 W g) H v x->p x g ρ Q->(∀σ' ρ',PX K H0 W σ' ρ' H->(∀i,¬own i->σ'[i]? = σ[i]?)->σ'.length=σ.length->Q ρ'->Q' σ' H)->t v σ H Q'
noncomputable def cO (i:Nat):fX:=λx g ρ Q=>Q (ρ.set i (some (.sh (g||flat x) x)))
theorem o7 {K:ac}{H0 H:Hp}{W:Addr->Prop}{v:V}{x:PV}{g:Bool}(r:aF K (Ms H0 W g) H v x):aF K (Ms H0 W (g||flat x)) H v x:=by
 cases g with
 |true=>exact r
 |false=>
  show aF K (Ms H0 W (flat x)) H v x
  cases e:flat x with
  |true=>exact r.flat e
  |false=>exact r
theorem jJ (K:ac)(i:Nat):jI K (· = i) (cO i) (cJ i):=by
 intro H0 W σ ρ H v x g Q Q' px r q k
 exact k _ _ (px.setSh (o7 r)) (λj hj=>by rw[aK8 (Ne.symm hj)]) (aO0 ..) q
noncomputable def jK (i j:Nat):fX:=λx g ρ Q=>∃y z,x = .tup [y,z]/\Q ((ρ.set i (some (.sh (g||flat y) y))).set j (some (.sh (g||flat z) z)))
theorem sT (K:ac)(i j:Nat):jI K (λk=>k=i∨k=j) (jK i j) (lG K 2 (gU (cJ i) (gU (cJ j) lF))):=by
 intro H0 W σ ρ H v x g Q Q' px r q k
 obtain⟨y,z,rfl,q⟩:=q
 obtain⟨a,us,rfl,h,r⟩:=r.sqT
 obtain⟨u1,u2,rfl,r1,r2⟩:=r.two
 refine⟨a,_,rfl,aI.of h,rfl,u1,_,rfl,u2,_,rfl,rfl,k _ _ ((px.setSh (o7 r1)).setSh (o7 r2)) (λk hk=>?_) (by rw[aO0,aO0]) q⟩
 rw[aK8 (λe=>hk (.inr e.symm)),aK8 (λe=>hk (.inl e.symm))]
section
variable {X:Cx}{σ:St}{H:Hp}{D:cI}
noncomputable def fB (ti:dB)(p:fX)(tb:aR):aR:=λD ρ=>ti ρ λxs g=>∃I:Nat->b9->Prop,I 0 ρ/\(∀i x ρ',xs[i]? = some x->I i ρ'->p x g ρ' λρ2=>tb { D with nx:=I (i+1),ct:=I (i+1),bk:=D.nx } ρ2)/\∀ρ',I xs.length ρ'->D.nx ρ'
theorem ah5 {ti:dB}{p:fX}{g:TG}{tb:aR}{own:Nat->Prop}(hg:jI X.K own p g)(h:LS X (fB ti p tb) D σ H):vU (LI X ti) g (LS X tb) D σ H:=by
 obtain⟨W,ρ,D',px,q,k⟩:=h
 refine⟨W,ρ,_,px,q,?_⟩
 rintro J H1 xs gb s it ⟨I,i0,turn,fin⟩
 refine⟨λi m σ2 H2=>m=xs.length-i/\i<=xs.length/\∃W2 ρ2,PX X.K X.H₀ W2 σ2 ρ2 H2/\Ev W H1 W2 H2/\I i ρ2,⟨xs.length,by omega,aP8 _,W,ρ,px.mono s,Ev.refl _ _,i0⟩,?_⟩
 rintro i m σ2 H2 ⟨rfl,hi,W2,ρ2,px2,e2,i2⟩
 have e0:Ev W H W2 H2:=(Ev.same s).trans e2
 by_cases hlt:i<xs.length
 ·refine .inr ⟨it.go W2 H2 i e2 hlt,λσ3 H3=>∃W3 ρ3,PX X.K X.H₀ W3 σ3 ρ3 H3/\Ev W H1 W3 H3/\I (i+1) ρ3,λσ3 H3 ⟨W3,ρ3,a,b,c⟩=>⟨xs.length-(i+1),by omega,rfl,hlt,W3,ρ3,a,b,c⟩,λv H3 y=>?_⟩
  obtain⟨s3,x,hx,rx⟩:=it.yld W2 H2 i v H3 e2 y hlt
  refine hg X.H₀ W2 σ2 ρ2 H3 v x gb _ _ (px2.mono s3) rx (turn i x ρ2 hx i2) λσ4 ρ4 px4 _ _ q4=>?_
  have e3:Ev W H1 W2 H3:=e2.trans (Ev.same s3)
  have e3':Ev W H W2 H3:=e0.trans (Ev.same s3)
  exact⟨W2,ρ4,_,px4,q4,λW' σ' H' ρ' e p q=>⟨W',ρ',p,e3.trans e,q⟩,k.rt,λW' σ' H' ρ' e p q=>k.nx W' σ' H' ρ' (e3'.trans e) p q,λW' σ' H' ρ' e p q=>⟨W',ρ',p,e3.trans e,q⟩⟩
 ·have e:i=xs.length:=by omega
  subst e
  exact .inl ⟨it.stop W2 H2 e2,k.nx W2 σ2 H2 ρ2 e0 px2 (fin ρ2 i2)⟩
end
noncomputable def kM (fr:List (Option Nat))(ρ:b9):b9:=fr.map λo=>o.bind λj=>(ρ[j]?).join.map λm=>Slot.sh false m.val
noncomputable def jL (D:Addr):Addr->Prop:=λa=>a=D
theorem ah6 {K:ac}{H0:Hp}{W:Addr->Prop}{σ:St}{ρ:b9}{H1 H':Hp}{D:Addr}{acc:List V}{fr:List (Option Nat)}(px:PX K H0 W σ ρ H1)(hD:H1 D=none)(s:aE H1 H')(ha:H' D=some (.lst acc)) :
  PX K H1 (jL D) (cW fr σ) (kM fr ρ) H':=by
 have old:∀{a:Addr}{o:HO},H1 a=some o->a≠D:=λ{a o} e z=>by rw[z,hD]at e;cases e
 refine⟨by unfold cW kM;rw[aJ2,aJ2],s,λa z=>by cases z;exact⟨hD,_,ha,rfl⟩,λi m h=>?_,λi j x y a h1=>?_⟩
 ·unfold kM at h
  rw[aJ9]at h
  cases ef:fr[i]? with
  |none=>rw[ef]at h;cases h
  |some o=>
   rw[ef]at h
   cases o with
   |none=>cases h
   |some j=>
    have h:some ((ρ[j]?).join.map λm=>Slot.sh false m.val)=some (some m):=h
    cases er:ρ[j]? with
    |none=>rw[er]at h;cases h
    |some o=>
     rw[er]at h
     cases o with
     |none=>cases h
     |some m0=>
      cases h
      obtain⟨v,ev,r⟩:=px.sl j m0 er
      refine⟨v,?_,?_⟩
      ·unfold cW
       rw[aJ9,ef]
       show some ((σ[j]?).join)=_
       rw[ev];rfl
      ·have r':aF K (λ_=>True) H1 v m0.val:=(yE (Hs:=H1) r).same (aE.refl _) λ_ _=>trivial
       exact r'.keep ⟨λa _ _ e=>⟨old e,s _ _ e⟩,λa _ _ e=>⟨old e,s _ _ e⟩,λa _ _ e=>⟨old e,s _ _ e⟩,λ_ _ e=>s _ _ e,λ_ _ _ e _=>s _ _ e⟩
 ·unfold kM at h1
  rw[aJ9]at h1
  cases ef:fr[i]? with
  |none=>rw[ef]at h1;cases h1
  |some o=>
   rw[ef]at h1
   cases o with
   |none=>cases h1
   |some j=>
    have h1:some ((ρ[j]?).join.map λm=>Slot.sh false m.val)=some (some (Slot.own x)):=h1
    cases er:ρ[j]? with
    |none=>rw[er]at h1;cases h1
    |some o=>
     rw[er]at h1
     cases o with
     |none=>cases h1
     |some m0=>cases h1
section
variable {X:Cx}{σ:St}{H:Hp}{Q':VK}
noncomputable abbrev _root_.L2.Cx.frm (X:Cx)(H1:Hp):Cx:={ X with H₀:=H1 }
noncomputable def dM (ti:dB)(fr:List (Option Nat))(p:fX)(tc:bW)(te:aA):aA:=λρ Q=>ti ρ λxs g=>xs.length<=16000000/\∃I:Nat->List PV->Prop,I 0 []/\
 (∀i x acc,xs[i]? = some x->I i acc->p x false (kM fr ρ) λρ2=>tc ρ2 λb=>if b=true then te ρ2 λy gy=>Nw gy y/\I (i+1) (acc++[y]) else I (i+1) acc)/\∀acc,I xs.length acc->Q (.lst acc) .fr
theorem jM {ti:dB}{fr:List (Option Nat)}{p:fX}{g:TG}{tc:bW}{te:aA}{own:Nat->Prop}(hg:jI X.K own p g)(ho:∀i,own i->fr[i]? = some none)(h:LE X (dM ti fr p tc te) σ H Q') :
  rP (LI X ti) fr (λ_=>g) (λH1=>LT (X.frm H1) tc) (λH1=>LE (X.frm H1) te) σ H Q':=by
 obtain⟨W,ρ,Q,px,q,k⟩:=h
 refine⟨W,ρ,_,px,q,?_⟩
 rintro J H1 xs gb s it ⟨hl,I,i0,turn,fin⟩ D hD
 have px1:=px.mono s
 refine⟨λi m acc H'=>m=xs.length-i/\i<=xs.length/\aE H1 H'/\H' D=some (.lst acc)/\∃ys,Reps X.K (Ms H1 (jL D) true) H' acc ys/\ys.length<=i/\I i ys,⟨xs.length,by omega,aP8 _,b7 hD _,bB,[],.nil,aI6 _,i0⟩,?_⟩
 rintro i m acc H' ⟨rfl,hi,sm,ha,ys,ry,hy,iy⟩
 refine⟨ha,?_⟩
 have ev:Ev W H1 (kL W D) H':=Ev.own sm hD
 by_cases hlt:i<xs.length
 ·refine .inr ⟨it.go _ H' i ev hlt,λv H2 y=>?_⟩
  obtain⟨s2,x,hx,rx⟩:=it.yld _ H' i v H2 ev y hlt
  have ha2:=s2 _ _ ha
  have pxb:PX X.K H1 (jL D) (cW fr σ) (kM fr ρ) H2:=ah6 px1 hD (sm.trans s2) ha2
  have rx':aF X.K (Ms H1 (jL D) false) H2 v x:=rx.same (aE.refl _) λa z=>by
   cases gb with
   |true=>exact λe=>z.1 (.inr e)
   |false=>exact λe=>z (.inr e)
  refine hg H1 (jL D) _ _ H2 v x false _ _ pxb rx' (turn i x ys hx iy) λσ2 ρ2 px2 hown hlen q2=>⟨⟨hlen.symm,λj w e=>?_⟩,?_⟩
  ·by_cases oj:own j
   ·have:=ho j oj
    unfold cW at e
    rw[aJ9,this]at e
    cases e
   ·rw[hown j oj];exact e
  ·refine⟨jL D,ρ2,_,px2,q2,λb H4 s4 q4=>?_⟩
   have ha4:=s4 _ _ ha2
   have sm4:=(sm.trans s2).trans s4
   cases b with
   |false=>
    refine aW ⟨xs.length-(i+1),by omega,rfl,hlt,sm4,ha4,ys,ry.same (s2.trans s4) λ_ z=>z,by omega,by simpa using q4⟩
   |true=>
    refine b8 ⟨jL D,ρ2,_,px2.mono s4,by simpa using q4,?_⟩
    rintro w H5 y gy s5 ryy ⟨nw,q5⟩
    have ha5:=s5 _ _ ha4
    have lr:=ry.length
    refine⟨ha5,jE (by omega),xs.length-(i+1),by omega,rfl,hlt,λb o e=>?_,bB,ys++[y],?_,by rw[aL5,aS2];omega,q5⟩
    ·rw[aN (λz=>by rw[z,hD]at e;cases e)]
     exact s5 _ _ (sm4 _ _ e)
    ·exact ((ry.same ((s2.trans s4).trans s5) λ_ z=>z).append (.cons (Nw.rep (px2.mono s4) nw ryy) .nil)).keep (.upd ha5 rfl λb m=>⟨m.1,m⟩)
 ·have e:i=xs.length:=by omega
  subst e
  refine .inl ⟨it.stop _ H' ev,k _ H' _ .fr (s.trans sm) (.lst (s.free hD) ha (ry.same (aE.refl _) λ_ z=>s.free z.2)) (fin ys iy)⟩
noncomputable def cR:bW:=λ_ Q=>Q true
theorem ah7 {Qb:Bool->Hp->Prop}(h:LT X cR σ H Qb):rL σ H Qb:=by
 obtain⟨W,ρ,Q,px,q,k⟩:=h
 exact k _ _ (aE.refl _) q
end
section
variable {κ:Type}[DecidableEq κ]
noncomputable def eQ (ps:List (κ×PV))(k:κ):Option PV:=(ps.find? λp=>decide (p.1=k)).map (·.2)
noncomputable def dS (ps:List (κ×PV))(k:κ)(x:PV):List (κ×PV):=if (ps.any λp=>decide (p.1=k))=true then ps.map (λp=>if p.1=k then (p.1,x) else p) else ps++[(k,x)]
variable {K:ac}{M:Addr→Prop}{H:Hp}
theorem i5 (k:κ):∀{kvs:List (κ×V)}{ps:List (κ×PV)},kvs.map (·.1)=ps.map (·.1)->Reps K M H (kvs.map (·.2)) (ps.map (·.2))->(eQ ps k=none->dR kvs k=none)/\∀x,eQ ps k=some x->∃v,dR kvs k=some v/\aF K M H v x
 |[],[],_,_=>⟨λ_=>rfl,λx h=>by cases h⟩
 |[],_::_,e,_=>by cases e
 |_::_,[],e,_=>by cases e
 |(k1,v)::kvs,(k2,x)::ps,e,r=>by
  injection e with e1 e2
  have e1:k1=k2:=e1
  subst e1
  cases r with
  |cons r t=>
   obtain⟨h1,h2⟩:=i5 k e2 t
   unfold eQ dR at h1 h2 ⊢
   by_cases e:k1=k
   ·simp only[aR0,e,decide_true,Option.map_some]
    exact⟨λz=>(by cases z),λy z=>(by cases z;exact⟨v,rfl,r⟩)⟩
   ·simp only[aR0,e,decide_false]
    exact⟨h1,h2⟩
theorem ah8 (k:κ){kvs:List (κ×V)}{ps:List (κ×PV)}(e:kvs.map (·.1)=ps.map (·.1)):(kvs.any λp=>decide (p.1=k))=ps.any λp=>decide (p.1=k):=by
 have h1:(kvs.any λp=>decide (p.1=k))=(kvs.map (·.1)).any λz=>decide (z=k):=by rw[List.any_map];rfl
 have h2:(ps.any λp=>decide (p.1=k))=(ps.map (·.1)).any λz=>decide (z=k):=by rw[List.any_map];rfl
 rw[h1,h2,e]
theorem yR (k:κ){w:V}{y:PV}(q:aF K M H w y):∀{kvs:List (κ×V)}{ps:List (κ×PV)},kvs.map (·.1)=ps.map (·.1)->Reps K M H (kvs.map (·.2)) (ps.map (·.2))->
  (kvs.map λkv=>if kv.1=k then (kv.1,w) else kv).map (·.1)=(ps.map λkv=>if kv.1=k then (kv.1,y) else kv).map (·.1)/\Reps K M H ((kvs.map λkv=>if kv.1=k then (kv.1,w) else kv).map (·.2)) ((ps.map λkv=>if kv.1=k then (kv.1,y) else kv).map (·.2))
 |[],[],_,_=>⟨rfl,.nil⟩
 |[],_::_,e,_=>by cases e
 |_::_,[],e,_=>by cases e
 |(k1,v)::kvs,(k2,x)::ps,e,r=>by
  injection e with e1 e2
  have e1:k1=k2:=e1
  subst e1
  cases r with
  |cons r t=>
   obtain⟨h1,h2⟩:=yR k q e2 t
   by_cases e:k1=k
   ·simp only[aM5,e,if_true]
    exact⟨by rw[h1],.cons q h2⟩
   ·simp only[aM5,e,aQ2]
    exact⟨by rw[h1],.cons r h2⟩
theorem ah9 (k:κ){w:V}{y:PV}(q:aF K M H w y){kvs:List (κ×V)}{ps:List (κ×PV)}(e:kvs.map (·.1)=ps.map (·.1))(r:Reps K M H (kvs.map (·.2)) (ps.map (·.2))) :
  (e8 kvs k w).map (·.1)=(dS ps k y).map (·.1)/\Reps K M H ((e8 kvs k w).map (·.2)) ((dS ps k y).map (·.2)):=by
 unfold e8 dS
 rw[ah8 k e]
 split
 ·exact yR k q e r
 ·rw[aM9,aM9,aM9,aM9,e]
  exact⟨rfl,r.append (.cons q .nil)⟩
end
noncomputable def kP:aH->PV
 |.inl i=>.int i
 |.inr x=>.str x
theorem yS {K:ac}{M:Addr->Prop}{H:Hp}{v:V}{k:aH}(r:aF K M H v (kP k)):v=kV k:=by
 cases k with
 |inl i=>cases r;rfl
 |inr x=>cases r;rfl
theorem o8 {K:ac}{M:Addr->Prop}{H:Hp}:∀{ks:List aH}{us:List V},Reps K M H us (ks.map kP)->us=ks.map kV
 |[],_,.nil=>rfl
 |k::r,_,.cons q t=>by rw[yS q,o8 t];rfl
noncomputable def yT:PV->PV
 |.fK ps=>.dK ps
 |.fT ps=>.dT ps
 |x=>x
noncomputable def yU (x y:PV)(o:Option PV):Prop:=(∃ps k,yT x = .dK ps/\y=kP k/\o=eQ ps k)∨(∃ps k,yT x = .dT ps/\y = .tup (k.map kP)/\o=eQ ps k)
theorem ai0 {K:ac}{M M2:Addr->Prop}{H:Hp}{v w:V}{x y:PV}{o:Option PV}(h:yU x y o)(rx:aF K M H v x)(ry:aF K M2 H w y):∃a o',v = .ref a/\hI H a w o'/\(o=none->o'=none)/\∀z,o=some z->∃u,o'=some u/\aF K M H u z:=by
 rcases h with⟨ps,k,ex,rfl,rfl⟩|⟨ps,k,ex,rfl,rfl⟩
 ·obtain rfl:=yS ry
  cases rx with
  |dK m h e r=>cases ex;exact⟨_,_,rfl,hI.k h,(i5 k e r).1,(i5 k e r).2⟩
  |fK h e r=>cases ex;exact⟨_,_,rfl,.inl ⟨_,k,.inr ⟨_,h⟩,rfl,rfl⟩,(i5 k e r).1,(i5 k e r).2⟩
  |_=>cases ex
 ·obtain⟨b,us,rfl,hb,rb⟩:=ry.sqT
  obtain rfl:=o8 rb
  cases rx with
  |dT m h e r=>cases ex;exact⟨_,_,rfl,hI.t h hb,(i5 k e r).1,(i5 k e r).2⟩
  |fT h e r=>cases ex;exact⟨_,_,rfl,.inr ⟨_,k,b,.inr ⟨_,h⟩,rfl,hb,rfl⟩,(i5 k e r).1,(i5 k e r).2⟩
  |_=>cases ex
section
variable {X:Cx}{σ:St}{H:Hp}{D:cI}{tk td te:aA}{Q':VK}
noncomputable def sU (neg:Bool)(tk td:aA):aA:=λρ Q=>tk ρ λy _=>td ρ λx _=>∃o,yU x y o/\Q (.bl (if neg=true then !o.isSome else o.isSome)) .fr
theorem ai1 {α β:Type}{o:Option α}{o':Option β}{P:β->α->Prop}(h1:o=none->o'=none)(h2:∀z,o=some z->∃u,o'=some u/\P u z):o'.isSome=o.isSome:=by
 cases o with
 |none=>rw[h1 rfl];rfl
 |some z=>obtain⟨u,e,_⟩:=h2 z rfl;rw[e];rfl
theorem ai2 (h:LE X (sU false tk td) σ H Q'):xE (LE X tk) (LE X td) σ H Q':=by
 obtain⟨W,ρ,Q,px,q,k⟩:=h
 refine⟨W,ρ,_,px,q,λw H1 y g s r q=>⟨W,ρ,_,px.mono s,q,?_⟩⟩
 rintro v H2 x g' s2 r2 ⟨o,ak,q⟩
 obtain⟨a,o',rfl,dg,h1,h2⟩:=ai0 ak r2 (r.same s2 λ_ z=>z)
 refine⟨a,o',rfl,dg,?_⟩
 rw[ai1 h1 h2]
 exact k _ _ _ .fr (s.trans s2) (.bl _) q
theorem PX.updT {K:ac}{H0:Hp}{W:Addr->Prop}{σ:St}{ρ:b9}{H:Hp}{i:Nat}{a:Addr}{x:PV}{kvs:List (List aH×V)}{ps:List (List aH×PV)}(p:PX K H0 W σ ρ H)(hi:ρ[i]? = some (some (.own x)))(ha:σ[i]? = some (some (.ref a)))(wa:W a)(r:kvs.map (·.1)=ps.map (·.1)/\Reps K (Ms H0 W true) (upd H a (.dT kvs)) (kvs.map (·.2)) (ps.map (·.2))):PX K H0 W σ (ρ.set i (some (.own (.dT ps)))) (upd H a (.dT kvs)):=p.updOwn hi ha wa rfl (y:=.dT ps) ⟨kvs,bB,r⟩
theorem ai3 {κ α β:Type}{l:List (κ×α)}{m:List (κ×β)}(e:l.map (·.1)=m.map (·.1)):l.length=m.length:=by
 have:=congrArg List.length e
 rw[aJ2,aJ2]at this
 exact this
noncomputable def m5 (i:Nat)(tk te:aA):aR:=λD ρ=>te ρ λz g=>∃ps,ρ[i]? = some (some (.own (.dT ps)))/\tk ρ λy _=>∃k,y = .tup (k.map kP)/\Nw g z/\ps.length<16000000/\D.nx (ρ.set i (some (.own (.dT (dS ps k z)))))
theorem ai4 {i:Nat}(h:LS X (m5 i tk te) D σ H):xF (j7 i) (LE X tk) (LE X te) D σ H:=by
 obtain⟨W,ρ,D',px,q,k⟩:=h
 refine⟨W,ρ,_,px,q,?_⟩
 rintro w H1 z g s rz ⟨ps,hi,q⟩
 obtain⟨v,ev,a,rfl,wa,kvs,ea,e1,r⟩:=(px.mono s).sl i _ hi
 refine⟨_,ev,W,ρ,_,px.mono s,q,?_⟩
 rintro kv H2 y g' s2 ry ⟨kk,rfl,nw,hl,q⟩
 obtain⟨b,us,rfl,hb,rb⟩:=ry.sqT
 obtain rfl:=o8 rb
 have ea2:=s2 _ _ ea
 refine⟨a,_,rfl,lQ.t ea2 hb (jE (by rw[ai3 e1];omega)),?_⟩
 refine k.nx W σ _ _ ((Ev.same (s.trans s2)).trans (Ev.upd wa)) ((px.mono (s.trans s2)).updT hi ev wa ?_) q
 obtain⟨h1,h2⟩:=ah9 kk ((Nw.rep px nw rz).same s2 λ_ z=>z) e1 (r.same s2 λ_ z=>z)
 exact⟨h1,h2.keep (.upd ea2 rfl λb m=>⟨lX wa m,m⟩)⟩
theorem ai5 (h:LE X (qC (.dT [])) σ H Q'):xG σ H Q':=by
 obtain⟨W,ρ,Q,px,q,k⟩:=h
 exact λp hp=>k _ _ _ .fr (b7 hp _) (.dT hp bB rfl .nil) q
end
noncomputable def aY:Nat->PV->PV->Bool
 |_,.non,.non=>true
 |_,.bl a,.bl b=>a==b
 |_,.int a,.int b=>a==b
 |_,.str a,.str b=>a==b
 |n+1,.tup xs,.tup ys=>(xs.zip ys).all (λp=>aY n p.1 p.2)&&xs.length==ys.length
 |n+1,.lst xs,.lst ys=>(xs.zip ys).all (λp=>aY n p.1 p.2)&&xs.length==ys.length
 |n+1,.kt xs,.kt ys=>(xs.zip ys).all (λp=>aY n p.1 p.2)&&xs.length==ys.length
 |_,_,_=>false
noncomputable def bF:Nat->PV->PV->Bool
 |_,.non,.non=>true
 |_,.bl _,.bl _=>true
 |_,.int _,.int _=>true
 |_,.str _,.str _=>true
 |_,.non,.int _=>true
 |_,.int _,.non=>true
 |n+1,.tup xs,.tup ys=>(xs.zip ys).all (λp=>bF n p.1 p.2)
 |n+1,.lst xs,.lst ys=>(xs.zip ys).all (λp=>bF n p.1 p.2)
 |n+1,.kt xs,.kt ys=>(xs.zip ys).all (λp=>bF n p.1 p.2)
 |_+1,.non,.tup _=>true
 |_+1,.tup _,.non=>true
 |_,_,_=>false
theorem ai6 (n:Nat)(a b:Int):aY n (.int a) (.int b)=(a==b):=by cases n<;>rfl
theorem sV (n:Nat):∀(a b:ae),((((intz a).zip (intz b)).all λp=>aY n p.1 p.2)&&(intz a).length==(intz b).length)=decide (a=b)
 |[],[]=>rfl
 |[],_::_=>by simp
 |_::_,[]=>by simp
 |x::a,y::b=>by
  have ih:=sV n a b
  simp only[aM5,aR2,aR5,aM0,ai6]at ih ⊢
  by_cases e:x=y
  ·subst e
   have:((intz a).length+1==(intz b).length+1)=((intz a).length==(intz b).length):=by simp
   rw[this,aP7,Bool.true_and,ih]
   simp
  ·have:(x==y)=false:=beq_eq_false_iff_ne.mpr e
   rw[this,Bool.false_and,Bool.false_and]
   simp[e]
theorem sW (n:Nat)(a b:ae):aY (n+1) (.tup (intz a)) (.tup (intz b))=decide (a=b):=sV n a b
theorem yV (n:Nat)(a b:ae):aY (n+1) (.lst (intz a)) (.lst (intz b))=decide (a=b):=sV n a b
theorem sX (n:Nat):∀(a b:ae),(((intz a).zip (intz b)).all λp=>bF n p.1 p.2)=true
 |[],_=>by simp
 |_::_,[]=>by simp
 |x::a,y::b=>by
  simp only[aM5,aR2,aR5,sX n a b,Bool.and_true]
  cases n<;>rfl
theorem sY (n:Nat)(a b:ae):bF (n+1) (.tup (intz a)) (.tup (intz b))=true:=sX n a b
theorem yW (n:Nat)(a b:ae):bF (n+1) (.lst (intz a)) (.lst (intz b))=true:=sX n a b
noncomputable def iP (ta:aA):aA:=λρ Q=>ta ρ λx _=>∃i,x = .int i/\Q (.int (-i)) .fr
noncomputable def sZ (neg:Bool):PV->Tg->PV->Tg->PK->Prop:=λx _ y _ Q=>∃i ns,x = .int i/\hZ y=some (intz ns)/\Q (.bl (if neg=true then !decide (i∈ns) else decide (i∈ns))) .fr
noncomputable def yX:PV->Option String
 |.non=>some "NoneType"
 |.bl _=>some "bool"
 |.int _=>some "int"
 |.str _=>some "str"
 |.tup _=>some "tuple"
 |.kt _=>some "tuple"
 |.lst _=>some "list"
 |_=>none
noncomputable def fC (K:ac)(n:String)(te:aA):aA:=λρ Q=>te ρ λx _=>∃T b,yX x=some T/\PySem.W.kitOne K (.type T) (.type n)=some b/\Q (.bl b) .fr
noncomputable def i6 (n:Nat)(neg:Bool):PV->Tg->PV->Tg->PK->Prop:=λx _ y _ Q=>((∃xs ys,x = .tup xs/\y = .tup ys)∨(∃xs ys,x = .lst xs/\y = .lst ys))/\bF (n+1) x y=true/\Q (.bl (if neg=true then !aY (n+1) x y else aY (n+1) x y)) .fr
noncomputable abbrev kN:=b9->(Option Int->Prop)->Prop
noncomputable def cS (xs:List PV)(lo hi:Option Int):List PV:=(xs.drop (HT.aO xs.length 0 lo)).take (HT.aO xs.length xs.length hi-HT.aO xs.length 0 lo)
noncomputable def t5:PV->List PV->PV
 |.tup _,ys=>.tup ys
 |.kt _,ys=>.tup ys
 |_,ys=>.lst ys
noncomputable def iQ:kN:=λ_ Q=>Q none
noncomputable def iR (te:aA):kN:=λρ Q=>te ρ λx _=>∃i,x = .int i/\Q (some i)
noncomputable def iS (te:aA)(tl th:kN):aA:=λρ Q=>te ρ λx _=>tl ρ λlo=>th ρ λhi=>∃xs,seqT x=some xs/\flats xs=true/\Q (t5 x (cS xs lo hi)) .fr
noncomputable def dN (N:List Str)(xs:List PV):b9:=xs.map (λx=>some (.sh (flat x) x))++List.replicate (N.length-xs.length) none
noncomputable abbrev fD (ta tb:aA):aA:=q2 (eJ λi j=>.int (i+j)) ta tb
noncomputable abbrev jN (ta tb:aA):aA:=q2 (eJ λi j=>.int (i-j)) ta tb
noncomputable abbrev o9 (ta tb:aA):aA:=q2 (RI lJ λi j=>.int (i*j)) ta tb
noncomputable abbrev cK (ta tb:aA):aA:=q2 (RI qI λi j=>.int (i/j)) ta tb
noncomputable abbrev bH (ta tb:aA):aA:=q2 (RI (λ_ j=>0<j) λi j=>.int (i%j)) ta tb
noncomputable abbrev ai7 (ta tb:aA):aA:=q2 (RI qJ λi j=>.int (i^j.toNat)) ta tb
noncomputable abbrev m6 (ta tb:aA):aA:=q2 (eJ λi j=>.bl (decide (i<j))) ta tb
noncomputable abbrev i7 (ta tb:aA):aA:=q2 (eJ λi j=>.bl (decide (j<i))) ta tb
noncomputable abbrev qGe (ta tb:aA):aA:=q2 (eJ λi j=>.bl (decide (j<=i))) ta tb
noncomputable abbrev fE (ta tb:aA):aA:=q2 (kK false) ta tb
noncomputable abbrev t6 (ta tb:aA):aA:=q2 (kK true) ta tb
noncomputable abbrev cT (ta tb:aA):aA:=q2 sK ta tb
noncomputable def i8:List PV->(PV->Prop)->Prop:=λxs Q=>yM xs Q/\∀ns,xs≠[.scr ns]
noncomputable def QE (X:Cx)(e:Expr)(t:aA):Prop:=PE X e (LE X t)
noncomputable def QT (X:Cx)(e:Expr)(t:bW):Prop:=PT X e (LT X t)
noncomputable def QW (X:Cx)(e:Expr)(t:bW):Prop:=PW X e (LT X t)
noncomputable def QA (X:Cx)(es:List Expr)(t:c7):Prop:=PA X es (LA X t)
noncomputable def QS (X:Cx)(st:Stmt)(t:aR):Prop:=PS X st (LS X t)
noncomputable def dO (X:Cx)(st:List Stmt)(t:aR):Prop:=cX X st (LS X t)
noncomputable def QI (X:Cx)(tg iter:Expr)(t:dB):Prop:=PI X tg iter (LI X t)
section
variable {X:Cx}
theorem bO {e:Expr}{t t':TE}(h:PE X e t)(m:∀σ H Q,t' σ H Q->t σ H Q):PE X e t':=λpins s σ H Q I q=>h pins s σ H Q I (m σ H Q q)
theorem m7 {e:Expr}{t t':TT}(h:PT X e t)(m:∀σ H Q,t' σ H Q->t σ H Q):PT X e t':=λpins s σ H Q I q=>h pins s σ H Q I (m σ H Q q)
theorem yY {e:Expr}{t t':TT}(h:PW X e t)(m:∀σ H Q,t' σ H Q->t σ H Q):PW X e t':=λwh pins s σ H Q I q=>h wh pins s σ H Q I (m σ H Q q)
theorem yZ {e:List Expr}{t t':TA}(h:PA X e t)(m:∀σ H Q,t' σ H Q->t σ H Q):PA X e t':=λpos pins s σ H Q I q=>h pos pins s σ H Q I (m σ H Q q)
theorem dU {e:Stmt}{t t':TS}(h:PS X e t)(m:∀D σ H,t' D σ H->t D σ H):PS X e t':=λpins s σ H D I q=>h pins s σ H D I (m D σ H q)
theorem t7 {e:List Stmt}{t t':TS}(h:cX X e t)(m:∀D σ H,t' D σ H->t D σ H):cX X e t':=λpins s σ H D I q=>h pins s σ H D I (m D σ H q)
theorem m8 {tg e:Expr}{t t':TI}(h:PI X tg e t)(m:∀σ H R,t' σ H R->t σ H R):PI X tg e t':=λpins s σ H R I q=>h pins s σ H R I (m σ H R q)
variable {a b c e o:Expr}{es cH:List Expr}{ta tb te to tk:aA}{tr:c7}{tA tB' tc:bW}{pos p2 px:Pos}{st:Stmt}{sts:List Stmt}{t u:aR}
theorem qv (i:Nat){x:Str}{pos:Pos}(hN:X.N[i]? = some x:=by rfl)(hv:fI X.env.scope x:=by first|exact Or.inl rfl|exact Or.inr (Or.inl rfl)|exact Or.inr (Or.inr rfl))(hd:(x==("__debug__":Str))=false:=by decide)(hcd:(x==("__classdict__":Str))=false:=by decide):QE X (.Name x pos) (a6 i):=bO (j8 hN hv hd hcd) λ_ _ _=>ae2
theorem aD {i j}:QE X (.Constant (.int i) j pos) (qC (.int i)):=bO pY λ_ _ _=>lT λ_=>.int i
theorem fF {i j}:QE X (.Constant (.bool i) j pos) (qC (.bl i)):=bO P0 λ_ _ _=>lT λ_=>.bl i
theorem kO {i j}:QE X (.Constant (.str i) j pos) (qC (.str i)):=bO P3 λ_ _ _=>lT λ_=>.str i
theorem iT {op:Operator}{R:PV->Tg->PV->Tg->PK->Prop}{r:R2}(ho:bY X (binaryOp op) r)(cv:dL X R r)(ha:QE X a ta)(hb:QE X b tb):QE X (.BinOp a op b pos) (q2 R ta tb):=bO (S5 ho ha hb) λ_ _ _=>nU cv
theorem gJ (ha:QE X a ta)(hb:QE X b tb):QE X (.BinOp a .Add b pos) (q2 (eJ λi j=>.int (i+j)) ta tb):=iT S7 yF ha hb
theorem m9 (ha:QE X a ta)(hb:QE X b tb):QE X (.BinOp a .Sub b pos) (q2 (eJ λi j=>.int (i-j)) ta tb):=iT S8 yF ha hb
theorem oA (ha:QE X a ta)(hb:QE X b tb):QE X (.BinOp a .Mult b pos) (q2 (RI lJ λi j=>.int (i*j)) ta tb):=iT S9 nV ha hb
theorem cU (ha:QE X a ta)(hb:QE X b tb):QE X (.BinOp a .FloorDiv b pos) (q2 (RI qI λi j=>.int (i/j)) ta tb):=iT T0 nV ha hb
theorem bT (ha:QE X a ta)(hb:QE X b tb):QE X (.BinOp a .Mod b pos) (q2 (RI (λ_ j=>0<j) λi j=>.int (i%j)) ta tb):=iT T1 nV ha hb
theorem ai8 (ha:QE X a ta)(hb:QE X b tb):QE X (.BinOp a .Pow b pos) (q2 (RI qJ λi j=>.int (i^j.toNat)) ta tb):=iT T2 nV ha hb
theorem z9 {op:CmpOp}{R:PV->Tg->PV->Tg->PK->Prop}{r:R2}(ho:bY X (compareOp op) r)(cv:dL X R r)(ha:QE X a ta)(hb:QE X b tb)(hm:behindInMarks op b=false):QE X (.Compare a [op] [b] pos) (q2 R ta tb):=bO (T9 ho ha hb hm) λ_ _ _=>nU cv
theorem jO {op:CmpOp}{R:PV->Tg->PV->Tg->PK->Prop}{r:R2}(ho:bY X (compareOp op) r)(cv:dL X R r)(ha:QE X a ta)(hb:QE X b tb)(hm:behindInMarks op b=false):QT X (.Compare a [op] [b] pos) (aU (q2 R ta tb)):=m7 (U1 ho ha hb hm) λ_ _ _ h=>nU cv (sD h)
theorem mB (ha:QE X a ta)(hb:QE X b tb):QT X (.Compare a [.Lt] [b] pos) (aU (q2 (eJ λi j=>.bl (decide (i<j))) ta tb)):=jO wA nW ha hb (iI _)
theorem iU (ha:QE X a ta)(hb:QE X b tb):QT X (.Compare a [.Gt] [b] pos) (aU (q2 (eJ λi j=>.bl (decide (j<i))) ta tb)):=jO T7 nW ha hb (iI _)
theorem ai9 (ha:QE X a ta)(hb:QE X b tb):QT X (.Compare a [.GtE] [b] pos) (aU (q2 (eJ λi j=>.bl (decide (j<=i))) ta tb)):=jO T8 nW ha hb (iI _)
theorem fY (ha:QE X a ta)(hb:QE X b tb):QT X (.Compare a [.Eq] [b] pos) (aU (q2 (kK false) ta tb)):=jO T5 ae3 ha hb (iI _)
theorem t8 (ha:QE X a ta)(hb:QE X b tb):QT X (.Compare a [.NotEq] [b] pos) (aU (q2 (kK true) ta tb)):=jO T6 ae4 ha hb (iI _)
theorem aj0 (hu:X.A.units+1<cLine)(hk:QE X a tk)(hd:QE X b te)(hm:behindInMarks .In b=false:=by rfl):QT X (.Compare a [.In] [b] pos) (aU (sU false tk te)):=m7 (P5 (aa1 hu hk hd) hm) λ_ _ _ h=>ai2 (sD h)
theorem gK (h:QE X e te)(he:∀whole,isTrue e X.env whole=(do let v <- whole;standAt e.pos;holding [v] (truthy v)):=by intro _;rfl):QT X e (aU te):=m7 (P6 h he) λ_ _ _ h=>sD h
theorem aj1 (h:QE X e te)(he:∀whole,isTrue e X.env whole=(do let v <- whole;standAt e.pos;holding [v] (truthy v)):=by intro _;rfl):QT X e (sO te):=m7 (U4 h he) λ_ _ _ h=>ah1 h
theorem mC (ha:QT X a tA):QW X (.BoolOp .And [a] pos) tA:=P7 ha
theorem iV (ha:QT X a tA):QW X (.BoolOp .Or [a] pos) tA:=P8 ha
theorem mD (ha:QT X a tA)(hb:QW X (.BoolOp .And (b::cH) pos) tB'):QW X (.BoolOp .And (a::b::cH) pos) (iM tA tB'):=yY (P9 ha hb) λ_ _ _=>ae5
theorem gL (ha:QT X a tA)(hb:QW X (.BoolOp .Or (b::cH) pos) tB'):QW X (.BoolOp .Or (a::b::cH) pos) (eZ tA tB'):=yY (Q0 ha hb) λ_ _ _=>ae6
theorem eR (h:QW X e tA):QT X e tA:=PW.pt h
theorem fZ (ha:QT X a tA):QT X (.UnaryOp .Not a pos) (eL tA):=m7 (Q3 ha) λ_ _ _=>ae7
theorem zA {op}(h:QE X a ta):QE X (.BoolOp op [a] pos) ta:=Q4 h
theorem zB (ha:QE X a ta)(hb:QE X (.BoolOp .And (b::cH) pos) tb):QE X (.BoolOp .And (a::b::cH) pos) (nX ta tb):=bO (Q5 ha hb) λ_ _ _=>ae8
theorem aj2 (ha:QE X a ta):QE X (.UnaryOp .Not a pos) (sE ta):=bO (Q6 ha) λ_ _ _=>ae9
theorem aG:QA X [] aB:=yZ fN λ_ _ _=>af0
theorem a8 (ha:QE X e te)(hr:QA X es tr)(hs:starEach (e::es) X.env=(false,eval e X.env)::starEach es X.env:=by rfl):QA X (e::es) (a7 te tr):=yZ (dZ ha hr hs) λ_ _ _=>af1
theorem dW {x1}(h:QA X es tr):QE X (.Tuple es x1 pos) (cC tr):=bO (wC h) λ_ _ _=>af3
theorem mE {x1}(h:QA X es tr):QE X (.Tuple es x1 pos) (lU tr):=bO (wC h) λ_ _ _=>af2
theorem gM (h:QA X es tr):QE X (.List es pos) (fA tr):=bO (qP h) λ_ _ _=>af4
theorem dC (ha:QE X a ta)(hb:QE X b tb)(hs:wP b:=by exact λ_ _=>rfl):QE X (.Subscript a b pos) (q2 sK ta tb):=bO (lN X9 ha hb hs) λ_ _ _=>nU ag2
theorem aj3:QE X (.Dict [] [] pos) (qC (.dT [])):=bO aa4 λ_ _ _=>ai5
theorem jP {x:Str}{id:String}{R:List PV->(PV->Prop)->Prop}{r:List V->Hp->VK->Prop}(hc:cN X (.builtin id) r)(cv:eM X R r)(hg:Gl X x)(hm:X.mg x=none)(hv:bootBuiltins x=some (.builtin id))(ha:QA X (e::es) tr)(hn:x≠"__name__":=by decide)(hdb:(x==("__debug__":Str))=false:=by decide)(he:starEach (e::es) X.env=(false,eval e X.env)::starEach es X.env:=by rfl)(hpl:(backTo pos (starEach es X.env)).any (·.1)=false:=by rfl):QE X (.Call (.Name x p2) (e::es) [] pos) (aM R tr):=bO (qS hc hg hm hv ha hn hdb he hpl) λ_ _ _=>yI cv
theorem t9 {x:Str}{T:String}{R:List PV->(PV->Prop)->Prop}{r:List V->Hp->VK->Prop}(hc:cN X (.type T) r)(cv:eM X R r)(hg:Gl X x)(hm:X.mg x=none)(hv:bootBuiltins x=some (.type T))(ha:QA X (e::es) tr)(hn:x≠"__name__":=by decide)(hdb:(x==("__debug__":Str))=false:=by decide)(he:starEach (e::es) X.env=(false,eval e X.env)::starEach es X.env:=by rfl)(hpl:(backTo pos (starEach es X.env)).any (·.1)=false:=by rfl):QE X (.Call (.Name x p2) (e::es) [] pos) (aM R tr):=bO (V2 hc hg hm hv ha hn hdb he hpl) λ_ _ _=>yI cv
theorem cF:dO X [] bX:=t7 Q9 λ_ _ _=>af5
theorem aS (h1:QS X st t)(h2:dO X sts u):dO X (st::sts) (aP t u):=t7 (nB h1 h2) λ_ _ _=>af6
theorem aV (h1:QS X st t):dO X [st] t:=pZ h1
theorem bV {i:Nat}{x:Str}(hN:X.N.Nodup)(he:QE X e te)(hi:X.N[i]? = some x:=by rfl)(hx:fJ X.env.scope x:=by first|exact Or.inl rfl|exact Or.inr rfl)(hs:swapsWith e (some (.Name x p2)) pos.line X.env=pure false:=by rfl)(hf:X.fn x=true∨X.env.scope.names.lookup x=some .local:=by first|exact .inl rfl|exact .inr rfl) :
  QS X (.Assign [.Name x p2] e pos) (bA i te):=dU (vN hN hi hx he hs hf) λ_ _ _=>sH
theorem tD {i:Nat}{x:Str}(hN:X.N.Nodup)(he:QE X e te)(hi:X.N[i]? = some x:=by rfl)(hx:fJ X.env.scope x:=by first|exact Or.inl rfl|exact Or.inr rfl)(hs:swapsWith e (some (.Name x p2)) pos.line X.env=pure false:=by rfl)(hf:X.fn x=true∨X.env.scope.names.lookup x=some .local:=by first|exact .inl rfl|exact .inr rfl) :
  QS X (.Assign [.Name x p2] e pos) (jG i te):=dU (vN hN hi hx he hs hf) λ_ _ _=>yL
theorem bK (he:QE X e te):QS X (.Return (some e) pos) (bJ te):=dU (vJ he) λ_ _ _=>af8
theorem cD {sa sb:List Stmt}(hc:QT X c tc)(ha:dO X sa t)(hb:dO X sb u):QS X (.If c sa sb pos) (bS tc t u):=dU (R3 hc ha hb) λ_ _ _=>af9
theorem aj4 (i:Nat){x:Str}{apos cpos xpos:Pos}(he:QE X e te)(hN:X.N[i]? = some x:=by rfl)(hv:fI X.env.scope x:=by first|exact Or.inl rfl|exact Or.inr (Or.inl rfl)|exact Or.inr (Or.inr rfl))(hd:(x==("__debug__":Str))=false:=by decide)(hcd:(x==("__classdict__":Str))=false:=by decide)(hbase:attributeBase (.Name x xpos) "append" X.env (eval (.Name x xpos) X.env)=eval (.Name x xpos) X.env:=by rfl)(hfew:((backTo cpos (starEach [e] X.env)).all (λx=>!x.1)&&(backToKw cpos (keywordEach [] X.env)).all (λx=>x.1.isSome)&&decide (([e]:List Expr).length+([]:List Keyword).length+(if ([]:List Keyword).isEmpty then 0 else 1)<30))=true:=by rfl)(hline:(apos.endLine==cpos.line)=true:=by rfl)(hs:starEach [e] X.env=(false,eval e X.env)::starEach [] X.env:=by rfl)(hplain:(backTo cpos (starEach [] X.env)).any (·.1)=false:=by rfl)(hsw:swapsWith (.Call (.Attribute (.Name x xpos) "append" apos) [e] [] cpos) none pos.line X.env=pure false:=by rfl) :
  QS X (.Expr (.Call (.Attribute (.Name x xpos) "append" apos) [e] [] cpos) pos) (sI i te):=
 dU (nC (rA PySem.F.plainAttrs_list PySem.F.slot_list_append PySem.F.type_list_append lP (j8 hN hv hd hcd) (dZ he fN hs) hbase hfew hline hs hplain) hsw) λ_ _ _=>ag0
theorem zC {i:Nat}{x:Str}{xpos tpos:Pos}(hu:X.A.units+1<cLine)(hk:QE X a tk)(he:QE X e te)(hN:X.N[i]? = some x:=by rfl)(hv:fI X.env.scope x:=by first|exact Or.inl rfl|exact Or.inr (Or.inl rfl)|exact Or.inr (Or.inr rfl))(hd:(x==("__debug__":Str))=false:=by decide)(hcd:(x==("__classdict__":Str))=false:=by decide)(hs:swapsWith e (some (.Subscript (.Name x xpos) a tpos)) pos.line X.env=pure false:=by rfl):QS X (.Assign [.Subscript (.Name x xpos) a tpos] e pos) (m5 i tk te):=dU (aa2 hu (j8 hN hv hd hcd) hk he hs) λ_ _ _=>ai4
theorem aj5 {tg l:Expr}{tl:TE}(hl:PE X l tl):PI X tg l (yN X.K tl):=by
 intro pins s σ H R I h
 refine aJ (hl pins s σ H _ I h) λv s1 ⟨x,H1,I1,r1,q1⟩=>?_
 obtain⟨a,e,q⟩:=q1
 subst e
 cases r1
 rcases q with⟨xs,hq,q⟩|⟨xs,hq,q⟩
 ·obtain⟨its,rv,p,hz⟩:=I1.list hq
  refine wpAny_pyIter_list p.isList ?_
  refine⟨s1.heap.objs.size,[s1.heap.objs.size],_,_,H1,rfl,I1.kept (t':=s1.toks) λb o e=>aI3 _ e,R5 a _,⟨_,aK1 _ rfl,rfl,rfl⟩,λb hb=>?_,q⟩
  have e:b=s1.heap.objs.size:=by simpa using hb
  subst e
  exact I1.fpOk (aI6 _) (I1.hok.fresh (aI6 _))
 ·obtain⟨its,rv,p,hz⟩:=I1.tuple hq
  refine aS3 (show s1.heap.IsTuple a its.toArray from p) ?_
  refine⟨s1.heap.objs.size,[s1.heap.objs.size],_,_,H1,rfl,I1.kept (t':=s1.toks) λb o e=>aI3 _ e,vP a _,⟨_,aK1 _ rfl,rfl,rfl⟩,λb hb=>?_,q⟩
  have e:b=s1.heap.objs.size:=by simpa using hb
  subst e
  exact I1.fpOk (aI6 _) (I1.hok.fresh (aI6 _))
theorem i9 {tg l:Expr}(hl:QE X l te):QI X tg l (fW te):=m8 (aj5 hl) λ_ _ _=>ah2
theorem tE {tg:Expr}(hg:Gl X "range")(hm:X.mg "range" = none)(ha:QE X a ta)(hs:starEach [a] X.env = [(false,eval a X.env)]:=by rfl):QI X tg (.Call (.Name "range" p2) [a] [] pos) (m3 ta):=m8 (R8 hg hm (dZ ha fN hs) hs) λ_ _ _=>ah3
theorem aj6 {tg:Expr}(hg:Gl X "range")(hm:X.mg "range" = none)(ha:QE X a ta)(hb:QE X b tb)(hs:starEach [a,b] X.env = [(false,eval a X.env),(false,eval b X.env)]:=by rfl)(hs2:starEach [b] X.env = [(false,eval b X.env)]:=by rfl) :
  QI X tg (.Call (.Name "range" p2) [a,b] [] pos) (sS ta tb):=m8 (R9 hg hm (dZ ha (dZ hb fN hs2) (by rw[hs,hs2])) hs hs2) λ_ _ _=>ah4
theorem zD {tg:Expr}{body:List Stmt}{ti:dB}{p:fX}{g:TG}{own:Nat->Prop}(hp:PassesOwn (model X.prog X.w) X.A X.env X.xe)(hc:X.calm=true)(hi:QI X tg e ti)(hg:PG X tg g)(ht:jI X.K own p g)(hb:dO X body t)(hs:∀x,foldedSetIterable e X.env x=pure x:=by intro _;rfl):QS X (.For tg e body [] pos) (fB ti p t):=dU (vV hp hc hi hg hb hs) λ_ _ _=>ah5 ht
end
section
variable {X:Cx}{pins:List (Addr×Obj)}{σ:St}{H:Hp}{s:Shared}{K:ac}{M M':Addr→Prop}
theorem kJ.inj {a:Addr}{us ws:List V}(h:kJ K a us)(h':kJ K a ws):us=ws:=by
 obtain⟨o,its,n,e1,_,e2,_,v⟩:=h
 obtain⟨o',its',n',e1',_,e2',_,v'⟩:=h'
 rw[e1]at e1';cases e1'
 rw[e2]at e2';cases e2'
 exact v.inj v'
theorem Reps.self_of {n:Nat}(ih:∀{v:V}{x y:PV},aF K M H v x->aF K M' H v y->bF n x y=true->aY n x y=true):∀{vs:List V}{xs ys:List PV},Reps K M H vs xs->Reps K M' H vs ys->((xs.zip ys).all λp=>bF n p.1 p.2)=true->(((xs.zip ys).all λp=>aY n p.1 p.2)&&xs.length==ys.length)=true
 |_,_,_,.nil,.nil,_=>rfl
 |_,_,_,.cons r t,.cons r' t',o=>by
  simp only[aR2,aR5,aN8]at o
  have h1:=ih r r' o.1
  have h2:=Reps.self_of ih t t' o.2
  simp only[aR2,aR5,h1,Bool.true_and,aM0]at h2 ⊢
  rw[<- h2]
  congr 1
  simp
theorem aF.self:∀(n:Nat) {v:V}{x y:PV},aF K M H v x->aF K M' H v y->bF n x y=true->aY n x y=true:=by
 intro n
 induction n with
 |zero=>
  intro v x y r r' o
  cases r with
  |non=>cases r';rfl
  |bl b=>cases r';exact aP7 b
  |int i=>cases r';exact aP7 i
  |str z=>cases r';exact aP7 z
  |_=>cases o
 |succ n ih=>
  intro v x y r r' o
  cases r with
  |non=>cases r';rfl
  |bl b=>cases r';exact aP7 b
  |int i=>cases r';exact aP7 i
  |str z=>cases r';exact aP7 z
  |tup h rr=>
   cases r' with
   |tup h' rr'=>rw[h]at h';cases h';exact Reps.self_of ih rr rr' o
   |_=>cases o
  |lst _ h rr=>
   cases r' with
   |lst _ h' rr'=>rw[h]at h';cases h';exact Reps.self_of ih rr rr' o
   |_=>cases o
  |kt h rr=>
   cases r' with
   |kt h' rr'=>cases kJ.inj h h';exact Reps.self_of ih rr rr' o
   |_=>cases o
  |_=>cases o
theorem Reps.self (n:Nat){vs:List V}{xs ys:List PV}(r:Reps K M H vs xs)(r':Reps K M' H vs ys)(o:((xs.zip ys).all λp=>bF n p.1 p.2)=true):(((xs.zip ys).all λp=>aY n p.1 p.2)&&xs.length==ys.length)=true:=Reps.self_of (aF.self n) r r' o
theorem iA (n:Nat)(xs ys:List PV):(List.range (min xs.length ys.length)).all (λj=>aY n (xs.getD j .non) (ys.getD j .non))=(xs.zip ys).all λp=>aY n p.1 p.2:=by
 rw[aT4]
 simp only[aT8,List.mem_range]
 constructor
 ·intro h p hp
  obtain⟨j,hj,e⟩:=aT6 hp
  have hj':j<min xs.length ys.length:=by simpa using hj
  have:=h j hj'
  rw[List.getElem_zip]at e
  subst e
  have h1:j<xs.length:=by omega
  have h2:j<ys.length:=by omega
  simpa[aL7,h1,h2] using this
 ·intro h j hj
  have h1:j<xs.length:=by omega
  have h2:j<ys.length:=by omega
  have hz:j<(xs.zip ys).length:=by simp;omega
  have:=h _ (aT9 hz)
  rw[List.getElem_zip]at this
  simpa[aL7,h1,h2] using this
theorem aj7 (I:a5 X pins σ H s):∀(n:Nat) {A:Around}{v w:V}{x y:PV}{a b:Value},A.units+n<cLine->aF X.K M H v x->aF X.K M' H w y->aQ v a->aQ w b->bF n x y=true->SeqAt.EqAt A s a b (aY n x y):=by
 intro n
 induction n with
 |zero=>
  intro A v w x y a b hu rx ry ra rb o
  cases rx with
  |non=>
   cases ra
   cases ry with
   |non=>cases rb;exact SeqAt.EqAt.same _
   |int i=>obtain⟨t',rfl⟩:=rb;exact SeqAt.EqAt.none_int _ _
   |_=>cases o
  |bl i=>
   cases ra
   cases ry with
   |bl j=>cases rb;exact SeqAt.EqAt.bool_bool _ _
   |_=>cases o
  |int i=>
   obtain⟨t,rfl⟩:=ra
   cases ry with
   |int j=>obtain⟨t',rfl⟩:=rb;exact SeqAt.EqAt.int_int _ _ _ _
   |non=>cases rb;exact SeqAt.EqAt.int_none _ _
   |_=>cases o
  |str i=>
   obtain⟨t,rfl⟩:=ra
   cases ry with
   |str j=>obtain⟨t',rfl⟩:=rb;exact SeqAt.EqAt.str_str _ _ _ _
   |_=>cases o
  |_=>cases o
 |succ n ih=>
  intro A v w x y a b hu rx ry ra rb o
  have items:∀{us ws:List V}{xs ys:List PV}{its its2:List Value},Reps X.K M H us xs->Reps X.K M' H ws ys->aK us its->aK ws its2->((xs.zip ys).all λp=>bF n p.1 p.2)=true->
    ∀j (h1:j<its.toArray.size) (h2:j<its2.toArray.size),SeqAt.EqAt A.in1 s its.toArray[j] its2.toArray[j] (aY n (xs.getD j .non) (ys.getD j .non)):=λ{us ws xs ys its its2} r1 r2 v1 v2 ok j h1 h2=>by
   have l1:=v1.length
   have l2:=v2.length
   have m1:=r1.length
   have m2:=r2.length
   have k1:j<its.length:=by simpa using h1
   have k2:j<its2.length:=by simpa using h2
   have j1:j<us.length:=by omega
   have j2:j<ws.length:=by omega
   have i1:j<xs.length:=by omega
   have i2:j<ys.length:=by omega
   obtain⟨u,hu',ru⟩:=v1.get (aI8 j1)
   obtain⟨u2,hu2',ru2⟩:=v2.get (aI8 j2)
   obtain⟨x,hx,rx⟩:=r1.get (aI8 j1)
   obtain⟨y,hy,ry⟩:=r2.get (aI8 j2)
   have e1:its.toArray[j]=u:=by
    rw[aI8 k1]at hu'
    simpa using hu'
   have e2:its2.toArray[j]=u2:=by
    rw[aI8 k2]at hu2'
    simpa using hu2'
   have ok':bF n x y=true:=by
    rw[aT8]at ok
    have hz:j<(xs.zip ys).length:=by simp;omega
    have:=ok _ (aT9 hz)
    rw[List.getElem_zip]at this
    rw[aI8 i1]at hx
    rw[aI8 i2]at hy
    cases hx;cases hy
    exact this
   rw[e1,e2]
   have g1:xs.getD j .non=x:=by rw[aL7,hx];rfl
   have g2:ys.getD j .non=y:=by rw[aL7,hy];rfl
   rw[g1,g2]
   exact ih (by show A.units+1+n<cLine;omega) rx ry ru ru2 ok'
  have huA:A.units<cLine:=by omega
  cases rx with
  |@kt p us xs h1 r1=>
   obtain⟨its,v1,p1,_⟩:=I.tuple (.inr h1)
   cases (show a=Value.ref p from ra)
   cases ry with
   |@kt p2 ws ys h2 r2=>
    obtain⟨its2,v2,p2',_⟩:=I.tuple (.inr h2)
    cases (show b=Value.ref p2 from rb)
    by_cases e:p=p2
    ·subst e
     have:=aF.self (K:=X.K) (M:=M) (M':=M') (n+1) (.kt h1 r1) (.kt h2 r2) o
     rw[this]
     exact SeqAt.EqAt.same _
    ·have:=SeqAt.RcAt.tuples p1 p2' huA (items r1 r2 v1 v2 o)
     refine .of_refs e ?_
     have l1:=v1.length
     have l2:=v2.length
     have m1:=r1.length
     have m2:=r2.length
     rw[aI4,aI4,<- l1,<- l2,m1,m2,iA]at this
     exact this
   |_=>cases o
  |@tup p us xs h1 r1=>
   obtain⟨its,v1,p1,_⟩:=I.tuple (aI.of (K:=X.K) h1)
   cases (show a=Value.ref p from ra)
   cases ry with
   |@tup p2 ws ys h2 r2=>
    obtain⟨its2,v2,p2',_⟩:=I.tuple (aI.of (K:=X.K) h2)
    cases (show b=Value.ref p2 from rb)
    by_cases e:p=p2
    ·subst e
     have:=aF.self (K:=X.K) (M:=M) (M':=M') (n+1) (.tup h1 r1) (.tup h2 r2) o
     rw[this]
     exact SeqAt.EqAt.same _
    ·have:=SeqAt.RcAt.tuples p1 p2' huA (items r1 r2 v1 v2 o)
     refine .of_refs e ?_
     have l1:=v1.length
     have l2:=v2.length
     have m1:=r1.length
     have m2:=r2.length
     rw[aI4,aI4,<- l1,<- l2,m1,m2,iA]at this
     exact this
   |non=>cases rb;exact SeqAt.EqAt.tuple_none p1 huA
   |_=>cases o
  |@lst p us xs _ h1 r1=>
   obtain⟨its,v1,p1,_⟩:=I.list (aL.of (K:=X.K) h1)
   cases (show a=Value.ref p from ra)
   cases ry with
   |@lst p2 ws ys _ h2 r2=>
    obtain⟨its2,v2,p2',_⟩:=I.list (aL.of (K:=X.K) h2)
    cases (show b=Value.ref p2 from rb)
    have l1:=v1.length
    have l2:=v2.length
    have m1:=r1.length
    have m2:=r2.length
    by_cases e:p=p2
    ·subst e
     rw[h1]at h2;cases h2
     have:=Reps.self n r1 r2 o
     show SeqAt.EqAt A s _ _ ((xs.zip ys).all (λp=>aY n p.1 p.2)&&xs.length==ys.length)
     rw[this]
     exact SeqAt.EqAt.same _
    ·refine .of_refs e ?_
     by_cases hl:xs.length=ys.length
     ·have:=SeqAt.RcAt.lists p1.isList p2'.isList (by rw[aI4,aI4];omega) huA (items r1 r2 v1 v2 o)
      have hm:min xs.length ys.length=its.length:=by omega
      rw[aI4,<- hm,iA]at this
      show SeqAt.RcAt A s _ _ ((xs.zip ys).all (λp=>aY n p.1 p.2)&&xs.length==ys.length)
      rw[show (xs.length==ys.length)=true by simpa using hl,Bool.and_true]
      exact this
     ·have:=SeqAt.RcAt.lists_lengths (A:=A) p1.isList p2'.isList (by rw[aI4,aI4];simp;omega) huA
      show SeqAt.RcAt A s _ _ ((xs.zip ys).all (λp=>aY n p.1 p.2)&&xs.length==ys.length)
      rw[show (xs.length==ys.length)=false by simpa using hl,Bool.and_false]
      exact this
   |_=>cases o
  |non=>
   cases ra
   cases ry with
   |non=>cases rb;exact SeqAt.EqAt.same _
   |int i=>obtain⟨t',rfl⟩:=rb;exact SeqAt.EqAt.none_int _ _
   |@tup p2 ws ys h2 r2=>
    obtain⟨its2,v2,p2',_⟩:=I.tuple (aI.of (K:=X.K) h2)
    cases (show b=Value.ref p2 from rb)
    exact SeqAt.EqAt.none_tuple p2' huA
   |_=>cases o
  |bl i=>
   cases ra
   cases ry with
   |bl j=>cases rb;exact SeqAt.EqAt.bool_bool _ _
   |_=>cases o
  |int i=>
   obtain⟨t,rfl⟩:=ra
   cases ry with
   |int j=>obtain⟨t',rfl⟩:=rb;exact SeqAt.EqAt.int_int _ _ _ _
   |non=>cases rb;exact SeqAt.EqAt.int_none _ _
   |_=>cases o
  |str i=>
   obtain⟨t,rfl⟩:=ra
   cases ry with
   |str j=>obtain⟨t',rfl⟩:=rb;exact SeqAt.EqAt.str_str _ _ _ _
   |_=>cases o
  |_=>cases o
end
structure Bt (mg:Str->Option Value):Prop where
 len:mg "len" = none
 range:mg "range" = none
 tuple:mg "tuple" = none
 list:mg "list" = none
 sorted:mg "sorted" = none
 all:mg "all" = none
 any:mg "any" = none
 zip:mg "zip" = none
 min:mg "min" = none
 max:mg "max" = none
 sum:mg "sum" = none
 isinst:mg "isinstance" = none
 int:mg "int" = none
 bool:mg "bool" = none
 enum:mg "enumerate" = none
section
variable {X:Cx}{a b c e o:Expr}{es cH:List Expr}{ta tb te to tk:aA}{tr:c7}{tA tB' tc:bW}{pos p2 px:Pos}{st:Stmt}{sts:List Stmt}{t u:aR}
theorem g9 (B:Bt X.mg)(ha:QA X [e] tr)(hg:Gl X "len":=by rfl)(he:starEach [e] X.env=(false,eval e X.env)::starEach [] X.env:=by rfl)(hpl:(backTo pos (starEach [] X.env)).any (·.1)=false:=by rfl):QE X (.Call (.Name "len" p2) [e] [] pos) (aM eO tr):=
 jP (Y8.or ab2) ag3 hg B.len PySem.boot_len ha (he:=he) (hpl:=hpl)
theorem iW (B:Bt X.mg)(ha:QA X [e] tr)(hg:Gl X "tuple":=by rfl)(he:starEach [e] X.env=(false,eval e X.env)::starEach [] X.env:=by rfl)(hpl:(backTo pos (starEach [] X.env)).any (·.1)=false:=by rfl):QE X (.Call (.Name "tuple" p2) [e] [] pos) (aM i8 tr):=
 t9 Z0 ag4 hg B.tuple PyProof.Rows.boot_tuple ha (he:=he) (hpl:=hpl)
theorem zE (B:Bt X.mg)(ha:QA X [e] tr)(hg:Gl X "list":=by rfl)(he:starEach [e] X.env=(false,eval e X.env)::starEach [] X.env:=by rfl)(hpl:(backTo pos (starEach [] X.env)).any (·.1)=false:=by rfl):QE X (.Call (.Name "list" p2) [e] [] pos) (aM nZ tr):=
 t9 Y9 ag5 hg B.list PyProof.Rows.boot_list ha (he:=he) (hpl:=hpl)
theorem aj8 (B:Bt X.mg)(hc:X.calm=true)(ha:QA X [e] tr)(hg:Gl X "all":=by rfl)(he:starEach [e] X.env=(false,eval e X.env)::starEach [] X.env:=by rfl)(hpl:(backTo pos (starEach [] X.env)).any (·.1)=false:=by rfl):QE X (.Call (.Name "all" p2) [e] [] pos) (aM sM tr):=
 jP (ad6 hc) ag6 hg B.all PyProof.Rows.boot_all ha (he:=he) (hpl:=hpl)
theorem aj9 (B:Bt X.mg)(hc:X.calm=true)(ha:QA X [a,b] tr)(hg:Gl X "min":=by rfl)(he:starEach [a,b] X.env=(false,eval a X.env)::starEach [b] X.env:=by rfl)(hpl:(backTo pos (starEach [b] X.env)).any (·.1)=false:=by rfl):QE X (.Call (.Name "min" p2) [a,b] [] pos) (aM sN tr):=
 jP (U6 hc) ag7 hg B.min PyProof.Rows.boot_min ha (he:=he) (hpl:=hpl)
theorem tF (B:Bt X.mg)(hc:X.calm=true)(ha:QA X [a,b] tr)(hg:Gl X "max":=by rfl)(he:starEach [a,b] X.env=(false,eval a X.env)::starEach [b] X.env:=by rfl)(hpl:(backTo pos (starEach [b] X.env)).any (·.1)=false:=by rfl):QE X (.Call (.Name "max" p2) [a,b] [] pos) (aM lY tr):=
 jP (U5 hc) ag8 hg B.max PyProof.Rows.boot_max ha (he:=he) (hpl:=hpl)
theorem tG (ha:QE X a ta):QE X (.UnaryOp .USub a pos) (iP ta):=bO (S6 T4 ha) λσ H Q' h=>by
 obtain⟨W,ρ,Q,px,q,k⟩:=h
 refine⟨W,ρ,_,px,q,?_⟩
 rintro v H1 x g s r ⟨i,rfl,q⟩
 cases r
 exact⟨i,rfl,k _ _ _ .fr s (.int _) q⟩
theorem zF (x:Int):∀(xs:ae),lO (.int x) (xs.map V.int)=decide (x∈xs)
 |[]=>by simp[lO]
 |y::r=>by
  have ih:=zF x r
  unfold lO at ih ⊢
  rw[aM5,List.any_cons,ih]
  by_cases e:y=x
  ·subst e;simp[fQ]
  ·have:fQ (.int y) (.int x)=false:=by simpa[fQ] using e
   rw[this,Bool.false_or,aT4]
   simp[Ne.symm e]
theorem zG:∀(xs:ae),(xs.map V.int).all gZ=true
 |[]=>rfl
 |_::r=>by rw[aM5,aR5,zG r];rfl
theorem ak0 (neg:Bool):dL X (sZ neg) (wV X.K neg):=by
 rintro W Hs H u v x y g g' Q Q' s n r1 r2 ⟨i,ns,rfl,e,q⟩ k
 cases r1
 obtain⟨a,us,rfl,hs,r⟩:=r2.seq e
 obtain rfl:=r.ofInts
 refine⟨a,_,rfl,hs,rfl,zG ns,?_⟩
 have:=k _ _ _ .fr (aE.refl _) (.bl _) q
 rw[zF]
 cases neg<;>exact this
theorem ak1 (ha:QE X a ta)(hb:QE X b tb)(hm:behindInMarks .In b=false:=by rfl):QT X (.Compare a [.In] [b] pos) (aU (q2 (sZ false) ta tb)):=jO Y7 (ak0 false) ha hb hm
theorem aF.kt_ {K:ac}{M:Addr->Prop}{H:Hp}{v:V}{xs:List PV}(r:aF K M H v (.kt xs)):∃a us,v = .ref a/\kJ K a us/\Reps K M H us xs:=by
 cases r with
 |kt h r=>exact⟨_,_,rfl,h,r⟩
noncomputable def zH (K:ac)(H:Hp)(x:V)(t:Value):Prop:=dY K H x t∨∃a us,x = .ref a/\aI K H a us/\t = .type "tuple"
theorem ak2:cN X (.builtin "isinstance") (λxs H Q=>∃x t n b,xs = [x,.ty n]/\zH X.K H x t/\PySem.W.kitOne X.K t (.type n)=some b/\Q (.bl b) H):=by
 intro pins s σ H xs us Q I r h
 obtain⟨x,t,n,b,rfl,ty,e,q⟩:=h
 rcases ty with ty|⟨a,ws,rfl,hs,rfl⟩
 ·exact ac6 pins s σ H _ us Q I r ⟨x,t,n,b,rfl,ty,e,q⟩
 obtain⟨u,u',rfl,ru,ru'⟩:=lK r
 cases ru'
 cases (show u=Value.ref a from ru)
 obtain⟨its,_,⟨o,h1,h2,_⟩,_⟩:=I.tuple hs
 exact aN7 PySem.W.kitx_tuple I.kIn ⟨o,h1,h2⟩ e (λz=>nomatch z) λtk=>⟨.bl b,H,I.tok tk,rfl,q⟩
theorem ak3 {K:ac}{M:Addr->Prop}{H:Hp}{v:V}{x:PV}{T:String}(r:aF K M H v x)(e:yX x=some T):zH K H v (.type T):=by
 cases r with
 |non=>cases e;exact .inl .non
 |bl b=>cases e;exact .inl (.bl b)
 |int i=>cases e;exact .inl (.int i)
 |str i=>cases e;exact .inl (.str i)
 |tup h _=>cases e;exact .inl (.tup h)
 |lst _ h _=>cases e;exact .inl (.lst h)
 |kt h _=>cases e;exact .inr ⟨_,_,rfl,.inr h,rfl⟩
 |_=>cases e
theorem tH {x:Str}{n:String}(B:Bt X.mg)(hn:bootBuiltins x=some (.type n))(hm:X.mg x=none)(ha:QE X a ta)(hg:Gl X "isinstance":=by rfl)(hgx:Gl X x:=by rfl)(hx:x≠"__name__":=by decide)(hdx:(x==("__debug__":Str))=false:=by decide)(he:starEach [a,.Name x px] X.env=(false,eval a X.env)::starEach [.Name x px] X.env:=by rfl)(he2:starEach [.Name x px] X.env=(false,eval (.Name x px) X.env)::starEach [] X.env:=by rfl)(hpl:(backTo pos (starEach [.Name x px] X.env)).any (·.1)=false:=by rfl):QE X (.Call (.Name "isinstance" p2) [a,.Name x px] [] pos) (fC X.K n ta):=
 bO (qS ak2 hg B.isinst PyProof.Rows.boot_isinstance (dZ ha (dZ (P4 (v:=.ty n) hgx hm hn rfl hx hdx) fN he2) he) (he:=he) (hpl:=hpl)) λσ H Q' h=>by
  obtain⟨W,ρ,Q,px,q,k⟩:=h
  refine⟨W,ρ,_,px,q,?_⟩
  rintro v H1 x g s r ⟨T,b,e,kt,q⟩
  exact⟨v,_,n,b,rfl,ak3 r e,kt,k _ _ _ .fr s (.bl _) q⟩
theorem ak4 (B:Bt X.mg)(ha:QE X a ta)(hg:Gl X "isinstance":=by rfl)(hgx:Gl X "int":=by rfl)(he:starEach [a,.Name "int" px] X.env=(false,eval a X.env)::starEach [.Name "int" px] X.env:=by rfl)(he2:starEach [.Name "int" px] X.env=(false,eval (.Name "int" px) X.env)::starEach [] X.env:=by rfl)(hpl:(backTo pos (starEach [.Name "int" px] X.env)).any (·.1)=false:=by rfl):QE X (.Call (.Name "isinstance" p2) [a,.Name "int" px] [] pos) (fC X.K "int" ta):=tH B PyProof.Rows.boot_int B.int ha (hg:=hg) (hgx:=hgx) (he:=he) (he2:=he2) (hpl:=hpl)
theorem tI (B:Bt X.mg)(ha:QE X a ta)(hg:Gl X "isinstance":=by rfl)(hgx:Gl X "bool":=by rfl)(he:starEach [a,.Name "bool" px] X.env=(false,eval a X.env)::starEach [.Name "bool" px] X.env:=by rfl)(he2:starEach [.Name "bool" px] X.env=(false,eval (.Name "bool" px) X.env)::starEach [] X.env:=by rfl)(hpl:(backTo pos (starEach [.Name "bool" px] X.env)).any (·.1)=false:=by rfl):QE X (.Call (.Name "isinstance" p2) [a,.Name "bool" px] [] pos) (fC X.K "bool" ta):=tH B PyProof.Rows.boot_bool B.bool ha (hg:=hg) (hgx:=hgx) (he:=he) (he2:=he2) (hpl:=hpl)
theorem oB (B:Bt X.mg)(ha:QE X a ta)(hg:Gl X "isinstance":=by rfl)(hgx:Gl X "tuple":=by rfl)(he:starEach [a,.Name "tuple" px] X.env=(false,eval a X.env)::starEach [.Name "tuple" px] X.env:=by rfl)(he2:starEach [.Name "tuple" px] X.env=(false,eval (.Name "tuple" px) X.env)::starEach [] X.env:=by rfl)(hpl:(backTo pos (starEach [.Name "tuple" px] X.env)).any (·.1)=false:=by rfl):QE X (.Call (.Name "isinstance" p2) [a,.Name "tuple" px] [] pos) (fC X.K "tuple" ta):=tH B PyProof.Rows.boot_tuple B.tuple ha (hg:=hg) (hgx:=hgx) (he:=he) (he2:=he2) (hpl:=hpl)
noncomputable def tJ (K:ac)(n:Nat)(neg:Bool):R2:=λv w H Q=>∃x y,aF K (λ_=>True) H v x/\aF K (λ_=>True) H w y/\((∃xs ys,x = .tup xs/\y = .tup ys)∨(∃xs ys,x = .lst xs/\y = .lst ys)∨(∃xs ys,x = .kt xs/\y = .kt ys))/\bF (n+1) x y=true/\Q (.bl (if neg=true then !aY (n+1) x y else aY (n+1) x y)) H
theorem kQ {pins:List (Addr×Obj)}{σ:St}{H:Hp}{s:Shared}{M M':Addr->Prop}(I:a5 X pins σ H s){n:Nat}{A:Around}(hu:A.units+(n+1)<cLine){us ws:List V}{xs ys:List PV}{its its2:List Value}(r1:Reps X.K M H us xs)(r2:Reps X.K M' H ws ys)(v1:aK us its)(v2:aK ws its2)(ok:((xs.zip ys).all λp=>bF n p.1 p.2)=true):∀j (h1:j<its.toArray.size) (h2:j<its2.toArray.size),SeqAt.EqAt A.in1 s its.toArray[j] its2.toArray[j] (aY n (xs.getD j .non) (ys.getD j .non)):=by
 intro j h1 h2
 have l1:=v1.length
 have l2:=v2.length
 have m1:=r1.length
 have m2:=r2.length
 have k1:j<its.length:=by simpa using h1
 have k2:j<its2.length:=by simpa using h2
 have j1:j<us.length:=by omega
 have j2:j<ws.length:=by omega
 have i1:j<xs.length:=by omega
 have i2:j<ys.length:=by omega
 obtain⟨u,hu',ru⟩:=v1.get (aI8 j1)
 obtain⟨u2,hu2',ru2⟩:=v2.get (aI8 j2)
 obtain⟨x,hx,rx⟩:=r1.get (aI8 j1)
 obtain⟨y,hy,ry⟩:=r2.get (aI8 j2)
 have e1:its.toArray[j]=u:=by
  rw[aI8 k1]at hu'
  simpa using hu'
 have e2:its2.toArray[j]=u2:=by
  rw[aI8 k2]at hu2'
  simpa using hu2'
 have ok':bF n x y=true:=by
  rw[aT8]at ok
  have hz:j<(xs.zip ys).length:=by simp;omega
  have:=ok _ (aT9 hz)
  rw[List.getElem_zip]at this
  rw[aI8 i1]at hx
  rw[aI8 i2]at hy
  cases hx;cases hy
  exact this
 rw[e1,e2]
 have g1:xs.getD j .non=x:=by rw[aL7,hx];rfl
 have g2:ys.getD j .non=y:=by rw[aL7,hy];rfl
 rw[g1,g2]
 exact aj7 I n (by show A.units+1+n<cLine;omega) rx ry ru ru2 ok'
theorem ak5 (n:Nat)(hu:X.A.units+(n+1)<cLine):bY X (compareOp .Eq) (tJ X.K n false):=by
 intro pins s σ H v w a b Q I ra rb h
 obtain⟨x,y,rx,ry,kd,o,q⟩:=h
 have hu0:X.A.units<cLine:=by omega
 rcases kd with⟨xs,ys,rfl,rfl⟩|⟨xs,ys,rfl,rfl⟩|⟨xs,ys,rfl,rfl⟩
 ·obtain⟨p,us,rfl,h1,r1⟩:=rx.sqT
  obtain⟨p2,ws,rfl,h2,r2⟩:=ry.sqT
  cases ra;cases rb
  obtain⟨its,v1,p1,_⟩:=I.tuple (aI.of (K:=X.K) h1)
  obtain⟨its2,v2,p2',_⟩:=I.tuple (aI.of (K:=X.K) h2)
  have l1:=v1.length
  have l2:=v2.length
  have m1:=r1.length
  have m2:=r2.length
  have:=SeqAt.RcAt.tuples p1 p2' hu0 (kQ I hu r1 r2 v1 v2 o)
  rw[aI4,aI4,<- l1,<- l2,m1,m2,iA]at this
  exact this _ _ _ _ ⟨.bl _,H,I,rfl,q⟩
 ·obtain⟨p,us,rfl,_,h1,r1⟩:=rx.sqL
  obtain⟨p2,ws,rfl,_,h2,r2⟩:=ry.sqL
  cases ra;cases rb
  obtain⟨its,v1,p1,_⟩:=I.list (aL.of (K:=X.K) h1)
  obtain⟨its2,v2,p2',_⟩:=I.list (aL.of (K:=X.K) h2)
  have l1:=v1.length
  have l2:=v2.length
  have m1:=r1.length
  have m2:=r2.length
  have q:Q (.bl ((xs.zip ys).all (λp=>aY n p.1 p.2)&&xs.length==ys.length)) H:=q
  by_cases hl:xs.length=ys.length
  ·have:=SeqAt.RcAt.lists p1.isList p2'.isList (by rw[aI4,aI4];omega) hu0 (kQ I hu r1 r2 v1 v2 o)
   have hm:min xs.length ys.length=its.length:=by omega
   rw[aI4,<- hm,iA]at this
   rw[show (xs.length==ys.length)=true by simpa using hl,Bool.and_true]at q
   exact this _ _ _ _ ⟨.bl _,H,I,rfl,q⟩
  ·have:=SeqAt.RcAt.lists_lengths (A:=X.A) p1.isList p2'.isList (by rw[aI4,aI4];simp;omega) hu0
   rw[show (xs.length==ys.length)=false by simpa using hl,Bool.and_false]at q
   exact this _ _ _ _ ⟨.bl _,H,I,rfl,q⟩
 ·obtain⟨p,us,rfl,h1,r1⟩:=rx.kt_
  obtain⟨p2,ws,rfl,h2,r2⟩:=ry.kt_
  cases ra;cases rb
  obtain⟨its,v1,p1,_⟩:=I.tuple (.inr h1)
  obtain⟨its2,v2,p2',_⟩:=I.tuple (.inr h2)
  have l1:=v1.length
  have l2:=v2.length
  have m1:=r1.length
  have m2:=r2.length
  have:=SeqAt.RcAt.tuples p1 p2' hu0 (kQ I hu r1 r2 v1 v2 o)
  rw[aI4,aI4,<- l1,<- l2,m1,m2,iA]at this
  exact this _ _ _ _ ⟨.bl _,H,I,rfl,q⟩
theorem ak6 (n:Nat)(hu:X.A.units+(n+1)<cLine):bY X (compareOp .NotEq) (tJ X.K n true):=by
 intro pins s σ H v w a b Q I ra rb h
 obtain⟨x,y,rx,ry,kd,o,q⟩:=h
 have hu0:X.A.units<cLine:=by omega
 rcases kd with⟨xs,ys,rfl,rfl⟩|⟨xs,ys,rfl,rfl⟩|⟨xs,ys,rfl,rfl⟩
 ·obtain⟨p,us,rfl,h1,r1⟩:=rx.sqT
  obtain⟨p2,ws,rfl,h2,r2⟩:=ry.sqT
  cases ra;cases rb
  obtain⟨its,v1,p1,_⟩:=I.tuple (aI.of (K:=X.K) h1)
  obtain⟨its2,v2,p2',_⟩:=I.tuple (aI.of (K:=X.K) h2)
  have l1:=v1.length
  have l2:=v2.length
  have m1:=r1.length
  have m2:=r2.length
  have:=SeqAt.RcNeAt.tuples p1 p2' hu0 (kQ I hu r1 r2 v1 v2 o)
  rw[aI4,aI4,<- l1,<- l2,m1,m2,iA]at this
  exact this _ _ _ _ ⟨.bl _,H,I,rfl,q⟩
 ·obtain⟨p,us,rfl,_,h1,r1⟩:=rx.sqL
  obtain⟨p2,ws,rfl,_,h2,r2⟩:=ry.sqL
  cases ra;cases rb
  obtain⟨its,v1,p1,_⟩:=I.list (aL.of (K:=X.K) h1)
  obtain⟨its2,v2,p2',_⟩:=I.list (aL.of (K:=X.K) h2)
  have l1:=v1.length
  have l2:=v2.length
  have m1:=r1.length
  have m2:=r2.length
  have q:Q (.bl (!((xs.zip ys).all (λp=>aY n p.1 p.2)&&xs.length==ys.length))) H:=q
  by_cases hl:xs.length=ys.length
  ·have:=SeqAt.RcNeAt.lists p1.isList p2'.isList (by rw[aI4,aI4];omega) hu0 (kQ I hu r1 r2 v1 v2 o)
   have hm:min xs.length ys.length=its.length:=by omega
   rw[aI4,<- hm,iA]at this
   rw[show (xs.length==ys.length)=true by simpa using hl,Bool.and_true]at q
   exact this _ _ _ _ ⟨.bl _,H,I,rfl,q⟩
  ·have:=SeqAt.RcNeAt.lists_lengths (A:=X.A) p1.isList p2'.isList (by rw[aI4,aI4];simp;omega) hu0
   rw[show (xs.length==ys.length)=false by simpa using hl,Bool.and_false]at q
   exact this _ _ _ _ ⟨.bl _,H,I,rfl,q⟩
 ·obtain⟨p,us,rfl,h1,r1⟩:=rx.kt_
  obtain⟨p2,ws,rfl,h2,r2⟩:=ry.kt_
  cases ra;cases rb
  obtain⟨its,v1,p1,_⟩:=I.tuple (.inr h1)
  obtain⟨its2,v2,p2',_⟩:=I.tuple (.inr h2)
  have l1:=v1.length
  have l2:=v2.length
  have m1:=r1.length
  have m2:=r2.length
  have:=SeqAt.RcNeAt.tuples p1 p2' hu0 (kQ I hu r1 r2 v1 v2 o)
  rw[aI4,aI4,<- l1,<- l2,m1,m2,iA]at this
  exact this _ _ _ _ ⟨.bl _,H,I,rfl,q⟩
theorem zI {n:Nat}{neg:Bool}:dL X (i6 n neg) (tJ X.K n neg):=by
 rintro W Hs H u v x y g g' Q Q' s n r1 r2 ⟨kd,o,q⟩ k
 exact⟨x,y,r1.same (aE.refl _) λ_ _=>trivial,r2.same (aE.refl _) λ_ _=>trivial,kd.elim .inl λz=>.inr (.inl z),o,k _ _ _ .fr (aE.refl _) (.bl _) q⟩
theorem zJ (hu:X.A.units+3<cLine)(ha:QE X a ta)(hb:QE X b tb):QT X (.Compare a [.NotEq] [b] pos) (aU (q2 (i6 2 true) ta tb)):=jO (ak6 2 hu) zI ha hb (iI _)
theorem oD (hu:X.A.units+3<cLine)(ha:QE X a ta)(hb:QE X b tb):QE X (.Compare a [.Eq] [b] pos) (q2 (i6 2 false) ta tb):=z9 (ak5 2 hu) zI ha hb (iI _)
end
end PP
namespace PP
open PySem L2 PyProof.Rows
noncomputable def LO (X:Cx)(t:kN):TO:=λσ H Q'=>∃(W:Addr->Prop) (ρ:b9) (Q:Option Int->Prop),PX X.K X.H₀ W σ ρ H/\t ρ Q/\∀o H',aE H H'->Q o->Q' o H'
noncomputable def QO (X:Cx)(e:Option Expr)(t:kN):Prop:=PO X e (LO X t)
theorem Reps.cut {K:ac}{M:Addr->Prop}{H:Hp}{us:List V}{xs:List PV}(r:Reps K M H us xs)(lo hi:Option Int):Reps K M H (fO us lo hi) (cS xs lo hi):=by
 unfold fO cS
 rw[r.length]
 exact (r.drop _).take _
section
variable {X:Cx}{a b c e o:Expr}{es cH:List Expr}{ta tb te to tk:aA}{tr:c7}{tA tB' tc:bW}{pos p2 px:Pos}{st:Stmt}{sts:List Stmt}{t u:aR}
theorem gA:QO X none iQ:=λpins s σ H Q I h=>X0 pins s σ H Q I (by
 obtain⟨W,ρ,Q1,px,q,k⟩:=h
 exact k _ _ (aE.refl _) q)
theorem gB (h:QE X e te):QO X (some e) (iR te):=λpins s σ H Q I hq=>X1 h pins s σ H Q I (by
 obtain⟨W,ρ,Q1,px,q,k⟩:=hq
 refine⟨W,ρ,_,px,q,?_⟩
 rintro v H1 x g s r ⟨i,rfl,q⟩
 cases r
 exact⟨i,rfl,k _ _ s q⟩)
theorem gC {lo hi:Option Expr}{tl th:kN}{sp:Pos}(he:QE X e te)(hl:QO X lo tl)(hh:QO X hi th):QE X (.Subscript e (.Slice lo hi none sp) pos) (iS te tl th):=bO (X3 (Y5.or ad9) he hl hh) λσ H Q' h=>by
 obtain⟨W,ρ,Q,px,q,k⟩:=h
 refine⟨W,ρ,_,px,q,λv H1 x g s1 r1 q1=>⟨W,ρ,_,px.mono s1,q1,λlo H2 s2 q2=>⟨W,ρ,_,px.mono (s1.trans s2),q2,?_⟩⟩⟩
 rintro hi H3 s3 ⟨xs,e,f,q3⟩
 have S:=(s1.trans s2).trans s3
 have r3:=r1.same (M':=Mg X.H₀ W H g) (s2.trans s3) λ_ z=>z
 cases r3 with
 |tup h r=>
  cases e
  refine .inr ⟨_,_,rfl,aI.of h,λp hp=>k _ _ _ .fr (S.trans (b7 hp _)) (.tup bB (((r.flat f).cut lo hi).same (b7 hp _) λ_ z=>z)) q3,λec=>k _ _ _ .fr S (.tup h ?_) q3⟩
  have:=(r.flat (M':=Mg X.H₀ W H .fr) f).cut lo hi
  rw[ec]at this
  exact this
 |lst m h r=>
  cases e
  exact .inl ⟨_,_,rfl,aL.of h,λp hp=>k _ _ _ .fr (S.trans (b7 hp _)) (.lst (S.free hp) bB (((r.flat f).cut lo hi).same (b7 hp _) λ_ z=>z)) q3⟩
 |scr h=>
  cases e
  exact .inl ⟨_,_,rfl,h.sqL,λp hp=>k _ _ _ .fr (S.trans (b7 hp _)) (.lst (S.free hp) bB (((Reps.intz _).cut lo hi).same (b7 hp _) λ_ z=>z)) q3⟩
 |fL h r=>
  cases e
  exact .inl ⟨_,_,rfl,.inl (.inr ⟨_,h⟩),λp hp=>k _ _ _ .fr (S.trans (b7 hp _)) (.lst (S.free hp) bB (((r.flat f).cut lo hi).same (b7 hp _) λ_ z=>z)) q3⟩
 |_=>cases e
structure Df (P:Program)(w:World)(K:ac)(mg:Str->Option Value)(base:Heap)(k:Nat)(x:Str)(ps:List Str)(p:c8):Prop where
 ex:∃f fd,cQ P w K mg base dH k f fd ps (lZ K p)/\gX K fd ps []/\PySem.W.keepIn K (.ref f)=true/\mg x=some (.ref f)
theorem cL {k j:Nat}{x:Str}{ps:List Str}{p:c8}(d:Df X.prog X.w X.K X.mg X.base k x ps p)(hr:bI j X.A)(ha:QA X (e::es) tr)(hkj:k<=j:=by decide)(hg:Gl X x:=by rfl)(hdb:(x==("__debug__":Str))=false:=by decide)(he:starEach (e::es) X.env=(false,eval e X.env)::starEach es X.env:=by rfl)(hpl:(backTo pos (starEach es X.env)).any (·.1)=false:=by rfl):QE X (.Call (.Name x p2) (e::es) [] pos) (aM p tr):=by
 obtain⟨f,fd,F,b,kp,m⟩:=d.ex
 exact bO (nI F (hr.mono hkj) hg m kp b .nil ab0 ha hdb he hpl) λ_ _ _=>ag9
theorem oE {K:ac}{H:Hp}{N:List Str}{vs:List V}{xs:List PV}(r:Reps K (λ_=>True) H vs xs):PX K H (λ_=>False) (L2.eV N vs) (dN N xs) H:=by
 have lr:=r.length
 have own:∀{i:Nat}{m:Slot},(dN N xs)[i]? = some (some m)->∃x,xs[i]? = some x/\m = .sh (flat x) x:=λ{i m} h=>by
  unfold dN at h
  by_cases hi:i<xs.length
  ·rw[aS1 (by simpa using hi),aJ9]at h
   rw[aI8 hi]at h ⊢
   cases h
   exact⟨_,rfl,rfl⟩
  ·rw[aU3 (by simpa using hi),List.getElem?_replicate]at h
   split at h<;>cases h
 refine⟨by unfold L2.eV dN;simp[lr],aE.refl _,λa z=>z.elim,λi m h=>?_,λi j x y a h1=>?_⟩
 ·obtain⟨x,hx,rfl⟩:=own h
  obtain⟨v,hv,rx⟩:=r.at hx
  refine⟨v,?_,o7 (g:=false) (rx.same (aE.refl _) λ_ _ z=>z)⟩
  have hi:i<vs.length:=(aK3.mp hv).1
  unfold L2.eV
  rw[aS1 (by simpa using hi),aJ9,hv];rfl
 ·obtain⟨x,_,e⟩:=own h1
  cases e
theorem Df.of {P:Program}{w:World}{K:ac}{mg:Str->Option Value}{base:Heap}{k:Nat}{x:Str}{ps N:List Str}{p:c8}{st:Stmt}{f:Addr}{fd:FuncData}(F:dI K x x st f fd)(m:mg x=some (.ref f))(S:FnScope N ps (aT st))(hb:∀(kV doc pm:Value) (an:Option Addr) (cdv ct:Value) (us:List Value),us.length=ps.length->bindArgs (PySem.W.fnOf x x (gG st) (cY st) (aT st) .none kV doc pm an cdv ct) ⟨us,[]⟩=pure (ps.zip us))(len:∀xs Q,p xs Q->xs.length=ps.length)(body:∀(cdv:Value) (A:Around) (outer:List Env) (s:Shared) (H:Hp) (E:XK),bI k (A.deeper (envOfC x (aT st) s.heap.objs.size f cdv))->
   ∃t,dO (cA dH P w K mg base N x (aT st) f cdv A outer s H E).nox (cY st) t/\∀xs Q,p xs Q->t { nx:=λ_=>Q .non,rt:=Q } (dN N xs)):Df P w K mg base (k+1) x ps p:=by
 refine⟨f,fd,F.ok S (λvs H Q E h=>?_) (λcdv A outer s H vs Q E hr h=>?_),F.binds hb,F.kp,m⟩
 ·obtain⟨xs,Qp,r,q,_⟩:=h
  rw[r.length];exact len xs Qp q
 ·obtain⟨xs,Qp,r,q,k⟩:=h
  obtain⟨t,ht,hq⟩:=body cdv A outer s H E hr
  refine⟨_,ht,λ_=>False,dN N xs,_,oE r,hq xs Qp q,?_,?_,?_,?_⟩
  ·exact λW' σ' H' ρ' e px q=>k _ _ _ px.same .non q
  ·exact λv H' x s r q=>k _ _ _ s r q
  ·exact λW' σ' H' ρ' e px q=>q
  ·exact λW' σ' H' ρ' e px q=>q
theorem jQ (i:Nat){x:Str}{tp:Pos}{body:List Stmt}{ti:dB}(hN:X.N.Nodup)(hi:QI X (.Name x tp) e ti)(hb:dO X body t)(hx:X.N[i]? = some x:=by rfl)(hl:fJ X.env.scope x:=by first|exact Or.inl rfl|exact Or.inr rfl)(hf:X.fn x=true∨X.env.scope.names.lookup x=some .local:=by first|exact .inl rfl|exact .inr rfl)(hp:PassesOwn (model X.prog X.w) X.A X.env X.xe:=by exact PassesOwn.never)(hc:X.calm=true:=by rfl)(hs:∀x,foldedSetIterable e X.env x=pure x:=by intro _;rfl):QS X (.For (.Name x tp) e body [] pos) (fB ti (cO i) t):=
 zD hp hc hi (eD hN hx hl hf) (jJ _ i) hb hs
theorem ak7 (i j:Nat){x y:Str}{tp xp yp:Pos}{kt:Nat}{body:List Stmt}{ti:dB}(hN:X.N.Nodup)(hi:QI X (.Tuple [.Name x xp,.Name y yp] kt tp) e ti)(hb:dO X body t)(hx:X.N[i]? = some x:=by rfl)(hy:X.N[j]? = some y:=by rfl)(hlx:fJ X.env.scope x:=by first|exact Or.inl rfl|exact Or.inr rfl)(hly:fJ X.env.scope y:=by first|exact Or.inl rfl|exact Or.inr rfl)(hfx:X.fn x=true∨X.env.scope.names.lookup x=some .local:=by first|exact .inl rfl|exact .inr rfl)(hfy:X.fn y=true∨X.env.scope.names.lookup y=some .local:=by first|exact .inl rfl|exact .inr rfl)(hp:PassesOwn (model X.prog X.w) X.A X.env X.xe:=by exact PassesOwn.never)(hc:X.calm=true:=by rfl)(hs:∀x,foldedSetIterable e X.env x=pure x:=by intro _;rfl):QS X (.For (.Tuple [.Name x xp,.Name y yp] kt tp) e body [] pos) (fB ti (jK i j) t):=
 zD hp hc hi (nF hc (iF (eD hN hx hlx hfx) (iF (eD hN hy hly hfy) nE))) (sT _ i j) hb hs
noncomputable abbrev bP:Value->Shared->Prop:=λ_ _=>False
section
variable {scope:Scope}{N:List Str}{fr:List (Option Nat)}{x y:Str}{tp xp yp:Pos}{kt:Nat}{iter elt:Expr}{ti:dB}
theorem oF {ifs:List Expr}{tcs:bW}(he:∀(s:Shared) (H:Hp) (C:Addr) (fp:List Addr),QE (aX X scope N s H C fp bP) elt te)(hi:∀(s:Shared) (H:Hp) (C:Addr) (fp:List Addr),fS (aX X scope N s H C fp bP) ifs (LT (aX X scope N s H C fp bP) tcs))(hN:N.Nodup)(h0:N[0]? = some x)(hl:∀(s:Shared) (H:Hp) (C:Addr) (fp:List Addr),(aX X scope N s H C fp bP).env.scope.names.lookup x=some .local)(s:Shared)(H:Hp) :
  jD X scope N (.Name x tp) ifs elt s H (cJ 0) (LT (X.frm H) tcs) (LE (X.frm H) te):=
 ⟨λC fp=>eD (X:=aX X scope N s H C fp bP) hN h0 (.inl (hl s H C fp)) (.inr (hl s H C fp)),λC fp=>hi s H C fp,λC fp=>he s H C fp⟩
theorem kR {Y:Cx}:fS Y [] (LT Y cR):=λpins s σ H Q I h=>xP pins s σ H Q I (ah7 h)
theorem ak8 (hi:QI X (.Name x tp) iter ti)(he:∀(s:Shared) (H:Hp) (C:Addr) (fp:List Addr),QE (aX X scope N s H C fp bP) elt te)(hc:X.calm=true:=by rfl)(S:cB X scope N fr:=by exact cB.of rfl rfl)(hN:N.Nodup:=by decide +kernel)(h0:N[0]? = some x:=by rfl)(hl:∀(s:Shared) (H:Hp) (C:Addr) (fp:List Addr),(aX X scope N s H C fp bP).env.scope.names.lookup x=some .local:=by intro _ _ _ _;rfl)(hf:fr[0]? = some none:=by rfl)(hs:∀x,foldedSetIterable iter X.env x=pure x:=by intro _;rfl):QE X (.ListComp elt [⟨.Name x tp,iter,[],0⟩] scope pos) (dM ti fr (cO 0) cR te):=
 bO (rQ (gh:=λ_=>cJ 0) (tch:=λH=>LT (X.frm H) cR) (teh:=λH=>LE (X.frm H) te) hc S hi (oF he (λ_ _ _ _=>kR) hN h0 hl) hs) λ_ _ _=>jM (jJ _ 0) (λi e=>by subst e;exact hf)
theorem ak9 {c:Expr}{tcs:bW}(hi:QI X (.Name x tp) iter ti)(ht:∀(s:Shared) (H:Hp) (C:Addr) (fp:List Addr),QT (aX X scope N s H C fp bP) c tcs)(he:∀(s:Shared) (H:Hp) (C:Addr) (fp:List Addr),QE (aX X scope N s H C fp bP) elt te)(hc:X.calm=true:=by rfl)(S:cB X scope N fr:=by exact cB.of rfl rfl)(hN:N.Nodup:=by decide +kernel)(h0:N[0]? = some x:=by rfl)(hl:∀(s:Shared) (H:Hp) (C:Addr) (fp:List Addr),(aX X scope N s H C fp bP).env.scope.names.lookup x=some .local:=by intro _ _ _ _;rfl)(hf:fr[0]? = some none:=by rfl)(hs:∀x,foldedSetIterable iter X.env x=pure x:=by intro _;rfl):QE X (.ListComp elt [⟨.Name x tp,iter,[c],0⟩] scope pos) (dM ti fr (cO 0) tcs te):=
 bO (rQ (gh:=λ_=>cJ 0) (tch:=λH=>LT (X.frm H) tcs) (teh:=λH=>LE (X.frm H) te) hc S hi (oF he (λs H C fp=>ab4 (ht s H C fp)) hN h0 hl) hs) λ_ _ _=>jM (jJ _ 0) (λi e=>by subst e;exact hf)
theorem al0 {i:Nat}{z:Str}{zp:Pos}(nd:X.N.Nodup)(hi:QI X (.Name x tp) iter ti)(he:∀(s:Shared) (H:Hp) (C:Addr) (fp:List Addr),QE (aX X scope N s H C fp bP) elt te)(hz:X.N[i]? = some z:=by rfl)(hzl:X.env.scope.names.lookup z=some .local:=by rfl)(hsw:swapsWith (.ListComp elt [⟨.Name x tp,iter,[],0⟩] scope p2) (some (.Name z zp)) pos.line X.env=pure true:=by rfl)(hc:X.calm=true:=by rfl)(S:cB X scope N fr:=by exact cB.of rfl rfl)(hN:N.Nodup:=by decide +kernel)(h0:N[0]? = some x:=by rfl)(hl:∀(s:Shared) (H:Hp) (C:Addr) (fp:List Addr),(aX X scope N s H C fp bP).env.scope.names.lookup x=some .local:=by intro _ _ _ _;rfl)(hf:fr[0]? = some none:=by rfl)(hs:∀x,foldedSetIterable iter X.env x=pure x:=by intro _;rfl):QS X (.Assign [.Name z zp] (.ListComp elt [⟨.Name x tp,iter,[],0⟩] scope p2) pos) (bA i (dM ti fr (cO 0) cR te)):=
 dU (rR (gh:=λ_=>cJ 0) (tch:=λH=>LT (X.frm H) cR) (teh:=λH=>LE (X.frm H) te) hc S hi (oF he (λ_ _ _ _=>kR) hN h0 hl) nd hz hzl hsw hs) λD σ H h=>jM (jJ _ 0) (λi e=>by subst e;exact hf) (sH h)
theorem al1 {i:Nat}{z:Str}{zp:Pos}(nd:X.N.Nodup)(hi:QI X (.Name x tp) iter ti)(he:∀(s:Shared) (H:Hp) (C:Addr) (fp:List Addr),QE (aX X scope N s H C fp bP) elt te)(hz:X.N[i]? = some z:=by rfl)(hzl:X.env.scope.names.lookup z=some .local:=by rfl)(hsw:swapsWith (.ListComp elt [⟨.Name x tp,iter,[],0⟩] scope p2) (some (.Name z zp)) pos.line X.env=pure true:=by rfl)(hc:X.calm=true:=by rfl)(S:cB X scope N fr:=by exact cB.of rfl rfl)(hN:N.Nodup:=by decide +kernel)(h0:N[0]? = some x:=by rfl)(hl:∀(s:Shared) (H:Hp) (C:Addr) (fp:List Addr),(aX X scope N s H C fp bP).env.scope.names.lookup x=some .local:=by intro _ _ _ _;rfl)(hf:fr[0]? = some none:=by rfl)(hs:∀x,foldedSetIterable iter X.env x=pure x:=by intro _;rfl):QS X (.Assign [.Name z zp] (.ListComp elt [⟨.Name x tp,iter,[],0⟩] scope p2) pos) (jG i (dM ti fr (cO 0) cR te)):=
 dU (rR (gh:=λ_=>cJ 0) (tch:=λH=>LT (X.frm H) cR) (teh:=λH=>LE (X.frm H) te) hc S hi (oF he (λ_ _ _ _=>kR) hN h0 hl) nd hz hzl hsw hs) λD σ H h=>jM (jJ _ 0) (λi e=>by subst e;exact hf) (yL h)
end
theorem al2 {i:Nat}{x:Str}{xpos tpos:Pos}(hk:QE X a tk)(he:QE X e te)(hN:X.N[i]? = some x:=by rfl)(hv:fI X.env.scope x:=by first|exact Or.inl rfl|exact Or.inr (Or.inl rfl)|exact Or.inr (Or.inr rfl))(hd:(x==("__debug__":Str))=false:=by decide)(hcd:(x==("__classdict__":Str))=false:=by decide)(hp:∀(tx:TE) (tg:TE),PE X (.Name x xpos) tx->PE X a tg->PG X (.Subscript (.Name x xpos) a tpos) (qD tx tg qZ):=by intro _ _ h1 h2;exact R4 h1 h2 Y1)(hs:swapsWithSole [.Subscript (.Name x xpos) a tpos] e pos.line X.env=pure false:=by rfl)(hw:swappedStores [.Subscript (.Name x xpos) a tpos] e X.env=pure none:=by rfl) :
  QS X (.Assign [.Subscript (.Name x xpos) a tpos] e pos) (sJ i tk te):=dU (vM he (hp _ _ (j8 hN hv hd hcd) hk) hs hw) λ_ _ _=>ag1
end
end PP
namespace SO
open PySem PyProof.Rows
section
variable (rk:Keyed→Int)
noncomputable def Kr (xs:Array Keyed)(i:Nat):Int:=((xs[i]?).map rk).getD 0
noncomputable def Up (xs:Array Keyed)(lo hi:Nat):Prop:=∀i j,lo<=i->i<=j->j<hi->Kr rk xs i<=Kr rk xs j
noncomputable def Dn (xs:Array Keyed)(lo hi:Nat):Prop:=∀i j,lo<=i->i<=j->j<hi->Kr rk xs j<=Kr rk xs i
end
variable {rk:Keyed→Int}
theorem jR {xs ys:Array Keyed}{i j:Nat}(h:xs[i]? = ys[j]?):Kr rk xs i=Kr rk ys j:=by unfold Kr;rw[h]
theorem oG {xs:Array Keyed}{i j:Nat}(hj:j<=xs.size)(k:Nat):Kr rk (mirror xs i j ((j-i)/2)) k=Kr rk xs (if i<=k/\k<j then i+j-1-k else k):=by
 refine jR ?_
 rw[getElem?_mirror_all hj]
 split<;>rfl
theorem tK {xs:Array Keyed}{i j:Nat}(hj:j<=xs.size)(e:∀k,i<=k->k<j->Kr rk xs k=Kr rk xs (j-1))(k:Nat):Kr rk (mirror xs i j ((j-i)/2)) k=Kr rk xs k:=by
 rw[oG hj]
 split
 ·rename_i h;rw[e k h.1 h.2,e _ (by omega) (by omega)]
 ·rfl
theorem al3 {xs:Array Keyed}{src d:Nat}(hs:src<xs.size)(hd:d<=src)(k:Nat):Kr rk (bubble xs src d) k=Kr rk xs (if k=src-d then src else if src-d<k/\k<=src then k-1 else k):=by
 refine jR ?_
 rw[getElem?_bubble hs d hd]
 repeat' split
 all_goals rfl
structure SB (κ:SortKind)(a0:Array Keyed)(pd:Array (Nat×Nat×Nat))(st:SortSt):Prop where
 pm:(arrOf st).Perm a0
 kd:kindOf st=κ
 ok:failedOf st=none
 pd:pendingOf st=pd
section
variable {κ:SortKind}{a0:Array Keyed}{pd:Array (Nat×Nat×Nat)}{st:SortSt}{prog:Program}{w:World}{A:Around}{E:Value→Shared→Prop}{s:Shared}{Ok:Keyed→Prop}
theorem SB.sz (h:SB κ a0 pd st):(arrOf st).size=a0.size:=h.pm.size_eq
theorem SB.put (h:SB κ a0 pd st){xs:Array Keyed}(hp:xs.Perm (arrOf st)):SB κ a0 pd (setArr st xs):=⟨hp.trans h.pm,h.kd,h.ok,h.pd⟩
noncomputable def c9 (prog:Program)(w:World)(A:Around)(E:Value->Shared->Prop)(s:Shared)(κ:SortKind)(Ok:Keyed->Prop)(rk:Keyed->Int):Prop:=
 ∀(x y:Keyed),Ok x->Ok y->∀(st:SortSt) (Q:Option Bool->SortSt->Prop),kindOf st=κ->Q (some (decide (rk x<rk y))) st->wpS (model prog w) A E s (lt' x y) Q st
noncomputable def bC (Ok:Keyed->Prop)(xs:Array Keyed):Prop:=∀x∈xs,Ok x
theorem SB.all (h:SB κ a0 pd st)(o:bC Ok a0):bC Ok (arrOf st):=λx hx=>o x (h.pm.mem_iff.mp hx)
theorem cM {xs:Array Keyed}{i:Nat}{Q:Keyed->SortSt->Prop}(hi:i<xs.size)(h:Q xs[i] st):wpS (model prog w) A E s (elem' xs i) Q st:=by
 rw[elem'_eq,getElem?_pos xs i hi];exact aJ8 h
theorem bU {xs:Array Keyed}{i:Nat}(hi:i<xs.size):Kr rk xs i=rk xs[i]:=by unfold Kr;rw[getElem?_pos xs i hi];rfl
theorem mF (c:c9 prog w A E s κ Ok rk)(o:bC Ok a0)(b:SB κ a0 pd st){i j:Nat}{Q:Option Bool->SortSt->Prop}(hi:i<a0.size)(hj:j<a0.size)(h:Q (some (decide (Kr rk (arrOf st) i<Kr rk (arrOf st) j))) st):wpS (model prog w) A E s (ltAt' i j) Q st:=by
 have hi':i<(arrOf st).size:=by rw[b.sz];exact hi
 have hj':j<(arrOf st).size:=by rw[b.sz];exact hj
 rw[ltAt'_eq]
 refine aJ0 (wpS_get (aJ0 (cM hi' (aJ0 (cM hj' ?_)))))
 refine c _ _ (b.all o _ (aM3 hi')) (b.all o _ (aM3 hj')) st Q b.kd ?_
 rw[<- bU (rk:=rk) hi',<- bU (rk:=rk) hj'];exact h
theorem oH {i j:Nat}{Q:Unit->SortSt->Prop}(h:Q () (setArr st (mirror (arrOf st) i j ((j-i)/2)))):wpS (model prog w) A E s (reverseSlice' i j) Q st:=by
 rw[reverseSlice'_eq];exact wpS_modify h
noncomputable abbrev CS:=Option (Option Nat)×Nat
noncomputable abbrev DS:=Option (Option Nat)×Nat×Nat
noncomputable def mG (lo b nrem:Nat):StateT SortSt Sem CS:=forIn [b:nrem] ((none,b):CS) λ_ r=>do
 match <- ltAt' (lo+r.2) (lo+r.2-1) with
 |some q=>if q=true then pure (ForInStep.done (none,r.2)) else pure (ForInStep.yield (none,r.2+1))
 |_=>pure (ForInStep.done (some none,r.2))
noncomputable def tL (lo b nrem:Nat):StateT SortSt Sem DS:=forIn [b:nrem] ((none,b,0):DS) λ_ r=>do
 match <- ltAt' (lo+r.2.1) (lo+r.2.1-1) with
 |some q=>
  if q=true then (if r.2.2>0 then do reverseSlice' (lo+r.2.1-(r.2.2+1)) (lo+r.2.1);pure (ForInStep.yield (none,r.2.1+1,0)) else pure (ForInStep.yield (none,r.2.1+1,0)))
  else do
   match <- ltAt' (lo+r.2.1-1) (lo+r.2.1) with
   |some q=>if q=true then pure (ForInStep.done (none,r.2.1,r.2.2)) else pure (ForInStep.yield (none,r.2.1+1,r.2.2+1))
   |_=>pure (ForInStep.done (some none,r.2.1,r.2.2))
 |_=>pure (ForInStep.done (some none,r.2.1,r.2.2))
theorem zK (c:c9 prog w A E s κ Ok rk)(o:bC Ok a0)(b:SB κ a0 pd st){lo n nrem:Nat}{Q:CS->SortSt->Prop}(hz:lo+nrem<=a0.size)(h1:1<=n)(hn:n<=nrem)(u:Up rk (arrOf st) lo (lo+n))(h:∀m,n<=m->m<=nrem->Up rk (arrOf st) lo (lo+m)->(m=nrem∨Kr rk (arrOf st) (lo+m)<Kr rk (arrOf st) (lo+m-1))->Q (none,m) st):wpS (model prog w) A E s (mG lo n nrem) Q st:=by
 unfold mG
 refine aP5 (I:=λx r st'=>st'=st/\r=(none,x)/\Up rk (arrOf st) lo (lo+x)) ?_ ?_ ⟨rfl,rfl,u⟩
 ·rintro x r st' hx hx' ⟨rfl,rfl,u'⟩
  refine aJ0 (mF c o b (by omega) (by omega) ?_)
  by_cases hq:Kr rk (arrOf st') (lo+x)<Kr rk (arrOf st') (lo+x-1)
  ·rw[aJ5 hq]
   exact aJ8 (h x hx (by omega) u' (.inr hq))
  ·rw[aJ1 hq]
   refine aJ8 ⟨rfl,rfl,λi j hi hij hj=>?_⟩
   rcases aN3 j (lo+x) with z|z
   ·exact u' i j hi hij z
   ·have ej:j=lo+x:=by omega
    subst ej
    rcases aU6 hij with z|z
    ·rw[z];exact aV3 _
    ·have:=u' i (lo+x-1) hi (by omega) (by omega)
     omega
 ·rintro r st' ⟨rfl,rfl,u'⟩
  have em:max n nrem=nrem:=by omega
  rw[em]at u' ⊢
  exact h nrem hn (aI6 _) u' (.inl rfl)
structure mH (rk:Keyed->Int)(xs ys:Array Keyed)(lo m q:Nat):Prop where
 dn:Dn rk ys lo (lo+m)
 le:q+1<=m
 eq:∀i,lo+m-(q+1)<=i->i<lo+m->Kr rk ys i=Kr rk ys (lo+m-1)
 low:∀i,i<lo->Kr rk ys i=Kr rk xs i
theorem al4 (c:c9 prog w A E s κ Ok rk)(o:bC Ok a0)(b:SB κ a0 pd st){lo n nrem:Nat}{xs:Array Keyed}{Q:DS->SortSt->Prop}(hz:lo+nrem<=a0.size)(h1:1<=n)(hn:n<=nrem)(u:mH rk xs (arrOf st) lo n 0)(h:∀m q st',SB κ a0 pd st'->n<=m->m<=nrem->mH rk xs (arrOf st') lo m q->Q (none,m,q) st'):wpS (model prog w) A E s (tL lo n nrem) Q st:=by
 unfold tL
 refine aP5 (I:=λx r st'=>∃q,r=(none,x,q)/\SB κ a0 pd st'/\mH rk xs (arrOf st') lo x q) ?_ ?_ ⟨0,rfl,b,u⟩
 ·rintro x r st' hx hx' ⟨q,rfl,b',f⟩
  have sz:=b'.sz
  dsimp only
  refine aJ0 (mF c o b' (by omega) (by omega) ?_)
  by_cases hq:Kr rk (arrOf st') (lo+x)<Kr rk (arrOf st') (lo+x-1)
  ·rw[aJ5 hq]
   have nx:∀ys:Array Keyed,(∀k,Kr rk ys k=Kr rk (arrOf st') k)->mH rk xs ys lo (x+1) 0:=λys e=>by
    refine⟨λi j hi hij hj=>?_,by omega,λi h1 h2=>by rw[show i=lo+(x+1)-1 by omega],λi hi=>(e i).trans (f.low i hi)⟩
    rw[e,e]
    rcases aN3 j (lo+x) with z|z
    ·exact f.dn i j hi hij z
    ·have ej:j=lo+x:=by omega
     subst ej
     rcases aU6 hij with z|z
     ·rw[z];exact aV3 _
     ·have:=f.dn i (lo+x-1) hi (by omega) (by omega)
      omega
   dsimp only
   rw[if_pos rfl]
   by_cases hp:q>0
   ·rw[if_pos hp]
    exact aJ0 (oH (aJ8 ⟨0,rfl,b'.put (mirror_perm _ _ _ _),nx _ (tK (by omega) f.eq)⟩))
   ·rw[if_neg hp]
    exact aJ8 ⟨0,rfl,b',nx _ λ_=>rfl⟩
  ·rw[aJ1 hq]
   dsimp only
   rw[if_neg aJ4]
   refine aJ0 (mF c o b' (by omega) (by omega) ?_)
   by_cases hl:Kr rk (arrOf st') (lo+x-1)<Kr rk (arrOf st') (lo+x)
   ·rw[aJ5 hl]
    exact aJ8 (h x q st' b' hx (by omega) f)
   ·rw[aJ1 hl]
    have ex:Kr rk (arrOf st') (lo+x)=Kr rk (arrOf st') (lo+x-1):=by omega
    refine aJ8 ⟨q+1,rfl,b',λi j hi hij hj=>?_,by have:=f.le;omega,λi h1 h2=>?_,f.low⟩
    ·rcases aN3 j (lo+x) with z|z
     ·exact f.dn i j hi hij z
     ·have ej:j=lo+x:=by omega
      subst ej
      rcases aU6 hij with z|z
      ·rw[z];exact aV3 _
      ·rw[ex];exact f.dn i (lo+x-1) hi (by omega) (by omega)
    ·rw[show lo+(x+1)-1=lo+x by omega]
     rcases aN3 i (lo+x) with z|z
     ·rw[ex];exact f.eq i (by omega) z
     ·rw[show i=lo+x by omega]
 ·rintro r st' ⟨q,rfl,b',f⟩
  have em:max n nrem=nrem:=by omega
  rw[em]at f ⊢
  exact h nrem q st' b' hn (aI6 _) f
theorem zL (c:c9 prog w A E s κ Ok rk)(o:bC Ok a0)(b:SB κ a0 pd st){lo nrem:Nat}(n:Nat){xs:Array Keyed}{Q:Option Nat->SortSt->Prop}{K:DS->StateT SortSt Sem (Option Nat)}{k:CS->StateT SortSt Sem (Option Nat)}(hz:lo+nrem<=a0.size)(hn:n+1<=nrem)(hK:∀m q,K (none,m,q)=if q>0 then reverseSlice' (lo+m-(q+1)) (lo+m) >>= λ_=>reverseSlice' lo (lo+m) >>= λ_=>mG lo m nrem >>= k else reverseSlice' lo (lo+m) >>= λ_=>mG lo m nrem >>= k)(hk:∀m,k (none,m)=pure (some m))(u:mH rk xs (arrOf st) lo (n+1) 0)(h:∀m st',SB κ a0 pd st'->1<=m->m<=nrem->Up rk (arrOf st') lo (lo+m)->(∀i,i<lo->Kr rk (arrOf st') i=Kr rk xs i)->Q (some m) st'):wpS (model prog w) A E s (liftM (rule "list.sort.descending-run") >>= λ_=>tL lo (n+1) nrem >>= K) Q st:=by
 refine aJ0 (wpS_lift (aV8 ⟨rfl,?_⟩))
 refine aJ0 (al4 c o b hz (by omega) hn u λm q st1 b1 m1 m2 f=>?_)
 have fin:∀st2:SortSt,SB κ a0 pd st2->(∀k,Kr rk (arrOf st2) k=Kr rk (arrOf st1) k)->
   wpS (model prog w) A E s (reverseSlice' lo (lo+m) >>= λ_=>mG lo m nrem >>= k) Q st2:=λst2 b2 e=>by
  have sz:=b2.sz
  have low:∀i,i<lo->Kr rk (mirror (arrOf st2) lo (lo+m) ((lo+m-lo)/2)) i=Kr rk xs i:=λi hi=>by
   rw[oG (by omega),if_neg (by omega),e]
   exact f.low i hi
  refine aJ0 (oH (aJ0 (zK (κ:=κ) c o (b2.put (mirror_perm _ _ _ _)) hz (by omega) m2 ?_ λm' h1 h2 up _=>by rw[hk];exact aJ8 (h m' _ (b2.put (mirror_perm _ _ _ _)) (by omega) h2 up low))))
  ·intro i j hi hij hj
   show Kr rk (mirror (arrOf st2) lo (lo+m) _) i<=Kr rk (mirror (arrOf st2) lo (lo+m) _) j
   rw[oG (by omega),oG (by omega),if_pos (by omega),if_pos (by omega),e,e]
   exact f.dn _ _ (by omega) (by omega) (by omega)
 rw[hK]
 by_cases hp:q>0
 ·rw[if_pos hp]
  have sz:=b1.sz
  exact aJ0 (oH (fin _ (b1.put (mirror_perm _ _ _ _)) (tK (by omega) f.eq)))
 ·rw[if_neg hp]
  exact fin st1 b1 λ_=>rfl
theorem al5 (c:c9 prog w A E s κ Ok rk)(o:bC Ok a0)(b:SB κ a0 pd st){lo nrem:Nat}{Q:Option Nat->SortSt->Prop}(hz:lo+nrem<=a0.size)(h1:1<=nrem)(h:∀m st',SB κ a0 pd st'->1<=m->m<=nrem->Up rk (arrOf st') lo (lo+m)->(∀i,i<lo->Kr rk (arrOf st') i=Kr rk (arrOf st) i)->Q (some m) st'):wpS (model prog w) A E s (countRun' lo nrem) Q st:=by
 rw[countRun'_eq]
 refine aJ0 (zK (n:=1) c o b hz (aI6 _) h1 (λi j hi hij hj=>by rw[show i=j by omega];exact aV3 _) λn n1 n2 un on=>?_)
 dsimp only
 by_cases en:(n==nrem)=true
 ·rw[if_pos en]
  exact aJ8 (h n st b n1 n2 un λ_ _=>rfl)
 ·rw[if_neg en]
  have en':n≠nrem:=by simpa using en
  have lt:=on.resolve_left en'
  have sz:=b.sz
  by_cases g:n>1
  ·rw[if_pos g]
   refine aJ0 (mF c o b (by omega) (by omega) ?_)
   by_cases hq:Kr rk (arrOf st) lo<Kr rk (arrOf st) (lo+n-1)
   ·rw[aJ5 hq]
    exact aJ8 (h n st b n1 n2 un λ_ _=>rfl)
   ·rw[aJ1 hq]
    dsimp only
    rw[if_neg aJ4]
    have all:∀k,lo<=k->k<lo+n->Kr rk (arrOf st) k=Kr rk (arrOf st) (lo+n-1):=λk k1 k2=>by
     have a1:=un lo k (aI6 _) k1 k2
     have a2:=un k (lo+n-1) k1 (by omega) (by omega)
     omega
    have sm:=tK (rk:=rk) (xs:=arrOf st) (i:=lo) (j:=lo+n) (by omega) all
    refine aJ0 (oH (zL (xs:=arrOf st) (κ:=κ) c o (b.put (mirror_perm _ _ _ _)) n hz (by omega) (λ_ _=>rfl) (λ_=>rfl) ⟨λi j hi hij hj=>?_,by omega,λi h1 h2=>by rw[show i=lo+(n+1)-1 by omega],λi _=>sm i⟩ h))
    show Kr rk (mirror (arrOf st) lo (lo+n) _) j<=Kr rk (mirror (arrOf st) lo (lo+n) _) i
    rw[sm,sm]
    rcases aN3 j (lo+n) with z|z
    ·rw[all i hi (by omega),all j (by omega) z];exact aV3 _
    ·have ej:j=lo+n:=by omega
     subst ej
     rcases aU6 hij with z|z
     ·rw[z];exact aV3 _
     ·rw[all i hi (by omega)];exact Int.le_of_lt lt
  ·rw[if_neg g]
   have e1:n=1:=by omega
   subst e1
   refine zL (xs:=arrOf st) c o b 1 hz (by omega) (λ_ _=>rfl) (λ_=>rfl) ⟨λi j hi hij hj=>?_,by omega,λi h1 h2=>by rw[show i=lo+(1+1)-1 by omega],λi _=>rfl⟩ h
   rcases aU6 hij with z|z
   ·rw[z];exact aV3 _
   ·have ei:i=lo+1-1:=by omega
    have ej:j=lo+1:=by omega
    rw[ei,ej];exact Int.le_of_lt lt
theorem al6 (c:c9 prog w A E s κ Ok rk)(o:bC Ok a0)(b:SB κ a0 pd st){lo n q:Nat}{Q:Bool->SortSt->Prop}(hz:lo+n<=a0.size)(hq:q<=n)(u:Up rk (arrOf st) lo (lo+q))(h:∀st',SB κ a0 pd st'->Up rk (arrOf st') lo (lo+n)->(∀i,i<lo->Kr rk (arrOf st') i=Kr rk (arrOf st) i)->Q true st'):wpS (model prog w) A E s (binarySort' lo n q) Q st:=by
 rw[binarySort'_eq]
 refine aJ0 (aV4 (aP5 (I:=λk r st'=>r=(none,())/\SB κ a0 pd st'/\Up rk (arrOf st') lo (lo+min k n)/\∀i,i<lo->Kr rk (arrOf st') i=Kr rk (arrOf st) i)
  (Q:=λr st'=>r=(none,())/\SB κ a0 pd st'/\Up rk (arrOf st') lo (lo+n)/\∀i,i<lo->Kr rk (arrOf st') i=Kr rk (arrOf st) i) ?_ ?_ ?_) ?_)
 ·rintro k r st1 hk hkn ⟨rfl,b1,u1,l1⟩
  rw[show min k n=k by omega]at u1
  have hk0:lo+k<a0.size:=by omega
  have sz:=b1.sz
  refine aJ0 (aV4 (aP5 (I:=λx r st'=>st'=st1/\∃l g,r=(none,l,g)/\l<=g/\g<=k/\g-l<=k-x/\(∀i,i<l->Kr rk (arrOf st1) (lo+i)<=Kr rk (arrOf st1) (lo+k))/\∀i,g<=i->i<k->Kr rk (arrOf st1) (lo+k)<Kr rk (arrOf st1) (lo+i))
   (Q:=λr st'=>st'=st1/\∃l g,r=(none,l,g)/\l<=k/\(∀i,i<l->Kr rk (arrOf st1) (lo+i)<=Kr rk (arrOf st1) (lo+k))/\∀i,l<=i->i<k->Kr rk (arrOf st1) (lo+k)<Kr rk (arrOf st1) (lo+i)) ?_ ?_ ?_) ?_)
  ·rintro x r st2 _ hx ⟨rfl,l,g,rfl,d1,d2,d3,f1,f2⟩
   dsimp only
   by_cases hlg:l >= g
   ·rw[if_pos hlg]
    have e:g=l:=by omega
    subst e
    exact aJ8 ⟨rfl,g,g,rfl,d2,f1,f2⟩
   ·rw[if_neg hlg]
    refine aJ0 (mF c o b1 hk0 (by omega) ?_)
    by_cases hc:Kr rk (arrOf st2) (lo+k)<Kr rk (arrOf st2) (lo+(l+g)/2)
    ·rw[aJ5 hc]
     refine aJ8 ⟨rfl,l,(l+g)/2,rfl,by omega,by omega,by omega,f1,λi i1 i2=>?_⟩
     have:=u1 (lo+(l+g)/2) (lo+i) (by omega) (by omega) (by omega)
     omega
    ·rw[aJ1 hc]
     refine aJ8 ⟨rfl,(l+g)/2+1,g,rfl,by omega,d2,by omega,λi i1=>?_,f2⟩
     have:=u1 (lo+i) (lo+(l+g)/2) (by omega) (by omega) (by omega)
     omega
  ·rintro r st2 ⟨rfl,l,g,rfl,d1,d2,d3,f1,f2⟩
   have e:g=l:=by omega
   subst e
   exact⟨rfl,g,g,rfl,d2,f1,f2⟩
  ·exact⟨rfl,0,k,rfl,by omega,by omega,by omega,λi hi=>absurd hi (by omega),λi i1 i2=>absurd i1 (by omega)⟩
  ·rintro r st2 ⟨rfl,l,g,rfl,d,f1,f2⟩
   dsimp only
   rw[moveDown'_eq]
   have kb:∀i,Kr rk (bubble (arrOf st2) (lo+k) (lo+k-(lo+l))) i=Kr rk (arrOf st2) (if i=lo+l then lo+k else if lo+l<i/\i<=lo+k then i-1 else i):=λi=>by
    rw[al3 (by omega) (by omega),show lo+k-(lo+k-(lo+l))=lo+l by omega]
   refine aJ0 (wpS_modify (aJ8 ⟨rfl,b1.put (bubble_perm _ _ _),λi j hi hij hj=>?_,λi hi=>?_⟩))
   ·show Kr rk (bubble (arrOf st2) (lo+k) (lo+k-(lo+l))) i<=Kr rk (bubble (arrOf st2) (lo+k) (lo+k-(lo+l))) j
    rw[kb,kb]
    rw[show min (k+1) n=k+1 by omega]at hj
    have v1:∀p,lo<=p->p<lo+l->Kr rk (arrOf st2) p<=Kr rk (arrOf st2) (lo+k):=λp p1 p2=>by have:=f1 (p-lo) (by omega);rwa [show lo+(p-lo)=p by omega]at this
    have v2:∀p,lo+l<=p->p<lo+k->Kr rk (arrOf st2) (lo+k)<Kr rk (arrOf st2) p:=λp p1 p2=>by have:=f2 (p-lo) (by omega) (by omega);rwa [show lo+(p-lo)=p by omega]at this
    repeat' split
    all_goals first
     |(exfalso;omega)
     |exact aV3 _
     |exact v1 _ (by omega) (by omega)
     |exact Int.le_of_lt (v2 _ (by omega) (by omega))
     |exact u1 _ _ (by omega) (by omega) (by omega)
   ·show Kr rk (bubble (arrOf st2) (lo+k) (lo+k-(lo+l))) i=_
    rw[kb,if_neg (by omega),if_neg (by omega)]
    exact l1 i hi
 ·rintro r st1 ⟨rfl,b1,u1,l1⟩
  rw[show min (max (max q 1) n) n=n by omega]at u1
  exact⟨rfl,b1,u1,l1⟩
 ·refine⟨rfl,b,λi j hi hij hj=>?_,λ_ _=>rfl⟩
  rcases aN3 j (lo+q) with z|z
  ·exact u i j hi hij z
  ·rw[show i=j by omega];exact aV3 _
 ·rintro r st1 ⟨rfl,b1,u1,l1⟩
  exact aJ8 (h st1 b1 u1 l1)
end
noncomputable def iX:Bool->Keyed->Array Keyed->Nat->Nat->Nat->StateT SortSt Sem (Option Nat):=sortPriv% PySem.Builtin.gallop
noncomputable def jS (lf:Bool)(key:Keyed)(xs:Array Keyed)(bs i:Nat):StateT SortSt Sem (Option Bool):=do
 let z <- elem' xs (bs+i)
 if lf then lt' z key else return (<- lt' key z).map (!·)
theorem al7 (lf:Bool)(key:Keyed)(xs:Array Keyed)(bs n h:Nat):iX lf key xs bs n h=(do
 let mut la:=0
 let mut of:=1
 let mut l:=0
 let mut g:=0
 let some rt <- jS lf key xs bs h|return none
 if rt then
  let mx:=n-h
  for _ in [0:n] do
   if of >= mx then break
   let some mr <- jS lf key xs bs (h+of)|return none
   if !mr then break
   la:=of
   of:=2*of+1
  l:=h+la+1
  g:=h+min of mx
 else
  let mx:=h+1
  for _ in [0:n] do
   if of >= mx then break
   let some fd <- jS lf key xs bs (h-of)|return none
   if fd then break
   la:=of
   of:=2*of+1
  l:=h+1-min of mx
  g:=h-la
 for _ in [0:n] do
  if l >= g then break
  let m:=l+(g-l)/2
  let some mr <- jS lf key xs bs m|return none
  if mr then l:=m+1 else g:=m
 return some g):=rfl
section
variable {rk:Keyed→Int}{κ:SortKind}{st:SortSt}{prog:Program}{w:World}{A:Around}{E:Value→Shared→Prop}{s:Shared}{Ok:Keyed→Prop}
noncomputable def bQ (rk:Keyed->Int)(lf:Bool)(key:Keyed)(xs:Array Keyed)(bs i:Nat):Bool:=if lf then decide (Kr rk xs (bs+i)<rk key) else decide (Kr rk xs (bs+i)<=rk key)
theorem oI (c:c9 prog w A E s κ Ok rk)(hk:kindOf st=κ){lf:Bool}{key:Keyed}{xs:Array Keyed}{bs i:Nat}{Q:Option Bool->SortSt->Prop}(ok:Ok key)(o:bC Ok xs)(hi:bs+i<xs.size)(h:Q (some (bQ rk lf key xs bs i)) st):wpS (model prog w) A E s (jS lf key xs bs i) Q st:=by
 unfold jS
 refine aJ0 (cM hi ?_)
 unfold bQ at h
 rw[bU hi]at h
 cases lf with
 |true=>
  simp only[if_true]at h ⊢
  exact c _ _ (o _ (aM3 hi)) ok st Q hk h
 |false=>
  simp only[aL2,aQ2]at h ⊢
  refine aJ0 (c _ _ ok (o _ (aM3 hi)) st _ hk (aJ8 ?_))
  have e:(!decide (rk key<rk xs[bs+i]))=decide (rk xs[bs+i]<=rk key):=by
   by_cases z:rk xs[bs+i]<=rk key
   ·rw[aJ5 z,aJ1 (by omega)];rfl
   ·rw[aJ1 z,aJ5 (by omega)];rfl
  show Q (some (!decide (rk key<rk xs[bs+i]))) st
  rw[e];exact h
noncomputable abbrev GS:=Option (Option Nat)×Nat×Nat
noncomputable def zM (lf:Bool)(key:Keyed)(xs:Array Keyed)(bs n l g:Nat):StateT SortSt Sem GS:=forIn [0:n] ((none,l,g):GS) λ_ r=>
 if r.2.1 >= r.2.2 then pure (ForInStep.done (none,r.2.1,r.2.2)) else do
  match <- jS lf key xs bs (r.2.1+(r.2.2-r.2.1)/2) with
  |some q=>if q=true then pure (ForInStep.yield (none,r.2.1+(r.2.2-r.2.1)/2+1,r.2.2)) else pure (ForInStep.yield (none,r.2.1,r.2.1+(r.2.2-r.2.1)/2))
  |_=>pure (ForInStep.done (some none,r.2.1,r.2.2))
theorem zN (c:c9 prog w A E s κ Ok rk)(hk:kindOf st=κ){lf:Bool}{key:Keyed}{xs:Array Keyed}{bs n l g:Nat}{Q:GS->SortSt->Prop}(ok:Ok key)(o:bC Ok xs)(hz:bs+n<=xs.size)(mono:∀i j,i<=j->j<n->bQ rk lf key xs bs j=true->bQ rk lf key xs bs i=true)(hlg:l<=g)(hg:g<=n)(h1:∀i,i<l->bQ rk lf key xs bs i=true)(h2:∀i,g<=i->i<n->bQ rk lf key xs bs i=false)(hq:∀k,k<=n->(∀i,i<k->bQ rk lf key xs bs i=true)->(∀i,k<=i->i<n->bQ rk lf key xs bs i=false)->Q (none,k,k) st):wpS (model prog w) A E s (zM lf key xs bs n l g) Q st:=by
 unfold zM
 refine aP5 (I:=λx r st'=>st'=st/\∃l g,r=(none,l,g)/\l<=g/\g<=n/\g-l<=n-x/\(∀i,i<l->bQ rk lf key xs bs i=true)/\∀i,g<=i->i<n->bQ rk lf key xs bs i=false) ?_ ?_ ⟨rfl,l,g,rfl,hlg,hg,by omega,h1,h2⟩
 ·rintro x r st' _ hx ⟨rfl,l,g,rfl,d1,d2,d3,f1,f2⟩
  dsimp only
  by_cases hc:l >= g
  ·rw[if_pos hc]
   have e:g=l:=by omega
   subst e
   exact aJ8 (hq g d2 f1 f2)
  ·rw[if_neg hc]
   refine aJ0 (oI c hk ok o (by omega) ?_)
   cases z:bQ rk lf key xs bs (l+(g-l)/2) with
   |true=>exact aJ8 ⟨rfl,_,_,rfl,by omega,d2,by omega,λi hi=>mono i (l+(g-l)/2) (by omega) (by omega) z,f2⟩
   |false=>
    refine aJ8 ⟨rfl,_,_,rfl,by omega,by omega,by omega,f1,λi i1 i2=>?_⟩
    cases y:bQ rk lf key xs bs i with
    |false=>rfl
    |true=>rw[mono _ i i1 i2 y]at z;cases z
 ·rintro r st' ⟨rfl,l,g,rfl,d1,d2,d3,f1,f2⟩
  have e:g=l:=by omega
  subst e
  exact hq g d2 f1 f2
theorem kS (c:c9 prog w A E s κ Ok rk)(hk:kindOf st=κ){lf:Bool}{key:Keyed}{xs:Array Keyed}{bs n h:Nat}{Q:Option Nat->SortSt->Prop}(ok:Ok key)(o:bC Ok xs)(hh:h<n)(hz:bs+n<=xs.size)(u:Up rk xs bs (bs+n))(hq:∀k,k<=n->(∀i,i<k->bQ rk lf key xs bs i=true)->(∀i,k<=i->i<n->bQ rk lf key xs bs i=false)->Q (some k) st):wpS (model prog w) A E s (iX lf key xs bs n h) Q st:=by
 have mono:∀i j,i<=j->j<n->bQ rk lf key xs bs j=true->bQ rk lf key xs bs i=true:=λi j hij hj e=>by
  have:=u (bs+i) (bs+j) (by omega) (by omega) (by omega)
  unfold bQ at e ⊢
  cases lf with
  |true=>simp only[if_true,aM2]at e ⊢;omega
  |false=>simp only[aL2,aQ2,aM2]at e ⊢;omega
 have monf:∀i j,i<=j->j<n->bQ rk lf key xs bs i=false->bQ rk lf key xs bs j=false:=λi j hij hj e=>by
  cases z:bQ rk lf key xs bs j with
  |false=>rfl
  |true=>rw[mono i j hij hj z]at e;cases e
 rw[al7]
 refine aJ0 (oI c hk ok o (by omega) ?_)
 dsimp only
 cases z:bQ rk lf key xs bs h with
 |true=>
  rw[if_pos rfl]
  refine aJ0 (aV4 (aP5 (I:=λx r st'=>st'=st/\∃la of,r=(none,la,of)/\la<of/\x<of/\h+la<n/\bQ rk lf key xs bs (h+la)=true)
   (Q:=λr st'=>st'=st/\∃la of,r=(none,la,of)/\la<of/\h+la<n/\bQ rk lf key xs bs (h+la)=true/\(of<n-h->bQ rk lf key xs bs (h+of)=false)) ?_ ?_ ⟨rfl,0,1,rfl,by omega,by omega,by omega,z⟩) ?_)
  ·rintro x r st' _ hx ⟨rfl,la,of,rfl,d1,d2,d3,f⟩
   dsimp only
   by_cases hc:of >= n-h
   ·rw[if_pos hc]
    exact aJ8 ⟨rfl,la,of,rfl,d1,d3,f,λy=>absurd y (by omega)⟩
   ·rw[if_neg hc]
    refine aJ0 (oI c hk ok o (by omega) ?_)
    cases y:bQ rk lf key xs bs (h+of) with
    |true=>exact aJ8 ⟨rfl,of,2*of+1,rfl,by omega,by omega,by omega,y⟩
    |false=>exact aJ8 ⟨rfl,la,of,rfl,d1,d3,f,λ_=>y⟩
  ·rintro r st' ⟨rfl,la,of,rfl,d1,d2,d3,f⟩
   exact⟨rfl,la,of,rfl,d1,d3,f,λy=>absurd y (by omega)⟩
  ·rintro r st' ⟨rfl,la,of,rfl,d1,d3,f,ft⟩
   dsimp only
   refine aJ0 (zN (l:=h+la+1) (g:=h+min of (n-h)) c hk ok o hz mono (by omega) (by omega) (λi hi=>mono i (h+la) (by omega) d3 f) (λi i1 i2=>?_) λk k1 k2 k3=>aJ8 (hq k k1 k2 k3))
   rcases aN3 of (n-h) with y|y
   ·exact monf (h+of) i (by omega) i2 (ft y)
   ·exact absurd i1 (by omega)
 |false=>
  rw[if_neg aJ4]
  refine aJ0 (aV4 (aP5 (I:=λx r st'=>st'=st/\∃la of,r=(none,la,of)/\la<of/\x<of/\la<=h/\bQ rk lf key xs bs (h-la)=false)
   (Q:=λr st'=>st'=st/\∃la of,r=(none,la,of)/\la<of/\la<=h/\bQ rk lf key xs bs (h-la)=false/\(of<h+1->bQ rk lf key xs bs (h-of)=true)) ?_ ?_ ⟨rfl,0,1,rfl,by omega,by omega,by omega,z⟩) ?_)
  ·rintro x r st' _ hx ⟨rfl,la,of,rfl,d1,d2,d3,f⟩
   dsimp only
   by_cases hc:of >= h+1
   ·rw[if_pos hc]
    exact aJ8 ⟨rfl,la,of,rfl,d1,d3,f,λy=>absurd y (by omega)⟩
   ·rw[if_neg hc]
    refine aJ0 (oI c hk ok o (by omega) ?_)
    cases y:bQ rk lf key xs bs (h-of) with
    |false=>exact aJ8 ⟨rfl,of,2*of+1,rfl,by omega,by omega,by omega,y⟩
    |true=>exact aJ8 ⟨rfl,la,of,rfl,d1,d3,f,λ_=>y⟩
  ·rintro r st' ⟨rfl,la,of,rfl,d1,d2,d3,f⟩
   exact⟨rfl,la,of,rfl,d1,d3,f,λy=>absurd y (by omega)⟩
  ·rintro r st' ⟨rfl,la,of,rfl,d1,d3,f,ft⟩
   dsimp only
   refine aJ0 (zN (l:=h+1-min of (h+1)) (g:=h-la) c hk ok o hz mono (by omega) (by omega) (λi hi=>?_) (λi i1 i2=>monf (h-la) i i1 i2 f) λk k1 k2 k3=>aJ8 (hq k k1 k2 k3))
   rcases aN3 of (h+1) with y|y
   ·exact mono i (h-of) (by omega) (by omega) (ft y)
   ·exact absurd hi (by omega)
end
noncomputable def kT:Nat->StateT SortSt Sem Unit:=sortPriv% PySem.Builtin.setMinGallop
noncomputable def tM:Array Keyed->Array Keyed->StateT SortSt Sem (Array Keyed):=sortPriv% PySem.Builtin.mergeLo
theorem al8 (g:Nat):kT g=modify (λst=>SortSt.mk' (kindOf st) (arrOf st) (pendingOf st) g (failedOf st)):=rfl
noncomputable abbrev LS:=Option (Array Keyed)×Array Keyed×Nat×Nat×Nat×Nat×Nat
noncomputable abbrev tN:=Option (Array Keyed)×Array Keyed×Nat×Nat×Nat×Nat
noncomputable abbrev LO:=Option (Array Keyed)×Array Keyed×Nat×Nat×Nat
noncomputable def oJ (x y o:Array Keyed)(i j mg p q:Nat):StateT SortSt Sem (ForInStep LS):=do
 let v <- elem' x i
 if (i+1+1==x.size)=true then pure (.done (some (o.push v++y.extract j y.size++x.extract (i+1) x.size),o.push v,i+1,j,mg,p,q))
 else if (decide (p<7)&&decide (q<7))=true then pure (.done (none,o.push v,i+1,j,mg,p,q)) else pure (.yield (none,o.push v,i+1,j,mg,p,q))
noncomputable def oK (x y o:Array Keyed)(i j mg p q:Nat):StateT SortSt Sem (ForInStep LS):=do
 let v <- elem' y j
 if (j+1==y.size)=true then pure (.done (some (o.push v++x.extract i x.size++y.extract (j+1) y.size),o.push v,i,j+1,mg,p,q)) else do
  let u <- elem' x i
  match <- iX true u y (j+1) (y.size-(j+1)) 0 with
  |some k=>
   if k>0 then
    if (j+1+k==y.size)=true then pure (.done (some (o.push v++y.extract (j+1) (j+1+k)++x.extract i x.size++y.extract (j+1+k) y.size),o.push v++y.extract (j+1) (j+1+k),i,j+1+k,mg,p,k))
    else oJ x y (o.push v++y.extract (j+1) (j+1+k)) i (j+1+k) mg p k
   else oJ x y (o.push v) i (j+1) mg p k
  |_=>pure (.done (some (o.push v++x.extract i x.size++y.extract (j+1) y.size),o.push v,i,j+1,mg,p,q))
noncomputable def oM (x y o:Array Keyed)(i j mg p q:Nat):StateT SortSt Sem (ForInStep LS):=do
 kT mg
 let v <- elem' y j
 match <- iX false v x i (x.size-i) 0 with
 |some k=>
  if k>0 then
   if (i+k+1==x.size)=true then pure (.done (some (o++x.extract i (i+k)++y.extract j y.size++x.extract (i+k) x.size),o++x.extract i (i+k),i+k,j,mg,k,q))
   else if (i+k==x.size)=true then pure (.done (some (o++x.extract i (i+k)++x.extract (i+k) x.size++y.extract j y.size),o++x.extract i (i+k),i+k,j,mg,k,q))
   else oK x y (o++x.extract i (i+k)) (i+k) j mg k q
  else oK x y o i j mg k q
 |_=>pure (.done (some (o++x.extract i x.size++y.extract j y.size),o,i,j,mg,p,q))
noncomputable def tO (x y o:Array Keyed)(i j mg p q:Nat):StateT SortSt Sem LS:=forIn [0:x.size+y.size] ((none,o,i,j,mg,p,q):LS) λ_ r=>
 if r.2.2.2.2.1>1 then oM x y r.2.1 r.2.2.1 r.2.2.2.1 (r.2.2.2.2.1-1) r.2.2.2.2.2.1 r.2.2.2.2.2.2 else oM x y r.2.1 r.2.2.1 r.2.2.2.1 r.2.2.2.2.1 r.2.2.2.2.2.1 r.2.2.2.2.2.2
noncomputable def tP (x y o:Array Keyed)(i j mg:Nat):StateT SortSt Sem tN:=forIn [0:x.size+y.size] ((none,o,i,j,0,0):tN) λ_ r=>do
 let v <- elem' y r.2.2.2.1
 let u <- elem' x r.2.2.1
 match <- lt' v u with
 |some q=>
  if q=true then do
   let v <- elem' y r.2.2.2.1
   if (r.2.2.2.1+1==y.size)=true then pure (.done (some (r.2.1.push v++x.extract r.2.2.1 x.size++y.extract (r.2.2.2.1+1) y.size),r.2.1.push v,r.2.2.1,r.2.2.2.1+1,0,r.2.2.2.2.2+1))
   else if r.2.2.2.2.2+1 >= mg then pure (.done (none,r.2.1.push v,r.2.2.1,r.2.2.2.1+1,0,r.2.2.2.2.2+1)) else pure (.yield (none,r.2.1.push v,r.2.2.1,r.2.2.2.1+1,0,r.2.2.2.2.2+1))
  else do
   let u <- elem' x r.2.2.1
   if (r.2.2.1+1+1==x.size)=true then pure (.done (some (r.2.1.push u++y.extract r.2.2.2.1 y.size++x.extract (r.2.2.1+1) x.size),r.2.1.push u,r.2.2.1+1,r.2.2.2.1,r.2.2.2.2.1+1,0))
   else if r.2.2.2.2.1+1 >= mg then pure (.done (none,r.2.1.push u,r.2.2.1+1,r.2.2.2.1,r.2.2.2.2.1+1,0)) else pure (.yield (none,r.2.1.push u,r.2.2.1+1,r.2.2.2.1,r.2.2.2.2.1+1,0))
 |_=>pure (.done (some (r.2.1++x.extract r.2.2.1 x.size++y.extract r.2.2.2.1 y.size),r.2.1,r.2.2.1,r.2.2.2.1,r.2.2.2.2.1,r.2.2.2.2.2))
noncomputable def zO (x y o:Array Keyed)(i j mg:Nat):StateT SortSt Sem LO:=forIn [0:x.size+y.size] ((none,o,i,j,mg):LO) λ_ r=>do
 let u <- tP x y r.2.1 r.2.2.1 r.2.2.2.1 r.2.2.2.2
 match u.1 with
 |some z=>pure (.done (some z,u.2.1,u.2.2.1,u.2.2.2.1,r.2.2.2.2))
 |none=>do
  liftM (rule "list.sort.gallop")
  let v <- tO x y u.2.1 u.2.2.1 u.2.2.2.1 (r.2.2.2.2+1) u.2.2.2.2.1 u.2.2.2.2.2
  match v.1 with
  |some z=>pure (.done (some z,v.2.1,v.2.2.1,v.2.2.2.1,v.2.2.2.2.1))
  |none=>do
   kT (v.2.2.2.2.1+1)
   pure (.yield (none,v.2.1,v.2.2.1,v.2.2.2.1,v.2.2.2.2.1+1))
theorem al9 (x y:Array Keyed):tM x y=(do
 liftM (rule "list.sort.merge-lo")
 let v <- elem' y 0
 if (1==y.size)=true then pure (#[v]++x.extract 0 x.size++y.extract 1 y.size)
 else if (0+1==x.size)=true then pure (#[v]++y.extract 1 y.size++x.extract 0 x.size)
 else do
  let z <- get
  let r <- zO x y #[v] 0 1 (gallopOf z)
  match r.1 with
  |some z=>pure z
  |none=>unsupported "internal:list.sort.merge-bound"):=by kernel_rfl
section
variable (rk:Keyed→Int)
noncomputable def Sd (l:List Keyed):Prop:=l.Pairwise λa b=>rk a<=rk b
structure MI (xs ys o:List Keyed)(i j:Nat):Prop where
 pm:o.Perm (xs.take i++ys.take j)
 sx:Sd rk (o++xs.drop i)
 sy:Sd rk (o++ys.drop j)
end
variable {rk:Keyed→Int}{xs ys o:List Keyed}{i j:Nat}
theorem Sd.ins {o a b d:List Keyed}(h1:Sd rk (o++a))(h2:Sd rk (o++(b++d)))(h:∀u∈b,∀t∈a,rk u<=rk t):Sd rk ((o++b)++a):=by
 unfold Sd at *
 rw[aK7]
 obtain⟨p1,p2,p3⟩:=aO3.mp h1
 obtain⟨q1,q2,q3⟩:=aO3.mp h2
 obtain⟨r1,r2,r3⟩:=aO3.mp q2
 refine aO3.mpr ⟨p1,aO3.mpr ⟨r1,p2,h⟩,λu hu t ht=>?_⟩
 rcases aP6.mp ht with z|z
 ·exact q3 u hu t (aV0 _ z)
 ·exact p3 u hu t z
theorem MI.ofy (m:MI rk xs ys o i j)(k:Nat)(h:∀u∈(ys.drop j).take k,∀t∈xs.drop i,rk u<=rk t):MI rk xs ys (o++(ys.drop j).take k) i (j+k):=by
 have e:(ys.drop j).take k++ys.drop (j+k)=ys.drop j:=by rw[<- List.drop_drop];exact aL6 k _
 refine⟨?_,Sd.ins m.sx (d:=ys.drop (j+k)) (by rw[e];exact m.sy) h,by rw[aK7,e];exact m.sy⟩
 rw[List.take_add,<- aK7]
 exact m.pm.append_right _
theorem MI.ofx (m:MI rk xs ys o i j)(k:Nat)(h:∀u∈(xs.drop i).take k,∀t∈ys.drop j,rk u<=rk t):MI rk xs ys (o++(xs.drop i).take k) (i+k) j:=by
 have e:(xs.drop i).take k++xs.drop (i+k)=xs.drop i:=by rw[<- List.drop_drop];exact aL6 k _
 refine⟨?_,by rw[aK7,e];exact m.sx,Sd.ins m.sy (d:=xs.drop (i+k)) (by rw[e];exact m.sx) h⟩
 rw[List.take_add]
 refine (m.pm.append_right _).trans ?_
 rw[aK7,aK7]
 exact (aU8).append_left _
theorem MI.fin (m:MI rk xs ys o i j)(h:xs.length<=i∨ys.length<=j):(o++xs.drop i++ys.drop j).Perm (xs++ys)/\Sd rk (o++xs.drop i++ys.drop j):=by
 refine⟨?_,?_⟩
 ·rw[aK7]
  refine (m.pm.append_right _).trans ?_
  have e1:xs=xs.take i++xs.drop i:=(aL6 i xs).symm
  have e2:ys=ys.take j++ys.drop j:=(aL6 j ys).symm
  conv=>rhs;rw[e1,e2]
  rw[aK7,aK7]
  refine List.Perm.append_left _ ?_
  rw[<- aK7,<- aK7]
  exact (aU8).append_right _
 ·rcases h with h|h
  ·rw[List.drop_eq_nil_of_le h,aQ9];exact m.sy
  ·rw[List.drop_eq_nil_of_le h,aQ9];exact m.sx
theorem MI.lst (m:MI rk xs ys o i j)(h:∀u∈ys,∀t∈xs.drop i,rk u<=rk t):(o++ys.drop j++xs.drop i).Perm (xs++ys)/\Sd rk (o++ys.drop j++xs.drop i):=by
 have m2:=m.ofy ys.length λu hu t ht=>h u (List.mem_of_mem_drop (List.mem_of_mem_take hu)) t ht
 have e:(ys.drop j).take ys.length=ys.drop j:=aL8 (by simp)
 rw[e]at m2
 have f:=m2.fin (.inr (by omega))
 rw[List.drop_eq_nil_of_le (as:=ys) (i:=j+ys.length) (by omega),aQ9]at f
 exact f
theorem zP {x:Array Keyed}{i k:Nat}{u:Keyed}(h:u∈(x.toList.drop i).take k):∃t,t<k/\i+t<x.size/\rk u=Kr rk x (i+t):=by
 obtain⟨t,ht,e⟩:=aT6 h
 have h1:t<k/\i+t<x.size:=by simp at ht;omega
 refine⟨t,h1.1,h1.2,?_⟩
 rw[bU h1.2,<- e]
 simp
theorem mI {x:Array Keyed}{i:Nat}{u:Keyed}(h:u∈x.toList.drop i):∃t,i+t<x.size/\rk u=Kr rk x (i+t):=by
 obtain⟨t,ht,e⟩:=aT6 h
 have h1:i+t<x.size:=by simp at ht;omega
 refine⟨t,h1,?_⟩
 rw[bU h1,<- e]
 simp
theorem Sd.up {x:Array Keyed}(h:Sd rk x.toList)(lo hi:Nat)(hh:hi<=x.size):Up rk x lo hi:=λi j _ hij hj=>by
 rw[bU (by omega:i<x.size),bU (by omega:j<x.size)]
 rcases aU6 hij with z|z
 ·subst z;exact aV3 _
 ·have:=aP2.mp h i j (by simp;omega) (by simp;omega) z
  simpa using this
theorem zQ (x:Array Keyed)(i k:Nat):(x.extract i (i+k)).toList=(x.toList.drop i).take k:=by
 simp[List.extract]
theorem oN (x:Array Keyed)(i:Nat):(x.extract i x.size).toList=x.toList.drop i:=by
 simp[List.extract]
 exact aL8 (by simp)
theorem jT {x:Array Keyed}{i:Nat}(h:i<x.size):[x[i]]=(x.toList.drop i).take 1:=by
 rw[List.drop_eq_getElem_cons (by simpa using h)];simp
structure Gq (st st':SortSt):Prop where
 kd:kindOf st'=kindOf st
 ar:arrOf st'=arrOf st
 pd:pendingOf st'=pendingOf st
 ok:failedOf st'=failedOf st
theorem Gq.refl (st:SortSt):Gq st st:=⟨rfl,rfl,rfl,rfl⟩
section
variable {κ:SortKind}{st:SortSt}{prog:Program}{w:World}{A:Around}{E:Value→Shared→Prop}{s:Shared}{Ok:Keyed→Prop}
theorem oO {st0:SortSt}{g:Nat}{Q:Unit->SortSt->Prop}(q:Gq st0 st)(h:∀st',Gq st0 st'->Q () st'):wpS (model prog w) A E s (kT g) Q st:=by
 rw[al8];exact wpS_modify (h _ ⟨q.kd,q.ar,q.pd,q.ok⟩)
noncomputable def dD (rk:Keyed->Int)(x y r:Array Keyed):Prop:=r.toList.Perm (x.toList++y.toList)/\Sd rk r.toList
theorem MI.y1 {x y o:Array Keyed}(m:MI rk x.toList y.toList o.toList i j)(hj:j<y.size)(h:∀t,i+t<x.size->rk y[j]<=Kr rk x (i+t)):MI rk x.toList y.toList (o.push y[j]).toList i (j+1):=by
 have:=m.ofy 1 λu hu t ht=>?_
 ·rw[<- jT hj]at this;simpa using this
 ·rw[<- jT hj,aJ7]at hu
  subst hu
  obtain⟨q,q1,q2⟩:=mI (rk:=rk) ht
  rw[q2];exact h q q1
theorem MI.x1 {x y o:Array Keyed}(m:MI rk x.toList y.toList o.toList i j)(hi:i<x.size)(h:∀t,j+t<y.size->rk x[i]<=Kr rk y (j+t)):MI rk x.toList y.toList (o.push x[i]).toList (i+1) j:=by
 have:=m.ofx 1 λu hu t ht=>?_
 ·rw[<- jT hi]at this;simpa using this
 ·rw[<- jT hi,aJ7]at hu
  subst hu
  obtain⟨q,q1,q2⟩:=mI (rk:=rk) ht
  rw[q2];exact h q q1
theorem MI.yk {x y o:Array Keyed}(m:MI rk x.toList y.toList o.toList i j)(k:Nat)(h:∀p t,p<k->j+p<y.size->i+t<x.size->Kr rk y (j+p)<=Kr rk x (i+t)):MI rk x.toList y.toList (o++y.extract j (j+k)).toList i (j+k):=by
 have:=m.ofy k λu hu t ht=>?_
 ·rw[<- zQ]at this;rw[aO6];exact this
 ·obtain⟨p,p1,p2,p3⟩:=zP (rk:=rk) hu
  obtain⟨q,q1,q2⟩:=mI (rk:=rk) ht
  rw[q2,p3];exact h p q p1 p2 q1
theorem MI.xk {x y o:Array Keyed}(m:MI rk x.toList y.toList o.toList i j)(k:Nat)(h:∀p t,p<k->i+p<x.size->j+t<y.size->Kr rk x (i+p)<=Kr rk y (j+t)):MI rk x.toList y.toList (o++x.extract i (i+k)).toList (i+k) j:=by
 have:=m.ofx k λu hu t ht=>?_
 ·rw[<- zQ]at this;rw[aO6];exact this
 ·obtain⟨p,p1,p2,p3⟩:=zP (rk:=rk) hu
  obtain⟨q,q1,q2⟩:=mI (rk:=rk) ht
  rw[q2,p3];exact h p q p1 p2 q1
theorem kU {key:Keyed}{xs:Array Keyed}{bs i:Nat}:bQ rk false key xs bs i=decide (Kr rk xs (bs+i)<=rk key):=rfl
theorem kW {key:Keyed}{xs:Array Keyed}{bs i:Nat}:bQ rk true key xs bs i=decide (Kr rk xs (bs+i)<rk key):=rfl
noncomputable def GI (rk:Keyed->Int)(x y:Array Keyed)(lb:Nat)(st:SortSt)(c:LS)(st':SortSt):Prop:=Gq st st'/\∃o i j mg p q,c=(none,o,i,j,mg,p,q)/\MI rk x.toList y.toList o.toList i j/\i+1<x.size/\j<y.size/\lb<=i+j
noncomputable def GQ (rk:Keyed->Int)(x y:Array Keyed)(lb:Nat)(st:SortSt)(c:LS)(st':SortSt):Prop:=Gq st st'/\((∃r o i j mg p q,c=(some r,o,i,j,mg,p,q)/\dD rk x y r)∨∃o i j mg p q,c=(none,o,i,j,mg,p,q)/\MI rk x.toList y.toList o.toList i j/\i+1<x.size/\j<y.size/\lb<=i+j)
noncomputable def GR (rk:Keyed->Int)(x y:Array Keyed)(lb:Nat)(st:SortSt)(r:ForInStep LS)(st':SortSt):Prop:=match r with|.done c=>GQ rk x y lb st c st'|.yield c=>GI rk x y lb st c st'
theorem MI.done {x y o:Array Keyed}(m:MI rk x.toList y.toList o.toList i j)(hh:x.size<=i∨y.size<=j):dD rk x y (o++x.extract i x.size++y.extract j y.size):=by
 unfold dD
 rw[aO6,aO6,oN,oN]
 exact m.fin (by simpa using hh)
theorem MI.last {x y o:Array Keyed}(m:MI rk x.toList y.toList o.toList i j)(x0:0<x.size)(hl:∀u∈y.toList,rk u<=rk x[x.size-1])(hh:i+1=x.size):dD rk x y (o++y.extract j y.size++x.extract i x.size):=by
 unfold dD
 rw[aO6,aO6,oN,oN]
 refine m.lst λu hu t ht=>?_
 obtain⟨q,q1,q2⟩:=mI (rk:=rk) ht
 have e:i+q=x.size-1:=by omega
 rw[q2,e,bU (by omega)]
 exact hl u hu
theorem zR {st0:SortSt}{x y o:Array Keyed}{mg p q lb:Nat}(x0:0<x.size)(hl:∀u∈y.toList,rk u<=rk x[x.size-1])(g:Gq st0 st)(m:MI rk x.toList y.toList o.toList i j)(hi:i+1<x.size)(hj:j<y.size)(hb:lb<=i+j)(hm:∀t,j+t<y.size->rk x[i]<=Kr rk y (j+t)):wpS (model prog w) A E s (oJ x y o i j mg p q) (GR rk x y lb st0) st:=by
 unfold oJ
 have hi':i<x.size:=by omega
 have m':=m.x1 hi' hm
 refine aJ0 (cM hi' ?_)
 by_cases he:(i+1+1==x.size)=true
 ·rw[if_pos he]
  have he:i+1+1=x.size:=by simpa using he
  exact aJ8 ⟨g,.inl ⟨_,_,_,_,_,_,_,rfl,m'.last x0 hl he⟩⟩
 ·rw[if_neg he]
  have he:i+1+1≠x.size:=by simpa using he
  split
  ·exact aJ8 ⟨g,.inr ⟨_,_,_,_,_,_,rfl,m',by omega,hj,by omega⟩⟩
  ·exact aJ8 ⟨g,_,_,_,_,_,_,rfl,m',by omega,hj,by omega⟩
theorem zS (c:c9 prog w A E s κ Ok rk){st0:SortSt}(hk:kindOf st0=κ){x y o:Array Keyed}{mg p q lb:Nat}(ox:bC Ok x)(oy:bC Ok y)(sx:Sd rk x.toList)(sy:Sd rk y.toList)(x0:0<x.size)(hl:∀u∈y.toList,rk u<=rk x[x.size-1])(g:Gq st0 st)(m:MI rk x.toList y.toList o.toList i j)(hi:i+1<x.size)(hj:j<y.size)(hb:lb<=i+j)(hm:∀t,i+t<x.size->rk y[j]<=Kr rk x (i+t)):wpS (model prog w) A E s (oK x y o i j mg p q) (GR rk x y lb st0) st:=by
 unfold oK
 have hi':i<x.size:=by omega
 have m':=m.y1 hj hm
 refine aJ0 (cM hj ?_)
 by_cases he:(j+1==y.size)=true
 ·rw[if_pos he]
  have he:j+1=y.size:=by simpa using he
  exact aJ8 ⟨g,.inl ⟨_,_,_,_,_,_,_,rfl,m'.done (.inr (by omega))⟩⟩
 ·rw[if_neg he]
  have he:j+1≠y.size:=by simpa using he
  refine aJ0 (cM hi' (aJ0 (kS c (g.kd.trans hk) (ox _ (aM3 hi')) oy (by omega) (by omega) (sy.up _ _ (by omega)) λk k1 k2 k3=>?_)))
  dsimp only
  have ux:=sx.up 0 _ (aI6 x.size)
  have mk:=m'.yk k λp t hp _ ht=>by
   have a1:=k2 p hp
   rw[kW,aM2]at a1
   have a2:=ux i (i+t) (by omega) (by omega) ht
   rw[bU hi']at a2
   omega
  have km:∀t,j+1+k+t<y.size->rk x[i]<=Kr rk y (j+1+k+t):=λt ht=>by
   have a1:=k3 (k+t) (by omega) (by omega)
   rw[kW,aR3,<- Nat.add_assoc]at a1
   omega
  by_cases hk0:k>0
  ·rw[if_pos hk0]
   by_cases hf:(j+1+k==y.size)=true
   ·rw[if_pos hf]
    have hf:j+1+k=y.size:=by simpa using hf
    exact aJ8 ⟨g,.inl ⟨_,_,_,_,_,_,_,rfl,mk.done (.inr (by omega))⟩⟩
   ·rw[if_neg hf]
    have hf:j+1+k≠y.size:=by simpa using hf
    exact zR x0 hl g mk hi (by omega) (by omega) km
  ·rw[if_neg hk0]
   have e0:k=0:=by omega
   subst e0
   exact zR x0 hl g m' hi (by omega) (by omega) km
theorem zT (c:c9 prog w A E s κ Ok rk){st0:SortSt}(hk:kindOf st0=κ){x y o:Array Keyed}{mg p q lb:Nat}(ox:bC Ok x)(oy:bC Ok y)(sx:Sd rk x.toList)(sy:Sd rk y.toList)(x0:0<x.size)(hl:∀u∈y.toList,rk u<=rk x[x.size-1])(g:Gq st0 st)(m:MI rk x.toList y.toList o.toList i j)(hi:i+1<x.size)(hj:j<y.size)(hb:lb<=i+j) :
  wpS (model prog w) A E s (oM x y o i j mg p q) (GR rk x y lb st0) st:=by
 unfold oM
 refine aJ0 (oO g λst4 q4=>aJ0 (cM hj (aJ0 (kS c (q4.kd.trans hk) (oy _ (aM3 hj)) ox (by omega) (by omega) (sx.up _ _ (by omega)) λk k1 k2 k3=>?_))))
 dsimp only
 have uy:=sy.up 0 _ (aI6 y.size)
 have mk:=m.xk k λp t hp _ ht=>by
  have a1:=k2 p hp
  rw[kU,aM2]at a1
  have a2:=uy j (j+t) (by omega) (by omega) ht
  rw[bU hj]at a2
  omega
 have km:∀t,i+k+t<x.size->rk y[j]<=Kr rk x (i+k+t):=λt ht=>by
  have a1:=k3 (k+t) (by omega) (by omega)
  rw[kU,aR3,<- Nat.add_assoc]at a1
  omega
 by_cases hk0:k>0
 ·rw[if_pos hk0]
  by_cases he:(i+k+1==x.size)=true
  ·rw[if_pos he]
   exact aJ8 ⟨q4,.inl ⟨_,_,_,_,_,_,_,rfl,mk.last x0 hl (by simpa using he)⟩⟩
  ·rw[if_neg he]
   have he:i+k+1≠x.size:=by simpa using he
   by_cases hf:(i+k==x.size)=true
   ·rw[if_pos hf]
    have hf:i+k=x.size:=by simpa using hf
    exact aJ8 ⟨q4,.inl ⟨_,_,_,_,_,_,_,rfl,mk.done (.inl (by omega))⟩⟩
   ·rw[if_neg hf]
    have hf:i+k≠x.size:=by simpa using hf
    exact zS c hk ox oy sx sy x0 hl q4 mk (by omega) hj (by omega) km
 ·rw[if_neg hk0]
  have e0:k=0:=by omega
  subst e0
  exact zS c hk ox oy sx sy x0 hl q4 m hi hj hb km
theorem am0 (c:c9 prog w A E s κ Ok rk){st0:SortSt}(hk:kindOf st0=κ){x y o:Array Keyed}{mg p q lb:Nat}(ox:bC Ok x)(oy:bC Ok y)(sx:Sd rk x.toList)(sy:Sd rk y.toList)(x0:0<x.size)(hl:∀u∈y.toList,rk u<=rk x[x.size-1])(g:Gq st0 st)(m:MI rk x.toList y.toList o.toList i j)(hi:i+1<x.size)(hj:j<y.size)(hb:lb<=i+j) :
  wpS (model prog w) A E s (tO x y o i j mg p q) (GQ rk x y lb st0) st:=by
 unfold tO
 refine aP5 (I:=λ_=>GI rk x y lb st0) ?_ ?_ ⟨g,o,i,j,_,p,q,rfl,m,hi,hj,hb⟩
 ·rintro t c3 st3 _ _ ⟨q3,o,i,j,mg,p,q,rfl,m,hi,hj,pr3⟩
  dsimp only
  split
  ·exact aV4 (zT c hk ox oy sx sy x0 hl q3 m hi hj pr3) λr _ hr=>by cases r<;>exact hr
  ·exact aV4 (zT c hk ox oy sx sy x0 hl q3 m hi hj pr3) λr _ hr=>by cases r<;>exact hr
 ·rintro c3 st3 ⟨q3,o,i,j,mg,p,q,rfl,m,hi,hj,pr3⟩
  exact⟨q3,.inr ⟨_,_,_,_,_,_,rfl,m,hi,hj,pr3⟩⟩
theorem am1 (c:c9 prog w A E s κ Ok rk){st0:SortSt}(hk:kindOf st0=κ){x y o:Array Keyed}{mg:Nat}{Q:tN->SortSt->Prop}(ox:bC Ok x)(oy:bC Ok y)(sx:Sd rk x.toList)(sy:Sd rk y.toList)(x0:0<x.size)(hl:∀u∈y.toList,rk u<=rk x[x.size-1])(g:Gq st0 st)(m:MI rk x.toList y.toList o.toList i j)(hi:i+1<x.size)(hj:j<y.size)(h1:∀r o' i' j' p q st',Gq st0 st'->dD rk x y r->Q (some r,o',i',j',p,q) st')(h2:∀o' i' j' p q st',Gq st0 st'->MI rk x.toList y.toList o'.toList i' j'->i'+1<x.size->j'<y.size->i+j+1<=i'+j'->Q (none,o',i',j',p,q) st') :
  wpS (model prog w) A E s (tP x y o i j mg) Q st:=by
 have ux:Up rk x 0 x.size:=sx.up 0 _ (aI6 _)
 have uy:Up rk y 0 y.size:=sy.up 0 _ (aI6 _)
 unfold tP
 refine aP5 (I:=λt c st'=>Gq st0 st'/\∃o i' j' p q,c=(none,o,i',j',p,q)/\MI rk x.toList y.toList o.toList i' j'/\i'+1<x.size/\j'<y.size/\i+j+t<=i'+j') ?_ ?_ ⟨g,o,i,j,0,0,rfl,m,hi,hj,by omega⟩
 ·rintro t c2 st2 _ ht ⟨q2,o,i',j',p,q,rfl,m,hi,hj,pr2⟩
  dsimp only
  have hi':i'<x.size:=by omega
  refine aJ0 (cM hj (aJ0 (cM hi' (aJ0 (c _ _ (oy _ (aM3 hj)) (ox _ (aM3 hi')) st2 _ (q2.kd.trans hk) ?_)))))
  by_cases hc:rk y[j']<rk x[i']
  ·rw[aJ5 hc]
   dsimp only
   rw[if_pos rfl]
   have m':=m.y1 hj λt ht=>by
    have:=ux i' (i'+t) (by omega) (by omega) ht
    rw[bU hi']at this
    omega
   refine aJ0 (cM hj ?_)
   by_cases he:(j'+1==y.size)=true
   ·rw[if_pos he]
    have he:j'+1=y.size:=by simpa using he
    exact aJ8 (h1 _ _ _ _ _ _ _ q2 (m'.done (.inr (by omega))))
   ·rw[if_neg he]
    have he:j'+1≠y.size:=by simpa using he
    split
    ·exact aJ8 (h2 _ _ _ _ _ _ q2 m' hi (by omega) (by omega))
    ·exact aJ8 ⟨q2,_,_,_,_,_,rfl,m',hi,by omega,by omega⟩
  ·rw[aJ1 hc]
   dsimp only
   rw[if_neg aJ4]
   have m':=m.x1 hi' λt ht=>by
    have:=uy j' (j'+t) (by omega) (by omega) ht
    rw[bU hj]at this
    omega
   refine aJ0 (cM hi' ?_)
   by_cases he:(i'+1+1==x.size)=true
   ·rw[if_pos he]
    exact aJ8 (h1 _ _ _ _ _ _ _ q2 (m'.last x0 hl (by simpa using he)))
   ·rw[if_neg he]
    have he:i'+1+1≠x.size:=by simpa using he
    split
    ·exact aJ8 (h2 _ _ _ _ _ _ q2 m' (by omega) hj (by omega))
    ·exact aJ8 ⟨q2,_,_,_,_,_,rfl,m',by omega,hj,by omega⟩
 ·rintro c2 st2 ⟨q2,o,i',j',p,q,rfl,m,hi,hj,pr2⟩
  exact h2 _ _ _ _ _ _ q2 m hi hj (by omega)
theorem am2 (c:c9 prog w A E s κ Ok rk)(hk:kindOf st=κ){x y:Array Keyed}{Q:Array Keyed->SortSt->Prop}(ox:bC Ok x)(oy:bC Ok y)(sx:Sd rk x.toList)(sy:Sd rk y.toList)(x0:0<x.size)(y0:0<y.size)(hf:∀t∈x.toList,rk y[0]<=rk t)(hl:∀u∈y.toList,rk u<=rk x[x.size-1])(h:∀r st',Gq st st'->dD rk x y r->Q r st'):wpS (model prog w) A E s (tM x y) Q st:=by
 rw[al9]
 refine aJ0 (wpS_lift (aV8 ⟨rfl,aJ0 (cM y0 ?_)⟩))
 have m0:MI rk x.toList y.toList (#[y[0]]:Array Keyed).toList 0 1:=by
  have mm:MI rk x.toList y.toList [] 0 0:=⟨by simp,sx,sy⟩
  have:=mm.ofy 1 λu hu t ht=>?_
  ·rw[<- jT y0]at this;exact this
  ·rw[<- jT y0,aJ7]at hu
   subst hu
   exact hf t ht
 by_cases e1:(1==y.size)=true
 ·rw[if_pos e1]
  have e1:1=y.size:=by simpa using e1
  exact aJ8 (h _ st (Gq.refl st) (m0.done (.inr (by omega))))
 ·rw[if_neg e1]
  have e1:1≠y.size:=by simpa using e1
  by_cases e2:(0+1==x.size)=true
  ·rw[if_pos e2]
   exact aJ8 (h _ st (Gq.refl st) (m0.last x0 hl (by simpa using e2)))
  ·rw[if_neg e2]
   have e2:0+1≠x.size:=by simpa using e2
   refine aJ0 (wpS_get ?_)
   unfold zO
   refine aJ0 (aV4 (aP5
    (I:=λn c st'=>Gq st st'/\∃o i j mg,c=(none,o,i,j,mg)/\MI rk x.toList y.toList o.toList i j/\i+1<x.size/\j<y.size/\n+1<=i+j)
    (Q:=λc st'=>Gq st st'/\∃r o i j mg,c=(some r,o,i,j,mg)/\dD rk x y r) ?_ ?_ ⟨Gq.refl st,_,0,1,_,rfl,m0,by omega,by omega,by omega⟩) ?_)
   ·rintro n c1 st1 _ hn ⟨q1,o,i,j,mg,rfl,m,hi,hj,pr⟩
    dsimp only
    refine aJ0 (am1 c hk ox oy sx sy x0 hl q1 m hi hj (λr o' i' j' p q st' g md=>aJ8 ⟨g,r,_,_,_,_,rfl,md⟩) λo' i' j' p q st' g m' hi' hj' pr'=>?_)
    refine aJ0 (wpS_lift (aV8 ⟨rfl,?_⟩))
    refine aJ0 (aV4 (am0 c hk ox oy sx sy x0 hl g m' hi' hj' pr') ?_)
    rintro c3 st3 ⟨q3,⟨r,o,i3,j3,mg,p,q,rfl,md⟩|⟨o,i3,j3,mg,p,q,rfl,m,hi,hj,pr3⟩⟩
    ·exact aJ8 ⟨q3,r,_,_,_,_,rfl,md⟩
    ·exact aJ0 (oO q3 λst4 q4=>aJ8 ⟨q4,o,i3,j3,_,rfl,m,hi,hj,by omega⟩)
   ·rintro c1 st1 ⟨q1,o,i,j,mg,rfl,m,hi,hj,pr⟩
    exact absurd pr (by omega)
   ·rintro c1 st1 ⟨q1,r,o,i,j,mg,rfl,md⟩
    exact aJ8 (h r _ q1 md)
end
noncomputable def tQ:Array Keyed->Array Keyed->StateT SortSt Sem (Array Keyed):=sortPriv% PySem.Builtin.mergeHi
noncomputable abbrev LH:=Option (Array Keyed)×Nat×Nat×Array Keyed×Nat×Nat×Nat
noncomputable abbrev tR:=Option (Array Keyed)×Nat×Nat×Array Keyed×Nat×Nat
noncomputable abbrev LP:=Option (Array Keyed)×Nat×Nat×Array Keyed×Nat
noncomputable def oP (x y o:Array Keyed)(i j mg p q:Nat):StateT SortSt Sem (ForInStep LH):=do
 let v <- elem' x (i-1)
 if (i-1==0)=true then pure (.done (some (x.extract 0 (i-1)++y.extract 0 j++(o.push v).reverse),i-1,j,o.push v,mg,p,q))
 else if (decide (p<7)&&decide (q<7))=true then pure (.done (none,i-1,j,o.push v,mg,p,q)) else pure (.yield (none,i-1,j,o.push v,mg,p,q))
noncomputable def oQ (x y o:Array Keyed)(i j mg p q:Nat):StateT SortSt Sem (ForInStep LH):=do
 let v <- elem' y (j-1)
 if (j-1==1)=true then pure (.done (some (y.extract 0 (j-1)++x.extract 0 i++(o.push v).reverse),i,j-1,o.push v,mg,p,q)) else do
  let u <- elem' x (i-1)
  match <- iX true u y 0 (j-1) (j-1-1) with
  |some z=>
   if j-1-z>0 then
    if (z==1)=true then pure (.done (some (y.extract 0 z++x.extract 0 i++(o.push v++(y.extract z (j-1)).reverse).reverse),i,z,o.push v++(y.extract z (j-1)).reverse,mg,p,j-1-z))
    else if (z==0)=true then pure (.done (some (x.extract 0 i++y.extract 0 z++(o.push v++(y.extract z (j-1)).reverse).reverse),i,z,o.push v++(y.extract z (j-1)).reverse,mg,p,j-1-z))
    else oP x y (o.push v++(y.extract z (j-1)).reverse) i z mg p (j-1-z)
   else oP x y (o.push v) i (j-1) mg p (j-1-z)
  |_=>pure (.done (some (x.extract 0 i++y.extract 0 (j-1)++(o.push v).reverse),i,j-1,o.push v,mg,p,q))
noncomputable def oR (x y o:Array Keyed)(i j mg p q:Nat):StateT SortSt Sem (ForInStep LH):=do
 kT mg
 let v <- elem' y (j-1)
 match <- iX false v x 0 i (i-1) with
 |some z=>
  if i-z>0 then
   if (z==0)=true then pure (.done (some (x.extract 0 z++y.extract 0 j++(o++(x.extract z i).reverse).reverse),z,j,o++(x.extract z i).reverse,mg,i-z,q))
   else oQ x y (o++(x.extract z i).reverse) z j mg (i-z) q
  else oQ x y o i j mg (i-z) q
 |_=>pure (.done (some (x.extract 0 i++y.extract 0 j++o.reverse),i,j,o,mg,p,q))
noncomputable def tS (x y o:Array Keyed)(i j mg p q:Nat):StateT SortSt Sem LH:=forIn [0:x.size+y.size] ((none,i,j,o,mg,p,q):LH) λ_ r=>
 if r.2.2.2.2.1>1 then oR x y r.2.2.2.1 r.2.1 r.2.2.1 (r.2.2.2.2.1-1) r.2.2.2.2.2.1 r.2.2.2.2.2.2 else oR x y r.2.2.2.1 r.2.1 r.2.2.1 r.2.2.2.2.1 r.2.2.2.2.2.1 r.2.2.2.2.2.2
noncomputable def tU (x y o:Array Keyed)(i j mg:Nat):StateT SortSt Sem tR:=forIn [0:x.size+y.size] ((none,i,j,o,0,0):tR) λ_ r=>do
 let v <- elem' y (r.2.2.1-1)
 let u <- elem' x (r.2.1-1)
 match <- lt' v u with
 |some q=>
  if q=true then do
   let u <- elem' x (r.2.1-1)
   if (r.2.1-1==0)=true then pure (.done (some (x.extract 0 (r.2.1-1)++y.extract 0 r.2.2.1++(r.2.2.2.1.push u).reverse),r.2.1-1,r.2.2.1,r.2.2.2.1.push u,r.2.2.2.2.1+1,0))
   else if r.2.2.2.2.1+1 >= mg then pure (.done (none,r.2.1-1,r.2.2.1,r.2.2.2.1.push u,r.2.2.2.2.1+1,0)) else pure (.yield (none,r.2.1-1,r.2.2.1,r.2.2.2.1.push u,r.2.2.2.2.1+1,0))
  else do
   let v <- elem' y (r.2.2.1-1)
   if (r.2.2.1-1==1)=true then pure (.done (some (y.extract 0 (r.2.2.1-1)++x.extract 0 r.2.1++(r.2.2.2.1.push v).reverse),r.2.1,r.2.2.1-1,r.2.2.2.1.push v,0,r.2.2.2.2.2+1))
   else if r.2.2.2.2.2+1 >= mg then pure (.done (none,r.2.1,r.2.2.1-1,r.2.2.2.1.push v,0,r.2.2.2.2.2+1)) else pure (.yield (none,r.2.1,r.2.2.1-1,r.2.2.2.1.push v,0,r.2.2.2.2.2+1))
 |_=>pure (.done (some (x.extract 0 r.2.1++y.extract 0 r.2.2.1++r.2.2.2.1.reverse),r.2.1,r.2.2.1,r.2.2.2.1,r.2.2.2.2.1,r.2.2.2.2.2))
noncomputable def zU (x y o:Array Keyed)(i j mg:Nat):StateT SortSt Sem LP:=forIn [0:x.size+y.size] ((none,i,j,o,mg):LP) λ_ r=>do
 let u <- tU x y r.2.2.2.1 r.2.1 r.2.2.1 r.2.2.2.2
 match u.1 with
 |some z=>pure (.done (some z,u.2.1,u.2.2.1,u.2.2.2.1,r.2.2.2.2))
 |none=>do
  liftM (rule "list.sort.gallop")
  let v <- tS x y u.2.2.2.1 u.2.1 u.2.2.1 (r.2.2.2.2+1) u.2.2.2.2.1 u.2.2.2.2.2
  match v.1 with
  |some z=>pure (.done (some z,v.2.1,v.2.2.1,v.2.2.2.1,v.2.2.2.2.1))
  |none=>do
   kT (v.2.2.2.2.1+1)
   pure (.yield (none,v.2.1,v.2.2.1,v.2.2.2.1,v.2.2.2.2.1+1))
theorem am3 (x y:Array Keyed):tQ x y=(do
 liftM (rule "list.sort.merge-hi")
 let v <- elem' x (x.size-1)
 if (x.size-1==0)=true then pure (x.extract 0 (x.size-1)++y.extract 0 y.size++(#[v]:Array Keyed).reverse)
 else if (y.size==1)=true then pure (y.extract 0 y.size++x.extract 0 (x.size-1)++(#[v]:Array Keyed).reverse)
 else do
  let z <- get
  let r <- zU x y #[v] (x.size-1) y.size (gallopOf z)
  match r.1 with
  |some z=>pure z
  |none=>unsupported "internal:list.sort.merge-bound"):=by kernel_rfl
structure MH (rk:Keyed->Int)(xs ys o:List Keyed)(i j:Nat):Prop where
 pm:o.Perm (xs.drop i++ys.drop j)
 sx:Sd rk (xs.take i++o)
 sy:Sd rk (ys.take j++o)
variable {rk:Keyed→Int}{xs ys o:List Keyed}{i j:Nat}
theorem Sd.insR {o a b d:List Keyed}(h1:Sd rk (a++o))(h2:Sd rk ((d++b)++o))(h:∀t∈a,∀u∈b,rk t<=rk u):Sd rk (a++(b++o)):=by
 unfold Sd at *
 obtain⟨p1,p2,p3⟩:=aO3.mp h1
 obtain⟨q1,q2,q3⟩:=aO3.mp h2
 obtain⟨r1,r2,r3⟩:=aO3.mp q1
 refine aO3.mpr ⟨p1,aO3.mpr ⟨r2,p2,λu hu t ht=>q3 u (aK9 _ hu) t ht⟩,λu hu t ht=>?_⟩
 rcases aP6.mp ht with z|z
 ·exact h u hu t z
 ·exact p3 u hu t z
theorem oS (l:List Keyed){z j:Nat}(h:z<=j):l.take z++(l.take j).drop z=l.take j:=by
 have e:l.take z=(l.take j).take z:=by rw[List.take_take,Nat.min_eq_left h]
 rw[e];exact aL6 z _
theorem tV (l:List Keyed){z j:Nat}(h:z<=j):(l.take j).drop z++l.drop j=l.drop z:=by
 rw[aW2,show l.drop j=(l.drop z).drop (j-z) by rw[List.drop_drop,Nat.add_sub_cancel' h]]
 exact aL6 _ _
theorem MH.ofy (m:MH rk xs ys o i j){z:Nat}(hz:z<=j)(h:∀t∈xs.take i,∀u∈(ys.take j).drop z,rk t<=rk u):MH rk xs ys ((ys.take j).drop z++o) i z:=by
 refine⟨?_,Sd.insR m.sx (d:=ys.take z) (by rw[oS _ hz];exact m.sy) h,by rw[<- aK7,oS _ hz];exact m.sy⟩
 rw[<- tV ys hz]
 refine (m.pm.append_left _).trans ?_
 rw[<- aK7,<- aK7]
 exact (aU8).append_right _
theorem MH.ofx (m:MH rk xs ys o i j){z:Nat}(hz:z<=i)(h:∀t∈ys.take j,∀u∈(xs.take i).drop z,rk t<=rk u):MH rk xs ys ((xs.take i).drop z++o) z j:=by
 refine⟨?_,by rw[<- aK7,oS _ hz];exact m.sx,Sd.insR m.sy (d:=xs.take z) (by rw[oS _ hz];exact m.sx) h⟩
 rw[<- tV xs hz,aK7]
 exact m.pm.append_left _
theorem MH.fin (m:MH rk xs ys o i j)(h:i=0∨j=0):(xs.take i++ys.take j++o).Perm (xs++ys)/\Sd rk (xs.take i++ys.take j++o):=by
 refine⟨?_,?_⟩
 ·have e1:xs=xs.take i++xs.drop i:=(aL6 i xs).symm
  have e2:ys=ys.take j++ys.drop j:=(aL6 j ys).symm
  conv=>rhs;rw[e1,e2]
  rw[aK7,aK7]
  refine List.Perm.append_left _ ((m.pm.append_left _).trans ?_)
  rw[<- aK7,<- aK7]
  exact (aU8).append_right _
 ·rcases h with h|h
  ·subst h;simpa using m.sy
  ·subst h;simpa using m.sx
theorem MH.fst (m:MH rk xs ys o i j)(h:∀t∈ys.take j,∀u∈xs,rk t<=rk u):(ys.take j++xs.take i++o).Perm (xs++ys)/\Sd rk (ys.take j++xs.take i++o):=by
 have m2:=m.ofx (aP8 i) λt ht u hu=>h t ht u (List.mem_of_mem_take (List.mem_of_mem_drop hu))
 have f:=m2.fin (.inl rfl)
 simpa using f
theorem mJ {x:Array Keyed}{i:Nat}{u:Keyed}(h:u∈x.toList.take i):∃t,t<i/\t<x.size/\rk u=Kr rk x t:=by
 obtain⟨t,ht,e⟩:=aT6 h
 have h1:t<i/\t<x.size:=by simp at ht;omega
 refine⟨t,h1.1,h1.2,?_⟩
 rw[bU h1.2,<- e]
 simp
theorem mK {x:Array Keyed}{z i:Nat}{u:Keyed}(h:u∈(x.toList.take i).drop z):∃t,z<=t/\t<i/\t<x.size/\rk u=Kr rk x t:=by
 obtain⟨t,ht,e⟩:=aT6 h
 have h1:z+t<i/\z+t<x.size:=by simp at ht;omega
 refine⟨z+t,by omega,h1.1,h1.2,?_⟩
 rw[bU h1.2,<- e]
 simp
theorem jU (x:Array Keyed)(z i:Nat):(x.extract z i).toList=(x.toList.take i).drop z:=by
 rw[aW2];simp[List.extract]
theorem oU (x:Array Keyed)(i:Nat):(x.extract 0 i).toList=x.toList.take i:=by
 simp[List.extract]
theorem mL {x:Array Keyed}{i:Nat}(h:i<x.size):[x[i]]=(x.toList.take (i+1)).drop i:=by
 rw[aW2,jT h,show i+1-i=1 by omega]
section
variable {κ:SortKind}{st:SortSt}{prog:Program}{w:World}{A:Around}{E:Value→Shared→Prop}{s:Shared}{Ok:Keyed→Prop}
theorem MH.y1 {x y o:Array Keyed}(m:MH rk x.toList y.toList o.toList.reverse i (j+1))(hj:j<y.size)(h:∀t,t<i->t<x.size->Kr rk x t<=rk y[j]):MH rk x.toList y.toList (o.push y[j]).toList.reverse i j:=by
 have:=m.ofy (Nat.le_succ j) λt ht u hu=>?_
 ·rw[<- mL hj]at this;simpa using this
 ·rw[<- mL hj,aJ7]at hu
  subst hu
  obtain⟨q,q1,q2,q3⟩:=mJ (rk:=rk) ht
  rw[q3];exact h q q1 q2
theorem MH.x1 {x y o:Array Keyed}(m:MH rk x.toList y.toList o.toList.reverse (i+1) j)(hi:i<x.size)(h:∀t,t<j->t<y.size->Kr rk y t<=rk x[i]):MH rk x.toList y.toList (o.push x[i]).toList.reverse i j:=by
 have:=m.ofx (Nat.le_succ i) λt ht u hu=>?_
 ·rw[<- mL hi]at this;simpa using this
 ·rw[<- mL hi,aJ7]at hu
  subst hu
  obtain⟨q,q1,q2,q3⟩:=mJ (rk:=rk) ht
  rw[q3];exact h q q1 q2
theorem MH.yk {x y o:Array Keyed}(m:MH rk x.toList y.toList o.toList.reverse i j){z:Nat}(hz:z<=j)(h:∀t p,t<i->t<x.size->z<=p->p<j->p<y.size->Kr rk x t<=Kr rk y p):MH rk x.toList y.toList (o++(y.extract z j).reverse).toList.reverse i z:=by
 have:=m.ofy hz λt ht u hu=>?_
 ·rw[<- jU]at this;simpa using this
 ·obtain⟨q,q1,q2,q3⟩:=mJ (rk:=rk) ht
  obtain⟨p,p1,p2,p3,p4⟩:=mK (rk:=rk) hu
  rw[q3,p4];exact h q p q1 q2 p1 p2 p3
theorem MH.xk {x y o:Array Keyed}(m:MH rk x.toList y.toList o.toList.reverse i j){z:Nat}(hz:z<=i)(h:∀t p,t<j->t<y.size->z<=p->p<i->p<x.size->Kr rk y t<=Kr rk x p):MH rk x.toList y.toList (o++(x.extract z i).reverse).toList.reverse z j:=by
 have:=m.ofx hz λt ht u hu=>?_
 ·rw[<- jU]at this;simpa using this
 ·obtain⟨q,q1,q2,q3⟩:=mJ (rk:=rk) ht
  obtain⟨p,p1,p2,p3,p4⟩:=mK (rk:=rk) hu
  rw[q3,p4];exact h q p q1 q2 p1 p2 p3
theorem MH.done {x y o:Array Keyed}(m:MH rk x.toList y.toList o.toList.reverse i j)(hh:i=0∨j=0):dD rk x y (x.extract 0 i++y.extract 0 j++o.reverse):=by
 unfold dD
 rw[aO6,aO6,oU,oU,Array.toList_reverse]
 exact m.fin hh
theorem MH.frst {x y o:Array Keyed}(m:MH rk x.toList y.toList o.toList.reverse i j)(y0:0<y.size)(hf:∀t∈x.toList,rk y[0]<=rk t)(hh:j=1):dD rk x y (y.extract 0 j++x.extract 0 i++o.reverse):=by
 unfold dD
 rw[aO6,aO6,oU,oU,Array.toList_reverse]
 refine m.fst λt ht u hu=>?_
 subst hh
 obtain⟨q,q1,q2,q3⟩:=mJ (rk:=rk) ht
 have e:q=0:=by omega
 subst e
 rw[q3,bU y0]
 exact hf u hu
structure HB (rk:Keyed->Int)(x y:Array Keyed)(lb i j:Nat)(o:Array Keyed):Prop where
 m:MH rk x.toList y.toList o.toList.reverse i j
 i0:0<i
 i1:i<x.size
 j0:1<j
 j1:j<=y.size
 pr:i+j+lb<=x.size+y.size
noncomputable def HI (rk:Keyed->Int)(x y:Array Keyed)(lb:Nat)(st:SortSt)(c:LH)(st':SortSt):Prop:=Gq st st'/\∃i j o mg p q,c=(none,i,j,o,mg,p,q)/\HB rk x y lb i j o
noncomputable def HQ (rk:Keyed->Int)(x y:Array Keyed)(lb:Nat)(st:SortSt)(c:LH)(st':SortSt):Prop:=Gq st st'/\((∃r i j o mg p q,c=(some r,i,j,o,mg,p,q)/\dD rk x y r)∨∃i j o mg p q,c=(none,i,j,o,mg,p,q)/\HB rk x y lb i j o)
noncomputable def HR (rk:Keyed->Int)(x y:Array Keyed)(lb:Nat)(st:SortSt)(r:ForInStep LH)(st':SortSt):Prop:=match r with|.done c=>HQ rk x y lb st c st'|.yield c=>HI rk x y lb st c st'
theorem zV {st0:SortSt}{x y o:Array Keyed}{i j mg p q lb:Nat}(g:Gq st0 st)(b:HB rk x y lb (i+1) j o)(hm:∀(hi:i<x.size) t,t<j->t<y.size->Kr rk y t<=rk x[i]):wpS (model prog w) A E s (oP x y o (i+1) j mg p q) (HR rk x y lb st0) st:=by
 unfold oP
 obtain⟨m,i0,i1,j0,j1,pr⟩:=b
 have hi':i<x.size:=by omega
 have m':=m.x1 hi' (hm hi')
 simp only[Nat.add_sub_cancel]
 refine aJ0 (cM hi' ?_)
 by_cases he:(i==0)=true
 ·rw[if_pos he]
  have he:i=0:=by simpa using he
  exact aJ8 ⟨g,.inl ⟨_,_,_,_,_,_,_,rfl,m'.done (.inl he)⟩⟩
 ·rw[if_neg he]
  have he:i≠0:=by simpa using he
  split
  ·exact aJ8 ⟨g,.inr ⟨_,_,_,_,_,_,rfl,m',by omega,by omega,j0,j1,by omega⟩⟩
  ·exact aJ8 ⟨g,_,_,_,_,_,_,rfl,m',by omega,by omega,j0,j1,by omega⟩
theorem zW (c:c9 prog w A E s κ Ok rk){st0:SortSt}(hk:kindOf st0=κ){x y o:Array Keyed}{i j mg p q lb:Nat}(ox:bC Ok x)(oy:bC Ok y)(sx:Sd rk x.toList)(sy:Sd rk y.toList)(y0:0<y.size)(hf:∀t∈x.toList,rk y[0]<=rk t)(g:Gq st0 st)(b:HB rk x y lb (i+1) (j+1) o)(hm:∀(hj:j<y.size) t,t<i+1->t<x.size->Kr rk x t<=rk y[j]):wpS (model prog w) A E s (oQ x y o (i+1) (j+1) mg p q) (HR rk x y lb st0) st:=by
 unfold oQ
 obtain⟨m,i0,i1,j0,j1,pr⟩:=b
 have hi':i<x.size:=by omega
 have hj:j<y.size:=by omega
 have m':=m.y1 hj (hm hj)
 simp only[Nat.add_sub_cancel]
 refine aJ0 (cM hj ?_)
 by_cases he:(j==1)=true
 ·rw[if_pos he]
  have he:j=1:=by simpa using he
  exact aJ8 ⟨g,.inl ⟨_,_,_,_,_,_,_,rfl,m'.frst y0 hf he⟩⟩
 ·rw[if_neg he]
  have he:j≠1:=by simpa using he
  refine aJ0 (cM hi' (aJ0 (kS c (g.kd.trans hk) (ox _ (aM3 hi')) oy (by omega) (by omega) (sy.up _ _ (by omega)) λz k1 k2 k3=>?_)))
  dsimp only
  have ux:=sx.up 0 _ (aI6 x.size)
  have mk:=m'.yk k1 λt p ht ht' hp hp' _=>by
   have a1:=k3 p hp hp'
   rw[kW,aR3,Nat.zero_add]at a1
   have a2:=ux t i (by omega) (by omega) hi'
   rw[bU (i:=i) hi']at a2
   omega
  have km:∀(hi:i<x.size) t,t<z->t<y.size->Kr rk y t<=rk x[i]:=λ_ t ht _=>by
   have a1:=k2 t ht
   rw[kW,aM2,Nat.zero_add]at a1
   omega
  by_cases hk0:j-z>0
  ·rw[if_pos hk0]
   by_cases h1:(z==1)=true
   ·rw[if_pos h1]
    have h1:z=1:=by simpa using h1
    exact aJ8 ⟨g,.inl ⟨_,_,_,_,_,_,_,rfl,mk.frst y0 hf h1⟩⟩
   ·rw[if_neg h1]
    have h1:z≠1:=by simpa using h1
    by_cases h0:(z==0)=true
    ·rw[if_pos h0]
     have h0:z=0:=by simpa using h0
     exact aJ8 ⟨g,.inl ⟨_,_,_,_,_,_,_,rfl,mk.done (.inr h0)⟩⟩
    ·rw[if_neg h0]
     have h0:z≠0:=by simpa using h0
     exact zV g ⟨mk,by omega,i1,by omega,by omega,by omega⟩ km
  ·rw[if_neg hk0]
   have e0:z=j:=by omega
   subst e0
   exact zV g ⟨m',by omega,i1,by omega,by omega,by omega⟩ km
theorem zX (c:c9 prog w A E s κ Ok rk){st0:SortSt}(hk:kindOf st0=κ){x y o:Array Keyed}{i j mg p q lb:Nat}(ox:bC Ok x)(oy:bC Ok y)(sx:Sd rk x.toList)(sy:Sd rk y.toList)(y0:0<y.size)(hf:∀t∈x.toList,rk y[0]<=rk t)(g:Gq st0 st)(b:HB rk x y lb i (j+1) o) :
  wpS (model prog w) A E s (oR x y o i (j+1) mg p q) (HR rk x y lb st0) st:=by
 unfold oR
 obtain⟨m,i0,i1,j0,j1,pr⟩:=b
 have hj:j<y.size:=by omega
 simp only[Nat.add_sub_cancel]
 refine aJ0 (oO g λst4 q4=>aJ0 (cM hj (aJ0 (kS c (q4.kd.trans hk) (oy _ (aM3 hj)) ox (by omega) (by omega) (sx.up _ _ (by omega)) λz k1 k2 k3=>?_))))
 dsimp only
 have uy:=sy.up 0 _ (aI6 y.size)
 have mk:=m.xk k1 λt p ht ht' hp hp' _=>by
  have a1:=k3 p hp hp'
  rw[kU,aR3,Nat.zero_add]at a1
  have a2:=uy t j (by omega) (by omega) hj
  rw[bU (i:=j) hj]at a2
  omega
 have km:∀(hj:j<y.size) t,t<z->t<x.size->Kr rk x t<=rk y[j]:=λ_ t ht _=>by
  have a1:=k2 t ht
  rw[kU,aM2,Nat.zero_add]at a1
  exact a1
 by_cases hk0:i-z>0
 ·rw[if_pos hk0]
  by_cases he:(z==0)=true
  ·rw[if_pos he]
   exact aJ8 ⟨q4,.inl ⟨_,_,_,_,_,_,_,rfl,mk.done (.inl (by simpa using he))⟩⟩
  ·rw[if_neg he]
   have he:z≠0:=by simpa using he
   obtain⟨z2,rfl⟩:∃z2,z=z2+1:=⟨z-1,by omega⟩
   exact zW c hk ox oy sx sy y0 hf q4 ⟨mk,by omega,by omega,j0,j1,by omega⟩ km
 ·rw[if_neg hk0]
  have e0:z=i:=by omega
  subst e0
  obtain⟨z2,rfl⟩:∃z2,z=z2+1:=⟨z-1,by omega⟩
  exact zW c hk ox oy sx sy y0 hf q4 ⟨m,i0,i1,j0,j1,pr⟩ km
theorem am4 (c:c9 prog w A E s κ Ok rk){st0:SortSt}(hk:kindOf st0=κ){x y o:Array Keyed}{i j mg p q lb:Nat}(ox:bC Ok x)(oy:bC Ok y)(sx:Sd rk x.toList)(sy:Sd rk y.toList)(y0:0<y.size)(hf:∀t∈x.toList,rk y[0]<=rk t)(g:Gq st0 st)(b:HB rk x y lb i j o) :
  wpS (model prog w) A E s (tS x y o i j mg p q) (HQ rk x y lb st0) st:=by
 unfold tS
 refine aP5 (I:=λ_=>HI rk x y lb st0) ?_ ?_ ⟨g,i,j,o,_,p,q,rfl,b⟩
 ·rintro t c3 st3 _ _ ⟨q3,i,j,o,mg,p,q,rfl,b3⟩
  obtain⟨j3,rfl⟩:∃j3,j=j3+1:=⟨j-1,by have:=b3.j0;omega⟩
  dsimp only
  split
  ·exact aV4 (zX c hk ox oy sx sy y0 hf q3 b3) λr _ hr=>by cases r<;>exact hr
  ·exact aV4 (zX c hk ox oy sx sy y0 hf q3 b3) λr _ hr=>by cases r<;>exact hr
 ·rintro c3 st3 ⟨q3,i,j,o,mg,p,q,rfl,b3⟩
  exact⟨q3,.inr ⟨_,_,_,_,_,_,rfl,b3⟩⟩
theorem am5 (c:c9 prog w A E s κ Ok rk){st0:SortSt}(hk:kindOf st0=κ){x y o:Array Keyed}{i j mg n:Nat}{Q:tR->SortSt->Prop}(ox:bC Ok x)(oy:bC Ok y)(sx:Sd rk x.toList)(sy:Sd rk y.toList)(y0:0<y.size)(hf:∀t∈x.toList,rk y[0]<=rk t)(g:Gq st0 st)(b:HB rk x y n i j o)(h1:∀r i' j' o' p q st',Gq st0 st'->dD rk x y r->Q (some r,i',j',o',p,q) st')(h2:∀i' j' o' p q st',Gq st0 st'->HB rk x y (n+1) i' j' o'->Q (none,i',j',o',p,q) st') :
  wpS (model prog w) A E s (tU x y o i j mg) Q st:=by
 have ux:Up rk x 0 x.size:=sx.up 0 _ (aI6 _)
 have uy:Up rk y 0 y.size:=sy.up 0 _ (aI6 _)
 unfold tU
 refine aP5 (I:=λt c st'=>Gq st0 st'/\∃i j o p q,c=(none,i,j,o,p,q)/\HB rk x y (n+t) i j o) ?_ ?_ ⟨g,i,j,o,0,0,rfl,b⟩
 ·rintro t c2 st2 _ ht ⟨q2,i',j',o,p,q,rfl,m,i0,i1,j0,j1,pr⟩
  obtain⟨i2,rfl⟩:∃i2,i'=i2+1:=⟨i'-1,by omega⟩
  obtain⟨j2,rfl⟩:∃j2,j'=j2+1:=⟨j'-1,by omega⟩
  simp only[Nat.add_sub_cancel]
  have hi:i2<x.size:=by omega
  have hj:j2<y.size:=by omega
  refine aJ0 (cM hj (aJ0 (cM hi (aJ0 (c _ _ (oy _ (aM3 hj)) (ox _ (aM3 hi)) st2 _ (q2.kd.trans hk) ?_)))))
  by_cases hc:rk y[j2]<rk x[i2]
  ·rw[aJ5 hc]
   dsimp only
   rw[if_pos rfl]
   have m':=m.x1 hi λt ht _=>by
    have:=uy t j2 (by omega) (by omega) hj
    rw[bU hj]at this
    omega
   refine aJ0 (cM hi ?_)
   by_cases he:(i2==0)=true
   ·rw[if_pos he]
    exact aJ8 (h1 _ _ _ _ _ _ _ q2 (m'.done (.inl (by simpa using he))))
   ·rw[if_neg he]
    have he:i2≠0:=by simpa using he
    split
    ·exact aJ8 (h2 _ _ _ _ _ _ q2 ⟨m',by omega,by omega,j0,j1,by omega⟩)
    ·exact aJ8 ⟨q2,_,_,_,_,_,rfl,m',by omega,by omega,j0,j1,by omega⟩
  ·rw[aJ1 hc]
   dsimp only
   rw[if_neg aJ4]
   have m':=m.y1 hj λt ht _=>by
    have:=ux t i2 (by omega) (by omega) hi
    rw[bU hi]at this
    omega
   refine aJ0 (cM hj ?_)
   by_cases he:(j2==1)=true
   ·rw[if_pos he]
    exact aJ8 (h1 _ _ _ _ _ _ _ q2 (m'.frst y0 hf (by simpa using he)))
   ·rw[if_neg he]
    have he:j2≠1:=by simpa using he
    split
    ·exact aJ8 (h2 _ _ _ _ _ _ q2 ⟨m',i0,i1,by omega,by omega,by omega⟩)
    ·exact aJ8 ⟨q2,_,_,_,_,_,rfl,m',i0,i1,by omega,by omega,by omega⟩
 ·rintro c2 st2 ⟨q2,i',j',o,p,q,rfl,m,i0,i1,j0,j1,pr⟩
  exact h2 _ _ _ _ _ _ q2 ⟨m,i0,i1,j0,j1,by omega⟩
theorem am6 (c:c9 prog w A E s κ Ok rk)(hk:kindOf st=κ){x y:Array Keyed}{Q:Array Keyed->SortSt->Prop}(ox:bC Ok x)(oy:bC Ok y)(sx:Sd rk x.toList)(sy:Sd rk y.toList)(x0:0<x.size)(y0:0<y.size)(hf:∀t∈x.toList,rk y[0]<=rk t)(hl:∀u∈y.toList,rk u<=rk x[x.size-1])(h:∀r st',Gq st st'->dD rk x y r->Q r st'):wpS (model prog w) A E s (tQ x y) Q st:=by
 rw[am3]
 refine aJ0 (wpS_lift (aV8 ⟨rfl,aJ0 (cM (by omega:x.size-1<x.size) ?_)⟩))
 have m0:MH rk x.toList y.toList (#[x[x.size-1]]:Array Keyed).toList.reverse (x.size-1) y.size:=by
  have mm:MH rk x.toList y.toList [] x.size y.size:=⟨by simp,by rw[aL8 (by simp),aQ9];exact sx,by rw[aL8 (by simp),aQ9];exact sy⟩
  have e:=mL (x:=x) (i:=x.size-1) (by omega)
  rw[show x.size-1+1=x.size by omega]at e
  have:=mm.ofx (Nat.sub_le x.size 1) λt ht u hu=>?_
  ·rw[<- e]at this;simpa using this
  ·rw[<- e,aJ7]at hu
   subst hu
   exact hl t (List.mem_of_mem_take ht)
 by_cases e1:(x.size-1==0)=true
 ·rw[if_pos e1]
  exact aJ8 (h _ st (Gq.refl st) (m0.done (.inl (by simpa using e1))))
 ·rw[if_neg e1]
  have e1:x.size-1≠0:=by simpa using e1
  by_cases e2:(y.size==1)=true
  ·rw[if_pos e2]
   exact aJ8 (h _ st (Gq.refl st) (m0.frst y0 hf (by simpa using e2)))
  ·rw[if_neg e2]
   have e2:y.size≠1:=by simpa using e2
   refine aJ0 (wpS_get ?_)
   unfold zU
   refine aJ0 (aV4 (aP5
    (I:=λn c st'=>Gq st st'/\∃i j o mg,c=(none,i,j,o,mg)/\HB rk x y (n+1) i j o)
    (Q:=λc st'=>Gq st st'/\∃r i j o mg,c=(some r,i,j,o,mg)/\dD rk x y r) ?_ ?_ ⟨Gq.refl st,_,_,_,_,rfl,m0,by omega,by omega,by omega,by omega,by omega⟩) ?_)
   ·rintro n c1 st1 _ hn ⟨q1,i,j,o,mg,rfl,b⟩
    dsimp only
    refine aJ0 (am5 c hk ox oy sx sy y0 hf q1 b (λr o' i' j' p q st' g md=>aJ8 ⟨g,r,_,_,_,_,rfl,md⟩) λi' j' o' p q st' g b'=>?_)
    refine aJ0 (wpS_lift (aV8 ⟨rfl,?_⟩))
    refine aJ0 (aV4 (am4 c hk ox oy sx sy y0 hf g b') ?_)
    rintro c3 st3 ⟨q3,⟨r,i3,j3,o,mg,p,q,rfl,md⟩|⟨i3,j3,o,mg,p,q,rfl,b3⟩⟩
    ·exact aJ8 ⟨q3,r,_,_,_,_,rfl,md⟩
    ·exact aJ0 (oO q3 λst4 q4=>aJ8 ⟨q4,i3,j3,o,_,rfl,b3⟩)
   ·rintro c1 st1 ⟨q1,i,j,o,mg,rfl,b⟩
    have:=b.pr
    exact absurd this (by omega)
   ·rintro c1 st1 ⟨q1,r,i,j,o,mg,rfl,md⟩
    exact aJ8 (h r _ q1 md)
end
theorem am7 (i:Nat):mergeAt' i=(do
 let z <- get
 let (some (sa,na,pw),some (sb,nb,_)):=((pendingOf z)[i]?,(pendingOf z)[i+1]?)|unsupported "internal:list.sort.pending"
 set (SortSt.mk' (kindOf z) (arrOf z) (((pendingOf z).setIfInBounds i (sa,na+nb,pw)).eraseIdxIfInBounds (i+1)) (gallopOf z) (failedOf z))
 let some k <- iX false (<- elem' (arrOf z) sb) (arrOf z) sa na 0|return false
 let (sa,na):=(sa+k,na-k)
 if na==0 then return true
 let some nb <- iX true (<- elem' (arrOf z) (sa+na-1)) (arrOf z) sb nb (nb-1)|return false
 if nb==0 then return true
 let x:=(arrOf z).extract sa sb
 let y:=(arrOf z).extract sb (sb+nb)
 let m <- if na<=nb then tM x y else tQ x y
 modify λz=>setArr z (m.toList.zipIdx.foldl (λa (p,j)=>a.setIfInBounds (sa+j) p) (arrOf z))
 return (failedOf (<- get)).isNone):=rfl
variable {rk:Keyed→Int}
theorem am8 {σ:Type}{M:Model}{A:Around}{E:Value->Shared->Prop}{s:Shared}{a b:σ}{Q:PUnit->σ->Prop}(h:Q ⟨⟩ a):wpS M A E s (set a:StateT σ Sem PUnit) Q b:=by
 unfold wpS;rw[StateT.run_set];exact aI7 ⟨rfl,h⟩
theorem zY (o:Nat):∀(m:List Keyed) (n:Nat) (a:Array Keyed) (t:Nat),o+n+m.length<=a.size->
  ((m.zipIdx n).foldl (λa (p,j)=>a.setIfInBounds (o+j) p) a)[t]? = if o+n<=t/\t<o+n+m.length then m[t-(o+n)]? else a[t]?
 |[],n,a,t,_=>by
  show a[t]? = _
  rw[if_neg (λz=>Nat.not_lt_of_ge z.1 z.2)]
 |p::m,n,a,t,h=>by
  rw[List.zipIdx_cons,List.foldl_cons]
  have h':o+(n+1)+m.length<=(a.setIfInBounds (o+n) p).size:=by rw[Array.size_setIfInBounds];simp at h;omega
  have ih:=zY o m (n+1) (a.setIfInBounds (o+n) p) t h'
  refine ih.trans ?_
  have hs:o+n<a.size:=by simp at h;omega
  rw[Array.getElem?_setIfInBounds]
  by_cases e:o+n=t
  ·subst e
   rw[if_neg (by omega),if_pos rfl,if_pos hs,if_pos (by simp),Nat.sub_self];rfl
  ·rw[if_neg e]
   by_cases c:o+n<=t/\t<o+n+(p::m).length
   ·rw[if_pos c,if_pos (by simp at c;omega)]
    rw[show t-(o+n)=(t-(o+(n+1)))+1 by omega];rfl
   ·rw[if_neg c,if_neg (by simp at c ⊢;omega)]
theorem zZ {a:Array Keyed}{lo hi:Nat}(u:Up rk a lo hi)(hh:hi<=a.size):Sd rk (a.extract lo hi).toList:=by
 unfold Sd
 rw[aP2]
 intro i j hi' hj hij
 have h2:lo+j<hi:=by simp at hj;omega
 have:=u (lo+i) (lo+j) (by omega) (by omega) h2
 rw[bU (by omega:lo+i<a.size),bU (by omega:lo+j<a.size)]at this
 simpa using this
theorem A0 {a:Array Keyed}{lo mid hi:Nat}(u:Up rk a lo mid)(v:Up rk a mid hi)(h0:lo<mid)(h1:mid<hi)(h:Kr rk a (mid-1)<=Kr rk a mid):Up rk a lo hi:=λi j hi' hij hj=>by
 rcases aN3 j mid with z|z
 ·exact u i j hi' hij z
 ·rcases aN3 i mid with y|y
  ·have a1:=u i (mid-1) hi' (by omega) (by omega)
   have a2:=v mid j (aI6 _) z hj
   omega
  ·exact v i j y hij hj
theorem A1 {a:Array Keyed}{lo hi t:Nat}(h:t<hi-lo)(hh:hi<=a.size):Kr rk (a.extract lo hi) t=Kr rk a (lo+t):=by
 refine jR ?_
 rw[Array.getElem?_extract_of_lt (by omega)]
 exact (getElem?_pos a (lo+t) (by omega)).symm
section
variable {κ:SortKind}{a0:Array Keyed}{pd:Array (Nat×Nat×Nat)}{st:SortSt}{prog:Program}{w:World}{A:Around}{E:Value→Shared→Prop}{s:Shared}{Ok:Keyed→Prop}
theorem am9 {a m:Array Keyed}{p x e:Nat}(hpx:p<=x)(hxe:x<=e)(he:e<=a.size)(md:dD rk (a.extract p x) (a.extract x e) m) :
  let r:=m.toList.zipIdx.foldl (λa (q,j)=>a.setIfInBounds (p+j) q) a
  r.Perm a/\(∀t,(t<p∨e<=t)->Kr rk r t=Kr rk a t)/\(∀t t',p<=t->t<=t'->t'<e->Kr rk r t<=Kr rk r t')/\∀t,p<=t->t<e->∃t',p<=t'/\t'<e/\Kr rk r t=Kr rk a t':=by
 intro r
 have ml:m.toList.length=e-p:=by
  rw[md.1.length_eq];simp;omega
 have g:∀t,r[t]? = if p<=t/\t<e then m[t-p]? else a[t]?:=λt=>by
  have:=zY p m.toList 0 a t (by omega)
  rw[show r=(m.toList.zipIdx 0).foldl (λa (q,j)=>a.setIfInBounds (p+j) q) a from rfl,this]
  simp only[Nat.add_zero,ml,show p+(e-p)=e by omega,aU9]
 have ex:(a.extract p x).toList++(a.extract x e).toList=(a.toList.take e).drop p:=by
  rw[jU,jU,aW2,aW2,aW2]
  rw[show x=p+(x-p) by omega,<- List.drop_drop,show p+(x-p)-p=x-p by omega,show e-(p+(x-p))=(e-p)-(x-p) by omega]
  have:=aL6 (x-p) ((a.toList.drop p).take (e-p))
  rw[List.take_take,aW2,Nat.min_eq_left (by omega)]at this
  exact this
 have rl:r.toList=a.toList.take p++(m.toList++a.toList.drop e):=by
  apply List.ext_getElem?
  intro t
  rw[aU9,g]
  rcases aN3 t p with z|z
  ·rw[if_neg (by omega),aS1 (by simp;omega),List.getElem?_take_of_lt z,aU9]
  ·rw[aU3 (by simp;omega)]
   have lp:(a.toList.take p).length=p:=by simp;omega
   rw[lp]
   rcases aN3 t e with y|y
   ·rw[if_pos ⟨z,y⟩,aS1 (by omega),aU9]
   ·rw[if_neg (by omega),aU3 (by omega),ml,List.getElem?_drop,aU9]
    congr 1;omega
 have mp:m.toList.Perm ((a.toList.take e).drop p):=ex▸md.1
 refine⟨?_,λt ht=>jR (by rw[g,if_neg (by omega)]),λt t' h1 h2 h3=>?_,λt h1 h2=>?_⟩
 ·refine Array.perm_iff_toList_perm.mpr ?_
  rw[rl]
  have:a.toList=a.toList.take p++((a.toList.take e).drop p++a.toList.drop e):=by
   rw[tV _ (by omega:p<=e)];exact (aL6 p _).symm
  conv=>rhs;rw[this]
  exact (mp.append_right _).append_left _
 ·have e1:Kr rk r t=Kr rk m (t-p):=jR (by rw[g,if_pos (by omega)])
  have e2:Kr rk r t'=Kr rk m (t'-p):=jR (by rw[g,if_pos (by omega)])
  rw[e1,e2]
  have ms:m.size=e-p:=by rw[<- ml];simp
  exact md.2.up 0 m.size (aI6 _) (t-p) (t'-p) (by omega) (by omega) (by omega)
 ·have e1:Kr rk r t=Kr rk m (t-p):=jR (by rw[g,if_pos (by omega)])
  have ms:m.size=e-p:=by rw[<- ml];simp
  have hm:t-p<m.size:=by omega
  have mm:m[t-p]∈(a.toList.take e).drop p:=mp.mem_iff.mp (by simp)
  obtain⟨t',q1,q2,q3,q4⟩:=mK (rk:=rk) mm
  exact⟨t',q1,q2,by rw[e1,bU hm];exact q4⟩
theorem an0 (c:c9 prog w A E s κ Ok rk)(o:bC Ok a0)(b:SB κ a0 pd st){i sa na pw sb nb pw':Nat}{Q:Bool->SortSt->Prop}(e1:pd[i]? = some (sa,na,pw))(e2:pd[i+1]? = some (sb,nb,pw'))(hs:sb=sa+na)(n0:0<na)(m0:0<nb)(hz:sb+nb<=a0.size)(u:Up rk (arrOf st) sa sb)(v:Up rk (arrOf st) sb (sb+nb))(h:∀st',SB κ a0 ((pd.setIfInBounds i (sa,na+nb,pw)).eraseIdxIfInBounds (i+1)) st'->Up rk (arrOf st') sa (sb+nb)->(∀t,(t<sa∨sb+nb<=t)->Kr rk (arrOf st') t=Kr rk (arrOf st) t)->Q true st'):wpS (model prog w) A E s (mergeAt' i) Q st:=by
 have sz:=b.sz
 rw[am7]
 refine aJ0 (wpS_get ?_)
 rw[b.pd,e1,e2]
 dsimp only
 refine aJ0 (am8 ?_)
 generalize hst:SortSt.mk' (kindOf st) (arrOf st) ((pd.setIfInBounds i (sa,na+nb,pw)).eraseIdxIfInBounds (i+1)) (gallopOf st) (failedOf st)=st1
 have b1:SB κ a0 ((pd.setIfInBounds i (sa,na+nb,pw)).eraseIdxIfInBounds (i+1)) st1:=by rw[<- hst];exact⟨b.pm,b.kd,b.ok,rfl⟩
 have ar:arrOf st1=arrOf st:=by rw[<- hst]
 have oa:=b.all o
 have hsb:sb<(arrOf st).size:=by omega
 refine aJ0 (cM hsb (aJ0 (kS c b1.kd (oa _ (aM3 hsb)) oa n0 (by omega) (hs▸u) λk k1 k2 k3=>?_)))
 dsimp only
 have k2':∀t,sa<=t->t<sa+k->Kr rk (arrOf st) t<=Kr rk (arrOf st) sb:=λt t1 t2=>by
  have:=k2 (t-sa) (by omega)
  rw[kU,aM2,show sa+(t-sa)=t by omega]at this
  rw[bU hsb];exact this
 have k3':∀t,sa+k<=t->t<sb->Kr rk (arrOf st) sb<Kr rk (arrOf st) t:=λt t1 t2=>by
  have:=k3 (t-sa) (by omega) (by omega)
  rw[kU,aR3,show sa+(t-sa)=t by omega]at this
  rw[bU hsb];omega
 by_cases ek:(na-k==0)=true
 ·rw[if_pos ek]
  have ek:na-k=0:=by simpa using ek
  refine aJ8 (h st1 b1 ?_ λt _=>by rw[ar])
  rw[ar]
  exact A0 u v (by omega) (by omega) (k2' (sb-1) (by omega) (by omega))
 ·rw[if_neg ek]
  have ek:na-k≠0:=by simpa using ek
  have el:sa+k+(na-k)-1=sb-1:=by omega
  rw[el]
  have hsl:sb-1<(arrOf st).size:=by omega
  refine aJ0 (cM hsl (aJ0 (kS c b1.kd (oa _ (aM3 hsl)) oa (by omega) (by omega) v λl l1 l2 l3=>?_)))
  dsimp only
  have l2':∀t,sb<=t->t<sb+l->Kr rk (arrOf st) t<Kr rk (arrOf st) (sb-1):=λt t1 t2=>by
   have:=l2 (t-sb) (by omega)
   rw[kW,aM2,show sb+(t-sb)=t by omega]at this
   rw[bU hsl];exact this
  have l3':∀t,sb+l<=t->t<sb+nb->Kr rk (arrOf st) (sb-1)<=Kr rk (arrOf st) t:=λt t1 t2=>by
   have:=l3 (t-sb) (by omega) (by omega)
   rw[kW,aR3,show sb+(t-sb)=t by omega]at this
   rw[bU hsl];omega
  by_cases en:(l==0)=true
  ·rw[if_pos en]
   have en:l=0:=by simpa using en
   subst en
   refine aJ8 (h st1 b1 ?_ λt _=>by rw[ar])
   rw[ar]
   exact A0 u v (by omega) (by omega) (l3' sb (by omega) (by omega))
  ·rw[if_neg en]
   have en:l≠0:=by simpa using en
   have sub:∀p e,bC Ok ((arrOf st).extract p e):=λp e z hz=>oa z (by
    have:z∈((arrOf st).extract p e).toList:=Array.mem_toList_iff.mpr hz
    rw[jU]at this
    exact Array.mem_toList_iff.mp (List.mem_of_mem_take (List.mem_of_mem_drop this)))
   have sx:Sd rk ((arrOf st).extract (sa+k) sb).toList:=zZ (λi j h1 h2 h3=>u i j (by omega) h2 h3) (by omega)
   have sy:Sd rk ((arrOf st).extract sb (sb+l)).toList:=zZ (λi j h1 h2 h3=>v i j h1 h2 (by omega)) (by omega)
   have x0:0<((arrOf st).extract (sa+k) sb).size:=by simp;omega
   have y0:0<((arrOf st).extract sb (sb+l)).size:=by simp;omega
   have hf:∀t∈((arrOf st).extract (sa+k) sb).toList,rk ((arrOf st).extract sb (sb+l))[0]<=rk t:=λt ht=>by
    rw[jU]at ht
    obtain⟨t',q1,q2,q3,q4⟩:=mK (rk:=rk) ht
    rw[q4,<- bU (rk:=rk) y0,A1 (by omega) (by omega)]
    exact Int.le_of_lt (k3' t' q1 q2)
   have hl:∀t∈((arrOf st).extract sb (sb+l)).toList,rk t<=rk ((arrOf st).extract (sa+k) sb)[((arrOf st).extract (sa+k) sb).size-1]:=λt ht=>by
    rw[jU]at ht
    obtain⟨t',q1,q2,q3,q4⟩:=mK (rk:=rk) ht
    have e:((arrOf st).extract (sa+k) sb).size=sb-(sa+k):=by simp;omega
    rw[q4,<- bU (rk:=rk) (by omega),A1 (by omega) (by omega),e,show sa+k+(sb-(sa+k)-1)=sb-1 by omega]
    exact Int.le_of_lt (l2' t' q1 q2)
   have fin:∀(m:Array Keyed) (st2:SortSt),Gq st1 st2->dD rk ((arrOf st).extract (sa+k) sb) ((arrOf st).extract sb (sb+l)) m->
     wpS (model prog w) A E s (do modify (λz=>setArr z (m.toList.zipIdx.foldl (λa (p,j)=>a.setIfInBounds (sa+k+j) p) (arrOf z)));return (failedOf (<- get)).isNone) Q st2:=λm st2 g md=>by
    have b2:SB κ a0 ((pd.setIfInBounds i (sa,na+nb,pw)).eraseIdxIfInBounds (i+1)) st2:=⟨by rw[g.ar];exact b1.pm,g.kd.trans b1.kd,g.ok.trans b1.ok,g.pd.trans b1.pd⟩
    have a2:arrOf st2=arrOf st:=g.ar.trans ar
    obtain⟨r1,r2,r3,r4⟩:=am9 (by omega) (by omega) (by omega) md
    generalize hr:m.toList.zipIdx.foldl (λa (q,j)=>a.setIfInBounds (sa+k+j) q) (arrOf st)=r at r1 r2 r3 r4
    refine aJ0 (wpS_modify (aJ0 (wpS_get (aJ8 ?_))))
    have b3:=b2.put (xs:=m.toList.zipIdx.foldl (λa (q,j)=>a.setIfInBounds (sa+k+j) q) (arrOf st2)) (by rw[a2,hr];exact r1)
    have er:arrOf (setArr st2 (m.toList.zipIdx.foldl (λa (q,j)=>a.setIfInBounds (sa+k+j) q) (arrOf st2)))=r:=by rw[<- hr,a2]
    have tr:(failedOf (setArr st2 (m.toList.zipIdx.foldl (λa (q,j)=>a.setIfInBounds (sa+k+j) q) (arrOf st2)))).isNone=true:=by rw[b3.ok];rfl
    rw[tr]
    refine h _ b3 (λi j hi hij hj=>?_) λt ht=>?_
    ·rw[er]
     have bl:∀t,sa<=t->t<sa+k->∀t',sa+k<=t'->t'<sb+l->Kr rk (arrOf st) t<=Kr rk (arrOf st) t':=λt t1 t2 t' t3 t4=>by
      rcases aN3 t' sb with z|z
      ·exact u t t' t1 (by omega) z
      ·have a1:=k2' t t1 t2
       have a2:=v sb t' (aI6 _) z (by omega)
       omega
     have br:∀t,sb+l<=t->t<sb+nb->∀t',sa+k<=t'->t'<sb+l->Kr rk (arrOf st) t'<=Kr rk (arrOf st) t:=λt t1 t2 t' t3 t4=>by
      rcases aN3 t' sb with z|z
      ·have a1:=u t' (sb-1) (by omega) (by omega) (by omega)
       have a2:=l3' t t1 t2
       omega
      ·exact v t' t z (by omega) t2
     have blr:∀t,sa<=t->t<sa+k->∀t',sb+l<=t'->t'<sb+nb->Kr rk (arrOf st) t<=Kr rk (arrOf st) t':=λt t1 t2 t' t3 t4=>by
      have a1:=bl t t1 t2 (sb-1) (by omega) (by omega)
      have a2:=l3' t' t3 t4
      omega
     rcases aN3 i (sa+k) with z|z
     ·rw[r2 i (.inl z)]
      rcases aN3 j (sa+k) with y|y
      ·rw[r2 j (.inl y)];exact u i j hi hij (by omega)
      ·rcases aN3 j (sb+l) with x|x
       ·obtain⟨t',q1,q2,q3⟩:=r4 j y x
        rw[q3];exact bl i hi z t' q1 q2
       ·rw[r2 j (.inr x)];exact blr i hi z j x hj
     ·rcases aN3 j (sb+l) with x|x
      ·exact r3 i j z hij x
      ·rw[r2 j (.inr x)]
       rcases aN3 i (sb+l) with y|y
       ·obtain⟨t',q1,q2,q3⟩:=r4 i z y
        rw[q3];exact br j x hj t' q1 q2
       ·rw[r2 i (.inr y)];exact v i j (by omega) hij hj
    ·rw[er];exact r2 t (by omega)
   by_cases hle:na-k<=l
   ·rw[if_pos hle]
    exact aJ0 (am2 c b1.kd (sub _ _) (sub _ _) sx sy x0 y0 hf hl λm st2 g md=>fin m st2 g md)
   ·rw[if_neg hle]
    exact aJ0 (am6 c b1.kd (sub _ _) (sub _ _) sx sy x0 y0 hf hl λm st2 g md=>fin m st2 g md)
end
noncomputable def Ch:Nat->List (Nat×Nat)->Nat->Prop
 |a,[],b=>a=b
 |a,(p,n)::r,b=>p=a/\0<n/\Ch (a+n) r b
theorem Ch.split:∀{l l':List (Nat×Nat)}{a b:Nat},Ch a (l++l') b->∃m,Ch a l m/\Ch m l' b
 |[],_,a,_,h=>⟨a,rfl,h⟩
 |(p,n)::l,l',a,b,h=>by
  obtain⟨h1,h2,h3⟩:=h
  obtain⟨m,q1,q2⟩:=Ch.split h3
  exact⟨m,⟨h1,h2,q1⟩,q2⟩
theorem Ch.join:∀{l l':List (Nat×Nat)}{a m b:Nat},Ch a l m->Ch m l' b->Ch a (l++l') b
 |[],_,a,m,_,h,h'=>by cases (show a=m from h);exact h'
 |(p,n)::l,l',a,m,b,h,h'=>⟨h.1,h.2.1,Ch.join h.2.2 h'⟩
theorem Ch.len:∀{l:List (Nat×Nat)}{a b:Nat},Ch a l b->a+l.length<=b
 |[],a,b,h=>by cases (show a=b from h);simp
 |(p,n)::l,a,b,h=>by
  have:=Ch.len h.2.2
  have:=h.2.1
  simp;omega
theorem Ch.mem:∀{l:List (Nat×Nat)}{a b:Nat}{r:Nat×Nat},Ch a l b->r∈l->a<=r.1/\r.1+r.2<=b/\0<r.2
 |(p,n)::l,a,b,r,h,hr=>by
  obtain⟨h1,h2,h3⟩:=h
  have hb:=Ch.len h3
  rcases aI5.mp hr with e|e
  ·subst e
   have h1:p=a:=h1
   refine⟨?_,?_,h2⟩
   ·show a<=p;omega
   ·show p+n<=b;omega
  ·have:=Ch.mem h3 e
   exact⟨by omega,this.2.1,this.2.2⟩
noncomputable def sk (pd:Array (Nat×Nat×Nat)):List (Nat×Nat):=pd.toList.map λr=>(r.1,r.2.1)
theorem oV (pd:Array (Nat×Nat×Nat)):(sk pd).length=pd.size:=by simp[sk]
structure Rn (rk:Keyed->Int)(a:Array Keyed)(l:List (Nat×Nat))(lo:Nat):Prop where
 ch:Ch 0 l lo
 up:∀r∈l,Up rk a r.1 (r.1+r.2)
variable {rk:Keyed→Int}{κ:SortKind}{a0:Array Keyed}{pd:Array (Nat×Nat×Nat)}{st:SortSt}{prog:Program}{w:World}{A:Around}{E:Value→Shared→Prop}{s:Shared}{Ok:Keyed→Prop}
theorem Rn.same {a b:Array Keyed}{l:List (Nat×Nat)}{lo:Nat}(h:Rn rk a l lo)(e:∀t,t<lo->Kr rk b t=Kr rk a t):Rn rk b l lo:=⟨h.ch,λr hr i j hi hij hj=>by
 have:=(h.ch.mem hr).2.1
 rw[e i (by omega),e j (by omega)]
 exact h.up r hr i j hi hij hj⟩
theorem A2 (c:c9 prog w A E s κ Ok rk)(o:bC Ok a0)(b:SB κ a0 pd st){i lo:Nat}{Q:Bool->SortSt->Prop}(hi:i+1<pd.size)(hz:lo<=a0.size)(rn:Rn rk (arrOf st) (sk pd) lo)(h:∀pd' st',SB κ a0 pd' st'->pd'.size+1=pd.size->Rn rk (arrOf st') (sk pd') lo->(∀t,lo<=t->Kr rk (arrOf st') t=Kr rk (arrOf st) t)->Q true st'):wpS (model prog w) A E s (mergeAt' i) Q st:=by
 obtain⟨⟨sa,na,pw⟩,e1⟩:∃r,pd[i]? = some r:=⟨pd[i],getElem?_pos pd i (by omega)⟩
 obtain⟨⟨sb,nb,pw'⟩,e2⟩:∃r,pd[i+1]? = some r:=⟨pd[i+1],getElem?_pos pd (i+1) hi⟩
 have d1:pd.toList=pd.toList.take i++(sa,na,pw)::(sb,nb,pw')::pd.toList.drop (i+2):=by
  have hl:i<pd.toList.length:=by simp;omega
  have hl2:i+1<pd.toList.length:=by simpa using hi
  have g1:pd.toList[i]=(sa,na,pw):=by rw[getElem?_pos pd i (by omega)]at e1;simpa using e1
  have g2:pd.toList[i+1]=(sb,nb,pw'):=by rw[getElem?_pos pd (i+1) hi]at e2;simpa using e2
  have:=aL6 i pd.toList
  rw[List.drop_eq_getElem_cons hl,List.drop_eq_getElem_cons hl2,g1,g2]at this
  exact this.symm
 have li:(pd.toList.take i).length=i:=by simp;omega
 have d2:((pd.setIfInBounds i (sa,na+nb,pw)).eraseIdxIfInBounds (i+1)).toList=pd.toList.take i++(sa,na+nb,pw)::pd.toList.drop (i+2):=by
  have e:((pd.setIfInBounds i (sa,na+nb,pw)).eraseIdxIfInBounds (i+1)).toList=(pd.toList.set i (sa,na+nb,pw)).eraseIdx (i+1):=by
   unfold Array.eraseIdxIfInBounds
   rw[dif_pos (by rw[Array.size_setIfInBounds];exact hi),Array.toList_eraseIdx,Array.toList_setIfInBounds]
  rw[e]
  conv=>lhs;rw[d1]
  rw[List.set_append_right _ _ (by omega),li,Nat.sub_self,List.set_cons_zero,List.eraseIdx_append_of_length_le (by omega),li,show i+1-i=1 by omega]
  rfl
 have k1:sk pd=(pd.toList.take i).map (λr=>(r.1,r.2.1))++(sa,na)::(sb,nb)::(pd.toList.drop (i+2)).map (λr=>(r.1,r.2.1)):=by
  unfold sk;conv=>lhs;rw[d1]
  simp
 have k2:sk ((pd.setIfInBounds i (sa,na+nb,pw)).eraseIdxIfInBounds (i+1))=(pd.toList.take i).map (λr=>(r.1,r.2.1))++(sa,na+nb)::(pd.toList.drop (i+2)).map (λr=>(r.1,r.2.1)):=by
  unfold sk;rw[d2]
  simp
 have ch:=rn.ch
 rw[k1]at ch
 obtain⟨m,c1,c2⟩:=ch.split
 obtain⟨f1,f2,f3,f4,f5⟩:=c2
 have f1:sa=m:=f1
 have f3:sb=m+na:=f3
 have up:=rn.up
 rw[k1]at up
 have lo2:=f5.len
 refine an0 c o b e1 e2 (by omega) f2 f4 (by omega) (by have:=up (sa,na) (by simp);rw[f3,<- f1];exact this) (up (sb,nb) (by simp)) λst' b' u' fr=>h _ st' b' ?_ ⟨?_,?_⟩ λt ht=>fr t (by omega)
 ·rw[<- oV,<- oV,k1,k2];simp;omega
 ·rw[k2]
  refine c1.join ⟨f1,by omega,?_⟩
  rw[<- Nat.add_assoc];exact f5
 ·intro r hr
  rw[k2]at hr
  rcases aP6.mp hr with z|z
  ·intro p q h1 h2 h3
   have:=(c1.mem z).2.1
   rw[fr p (by omega),fr q (by omega)]
   exact up r (aV0 _ z) p q h1 h2 h3
  ·rcases aI5.mp z with z|z
   ·subst z
    show Up rk (arrOf st') sa (sa+(na+nb))
    rw[show sa+(na+nb)=sb+nb by omega];exact u'
   ·intro p q h1 h2 h3
    have:=(f5.mem z).1
    rw[fr p (by omega),fr q (by omega)]
    exact up r (aK9 _ (aK2 _ (aK2 _ z))) p q h1 h2 h3
noncomputable abbrev RS:=Option Unit×Nat
noncomputable def A3 (sz pw:Nat):StateT SortSt Sem (Option Unit×Unit):=forIn [0:sz] ((none,()):Option Unit×Unit) λ_ _=>do
 let z <- get
 match (if (pendingOf z).size>1 then (pendingOf z)[(pendingOf z).size-2]? else none) with
 |some (_,_,o)=>if o<=pw then pure (.done (none,())) else do
   let q <- mergeAt' ((pendingOf z).size-2)
   if (!q)=true then pure (.done (some (),())) else pure (.yield (none,()))
 |_=>pure (.done (none,()))
noncomputable def jn (sz lo n:Nat):StateT SortSt Sem (ForInStep RS):=do
 let z <- get
 match (pendingOf z).back? with
 |some (s1,n1,_)=>do
  let r <- A3 sz (power' sz (2*s1+n1) (2*s1+n1+n1+n) sz)
  match r.1 with
  |some u=>pure (.done (some u,lo))
  |none=>do
   modify λs=>setPending s ((pendingOf s).modify ((pendingOf s).size-1) λx=>(x.1,x.2.1,power' sz (2*s1+n1) (2*s1+n1+n1+n) sz))
   modify λs=>setPending s ((pendingOf s).push (lo,n,0))
   pure (.yield (none,lo+n))
 |_=>do
  modify λs=>setPending s ((pendingOf s).push (lo,n,0))
  pure (.yield (none,lo+n))
noncomputable def A4 (sz mr lo:Nat):StateT SortSt Sem (ForInStep RS):=if lo >= sz then pure (.done (none,lo)) else do
 match <- countRun' lo (sz-lo) with
 |some n=>
  if n<mr then
   liftM (rule "list.sort.binary-insertion")
   let q <- binarySort' lo (min (sz-lo) mr) n
   if (!q)=true then pure (.done (some (),lo)) else jn sz lo (min (sz-lo) mr)
  else jn sz lo n
 |_=>pure (.done (some (),lo))
noncomputable def A5 (sz:Nat):StateT SortSt Sem (Option Unit×Unit):=forIn [0:sz] ((none,()):Option Unit×Unit) λ_ _=>do
 let z <- get
 if (pendingOf z).size<=1 then pure (.done (none,())) else do
  let q <- mergeAt' (if ((if (pendingOf z).size-2>0 then (pendingOf z)[(pendingOf z).size-2-1]?.map (·.2.1) else none).any (·<((pendingOf z)[(pendingOf z).size-2+1]?.elim 0 (·.2.1))))=true then (pendingOf z).size-2-1 else (pendingOf z).size-2)
  if (!q)=true then pure (.done (some (),())) else pure (.yield (none,()))
theorem an1:sortRuns'=(do
 let z <- get
 let r <- (forIn [0:(arrOf z).size] ((none,0):RS) λ_ r=>A4 (arrOf z).size (minRun' (arrOf z).size (arrOf z).size 0) r.2)
 match r.1 with
 |some u=>pure u
 |none=>do
  let q <- A5 (arrOf z).size
  match q.1 with
  |some u=>pure u
  |none=>pure ()):=by kernel_rfl
theorem A6 {lo nn:Nat}(n1:0<nn){pd:Array (Nat×Nat×Nat)}{a:Array Keyed}(r:Rn rk a (sk pd) lo)(u:Up rk a lo (lo+nn)):Rn rk a (sk (pd.push (lo,nn,0))) (lo+nn):=by
 have e:sk (pd.push (lo,nn,0))=sk pd++[(lo,nn)]:=by simp[sk]
 refine⟨by rw[e];exact r.ch.join ⟨rfl,n1,rfl⟩,λq hq=>?_⟩
 rw[e]at hq
 rcases aP6.mp hq with z|z
 ·exact r.up q z
 ·rw[aJ7]at z
  subst z
  exact u
theorem A7 (c:c9 prog w A E s κ Ok rk)(o:bC Ok a0)(b:SB κ a0 pd st){lo n:Nat}{Q:ForInStep RS->SortSt->Prop}(n1:1<=n)(n2:lo+n<=a0.size)(rn:Rn rk (arrOf st) (sk pd) lo)(u:Up rk (arrOf st) lo (lo+n))(h:∀pd' st',SB κ a0 pd' st'->Rn rk (arrOf st') (sk pd') (lo+n)->Q (.yield (none,lo+n)) st'):wpS (model prog w) A E s (jn a0.size lo n) Q st:=by
 unfold jn
 refine aJ0 (wpS_get ?_)
 rw[b.pd]
 cases hb:pd.back? with
 |none=>exact aJ0 (wpS_modify (aJ8 (h (pd.push (lo,n,0)) _ ⟨b.pm,b.kd,b.ok,by show (pendingOf st).push _=_;rw[b.pd]⟩ (A6 n1 rn u))))
 |some q=>
  obtain⟨s1,m1,q3⟩:=q
  dsimp only
  generalize power' a0.size (2*s1+m1) (2*s1+m1+m1+n) a0.size=pw
  unfold A3
  refine aJ0 (aV4 (aP5
   (I:=λ_ r st'=>r=(none,())/\∃pd,SB κ a0 pd st'/\Rn rk (arrOf st') (sk pd) lo/\Up rk (arrOf st') lo (lo+n))
   (Q:=λr st'=>r=(none,())/\∃pd,SB κ a0 pd st'/\Rn rk (arrOf st') (sk pd) lo/\Up rk (arrOf st') lo (lo+n)) ?_ (λ_ _ z=>z) ⟨rfl,pd,b,rn,u⟩) ?_)
  ·rintro t r st4 _ ht ⟨rfl,pd4,b4,r4,u4⟩
   refine aJ0 (wpS_get ?_)
   rw[b4.pd]
   cases ho:(if pd4.size>1 then pd4[pd4.size-2]? else none) with
   |none=>exact aJ8 ⟨rfl,pd4,b4,r4,u4⟩
   |some z=>
    obtain⟨z1,z2,z3⟩:=z
    have h1:pd4.size>1:=by
     by_cases y:pd4.size>1
     ·exact y
     ·rw[if_neg y]at ho;cases ho
    dsimp only
    by_cases hp:z3<=pw
    ·rw[if_pos hp]
     exact aJ8 ⟨rfl,pd4,b4,r4,u4⟩
    ·rw[if_neg hp]
     refine aJ0 (A2 c o b4 (by omega) (by omega) r4 λpd5 st5 b5 _ r5 f5=>?_)
     exact aJ8 ⟨rfl,pd5,b5,r5,λi j hi hij hj=>by rw[f5 i hi,f5 j (by omega)];exact u4 i j hi hij hj⟩
  ·rintro r st4 ⟨rfl,pd4,b4,r4,u4⟩
   refine aJ0 (wpS_modify (aJ0 (wpS_modify (aJ8 ?_))))
   have e:sk (pd4.modify (pd4.size-1) λx=>(x.1,x.2.1,pw))=sk pd4:=by
    unfold sk
    rw[Array.toList_modify]
    apply List.ext_getElem?
    intro t
    rw[aJ9,aJ9,List.getElem?_modify]
    cases pd4.toList[t]? with
    |none=>simp
    |some v=>by_cases y:pd4.size-1=t<;>simp[y]
   refine h ((pd4.modify (pd4.size-1) λx=>(x.1,x.2.1,pw)).push (lo,n,0)) _ ⟨b4.pm,b4.kd,b4.ok,?_⟩ (A6 n1 (by rw[e];exact r4) u4)
   show ((pendingOf st4).modify ((pendingOf st4).size-1) λx=>(x.1,x.2.1,pw)).push _=_
   rw[b4.pd]
theorem an2 (c:c9 prog w A E s κ Ok rk)(o:bC Ok a0)(b:SB κ a0 #[] st){Q:Unit->SortSt->Prop}(h2:1<=a0.size)(h:∀st',(arrOf st').Perm a0->failedOf st'=none->Up rk (arrOf st') 0 a0.size->Q () st'):wpS (model prog w) A E s sortRuns' Q st:=by
 rw[an1]
 refine aJ0 (wpS_get ?_)
 rw[b.sz]
 generalize minRun' a0.size a0.size 0=mr
 refine aJ0 (aV4 (aP5
  (I:=λx r st'=>∃lo pd,r=(none,lo)/\x<=lo/\lo<=a0.size/\SB κ a0 pd st'/\Rn rk (arrOf st') (sk pd) lo)
  (Q:=λr st'=>∃pd,r=(none,a0.size)/\SB κ a0 pd st'/\Rn rk (arrOf st') (sk pd) a0.size) ?_ ?_ ⟨0,#[],rfl,aI6 _,aP8 _,b,⟨rfl,λr hr=>absurd hr (by simp[sk])⟩⟩) ?_)
 ·rintro x r st1 _ hx ⟨lo,pd,rfl,xl,lz,b1,rn⟩
  unfold A4
  dsimp only
  by_cases hd:lo >= a0.size
  ·rw[if_pos hd]
   have e:lo=a0.size:=by omega
   subst e
   exact aJ8 ⟨pd,rfl,b1,rn⟩
  ·rw[if_neg hd]
   refine aJ0 (al5 c o b1 (by omega) (by omega) λn st2 b2 n1 n2 u2 l2=>?_)
   have rn2:=rn.same l2
   dsimp only
   by_cases hmr:n<mr
   ·rw[if_pos hmr]
    refine aJ0 (wpS_lift (aV8 ⟨rfl,?_⟩))
    refine aJ0 (al6 c o b2 (by omega) (by omega) u2 λst3 b3 u3 l3=>?_)
    rw[if_neg (by decide)]
    exact A7 c o b3 (by omega) (by omega) (rn2.same l3) u3 λpd' st' b' r'=>⟨_,pd',rfl,by omega,by omega,b',r'⟩
   ·rw[if_neg hmr]
    exact A7 c o b2 n1 (by omega) rn2 u2 λpd' st' b' r'=>⟨lo+n,pd',rfl,by omega,by omega,b',r'⟩
 ·rintro r st1 ⟨lo,pd,rfl,xl,lz,b1,rn⟩
  have e:lo=a0.size:=by omega
  subst e
  exact⟨pd,rfl,b1,rn⟩
 ·rintro r st1 ⟨pd,rfl,b1,rn⟩
  dsimp only
  unfold A5
  refine aJ0 (aV4 (aP5
   (I:=λt r st'=>r=(none,())/\∃pd,SB κ a0 pd st'/\Rn rk (arrOf st') (sk pd) a0.size/\(pd.size+t<=a0.size∨pd.size<=1))
   (Q:=λr st'=>r=(none,())/\∃pd,SB κ a0 pd st'/\Rn rk (arrOf st') (sk pd) a0.size/\pd.size<=1) ?_ ?_ ⟨rfl,pd,b1,rn,.inl (by have:=rn.ch.len;rw[oV]at this;omega)⟩) ?_)
  ·rintro t r st2 _ ht ⟨rfl,pd,b2,rn2,pr⟩
   refine aJ0 (wpS_get ?_)
   rw[b2.pd]
   by_cases h1:pd.size<=1
   ·rw[if_pos h1]
    exact aJ8 ⟨rfl,pd,b2,rn2,h1⟩
   ·rw[if_neg h1]
    refine aJ0 (A2 c o b2 ?_ (aI6 _) rn2 λpd' st3 b3 sz3 rn3 _=>?_)
    ·split<;>split<;>omega
    ·exact aJ8 ⟨rfl,pd',b3,rn3,by omega⟩
  ·rintro r st2 ⟨rfl,pd,b2,rn2,pr⟩
   exact⟨rfl,pd,b2,rn2,by omega⟩
  ·rintro r st2 ⟨rfl,pd,b2,rn2,pr⟩
   refine aJ8 (h st2 b2.pm b2.ok ?_)
   have ch:=rn2.ch
   have up:=rn2.up
   rw[<- oV]at pr
   cases e:sk pd with
   |nil=>rw[e]at ch;exact absurd (show 0=a0.size from ch) (by omega)
   |cons r l=>
    rw[e]at ch up pr
    have el:l = []:=List.eq_nil_of_length_eq_zero (by have:=pr;rw[aM0]at this;omega)
    subst el
    obtain⟨p,n⟩:=r
    obtain⟨q1,q2,q3⟩:=ch
    have q1:p=0:=q1
    have q3:0+n=a0.size:=q3
    subst q1
    have:=up (0,n) (by simp)
    rw[<- q3];exact this
end SO
namespace L2
open PySem PySem.Spec PyProof.Rows SO
noncomputable abbrev dX (h:Heap)(a:Addr)(vs:List Value):Heap:=((h.update a (Obj.mapSeq λ_=>#[])).push (seqObj "tuple" vs.toArray 0)).push (seqObj "list" #[] 0)
noncomputable abbrev e9 (h:Heap)(vs:List Value):Heap:=((h.push (seqObj "list" #[] 0)).update h.objs.size (Obj.mapSeq (·++vs.toArray))).push (seqObj "list" vs.toArray 0)
theorem an3 {h:Heap}{vs:List Value}{b:Addr}{o:Obj}(e:h.get? b=some o):(e9 h vs).get? b=some o:=by
 have l:=aJ3 e
 refine aI3 _ ?_
 rw[Heap.get?_update_ne _ _ _ _ (aL4 l)]
 exact aI3 _ e
theorem an4 {h:Heap}{vs:List Value}{a b:Addr}{o:Obj}(hb:b≠a)(e:h.get? b=some o):(dX h a vs).get? b=some o:=by
 refine aI3 _ (aI3 _ ?_)
 rw[Heap.get?_update_ne _ _ _ _ hb];exact e
theorem an5 {prog:Program}{w:World}{A:Around}{E:Value->Shared->Prop}{s:Shared}{a:Addr}{vs:List Value}{n:Nat}{P:PySem.Fin->Shared->Prop}{κ:SortKind}{Ok:Keyed->Prop}{rk:Keyed->Int}(e:s.heap.get? a=some (seqObj "list" vs.toArray n))(h2:2<=vs.length)(big:vs.length<=sizeLine)(hk:∀Q:SortKind->Shared->Prop,Q κ { s with heap:=dX s.heap a vs }->wpAny (model prog w) A (keyKind' vs.toArray) Q E { s with heap:=dX s.heap a vs })(c:c9 prog w A E { s with heap:=dX s.heap a vs } κ Ok rk)(o:∀v∈vs,Ok (v,v))(q:∀out:List Value,out.Perm vs->out.Pairwise (λu v=>rk (u,u)<=rk (v,v))->P (.done (.ret .none)) { s with heap:=sortedHeap s.heap a vs out.toArray }):wpAny (model prog w) A (Builtin.«list.sort» ⟨[.ref a],[]⟩) P E s:=by
 have la:=aJ3 e
 have cc:¬vs.toArray.size<2:=by simpa using h2
 obtain⟨k,ek⟩:∃k,(s.heap.update a (Obj.mapSeq λ_=>#[])).get? a=some (seqObj "list" #[] k):=⟨_,get?_update_seq e λ_=>#[]⟩
 have there:(dX s.heap a vs).get? a=some (seqObj "list" #[] k):=aI3 _ (aI3 _ ek)
 rw[list_sort_plain]
 apply aI2
 apply listItems_at e rfl
 apply aI2
 refine listUpdate_at e rfl ?_ (by simpa using big) (aP8 _)
 apply aI2
 apply seqEpoch_at ek rfl
 apply aI2
 refine wpAny_newTuple ?_ big
 apply aI2
 refine wpAny_newList ?_ (aP8 _)
 apply aQ6
 simp only[cc,aQ2]
 apply aI2
 refine hk _ ?_
 have zl:(vs.toArray.zip vs.toArray).toList=vs.zip vs:=by simp
 apply aI2
 refine aN1 (an2 (a0:=vs.toArray.zip vs.toArray) (Q:=λ_ st'=>(arrOf st').Perm (vs.toArray.zip vs.toArray)/\failedOf st'=none/\Up rk (arrOf st') 0 (vs.toArray.zip vs.toArray).size) c (λx hx=>?_) ⟨Array.Perm.refl _,rfl,rfl,rfl⟩ (by simp;omega) λst' a1 a2 a3=>⟨a1,a2,a3⟩) ?_ λ_ _ z=>z
 ·have hx':x∈vs.zip vs:=by rw[<- zl];exact Array.mem_toList_iff.mpr hx
  obtain⟨y1,y2⟩:=mem_zip_self hx'
  have:=o x.1 y2
  have ex:x=(x.1,x.1):=Prod.ext rfl y1.symm
  rw[ex];exact this
 ·rintro⟨⟨⟩,st'⟩ s' ⟨rfl,pm,ok,up⟩
  have lp:(arrOf st').toList.Perm (vs.zip vs):=by rw[<- zl];exact Array.perm_iff_toList_perm.mp pm
  have out:(arrOf st').map (·.2)=((arrOf st').toList.map (·.2)).toArray:=by apply Array.toList_inj.mp;rw[Array.toList_map]
  have op:((arrOf st').toList.map (·.2)).Perm vs:=by
   have:=lp.map (·.2)
   rw[rV]at this;exact this
  have sz:(arrOf st').size=vs.length:=by rw[pm.size_eq];simp
  dsimp only
  apply aI2
  apply seqEpoch_at there rfl
  apply aI2
  refine listUpdate_at there rfl ?_ (aP8 _) (by rw[Array.size_map,sz];exact Nat.le_succ_of_le big)
  rw[ok]
  simp only[bne_self_eq_false,aL2,aQ2]
  refine aI7 ?_
  have hq:=q _ op ?_
  ·rw[<- out]at hq;exact hq
  ·rw[aV5,aP2]
   intro i j hi hj hij
   have hi':i<(arrOf st').size:=by simpa using hi
   have hj':j<(arrOf st').size:=by simpa using hj
   have h1:=up i j (aP8 _) (aS6 hij) (by simp;omega)
   rw[bU hi',bU hj']at h1
   have dg:∀x∈(arrOf st').toList,(x.2,x.2)=x:=λx hx=>Prod.ext (mem_zip_self (lp.mem_iff.mp hx)).1.symm rfl
   rw[dg _ (aT9 hi),dg _ (aT9 hj)]
   simpa using h1
theorem an6 {prog:Program}{w:World}{A:Around}{E:Value->Shared->Prop}{s:Shared}{l:Addr}{vs:List Value}{Q:Value->Shared->Prop}{κ:SortKind}{Ok:Keyed->Prop}{rk:Keyed->Int}(hl:s.heap.IsList l vs.toArray)(h2:2<=vs.length)(big:vs.length<=sizeLine)(hk:∀(A:Around) (E:Value->Shared->Prop) (Q:SortKind->Shared->Prop),Q κ { s with heap:=dX (e9 s.heap vs) (s.heap.objs.size+1) vs }->wpAny (model prog w) A (keyKind' vs.toArray) Q E { s with heap:=dX (e9 s.heap vs) (s.heap.objs.size+1) vs })(c:∀(A:Around) (E:Value->Shared->Prop),c9 prog w A E { s with heap:=dX (e9 s.heap vs) (s.heap.objs.size+1) vs } κ Ok rk)(o:∀v∈vs,Ok (v,v))(q:∀out:List Value,out.Perm vs->out.Pairwise (λu v=>rk (u,u)<=rk (v,v))->Q (.ref (s.heap.objs.size+1)) { s with heap:=sortedAll s.heap vs out.toArray }):wpAny (model prog w) A (call (.builtin "sorted") [.ref l]) Q E s:=by
 apply Calls.call_function_entry kind_sorted plain_sorted entry_sorted (args_sorted1 _)
 simp only[Builtin.«sorted»]
 apply aI2 (m:=checkCount "sorted" 1 1 _)
 apply aI7
 apply aI2
 refine collect_list hl ?_ big
 apply aI2
 refine wpAny_newList ?_ big
 have one:((s.heap.push (seqObj "list" #[] 0)).update s.heap.objs.size (Obj.mapSeq (·++vs.toArray))).objs.size=s.heap.objs.size+1:=(Heap.size_update _ _ _).trans (size_push' _ _)
 have at1:(e9 s.heap vs).get? (s.heap.objs.size+1)=some (seqObj "list" vs.toArray 0):=one▸aK1 _ rfl
 change wpAny _ _ _ _ _ { s with heap:=e9 s.heap vs }
 rw[one]
 apply aI2
 apply aQ6
 refine aO9 slot_list_sort ⟨_,at1,rfl⟩ entry_list_sort ?_ (args_list_sort _)
 exact an5 (s:={ s with heap:=e9 s.heap vs }) at1 h2 big (hk _ _) (c _ _) o λout a1 a2=>⟨_,rfl,aI7 ⟨_,rfl,q out a1 a2⟩⟩
noncomputable def oW (h:Heap)(B:Int)(x:Keyed):Int:=match x.1 with
 |.ref b=>match h.get? b with
  |some ob=>match ob.data with
   |.seq us _=>numOf (us.getD 0 .none)*B+numOf (us.getD 1 .none)
   |_=>0
  |none=>0
 |_=>0
structure iB (h:Heap)(M:Int)(v:Value)(p q:Int):Prop where
 at_:∃b ob us n,v = .ref b/\h.get? b=some ob/\ob.cls = .type "tuple"/\ob.data = .seq (List.toArray us) n/\IntsAre us [p,q]
 lo:-M<=q
 hi:q<=M
theorem iB.rk {h:Heap}{M B:Int}{x:Keyed}{p q:Int}(z:iB h M x.1 p q):oW h B x=p*B+q:=by
 obtain⟨b,ob,us,n,e1,e2,_,e4,e5⟩:=z.at_
 cases e5 with
 |cons _ t e6=>cases e6 with
  |cons _ u e7=>cases e7;unfold oW;rw[e1];dsimp only;rw[e2];dsimp only;rw[e4];rfl
theorem A8 {p q p' q' M:Int}(h1:-M<=q)(h2:q<=M)(h3:-M<=q')(h4:q'<=M):HT.bZ [p,q] [p',q']=decide (p*(2*M+1)+q<p'*(2*M+1)+q'):=by
 rw[HT.iJ]
 have mm:∀{a b:Int},a<b->a*(2*M+1)+(2*M+1)<=b*(2*M+1):=λ{a b} z=>by
  have:=Int.mul_le_mul_of_nonneg_right (show a+1<=b by omega) (show 0<=2*M+1 by omega)
  rw[Int.add_mul,Int.one_mul]at this
  exact this
 by_cases e:p=p'
 ·subst e
  rw[if_pos rfl,HT.iJ]
  by_cases e2:q=q'
  ·subst e2
   rw[if_pos rfl,HT.qT,aJ1 (by omega)]
  ·rw[if_neg e2]
   by_cases l:q<q'
   ·rw[aJ5 l,aJ5 (by omega)]
   ·rw[aJ1 l,aJ1 (by omega)]
 ·rw[if_neg e]
  by_cases l:p<p'
  ·have:=mm l
   rw[aJ5 l,aJ5 (by omega)]
  ·have:=mm (show p'<p by omega)
   rw[aJ1 l,aJ1 (by omega)]
theorem an7 {prog:Program}{w:World}{A:Around}{E:Value->Shared->Prop}{s:Shared}{M:Int}:c9 prog w A E s (tuples' true) (λx=>∃p q,iB s.heap M x.1 p q) (oW s.heap (2*M+1)):=by
 rintro x y ⟨p,q,z⟩ ⟨p',q',z'⟩ st Q hk hq
 rw[z.rk,z'.rk]at hq
 rw[<- A8 z.lo z.hi z'.lo z'.hi]at hq
 obtain⟨b,ob,us,n,e1,e2,e3,e4,e5⟩:=z.at_
 obtain⟨b',ob',us',n',e1',e2',e3',e4',e5'⟩:=z'.at_
 rw[lt'_eq]
 refine aJ0 (wpS_get ?_)
 rw[hk,e1,e1']
 refine aJ0 (wpS_lift (wpAny_attempt (PySem.W.kat_lt e2 e4 e2' e4' ?_)))
 have:=xU (prog:=prog) (w:=w) (A:=A) (s:=s) (Q:=λa s'=>s'=s/\wpS (model prog w) A E s (pure (some a)) Q st) 0 e5 e5' ⟨rfl,aJ8 hq⟩
 simpa using this
theorem an8 {vs vs':List Value}(h:vs.Perm vs'):∀{xs:List V},aK xs vs->∃xs',xs'.Perm xs/\aK xs' vs':=by
 induction h with
 |nil=>intro xs r;exact⟨xs,List.Perm.refl _,r⟩
 |cons v _ ih=>
  intro xs r
  cases r with
  |cons r t=>
   obtain⟨xs',p,r'⟩:=ih t
   exact⟨_::xs',p.cons _,.cons r r'⟩
 |swap u v l=>
  intro xs r
  cases r with
  |cons r t=>cases t with
   |cons r2 t2=>exact⟨_,List.Perm.swap _ _ _,.cons r2 (.cons r t2)⟩
 |trans _ _ ih1 ih2=>
  intro xs r
  obtain⟨x1,p1,r1⟩:=ih1 r
  obtain⟨x2,p2,r2⟩:=ih2 r1
  exact⟨x2,p2.trans p1,r2⟩
theorem A9 {α:Type}(f:α->Int):∀l:List α,∃M:Int,∀y∈l,-M<=f y/\f y<=M
 |[]=>⟨0,λ_ h=>nomatch h⟩
 |x::l=>by
  obtain⟨M,h⟩:=A9 f l
  refine⟨max M (max (f x) (- f x)),λy hy=>?_⟩
  rcases aI5.mp hy with e|e
  ·subst e;omega
  ·have:=h y e;omega
noncomputable def B0 (K:ac):List V->Hp->VK->Prop:=λxs H Q=>∃(a:Addr) (ys:List V) (key:V->ae),xs = [.ref a]/\aL K H a ys/\ys.length<=4096/\(∀y∈ys,∃b,y = .ref b/\aI K H b ((key y).map V.int)/\(key y).length=2)/\
 ∀l (zs:List V),H l=none->zs.Perm ys->zs.Pairwise (λu v=>HT.bZ (key v) (key u)=false)->Q (.ref l) (upd H l (.lst zs))
theorem an9 {X:Cx}:cN X (.builtin "sorted") (B0 X.K):=by
 intro pins s σ H xs us Q I r h
 obtain⟨a,ys,key,rfl,hs,hz4,hk,q⟩:=h
 obtain⟨u,rfl,ru⟩:=gV r
 cases ru
 obtain⟨its,rv,p,hz⟩:=I.list hs
 have hl:=rv.length
 have hn:s.heap.objs.size<=s.heap.objs.size+1:=Nat.le_succ _
 by_cases h2:its.length<2
 ·refine ac0 p.isList h2 ?_
  obtain⟨e,he⟩:=sortedAll_at s.heap its its.toArray
  refine⟨.ref (s.heap.objs.size+1),upd H (s.heap.objs.size+1) (.lst ys),I.laid (t':=s.toks) (λ_ _=>sortedAll_old) hn ⟨hz,its,e,rv,he⟩,rfl,q _ ys (I.hok.fresh hn) (List.Perm.refl _) ?_⟩
  match ys,hl with
  |[],_=>exact List.Pairwise.nil
  |[_],_=>exact aT2 _ _
  |_::_::_,hl=>simp at hl;omega
 ·obtain⟨M,hM⟩:=A9 (λy=>(key y).getD 1 0) ys
  have pv:∀{y:V}{v:Value},aQ y v->y∈ys->∃pp qq,key y = [pp,qq]/\iB (dX (e9 s.heap its) (s.heap.objs.size+1) its) M v pp qq:=λ{y v} ry hy=>by
   obtain⟨b,rfl,sq,l2⟩:=hk y hy
   cases ry
   obtain⟨us,ru,⟨ob,e1,c1,n1,d1⟩,_⟩:=I.tuple sq
   have ia:=lM ru
   have mm:=hM _ hy
   match hkk:key (V.ref b),l2 with
   |[pp,qq],_=>
    rw[hkk]at ia mm
    exact⟨pp,qq,rfl,⟨b,ob,us,n1,rfl,an4 (aL4 (Nat.lt_succ_of_lt (aJ3 e1))) (an3 e1),c1,d1,ia⟩,mm.1,mm.2⟩
  have pvs:∀{xs:List V}{vs:List Value},aK xs vs->(∀y∈xs,y∈ys)->∀v∈vs,∃pp qq,iB (dX (e9 s.heap its) (s.heap.objs.size+1) its) M v pp qq:=by
   intro xs vs r
   induction r with
   |nil=>intro _ v hv;cases hv
   |cons rx rt ih=>
    intro hh v hv
    rcases aI5.mp hv with z|z
    ·subst z
     obtain⟨pp,qq,_,z⟩:=pv rx (hh _ aK0)
     exact⟨pp,qq,z⟩
    ·exact ih (λy hy=>hh y (aK2 _ hy)) v z
  have firsts:∀{vs:List Value},(∀v∈vs,∃pp qq,iB (dX (e9 s.heap its) (s.heap.objs.size+1) its) M v pp qq)->∃fs:List Value,PySem.W.KatTups (dX (e9 s.heap its) (s.heap.objs.size+1) its) vs fs/\fs.length=vs.length/\∀v∈fs,∃i t,v=Value.int i t:=by
   intro vs
   induction vs with
   |nil=>intro _;exact⟨[],PySem.W.KatTups.nil,rfl,λ_ z=>nomatch z⟩
   |cons v vs ih=>
    intro hh
    obtain⟨fs,t1,t2,t3⟩:=ih λy hy=>hh y (aK2 _ hy)
    obtain⟨pp,qq,z⟩:=hh v aK0
    obtain⟨b,ob,us,n,rfl,e2,e3,e4,e5⟩:=z.at_
    cases e5 with
    |cons _ t e6=>exact⟨Value.int pp t::fs,PySem.W.KatTups.cons e2 e3 e4 (by simp) t1,by simp[t2],λv hv=>(aI5.mp hv).elim (λz=>⟨pp,t,z⟩) (t3 v)⟩
  have allp:=pvs rv λ_ h=>h
  obtain⟨fs,t1,t2,t3⟩:=firsts allp
  refine an6 (κ:=tuples' true) (Ok:=λx=>∃pp qq,iB (dX (e9 s.heap its) (s.heap.objs.size+1) its) M x.1 pp qq) (rk:=oW (dX (e9 s.heap its) (s.heap.objs.size+1) its) (2*M+1)) p.isList (by omega) (by rw[<- hl];exact hz)
   (λA E Q hQ=>?_) (λA E=>an7 (s:={ s with heap:=dX (e9 s.heap its) (s.heap.objs.size+1) its })) (λv hv=>allp v hv) λout pm so=>?_
  ·refine PySem.W.kat_kind (T:=.type "int") t1 (by omega) (λv hv=>?_) (by decide) ?_
   ·obtain⟨i,t,rfl⟩:=t3 v hv
    exact PySem.W.Looks.now
   ·have eT:(Value.type "int" != Value.type "tuple")=true:=by decide
    rw[eT];exact hQ
  ·obtain⟨zs,pz,rz⟩:=an8 pm.symm rv
   obtain⟨e,he⟩:=sortedAll_at s.heap its out.toArray
   refine⟨.ref (s.heap.objs.size+1),upd H (s.heap.objs.size+1) (.lst zs),I.laid (t':=s.toks) (λ_ _=>sortedAll_old) hn ⟨by rw[pz.length_eq];exact hz,out,e,rz,he⟩,rfl,q _ zs (I.hok.fresh hn) pz ?_⟩
   have lz:=rz.length
   rw[aP2]
   intro i j hi hj hij
   have s1:=aP2.mp so i j (by omega) (by omega) hij
   have gi:=rT i hi rz
   have gj:=rT j hj rz
   simp only[aL7,aI8 hi,aI8 hj,aI8 (show i<out.length by omega),aI8 (show j<out.length by omega),Option.getD_some]at gi gj
   obtain⟨pi,qi,ki,vi⟩:=pv gi (pz.mem_iff.mp (aT9 hi))
   obtain⟨pj,qj,kj,vj⟩:=pv gj (pz.mem_iff.mp (aT9 hj))
   rw[iB.rk (x:=(out[i],out[i])) vi,iB.rk (x:=(out[j],out[j])) vj]at s1
   rw[ki,kj,A8 vj.lo vj.hi vi.lo vi.hi]
   exact aJ1 (by omega)
end L2
namespace L2
open PySem PySem.Spec PyProof.Rows
theorem bM.at {P:Program}{w:World}{H:Hp}{h:Heap}{a:Addr}{o:HO}(x:bM P w H h a o):∃ob,h.get? a=some ob:=by
 cases o with
 |lst xs=>obtain⟨_,_,_,_,e⟩:=x;exact⟨_,e⟩
 |tup xs=>obtain⟨_,_,_,⟨_,e,_⟩,_⟩:=x;exact⟨_,e⟩
 |dK kvs=>obtain⟨_,_,_,_,_,_,_,e,_⟩:=x;exact⟨_,e⟩
 |dT kvs=>obtain⟨_,_,_,_,_,_,_,e,_⟩:=x;exact⟨_,e⟩
 |set S n=>obtain⟨_,_,_,_,e,_⟩:=x;exact⟨_,e⟩
 |ins C dx fs=>obtain⟨_,_,_,e,_⟩:=x;exact⟨_,e⟩
 |own y=>exact x
 |xd fs=>obtain⟨_,⟨_,_,_,e,_⟩,_⟩:=x;exact⟨_,e⟩
 |rng lo hi=>obtain⟨_,_,_,e⟩:=x;exact⟨_,e⟩
 |frz ob u=>obtain⟨e,_⟩:=x;exact⟨_,e⟩
 |tbl ps=>exact⟨_,x⟩
 |met f y=>exact⟨_,x⟩
 |ext φ=>exact x.2.1
structure jV (P:Program)(w:World)(outer:List Env)(H:Hp)(s:Shared)(H':Hp)(B:Heap)(a C:Addr)(s':Shared):Prop where
 os:s'.os=s.os
 bare:AllBare s'.gens
 un:Un (aZ outer) [] H H' s.heap s'.heap
 hok:bE P w H' s'.heap
 fly:∃a0,Heap.FlyingW B outer a (.ref C) a0 s'.heap
 b0:∀b o,s.heap.get? b=some o->b∉aZ outer->∃o',B.get? b=some o'
 b1:∀b o,s.heap.get? b=some o->H b=none->b∉aZ outer->B.get? b=some o
 b2:∀b u o,H' b=some u->s'.heap.get? b=some o->B.get? b=some o
noncomputable def cE (P:Program)(w:World):eU:=λouter H s E e s'=>∃(H':Hp) (B:Heap) (a C:Addr),e = .ref a/\jV P w outer H s H' B a C s'/\E (.ref C) none H'
section
variable {P:Program}{w:World}{outer:List Env}{H H':Hp}{s s':Shared}{B h2:Heap}{a C:Addr}
theorem jV.fresh (f:jV P w outer H s H' B a C s'):H' a=none:=by
 cases q:H' a with
 |none=>rfl
 |some u=>
  obtain⟨ob,e⟩:=(f.hok a u q).at
  have z:=f.b2 a u ob q e
  obtain⟨_,_,n,_⟩:=f.fly
  rw[n]at z;cases z
theorem jV.hok2 (f:jV P w outer H s H' B a C s')(k:B.StaysIn h2):bE P w H' h2:=λb u e=>
 (f.hok b u e).stay (λc v hc q=>by
  rcases hc with z|z
  ·subst z;exact k _ _ (f.b2 _ _ _ e q)
  ·exact k _ _ (f.b2 _ _ _ z q)) (λ_ q=>q) λ_ _ q=>q
end
section
variable {P:Program}{w:World}{K:ac}{mg:Str→Option Value}{base:Heap}{N:List Str}{qual:Str}{scope:Scope}{f:Addr}{cd:Value}{A:Around}{outer:List Env}{s₀:Shared}{H₀:Hp}{E₀ E₁:XK}
theorem kX {pins:List (Addr×Obj)}{σ:St}{H:Hp}{s:Shared}(I:a5 (cA (cE P w) P w K mg base N qual scope f cd A outer s₀ H₀ E₀) pins σ H s){b:Addr}{o:Obj}(e:s₀.heap.get? b=some o)(n:b∉aZ outer) :
  b∉aZ (envOfC qual scope s₀.heap.objs.size f cd::outer):=λz=>by
 rcases aI5.mp (I.stkSub b z) with y|y
 ·have l:=aJ3 e
  have y:b=s₀.heap.objs.size:=y
  exact absurd l (by rw[y];exact aM4 _)
 ·exact n y
theorem ao0 (hE:∀c d H',E₁ c d H'->E₀ c d H'):jC (cE P w) (cA (cE P w) P w K mg base N qual scope f cd A outer s₀ H₀ E₀) E₁:=by
 intro pins σ H s e s' I hx
 obtain⟨H',B,a,C,e1,fl,q⟩:=hx
 subst e1
 have I':=I.call' fl.os fl.un fl.hok fl.bare (ch:=[]) (λb z=>absurd z (by simp))
 obtain⟨a0,fly⟩:=fl.fly
 refine wpAny_leaves_onW I.ok.frames rfl fly λh' fly' up=>?_
 have slot:∀b o,s₀.heap.get? b=some o->b∈aZ outer->∃sl,h'.get? b=some { o with slots:=sl }:=λb o e hb=>by
  obtain⟨sl,e1⟩:=I'.base.slot b o e (I.ok.frf b hb) hb (λz=>nomatch z)
  obtain⟨_,o2,e2,nf⟩:=I.ok.funs.mem hb
  rw[show (cA (cE P w) P w K mg base N qual scope f cd A outer s₀ H₀ E₀).s₀=s₀ from rfl,e]at e2
  cases e2
  obtain⟨sl',e3⟩:=up b _ e1 nf
  exact⟨sl',e3⟩
 have old:∀b o,s₀.heap.get? b=some o->H₀ b=none->b∉aZ outer->B.get? b=some o:=λb o e n hb=>
  fl.b1 b o (I.base.keep b o e n hb (λz=>nomatch z)) (I.base.free b o e n (λz=>nomatch z)) (kX I e hb)
 have old0:∀b o,s₀.heap.get? b=some o->b∉aZ outer->∃o',B.get? b=some o':=λb o e hb=>by
  obtain⟨o1,e1⟩:=I.base.there b o e (λz=>nomatch z)
  exact fl.b0 b o1 e1 (kX I e hb)
 refine⟨H',B,a,C,rfl,⟨I'.os,I'.bare,⟨λb o e n hb _=>fly'.1 _ _ (old b o e n hb),λb o e n hb _=>slot b o e hb,λb o e n hx=>I'.base.free b o e n hx,λb o e _=>?_,I'.base.tups,I'.base.frzs,I'.base.tbls⟩,fl.hok2 fly'.1,⟨a0,fly'⟩,old0,old,λb u o e h=>?_⟩,hE _ _ _ q⟩
 ·by_cases hb:b∈aZ outer
  ·obtain⟨sl,e1⟩:=slot b o e hb
   exact⟨_,e1⟩
  ·obtain⟨o',e1⟩:=old0 b o e hb
   exact⟨o',fly'.1 _ _ e1⟩
 ·obtain⟨ob,e1⟩:=(fl.hok b u e).at
  have e2:=fl.b2 b u ob e e1
  have e3:=fly'.1 _ _ e2
  have h:h'.get? b=some o:=h
  rw[h]at e3;cases e3;exact e2
theorem ao1 {pins:List (Addr×Obj)}{σ:St}{H:Hp}{s:Shared}{h':Heap}{e C:Addr}{args:List Value}(I:a5 (cA (cE P w) P w K mg base N qual scope f cd A outer s₀ H₀ E₀) pins σ H s)(mx:Heap.MadeExcOf s.heap h' e (.ref C) args)(q:E₀ (.ref C) none H) :
  (cA (cE P w) P w K mg base N qual scope f cd A outer s₀ H₀ E₀).xe (.ref e) { s with heap:=h' }:=by
 have tr:∀b u,H b=some u->b∉aZ (envOfC qual scope s₀.heap.objs.size f cd::outer):=λb u z n=>by
  rw[I.stkFree b n]at z;cases z
 have inB:∀b o,s.heap.get? b=some o->b∉aZ (envOfC qual scope s₀.heap.objs.size f cd::outer)->(PySem.W.hideAll s.heap (aZ (envOfC qual scope s₀.heap.objs.size f cd::outer))).get? b=some o:=λb o z n=>PySem.W.hideAll_get _ z n
 refine wpAny_leaves_madeW (base:=PySem.W.hideAll s.heap (aZ (envOfC qual scope s₀.heap.objs.size f cd::outer))) I.ok.frames rfl (λb o z=>PySem.W.of_hideAll _ z) (PySem.W.funFrames_hide I.stack λenv he b hb=>List.mem_filterMap.mpr ⟨env,he,hb⟩) mx λh'' t fly _ _ up=>?_
 have slot:∀b o,s₀.heap.get? b=some o->b∈aZ outer->∃sl,h''.get? b=some { o with slots:=sl }:=λb o e hb=>by
  obtain⟨sl,e1⟩:=I.base.slot b o e (I.ok.frf b hb) hb (λz=>nomatch z)
  obtain⟨_,o2,e2,nf⟩:=I.ok.funs.mem hb
  rw[show (cA (cE P w) P w K mg base N qual scope f cd A outer s₀ H₀ E₀).s₀=s₀ from rfl,e]at e2
  cases e2
  obtain⟨sl',e3⟩:=up b _ (mx.keeps _ _ e1) nf
  exact⟨sl',e3⟩
 have old:∀b o,s₀.heap.get? b=some o->H₀ b=none->b∉aZ outer->(PySem.W.hideAll s.heap (aZ (envOfC qual scope s₀.heap.objs.size f cd::outer))).get? b=some o:=λb o e n hb=>
  inB b o (I.base.keep b o e n hb (λz=>nomatch z)) (kX I e hb)
 have old0:∀b o,s₀.heap.get? b=some o->b∉aZ outer->∃o',(PySem.W.hideAll s.heap (aZ (envOfC qual scope s₀.heap.objs.size f cd::outer))).get? b=some o':=λb o e hb=>by
  obtain⟨o1,e1⟩:=I.base.there b o e (λz=>nomatch z)
  exact⟨o1,inB b o1 e1 (kX I e hb)⟩
 refine⟨H,_,e,C,rfl,⟨I.os,I.bare,⟨λb o e n hb _=>fly.1 _ _ (old b o e n hb),λb o e n hb _=>slot b o e hb,λb o e n hx=>I.base.free b o e n hx,λb o e _=>?_,I.base.tups,I.base.frzs,I.base.tbls⟩,λb u z=>?_,⟨_,fly⟩,old0,old,λb u o z h=>?_⟩,q⟩
 ·by_cases hb:b∈aZ outer
  ·obtain⟨sl,e1⟩:=slot b o e hb
   exact⟨_,e1⟩
  ·obtain⟨o',e1⟩:=old0 b o e hb
   exact⟨o',fly.1 _ _ e1⟩
 ·refine (I.hok b u z).stay (λc v hc y=>?_) (λ_ y=>y) λ_ _ y=>y
  rcases hc with z'|z'
  ·subst z';exact fly.1 _ _ (inB _ _ y (tr _ _ z))
  ·exact fly.1 _ _ (inB _ _ y (tr _ _ z'))
 ·obtain⟨ob,e1⟩:=(I.hok b u z).at
  have e2:=inB b ob e1 (tr b u z)
  have e3:=fly.1 _ _ e2
  have h:h''.get? b=some o:=h
  rw[h]at e3;cases e3;exact e2
end
structure jW (X:Cx)(E:XK):Prop where
 pass:jC (cE X.prog X.w) X E
 made:∀(pins:List (Addr×Obj)) (σ:St) (H:Hp) (s:Shared) (h':Heap) (e C:Addr) (args:List Value),a5 X pins σ H s->Heap.MadeExcOf s.heap h' e (.ref C) args->E (.ref C) none H->X.xe (.ref e) { s with heap:=h' }
 own:PassesOwn (model X.prog X.w) X.A X.env X.xe
theorem B1 {P:Program}{w:World}{K:ac}{mg:Str->Option Value}{base:Heap}{N:List Str}{qual:Str}{scope:Scope}{f:Addr}{cd:Value}{A:Around}{outer:List Env}{s₀:Shared}{H₀:Hp}{E₀ E₁:XK}(hE:∀c d H',E₁ c d H'->E₀ c d H') :
  jW (cA (cE P w) P w K mg base N qual scope f cd A outer s₀ H₀ E₀) E₁:=
 ⟨ao0 hE,λ_ _ _ _ _ _ _ _ I mx q=>ao1 I mx (hE _ _ _ q),PassesOwn.leaving⟩
noncomputable def B2 (E:XK)(C:Addr)(t:TA):TS:=λ_ σ H=>t σ H λvs H1=>vs.length<=sizeLine/\E (.ref C) none H1
theorem ao2 {X:Cx}{E:XK}{x:Str}{C:Addr}{bm:List Value}{B newId initId:String}{np cpos pos:Pos}{e:Expr}{es:List Expr}{t:TA}(hX:jW X E)(hc:X.calm=true)(O:OwnCls x C bm newId X.mg X.base)(FB:ExcBaseFacts B newId initId bm)(ha:PA X (e::es) t)(hg:Gl X x)(hd:(x==("__debug__":Str))=false:=by decide)(he:starEach (e::es) X.env=(false,eval e X.env)::starEach es X.env:=by rfl)(hpl:(backTo cpos (starEach es X.env)).any (·.1)=false:=by rfl) :
  PS X (.Raise (some (.Call (.Name x np) (e::es) [] cpos)) none pos) (B2 E C t):=by
 intro pins s σ H D I h
 obtain⟨tl,Na,nm,qn,bs,hx,sn,sub,ab,col,dd,k0,k1,k2,k3,k5,mN,hC,hN,hni,T⟩:=O.obj
 refine wpAny_Raise_call_subT (nm:=nm) (q:=qn) (N:=Na) (bs:=bs) (bm:=tl) (hdct:=hx) (sn:=sn) (sub:=sub) (ab:=ab) (col:=col) (dd:=dd) (k0:=k0) (k1:=k1) (k2:=k2) (k3:=k3) (k5:=k5) FB (C:=C) (mN:=mN) (T.hasType FB.hasBase) (I.ok.hd hc) (by rw[he];show (false||(backTo cpos (starEach es X.env)).any (·.1))=false;rw[hpl];rfl) hni (lE I hg O.bound ⟨rfl,?_⟩ hd)
 have h1:=ha cpos pins s σ H _ I h
 rw[he]at h1 ⊢
 refine Calls.evalArgs_plain (aN1 h1 (λus s2 h2=>?_) λ_ _ y=>y)
 obtain⟨vs,H2,I2,r,hl,q⟩:=h2
 have r:aK vs us:=r
 exact⟨rfl,by show us.length<=sizeLine;rw[<- r.length];exact hl,I2.bk _ _ hC,hN.keeps I2.bk,T.keeps I2.bk,λh' e' mx=>hX.made pins σ H2 s2 h' e' C _ I2 mx q⟩
theorem dI.okX {P:Program}{w:World}{K:ac}{mg:Str->Option Value}{base:Heap}{x qual:Str}{st:Stmt}{f:Addr}{fd:FuncData}{N ps:List Str}{k:Nat}{sp:Sp}(F:dI K x qual st f fd)(S:FnScope N ps (aT st))(len:∀vs H Q E,sp vs H Q E->vs.length=ps.length)(hbody:∀(cdv:Value) (A:Around) (outer:List Env) (s:Shared) (H:Hp) (vs:List V) (Q:VK) (E:XK),bI k (A.deeper (envOfC qual (aT st) s.heap.objs.size f cdv))->sp vs H Q E->
   ∃t,cX (cA (cE P w) P w K mg base N qual (aT st) f cdv A outer s H E) (cY st) t/\t { nx:=λ_ H'=>Q .non H',rt:=Q } (eV N vs) H):cQ P w K mg base (cE P w) (k+1) f fd ps sp:=by
 obtain⟨oc,od,kV,doc,pm,an,cdv,ct,osl,rfl,lk,hcd⟩:=F.ex
 exact wI lk hcd S len λA outer s H vs Q E hr hsp=>hbody cdv A outer s H vs Q E hr hsp
section
variable {X:Cx}{pins:List (Addr×Obj)}{σ:St}{H H1 H':Hp}{s s1 s':Shared}{B h2:Heap}{a C:Addr}
theorem B3 {oe:Obj}(I:a5 X pins σ H1 s1)(fl:jV X.prog X.w X.stack H1 s1 H' B a C s')(st:B.StaysIn h2)(up:s'.heap.UpToSlots h2)(he:h2.get? a=some oe) :
  a5 X pins σ (upd H' a (.frz oe (.own a))) { s' with heap:=h2 }:=by
 obtain⟨a0,fly⟩:=fl.fly
 have na:B.get? a=none:=fly.2.1
 have nf:a∉aZ X.stack:=λz=>by
  obtain⟨_,o,e,d⟩:=fly.2.2.1.mem z
  obtain⟨o2,vs,e2,_,d2,_⟩:=fly.first
  rw[e]at e2;cases e2
  exact d vs d2
 have nb:∀b o,s1.heap.get? b=some o->b≠a:=λb o e z=>by
  subst z
  obtain⟨o',e'⟩:=fl.b0 _ o e nf
  rw[na]at e';cases e'
 have nt:∀b u,H' b=some u->b≠a:=λb u e z=>by
  subst z;rw[fl.fresh]at e;cases e
 have off:∀b,b≠X.env.locals->b∉X.fs->b∉aZ X.stack:=λb n1 n2 z=>(aI5.mp (I.stkSub b z)).elim n1 n2
 have slot:∀b o,s1.heap.get? b=some o->b∈aZ X.stack->∃sl,h2.get? b=some { o with slots:=sl }:=λb o e hb=>by
  obtain⟨sl,e1⟩:=fl.un.any e (I.stkFree b hb) (λz=>nomatch z)
  obtain⟨_,o2,e2,d⟩:=I.stack.mem hb
  rw[e]at e2;cases e2
  obtain⟨sl',e3⟩:=up b _ e1 d
  exact⟨sl',e3⟩
 have ns:∀m,s1.heap.Ns X.env.locals m->h2.Ns X.env.locals m:=λm hm=>by
  obtain⟨o,es,ep,e,r⟩:=hm
  obtain⟨sl,e1⟩:=fl.un.any e I.free (λz=>nomatch z)
  exact up.ns ⟨_,es,ep,e1,r⟩
 have hok:bE X.prog X.w (upd H' a (.frz oe (.own a))) h2:=λb u e=>by
  by_cases hb:b=a
  ·subst hb;rw[bB]at e;cases e;exact⟨he,_,he⟩
  ·rw[aN hb]at e
   exact (fl.hok2 st b u e).stay (λ_ _ _ q=>q) (λc q=>by rw[aN (nt c _ q)];exact q) λc xs q=>by rw[aN (nt c _ q)];exact q
 have bare:=fl.bare
 have un:=fl.un
 have b0:=fl.b0
 have b1:=fl.b1
 have os:=fl.os
 clear fl fly up
 obtain⟨hh,g,d,t,os'⟩:=s'
 obtain rfl:os'=s1.os:=os
 show a5 X pins σ _ { s1 with heap:=h2,gens:=g,drawn:=d,toks:=t }
 refine I.step (h':=h2) (g':=g) (d':=d) (t':=t) (ch:=[]) (λ_ z=>nomatch z) (λb o n1 n2 _ e n=>st _ _ (b1 b o e n (off b n1 n2))) (λb o n1 hb _ e n=>?_) (λb o _ e n=>by rw[aN (nb b o e)];exact un.free b o e n (λz=>nomatch z)) (λb o _ e=>?_)
  (λb xs q=>by rw[aN (nt b _ (un.tups b xs q))];exact un.tups b xs q) (λb o u q=>by rw[aN (nt b _ (un.frzs b o u q))];exact un.frzs b o u q) (λb ps q=>by
   obtain⟨more,q'⟩:=un.tbls b ps q
   exact⟨more,by rw[aN (nt b _ q')];exact q'⟩) ns hok bare
 ·by_cases hs:b∈aZ X.stack
  ·exact slot b o e hs
  ·exact⟨o.slots,st _ _ (b1 b o e n hs)⟩
 ·by_cases hb:b∈aZ X.stack
  ·obtain⟨sl,e1⟩:=slot b o e hb
   exact⟨_,e1⟩
  ·obtain⟨o',e1⟩:=b0 b o e hb
   exact⟨o',st _ _ e1⟩
noncomputable abbrev Cx.suite (X:Cx)(a:Addr):Cx:={ X with A:=X.A.mark (some (.ref a)),calm:=false,xe:=λ_ _=>False }
theorem Cx.Ok.suite {X:Cx}(ok:X.Ok)(a:Addr):(X.suite a).Ok:=
 ⟨ok.mod,ok.kind,ok.glob,ok.blt,ok.above,ok.inj,ok.has,ok.cab,λz=>Bool.noConfusion z,ok.frames,ok.stk,ok.exf,ok.bs,ok.bsz,ok.noex,ok.exfs,ok.funs,ok.frf⟩
theorem a5.suite (I:a5 X pins σ H s)(a:Addr):a5 (X.suite a) pins σ H s:=⟨I.ok.suite a,I.os,I.bare,I.base,I.loc,I.cell,I.free,I.freeC,I.pin,I.hok,I.len⟩
theorem a5.unsuite (I:a5 (X.suite a) pins σ H s)(ok:X.Ok):a5 X pins σ H s:=⟨ok,I.os,I.bare,I.base,I.loc,I.cell,I.free,I.freeC,I.pin,I.hok,I.len⟩
theorem oX {M:Model}{A:Around}{E:Value->Shared->Prop}{i:Nat}{x:Str}{pos:Pos}{Q:Unit->Shared->Prop}(I:a5 X pins σ H s)(hN:X.N.Nodup)(hi:X.N[i]? = some x)(hk:X.env.scope.names.lookup x=some .local)(h:∀s',a5 X pins (σ.set i none) H s'->Q () s'):wpAny M A (do bindName X.env x .none;unbindBehindTheSuite X.env x pos) Q E s:=by
 obtain⟨m,hn,hl⟩:=id I.loc
 obtain⟨oL,_,_,hoL,_⟩:=id hn
 have ab:∀b o,X.s₀.heap.get? b=some o->b≠X.env.locals:=λb o e=>aL4 (aI9 (aJ3 e) I.ok.above)
 refine wpAny_nameGoes_keeps hk hn (by rw[I.ok.kind];rfl) λh' v hn' hs=>?_
 refine h _ ⟨I.ok,I.os,I.bare,⟨λb o e n hb hx=>(hs.2 b (ab b o e)).trans (I.base.keep b o e n hb hx),λb o e n hb hx=>?_,I.base.free,λb o e hx=>?_,I.base.tups,I.base.frzs,I.base.tbls⟩,⟨_,hn',λj y v' e1 e2 e3=>?_⟩,λy c e=>?_,I.free,I.freeC,λp hp=>?_,λb u e=>?_,by simpa using I.len⟩
 ·obtain⟨sl,e1⟩:=I.base.slot b o e n hb hx
  exact⟨sl,(hs.2 b (ab b o e)).trans e1⟩
 ·obtain⟨o',e1⟩:=I.base.there b o e hx
  exact⟨o',(hs.2 b (ab b o e)).trans e1⟩
 ·by_cases hj:j=i
  ·subst hj
   have hjl:j<σ.length:=by rw[I.len];exact (aK3.mp hi).1
   rw[aP4 hjl]at e2
   cases e2
  ·rw[aK8 (Ne.symm hj)]at e2
   obtain⟨u',r',q⟩:=hl j y v' e1 e2 e3
   refine⟨u',r',?_⟩
   rcases q with⟨k,e⟩|⟨k,c,e,z⟩
   ·have ny:y≠x:=λz=>hj (pV hN e1 (z▸hi))
    exact .inl ⟨k,by simp[ny,e]⟩
   ·exact .inr ⟨k,c,e,z.sameBut hs (I.cne y c e)⟩
 ·obtain⟨w',z⟩:=I.cell y c e
  exact⟨w',z.sameBut hs (I.cne y c e)⟩
 ·obtain⟨e,n,ne,nf,d⟩:=I.pin p hp
  exact⟨(hs.2 p.1 ne).trans e,n,ne,nf,d⟩
 ·refine (I.hok b u e).stay (λc v hc q=>(hs.2 c λz=>?_).trans q) (λ_ q=>q) λ_ _ q=>q
  subst z
  rcases hc with z|z
  ·subst z;rw[I.free]at e;cases e
  ·rw[I.free]at z;cases z
theorem ao3 {M:Model}{A:Around}{E:Value->Shared->Prop}{K:ac}{e C D:Addr}{oe:Obj}{Q:Bool->Shared->Prop}(k:K.In s.heap)(he:s.heap.get? e=some oe)(hc:oe.cls = .ref C)(h1:(PySem.W.clsIn K D).isSome=true)(h2:PySem.W.typeIn K (.ref D)=some (.type "type"))(h3:PySem.W.subIn K (.ref D) (.type "BaseException")=some true)(h4:PySem.W.subIn K (.ref C) (.ref D)=some true)(hq:Q true s):wpAny M A (excMatches (.ref e) (.ref D)) Q E s:=by
 obtain⟨h,g,d,t,os⟩:=s
 have k:K.In h:=k
 have he:h.get? e=some oe:=he
 have l1:PySem.W.Looks M h (isType (.ref D)) true:=by
  unfold PySem.W.clsIn at h1
  split at h1
  ·rename_i c' d' cd' sl' ho
   intro A' Q' E' s' kk q
   unfold isType loadHead
   exact aI2 (wpAny_loadPart (kk _ _ (k _ _ ho)) (aI7 q))
  ·cases h1
 have l2:PySem.W.Looks M h (typeOf (.ref D)) (.type "type"):=PySem.W.looks_typeIn k h2
 have l3:PySem.W.Looks M h (isSubtype (.ref D) (.type "BaseException")) true:=PySem.W.looks_subIn k h3
 have l4:PySem.W.Looks M h (isSubtype (.ref C) (.ref D)) true:=PySem.W.looks_subIn k h4
 have l5:PySem.W.Looks M h (typeOf (.ref e)) (.ref C):=hc▸(PySem.W.Looks.ld he).andThen .now
 have l6:PySem.W.Looks M h (isInstance (.ref D) (.type "tuple")) false:=l2.andThen (PySem.W.Looks.of_pure tc_notTuple)
 have l7:PySem.W.Looks M h (isExcClass (.ref D)) true:=by
  unfold isExcClass
  exact l1.andThen (by simpa using l3)
 have f:=tc_notTuple
 unfold excMatches
 repeat (first|exact hq|(with_reducible refine l2.at ?_)|(with_reducible refine l7.at ?_)|(with_reducible refine l1.at ?_)|(with_reducible refine l3.at ?_)|(with_reducible refine l5.at ?_)|(with_reducible refine l4.at ?_)|wp_step)
end
noncomputable def tW (D:cI)(i:Nat):cI:={ nx:=λσ H=>D.nx (σ.set i none) H,rt:=D.rt,bk:=λσ H=>D.bk (σ.set i none) H,ct:=λσ H=>D.ct (σ.set i none) H }
section
variable {X:Cx}{pins:List (Addr×Obj)}{σ:St}{H H1 H':Hp}{s s1 s':Shared}{B:Heap}{a C Ch:Addr}{i:Nat}{x n:Str}{np pos hpos:Pos}{b₀:Stmt}{suite:List Stmt}{ts:TS}{D:cI}{cH:List ExceptHandler}
structure tX (K:ac)(Ch:Addr):Prop where
 c1:(PySem.W.clsIn K Ch).isSome=true
 c2:PySem.W.typeIn K (.ref Ch)=some (.type "type")
 c3:PySem.W.subIn K (.ref Ch) (.type "BaseException")=some true
theorem ao4 (I:a5 X pins σ H1 s1)(fl:jV X.prog X.w X.stack H1 s1 H' B a C s')(hstk:X.stack=X.env::X.outer/\X.env.frame=some X.env.locals)(hg:Gl X x)(hm:X.mg x=some (.ref Ch))(ct:tX X.K Ch)(sub:PySem.W.subIn X.K (.ref C) (.ref Ch)=some true)(hN:X.N.Nodup)(hi:X.N[i]? = some n)(hl:X.env.scope.names.lookup n=some .local)(hs:cX (X.suite a) (b₀::suite) ts)(q:∀oe:Obj,oe.cls = .ref C->ts (tW D i) (σ.set i (some (.ref a))) (upd H' a (.frz oe (.own a))))(hd:(x==("__debug__":Str))=false) :
  wpAny (model X.prog X.w) X.A (noteFrame (.ref a) X.env) (λ_ s₂=>wpAny (model X.prog X.w) X.A (setFlight (.ref a) none) (λ_ s₃=>wpAny (model X.prog X.w) X.A (handleBy (.ref a) X.env (.ExceptHandler (some (.Name x np)) (some n) (b₀::suite) hpos::cH)) (SP X pins D) X.xe s₃) X.xe s₂) X.xe s':=by
 obtain⟨a0,fly⟩:=fl.fly
 rw[hstk.1]at fly
 refine wpAny_looks_onW (outer:=X.outer) (L:=X.env.locals) (by rw[I.ok.frames,hstk.1]) hstk.2 fly λh4 held up4=>wpAny_landsW held λh5 fly5 up5=>?_
 obtain⟨o5,v5,e5,c5,_⟩:=fly5.first
 have I5:=B3 I fl fly5.1 (up4.trans up5) e5
 refine wpAny_handleBy_cons (codeAny_handlers_test (lE (I5.suite a) hg hm ?_ hd)) (by intro z;cases z)
 refine ao3 I5.kIn e5 c5 ct.c1 ct.c2 ct.c3 sub ?_
 show codeAny (model X.prog X.w) (X.A.mark (some (.ref a))) (.handlers (.ref a) [.ExceptHandler none (some n) (b₀::suite) hpos] X.env) _ _
 refine codeAny_handlers_suite_as (lands_againW fly5 λh6 fly6 up6=>?_)
 obtain⟨o6,v6,e6,c6,_⟩:=fly6.first
 have I6:=B3 I fl fly6.1 ((up4.trans up5).trans up6) e6
 refine pX I6 hN hi (.inl hl) (v:=.ref a) rfl (λs7 I7=>?_) (.inr hl)
 refine aN1 (hs pins s7 _ _ (tW D i) (I7.suite a) (q o6 c6)) (λf s8 h8=>?_) λ_ _ z=>z.elim
 show wpAny (model X.prog X.w) X.A (do bindName X.env n .none;unbindBehindTheSuite X.env n hpos) (λ_ s9=>SP X pins D f s9) X.xe s8
 cases f with
 |next=>obtain⟨σ',H',J,q⟩:=h8;exact oX (J.unsuite I.ok) hN hi hl λs9 J9=>⟨_,_,J9,q⟩
 |brk=>obtain⟨σ',H',J,q⟩:=h8;exact oX (J.unsuite I.ok) hN hi hl λs9 J9=>⟨_,_,J9,q⟩
 |cont=>obtain⟨σ',H',J,q⟩:=h8;exact oX (J.unsuite I.ok) hN hi hl λs9 J9=>⟨_,_,J9,q⟩
 |ret u=>obtain⟨v,σ',H',J,r,q⟩:=h8;exact oX (J.unsuite I.ok) hN hi hl λs9 J9=>⟨v,_,_,J9,r,q⟩
end
noncomputable abbrev TB:=cI->XK->St->Hp->Prop
noncomputable def XB (X:Cx)(pins:List (Addr×Obj))(σ:St)(Ex:XK):Value->Shared->Prop:=λe s'=>∃H1 s1,a5 X pins σ H1 s1/\cE X.prog X.w X.stack H1 s1 Ex e s'
noncomputable def PB (X:Cx)(sts:List Stmt)(t:TB):Prop:=
 ∀(pins:List (Addr×Obj)) (s:Shared) (σ:St) (H:Hp) (D:cI) (Ex:XK),a5 X pins σ H s->t D Ex σ H->wpAny (model X.prog X.w) X.A (execs sts X.env) (SP X pins D) (XB X pins σ Ex) s
section
variable {X:Cx}{k:Nat}{f Ch:Addr}{fd:FuncData}{ps:List Str}{sp:Sp}{x n:Str}{p cp pos np hpos:Pos}{e c:Expr}{es:List Expr}{t:TA}{tb ub:TB}{tc:TT}{sa sb body:List Stmt}{i:Nat}{b₀:Stmt}{suite:List Stmt}{ts:TS}
noncomputable def B4 (K:ac)(Ch:Addr)(i:Nat)(tb:TB)(ts:TS):TS:=λD σ H=>
 tb D (λc _ H'=>∀(a C:Addr) (oe:Obj),c = .ref C->H' a=none->oe.cls = .ref C->PySem.W.subIn K (.ref C) (.ref Ch)=some true/\ts (tW D i) (σ.set i (some (.ref a))) (upd H' a (.frz oe (.own a)))) σ H
theorem ao5 (hstk:X.stack=X.env::X.outer/\X.env.frame=some X.env.locals)(hb:PB X body tb)(hg:Gl X x)(hm:X.mg x=some (.ref Ch))(ct:tX X.K Ch)(hN:X.N.Nodup)(hi:X.N[i]? = some n)(hl:X.env.scope.names.lookup n=some .local)(hs:∀a,cX (X.suite a) (b₀::suite) ts)(hd:(x==("__debug__":Str))=false:=by decide):PS X (.Try body [.ExceptHandler (some (.Name x np)) (some n) (b₀::suite) hpos] [] [] pos) (B4 X.K Ch i tb ts):=by
 intro pins s σ H D I h
 refine wpAny_Try_except (aN1 (hb pins s σ H D _ I h) (λfl s1 q=>?_) (λev s1 q=>?_))
 ·cases fl with
  |next=>exact wpAny_execs_nil q
  |_=>exact q
 ·obtain⟨H1,s2,I1,H',B,a,C,e1,fl,q⟩:=q
  subst e1
  obtain⟨a0,fly⟩:=fl.fly
  obtain⟨o5,_,_,c5,_⟩:=fly.first
  exact ao4 I1 fl hstk hg hm ct (q a C o5 rfl fl.fresh c5).1 hN hi hl (hs a) (λoe hc=>(q a C oe rfl fl.fresh hc).2) hd
end
end L2
namespace L2
open PySem PySem.Spec PyProof.Rows PySem.Calls Builtin Builtin.ObjectAttr Builtin.Getset_descriptor
structure gN (K:ac)(D:Addr):Prop where
 cls:(PySem.W.clsIn K D).isSome=true
 ga:PySem.W.findIn K (.ref D) "__getattribute__" = some (some (.builtin "BaseException.__getattribute__"))
 gt:PySem.W.findIn K (.ref D) "__getattr__" = some none
 fc:PySem.W.findIn K (.ref D) "__class__" = some (some (.builtin "object.__class__"))
 fg:PySem.W.specialIn K (.builtin "object.__class__") "__get__" = some (some (.builtin "getset_descriptor.__get__"))
 ft:PySem.W.takesIn K (.builtin "object.__class__")=some true
 ob:PySem.W.mroIn K D (.type "object")=some true
 be:PySem.W.mroIn K D (.type "BaseException")=some true
noncomputable def iY (h:Heap)(x D:Addr):Prop:=∃ox:Obj,h.get? x=some ox/\ox.cls = .ref D
theorem iY.type {h:Heap}{x D:Addr}{M:Model}(I:iY h x D):PySem.W.Looks M h (typeOf (.ref x)) (.ref D):=by
 obtain⟨ox,e,c⟩:=I
 exact c▸(PySem.W.Looks.ld e).andThen .now
section
variable {prog:Program}{w:World}{A:Around}{E:Value→Shared→Prop}{K:ac}{x D:Addr}{h:Heap}{g:Array GenState}{d:Drawn}{t:Nat}{os:OsState}
theorem ao6 {M:Model}(F:gN K D)(k:K.In h):PySem.W.Looks M h (find (.ref x) (.ref D) "__class__") (.bind (.builtin "getset_descriptor.__get__") (.builtin "object.__class__")):=by
 have L1:=PySem.W.looks_findIn (M:=M) k F.fc
 have L2:=PySem.W.looks_specialIn (M:=M) k F.fg
 have L3:=PySem.W.looks_takesIn (M:=M) k F.ft
 unfold find
 refine L1.andThen (PySem.W.Looks.andThen (a:=some (Value.builtin "getset_descriptor.__get__")) L2 ?_)
 refine PySem.W.Looks.andThen (a:=some (Value.builtin "getset_descriptor.__get__",Value.builtin "object.__class__")) ?_ (PySem.W.Looks.tag .now)
 unfold dataDescriptor?
 exact L3.andThen .now
theorem ao7 {tp:Value}{R:Result->Shared->Prop}(F:gN K D)(k:K.In h)(I:iY h x D)(hq:R (.ok (.ret (.ref D))) ⟨h,g,d,t,os⟩):codeAny (model prog w) A (.call (.builtin "getset_descriptor.__get__") ⟨[.builtin "object.__class__",.ref x,tp],[]⟩) R ⟨h,g,d,t,os⟩:=by
 have L0:=I.type (M:=model prog w)
 have L1:=PySem.W.looks_mroIn (M:=model prog w) k F.ob
 refine codeAny_call_builtin PySem.W.KF.slot_gs.plain PySem.W.KF.entry_gs (PySem.W.KF.slot_gs.check _ _ _ _ _ _ _ _ PySem.W.KF.type_class (PySem.W.KF.args_gs _ _ _) ?_)
 unfold Builtin.«getset_descriptor.__get__» descrGet;rw[PySem.W.dga_obj]
 refine aI2 (aI7 ?_);unfold descrGetter descrCheckInstance descrNameAndClass isInstance
 simp only[PySem.W.KF.owner_class]
 repeat lk
 refine⟨Code.quiet_builtin _ (by decide +kernel),codeAny_builtin PySem.W.KF.entry_class ?_⟩;unfold Builtin.«object.__class__» shownTypeOf
 repeat lk
 exact hq
theorem ao8 {M:Model}{nameV:Value}{Q:Unit->Shared->Prop}(F:gN K D)(k:K.In h)(I:iY h x D)(hq:Q () ⟨h,g,d,t,os⟩):wpAny M A (checkBuiltinCall "BaseException.__getattribute__" ⟨[.ref x,nameV],[]⟩) Q E ⟨h,g,d,t,os⟩:=by
 have kd:builtinKind "BaseException.__getattribute__" = some .slot:=by decide +kernel
 have sp:splitId "BaseException.__getattribute__" = some ("BaseException","__getattribute__"):=by decide +kernel
 have L:PySem.W.Looks M h (isInstance (.ref x) (.type "BaseException")) true:=(I.type (M:=M)).andThen (PySem.W.looks_mroIn k F.be)
 have ha:=PySem.F.args_bexc_ga (.ref x) nameV
 simp only[checkBuiltinCall,kd,sp]
 refine aI2 (L.at ?_)
 repeat (any_goals (first|assumption|wp_step))
theorem ao9 {tk:Tok}{Q:Fin->Shared->Prop}(F:gN K D)(k:K.In h)(I:iY h x D)(hq:Q (.done (.ret (.ref D))) ⟨h,g,d,t,os⟩):wpAny (model prog w) A (Builtin.«object.__getattribute__» ⟨[.ref x,.str "__class__" tk],[]⟩) Q E ⟨h,g,d,t,os⟩:=by
 have L0:=I.type (M:=model prog w)
 have L1:=ao6 (M:=model prog w) F k (x:=x)
 refine aI2 (aI7 (aI2 (aI7 (aI2 (L0.at (aI2 (L1.at ?_)))))))
 show wpAny _ _ (holding [_] (call _ _) >>= ret) _ _ _
 exact aI2 (aQ6 (wpAny_call (ao7 F k I (aI7 hq))))
theorem ap0 {tk:Tok}{R:Result->Shared->Prop}(F:gN K D)(k:K.In h)(I:iY h x D)(hq:R (.ok (.ret (.ref D))) ⟨h,g,d,t,os⟩):codeAny (model prog w) A (.call (.builtin "BaseException.__getattribute__") ⟨[.ref x,.str "__class__" tk],[]⟩) R ⟨h,g,d,t,os⟩:=
 codeAny_call_builtin PySem.F.excAttr_ValueError.ga.plain PySem.F.entry_bexc_ga (ao8 F k I (ao9 F k I hq))
theorem ap1 {Q:Option Value->Shared->Prop}(F:gN K D)(k:K.In h)(I:iY h x D)(hq:Q (some (.ref D)) ⟨h,g,d,t+1,os⟩):wpAny (model prog w) A (getAttr? (.ref x) "__class__") Q E ⟨h,g,d,t,os⟩:=by
 have L0:=I.type (M:=model prog w)
 have L1:=PySem.W.looks_findIn (M:=model prog w) k F.ga
 have L2:=PySem.W.looks_findIn (M:=model prog w) k F.gt
 have f3:=PySem.F.excAttr_ValueError.ga.bind (.ref x)
 unfold getAttr? getAttrBy? getAttrBy
 refine aI2 (wpAny_mkText (aI2 (wpAny_attempt (aQ6 (aI2 (L0.at (aI2 (L1.at ?_))))))))
 have nx:(onTheHeap (Value.ref D)&&Value.builtin "BaseException.__getattribute__"==Value.builtin "object.__getattribute__")=false:=by
  rw[show (Value.builtin "BaseException.__getattribute__"==Value.builtin "object.__getattribute__")=false by decide +kernel,Bool.and_false]
 dsimp only
 rw[if_neg (by rw[nx];decide)]
 unfold getAttrByItsOwn hookBefore
 repeat (any_goals (first|assumption|(with_reducible refine L2.at ?_)|wp_step))
 exact ap0 F k I (PySem.W.handed_on rfl (aI7 hq))
end
theorem ap2 {K:ac}{x D:Addr}(F:gN K D):PySem.W.KitX K (.ref x) (.ref D) (λh=>iY h x D) where
 ty:=λ_ _ _ I=>I.type
 it:=λM h k _=>by
  have z:=F.cls
  unfold PySem.W.clsIn at z
  split at z
  ·rename_i c' d' cd' sl' ho
   intro A' Q' E' s' kk q
   unfold isType loadHead
   exact aI2 (wpAny_loadPart (kk _ _ (k _ _ ho)) (aI7 q))
  ·cases z
 ne:=λh tp dd its n sl k htp=>by
  have z:=F.cls
  refine Bool.eq_false_iff.mpr λq=>?_
  obtain rfl:D=tp:=Value.ref.inj (beq_iff_eq.mp q)
  unfold PySem.W.clsIn at z
  split at z
  ·rename_i ho
   have y:=(k _ _ ho).symm.trans htp
   cases y
  ·cases z
 ca:=λ{_ _ _ _ _ s} k I q=>by
  obtain⟨h,g,d,t,os⟩:=s
  exact ap1 F k I q
end L2
namespace Raw
open PySem PySem.W PySem.Calls PyProof.Rows
theorem jX {α β:Type}(f:α->β):∀(j:Nat) (l:List α),(l.eraseIdx j).map f=(l.map f).eraseIdx j
 |_,[]=>rfl
 |0,_::_=>rfl
 |j+1,x::r=>by
  show f x::(r.eraseIdx j).map f=f x::(r.map f).eraseIdx j
  rw[jX f j r]
section
variable {prog:Program}{w:World}{K:Type}[DecidableEq K]{knd:HeapKind prog w K}{A:Around}{E:Value→Shared→Prop}{s:Shared}{d a:Addr}{k:K}{xs:List (K×Addr×Value)}
noncomputable def B5 (knd:HeapKind prog w K)(h:Heap)(d:Addr)(xs:List (K×Addr×Value))(j:Nat):Prop:=∃o es ep,h.get? d=some o/\o.ExactDict/\o.data = .dict es ep/\es.toList=(xs.eraseIdx j).map (entryOfKey knd)
theorem ap3 {Q:Option DictEntry->Shared->Prop}(hu:knd.room A)(hkey:knd.is s.heap k a)(hm:s.heap.DictOfH knd d xs)(hz:xs.length<=sizeLine)(is:∃(j:Nat) (p:Addr×Value),xs[j]? = some (k,p))(q:∀(j:Nat) (p:Addr×Value) h',xs[j]? = some (k,p)->B5 knd h' d xs j->Heap.SameBut d s.heap h'->Q (some (entryOfKey knd (k,p))) { s with heap:=h',toks:=s.toks+knd.draws k }):wpAny (model prog w) A (Builtin.Dict.takeOut d (.ref a)) Q E s:=by
 obtain⟨o,es,ep,e1,e2,e3,e4,e5,e6⟩:=hm
 obtain⟨j0,p0,h0⟩:=is
 unfold Builtin.Dict.takeOut
 try with_reducible refine aQ6 ?_
 apply aI2
 apply knd.pyHash hu hkey
 apply aI2
 refine wpAny_dictFind_heap (s:={ s with toks:=s.toks+knd.draws k }) hu hkey e1 e3 e4 e5 e6 (λno=>absurd h0 (no j0 p0)) λj p hj=>?_
 apply aI2
 apply wpAny_dictEntries (s:={ s with toks:=s.toks+knd.draws k }) e1 e3
 rw[entry_at e4 j,hj]
 have sz:=size_of_entries e4
 apply aI2
 refine wpAny_updateDictKeys (hz:=by omega) (s:={ s with toks:=s.toks+knd.draws k }) e1 e3 (aI7 (q j p _ hj ⟨_,_,ep+1,aU7 _ e1 (Obj.isFreed_of_dict (Obj.data_mapDictKeys e3 _)),e2.mapDictKeys _,Obj.data_mapDictKeys e3 _,?_⟩ (Heap.SameBut.update ..)))
 rw[jX,<- e4]
 obtain⟨l⟩:=es
 simp
end
section
variable {prog:Program}{w:World}{K:Type}[DecidableEq K](knd:HeapKind prog w K)(d a:Addr)
theorem ap4:MeetsIn prog w (Builtin.«dict.pop» ⟨[.ref d,.ref a],[]⟩) (λA R s=>knd.room A.in1/\∃k xs,knd.is s.heap k a/\s.heap.DictOfH knd d xs/\xs.length<=sizeLine/\(∃(j:Nat) (p:Addr×Value),xs[j]? = some (k,p))/\
  ∀(j:Nat) (p:Addr×Value) h',xs[j]? = some (k,p)->B5 knd h' d xs j->Heap.SameBut d s.heap h'->R (.ok (.ret p.2)) { s with heap:=h',toks:=s.toks+knd.draws k }):=
 .of_wp λA R s h=>by
  obtain⟨hu,k,xs,hk,hm,hz,is,q⟩:=h
  obtain⟨o,es,ep,e1,e2,e3,e4,e5,e6⟩:=id hm
  have ne:es.isEmpty=false:=by
   obtain⟨j,p,hj⟩:=is
   have sz:=size_of_entries e4
   have:=(aK3.mp hj).1
   rw[Array.isEmpty_eq_false_iff,ne_eq,<- Array.size_eq_zero_iff]
   omega
  unfold Builtin.«dict.pop»
  apply aI2
  unfold Builtin.Dict.keyAndDefault
  apply aI2
  apply wpAny_notOrdered_dict hm.typeIs
  change wpAny _ _ (pure (d,Value.ref a,none)) _ _ s
  apply aI7
  have kp:(keyPart (Value.ref a)).isSome=false:=rfl
  simp only[kp,aL2,aQ2]
  refine aI2 (wpAny_dictEntries e1 e3 (aI2 (aI7 ?_)))
  simp only[ne,aL2,aQ2]
  apply aI2
  refine ap3 hu hk hm hz is λj p h' hj c sb=>?_
  simp only[Option.isNone_some,aL2,aQ2]
  exact aI2 (wpAny_letGo (aI7 ⟨p.2,rfl,q j p h' hj c sb⟩))
end
end Raw
namespace L2
open PySem PySem.Spec PyProof.Rows
theorem Paired.erase {α β:Type}{F:α->β->Prop}:∀(j:Nat) {l:List α}{m:List β},Paired F l m->Paired F (l.eraseIdx j) (m.eraseIdx j)
 |_,_,_,.nil=>.nil
 |0,_,_,.cons _ t=>t
 |j+1,_,_,.cons r t=>.cons r (Paired.erase j t)
theorem B6 {α β:Type}{F:α->β->Prop}:∀{l:List α}{m:List β}{i:Nat}{y:β},Paired F l m->m[i]? = some y->∃x,l[i]? = some x/\F x y
 |_,_,_,_,.nil,e=>by simp at e
 |_,_,0,_,.cons r _,e=>by simp at e;subst e;exact⟨_,rfl,r⟩
 |_,_,i+1,y,.cons _ t,e=>by
  rw[aN5]at e
  obtain⟨x,h1,h2⟩:=B6 t e
  exact⟨x,by rw[aN5];exact h1,h2⟩
theorem B7 {α β:Type}{F:α->β->Prop}:∀{l:List α}{m:List β}{i:Nat}{x:α},Paired F l m->l[i]? = some x->∃y,m[i]? = some y/\F x y
 |_,_,_,_,.nil,e=>by simp at e
 |_,_,0,_,.cons r _,e=>by simp at e;subst e;exact⟨_,rfl,r⟩
 |_,_,i+1,x,.cons _ t,e=>by
  rw[aN5]at e
  obtain⟨y,h1,h2⟩:=B7 t e
  exact⟨y,by rw[aN5];exact h1,h2⟩
section
variable {X:Cx}{pins:List (Addr×Obj)}{σ:St}{H:Hp}{s:Shared}{a b:Addr}{kvs:List (List aH×V)}{k:List aH}{A:Around}{E:Value→Shared→Prop}
theorem ap5 {Q:Value->Shared->Prop}(hu:A.units+1<cLine)(I:a5 X pins σ H s)(e:H a=some (.dT kvs))(eb:H b=some (.tup (k.map kV)))(is:∃j:Nat,(kvs.map (·.1))[j]? = some k)(h:∀(j:Nat) v w' s',(kvs.map (·.1))[j]? = some k->a5 X pins σ (upd H a (.dT (kvs.eraseIdx j))) s'->aQ v w'->Q w' s'):wpAny (model X.prog X.w) A (call (.builtin "dict.pop") [.ref a,.ref b]) Q E s:=by
 obtain⟨z,hd,xs,rel,dd⟩:=xD I.hok e
 have hz:xs.length<=sizeLine:=by rw[<- Paired.length rel];exact z
 refine call_meetsIn PySem.F.slot_dict_pop dd.typeIs PySem.F.entry_dict_pop (PySem.F.args_dict_pop_2 _ _) (Raw.ap4 (tupleKind (dQ X.prog X.w)) a b) ⟨tupleKind_room_in1 hu,k,xs,nK I.hok eb,dd,hz,?_,λj p h' hj c sb=>?_⟩
 ·obtain⟨j,hj⟩:=is
  rw[aJ9]at hj
  cases ej:kvs[j]? with
  |none=>rw[ej]at hj;cases hj
  |some kv=>
   rw[ej]at hj
   cases hj
   obtain⟨y,hy,r⟩:=B7 rel ej
   exact⟨j,y.2,by rw[hy];exact congrArg some (Prod.ext r.1.symm rfl)⟩
 ·obtain⟨kv,hkv,r⟩:=B6 rel hj
  obtain⟨o,es,ep,h1,h2,h3,h4⟩:=c
  have nd:((xs.eraseIdx j).map (·.1)).Nodup:=by
   obtain⟨_,_,_,_,_,_,_,_,nd⟩:=dd
   exact nd.sublist ((List.eraseIdx_sublist xs j).map _)
  refine h j kv.2 p.2 _ (by rw[aJ9,hkv];exact congrArg some r.1) ?_ r.2.2
  refine rF I (by rw[e];exact aW4) sb ⟨o,h1⟩ ⟨aN2 (List.length_eraseIdx_le kvs j) z,hd,_,KT.keeps (Paired.erase j rel) λc ys ec=>?_,o,es,ep,h1,h2,h3,h4,nd⟩
  rw[aN (v8 ec e (λz=>nomatch z))]
  exact ec
end
section
variable {X:Cx}{o e:Expr}{apos cpos:Pos}{td ty:TE}
noncomputable def B8 (td ty:TE):TE:=λσ H Q=>td σ H λx H1=>∃a,x = .ref a/\xH H1 a/\ty σ H1 λy H2=>∃kvs k b,H2 a=some (.dT kvs)/\y = .ref b/\H2 b=some (.tup (k.map kV))/\(∃j:Nat,(kvs.map (·.1))[j]? = some k)/\∀(j:Nat) v,(kvs.map (·.1))[j]? = some k->Q v (upd H2 a (.dT (kvs.eraseIdx j)))
theorem ap6 (hu:X.A.units+1<cLine)(ho:PE X o td)(he:PE X e ty)(m:M1 X o "pop" apos e cpos):PE X (.Call (.Attribute o "pop" apos) [e] [] cpos) (B8 td ty):=by
 intro pins s σ H Q I h
 refine wpAny_Call_method m.base m.few m.line PySem.F.plainAttrs_dict PySem.F.slot_dict_pop PySem.F.type_dict_pop (aJ (ho pins s σ H _ I h) λu s1 h1=>?_)
 obtain⟨x,H1,I1,rx,a,ex,d,q1⟩:=h1
 subst ex
 obtain rfl:u=Value.ref a:=rx
 obtain⟨t1,t2,_⟩:=aa5 I1 d
 refine⟨t1,t2,?_⟩
 rw[m.trees]
 refine Calls.callWith_builtin rfl (Calls.evalArgs_plain (Calls.spliced_cons (aJ (he pins s1 σ H1 _ I1 q1) λiv s2 h2=>Calls.spliced_nil ?_)))
 obtain⟨y,H2,I2,ry,kvs,k,b,ea,ey,eb,is,q2⟩:=h2
 subst ey
 obtain rfl:iv=Value.ref b:=ry
 exact ap5 hu I2 ea eb is λj v w' s3 hj I3 rw'=>⟨v,_,I3,rw',q2 j v hj⟩
end
end L2
namespace Core
open PySem L2 PP
noncomputable def ap7 (ns:ae):Bool:=((ns.zip (ns.drop 1)).map λp=>decide (p.1<p.2)).all id
noncomputable def kin (ws:ae)(ls:aa)(S:ae)(h:Int):Bool:=!decide (h∈S)&&decide (ws.getD h.toNat 0<=(((bN ls h).filter λx=>decide (x∈S)).length:Int))
noncomputable def nextOf (ws:ae)(ls:aa)(S:ae):ae:=((List.range ws.length).map λ(i:Nat)=>(i:Int)).filter (kin ws ls S)
noncomputable def mM (ws:ae)(ls:aa)(S:ae):Nat->ae
 |0=>S
 |k+1=>mM ws ls S k++nextOf ws ls (mM ws ls S k)
theorem ap8 {ws:ae}{ls:aa}{S:ae}{x:Int}(h:kin ws ls S x=true):decide (x∈S)=false:=by
 unfold kin at h
 cases e:decide (x∈S) with
 |false=>rfl
 |true=>rw[e]at h;cases h
noncomputable def after (ws:ae)(ls:aa)(S:ae)(m:Nat):ad:=(List.range m).map λk=>nextOf ws ls (mM ws ls S k)
noncomputable def cI (ws:ae)(ls:aa)(ns:ae)(m:Nat):Prop:=(∀k<m,nextOf ws ls (mM ws ls ns k)≠[])/\nextOf ws ls (mM ws ls ns m) = []
theorem oY {ns:ae}{i:Nat}{x:PV}(h:(intz ns)[i]? = some x):∃n,x = .int n/\ns[i]? = some n:=by
 rw[aJ9]at h
 cases e:ns[i]? with
 |none=>rw[e]at h;cases h
 |some n=>rw[e]at h;exact⟨n,(aL1 h).symm,rfl⟩
theorem oZ {lo:Int}{n i:Nat}{x:PV}(h:(i4 lo n)[i]? = some x):x = .int (lo+i)/\i<n:=by
 have hi:i<n:=by
  have:=(aK3.mp h).1
  rwa [iO]at this
 rw[yP hi]at h
 exact⟨(aL1 h).symm,hi⟩
noncomputable def rng (n:Nat):ae:=(List.range n).map λ(i:Nat)=>(i:Int)
theorem ap9 {α:Type}{l:List α}{p:α->Bool}{i:Nat}{x:α}(h:l[i]? = some x):(l.take (i+1)).filter p=(l.take i).filter p++(if p x=true then [x] else []):=by
 rw[aO2,h,List.filter_append]
 congr 1
 cases e:p x<;>simp[e]
theorem mO (a b:ae):intz (a++b)=intz a++intz b:=aM9
theorem eS (a:ae):(intz a).length=a.length:=aJ2 _
noncomputable def bG (ws:ae)(ls:aa):PV:=.tup [.tup (intz ws),.tup (ls.map λl=>.tup [.int l.1,.int l.2])]
structure Wb (ws:ae)(ls:aa):Prop where
 few:ws.length<=40
 most:ls.length<=1700
 links:∀l∈ls,(0<=l.1/\l.1<ws.length)/\0<=l.2/\l.2<ws.length
noncomputable def gD (x:PV)(ns:ae):Prop:=x = .tup (intz ns)∨x = .lst (intz ns)
theorem gD.seq {x:PV}{ns:ae}(h:gD x ns):hZ x=some (intz ns):=by rcases h with rfl|rfl<;>rfl
theorem gD.seqT {x:PV}{ns:ae}(h:gD x ns):seqT x=some (intz ns):=by rcases h with rfl|rfl<;>rfl
theorem dE:∀(ls:aa),flats (ls.map λl=>PV.tup [.int l.1,.int l.2])=true
 |[]=>rfl
 |l::r=>by
  show (flat (.tup [.int l.1,.int l.2])&&flats (r.map λl=>PV.tup [.int l.1,.int l.2]))=true
  rw[dE r];rfl
theorem mP (ws:ae)(ls:aa):flat (bG ws ls)=true:=by
 show flats [.tup (intz ws),.tup (ls.map λl=>PV.tup [.int l.1,.int l.2])]=true
 show (flat (.tup (intz ws))&&(flat (.tup (ls.map λl=>PV.tup [.int l.1,.int l.2]))&&true))=true
 show (flats (intz ws)&&(flats (ls.map λl=>PV.tup [.int l.1,.int l.2])&&true))=true
 rw[eI,dE];rfl
noncomputable abbrev dP (t:aR)(N:List Str)(p:c8):Prop:=∀xs Q,p xs Q->t { nx:=λ_=>Q .non,rt:=Q } (dN N xs)
noncomputable def inB (n:Nat)(x:Int):Bool:=decide (0<=x)&&decide (x<(n:Int))
theorem aq0 {x:PV}{ns:ae}(h:gD x ns):(Slot.sh (flat x) x).tag = .rd->flat x=true:=by
 cases flat x<;>intro z<;>cases z
theorem gD.noscr {x:PV}{ns:ae}(h:gD x ns):∀ms,([x]:List PV)≠[.scr ms]:=by
 rcases h with rfl|rfl<;>intro ms z<;>cases z
structure DS (ps:List (aH×PV))(S:ae):Prop where
 has:∀i:Int,(eQ ps (Sum.inl i:aH)).isSome=decide (i∈S)
 len:ps.length<=S.length
 fl:flats (ps.map (·.2))=true
section
variable {κ:Type}[DecidableEq κ]
theorem aq1 {p:κ×PV}{r:List (κ×PV)}{k:κ}(e:p.1=k):eQ (p::r) k=some p.2:=by simp[eQ,aR0,e]
theorem aq2 {p:κ×PV}{r:List (κ×PV)}{k:κ}(e:¬p.1=k):eQ (p::r) k=eQ r k:=by simp[eQ,aR0,e]
theorem B9 (k:κ):∀kvs:List (κ×PV),(kvs.any λkv=>decide (kv.1=k))=(eQ kvs k).isSome
 |[]=>rfl
 |p::r=>by
  rw[List.any_cons]
  by_cases e:p.1=k
  ·simp only[aq1 e,aJ5 e,Bool.true_or,Option.isSome_some]
  ·rw[aq2 e,aJ1 e,Bool.false_or];exact B9 k r
theorem aq3 (kvs:List (κ×PV))(k:κ)(v:PV):(dS kvs k v).length<=kvs.length+1:=by
 unfold dS
 split
 ·rw[aJ2];omega
 ·rw[aL5,aM0,List.length_nil];omega
end
theorem C0:∀(xs:List PV),flats xs=true↔∀x∈xs,flat x=true
 |[]=>by simp[flats]
 |x::r=>by
  unfold flats
  rw[aN8,C0 r];simp
theorem aq4 {κ:Type}[DecidableEq κ]{ps:List (κ×PV)}{k:κ}{v:PV}{p:κ×PV}(h:p∈dS ps k v):p.2=v∨p∈ps:=by
 unfold dS at h
 split at h
 ·obtain⟨q,hq,e⟩:=aR1.mp h
  split at e
  ·subst e;exact .inl rfl
  ·subst e;exact .inr hq
 ·rcases aP6.mp h with h|h
  ·exact .inr h
  ·rw[aJ7.mp h];exact .inl rfl
theorem aq5 {κ:Type}[DecidableEq κ]{ps:List (κ×PV)}{k:κ}{v:PV}(h:flats (ps.map (·.2))=true)(hv:flat v=true):flats ((dS ps k v).map (·.2))=true:=by
 rw[C0]at h ⊢
 intro x hx
 obtain⟨p,hp,rfl⟩:=aR1.mp hx
 rcases aq4 hp with e|e
 ·rw[e];exact hv
 ·exact h _ (aR1.mpr ⟨p,e,rfl⟩)
noncomputable def iC (n:Nat)(ls:aa):List PV:=(List.range n).map λ(k:Nat)=>PV.lst (intz (bN ls k))
noncomputable def tY:c8:=λxs Q=>∃ws ls,xs = [bG ws ls]/\Wb ws ls/\Q (.lst (iC ws.length ls))
theorem aq6 {ws:ae}{h:Int}(h0:0<=h)(h1:h<(ws.length:Int)):atI (intz ws) h=some (.int (ws.getD h.toNat 0)):=by
 refine rW h0 ?_
 have:h.toNat<ws.length:=by omega
 rw[aJ9,aL7,aI8 this];rfl
noncomputable def tups (rs:ad):List PV:=rs.map λr=>PV.tup (intz r)
end Core
namespace PP
open PySem L2
noncomputable def tZ:List PV->(PV->Prop)->Prop:=λxs Q=>∃ps:List (List aH×PV),xs = [.dT ps]/\Q (.lst (ps.map λp=>PV.tup (p.1.map kP)))
end PP
namespace Core
open PySem L2 PP
theorem aq7 (g:Tg)(n:Int):Nw g (.int n):=by cases g<;>first|exact trivial|rfl
noncomputable def fG (x:PV)(ns:ae):Prop:=x = .scr ns∨x = .lst (intz ns)
theorem fG.seq {x:PV}{ns:ae}(h:fG x ns):hZ x=some (intz ns):=by rcases h with rfl|rfl<;>rfl
theorem fG.len {x:PV}{ns:ae}(h:fG x ns):sL x=some ns.length:=by
 rcases h with rfl|rfl
 ·rfl
 ·show some (intz ns).length=_
  rw[eS]
noncomputable def kY:c8:=λxs Q=>∃x ns k,xs = [x,.int k]/\fG x ns/\0<=k/\Q (.int (ns.getD k.toNat 0))
noncomputable def C1:aR:=(aP (bS (aU (m6 (a6 1) (aM eO (a7 (a6 0) aB)))) (bJ (cT (a6 0) (a6 1))) bX)
 (bJ (qC (.int 0))))
theorem aq8:dP C1 ["script","k"] kY:=by
 rintro xs Q ⟨x,ns,k,rfl,hx,h0,q⟩
 refine⟨_,rfl,_,rfl,_,_,rfl,hx.len,_,_,rfl,rfl,_,rfl,?_⟩
 by_cases h:k<(ns.length:Int)
 ·rw[aJ5 h]
  exact b8 ⟨_,rfl,_,rfl,_,_,_,hx.seq,rfl,aq6 h0 h,aq7 _ _,q⟩
 ·rw[aJ1 h]
  rw[aL7,List.getElem?_eq_none (by omega)]at q
  exact aW ⟨trivial,q⟩
noncomputable def a9 (ls:aa):List PV:=ls.map λl=>PV.tup [.int l.1,.int l.2]
theorem fH (ls:aa):(a9 ls).length=ls.length:=aJ2 _
noncomputable def eB (l m:Int×Int):Prop:=l.1<m.1∨(l.1=m.1/\l.2<m.2)
noncomputable abbrev si (n:Int):Option Slot:=some (.sh true (.int n))
noncomputable def kZ:c8:=λxs Q=>∃i,xs = [.int i]/\Q (.bl true)
noncomputable def C2 (K:ac):aR:=(bJ (nX (fC K "int" (a6 0)) (sE (fC K "bool" (a6 0)))))
theorem gD.len {x:PV}{ns:ae}(h:gD x ns):sL x=some ns.length:=by
 rcases h with rfl|rfl<;>(show some (intz ns).length=_;rw[eS])
theorem aq9 {K:ac}(k1:PySem.W.kitOne K (.type "int") (.type "int")=some true)(k2:PySem.W.kitOne K (.type "int") (.type "bool")=some false):dP (C2 K) ["found"] kZ:=by
 rintro xs Q ⟨i,rfl,q⟩
 exact⟨_,rfl,_,_,rfl,k1,_,rfl,b8 ⟨_,rfl,_,_,rfl,k2,_,rfl,trivial,q⟩⟩
theorem p5 {ls:aa}{i:Nat}{x:PV}(h:(a9 ls)[i]? = some x):∃l,x = .tup [.int l.1,.int l.2]/\ls[i]? = some l:=by
 unfold a9 at h
 rw[aJ9]at h
 cases e:ls[i]? with
 |none=>rw[e]at h;cases h
 |some n=>rw[e]at h;exact⟨n,(aL1 h).symm,rfl⟩
end Core
namespace PP
open PySem L2 PyProof.Rows
theorem Reps.rep {K:ac}{M:Addr->Prop}{H:Hp}{us:List V}{xs:List PV}(r:Reps K M H us xs):∀k:Nat,Reps K M H (List.replicate k us).flatten (List.replicate k xs).flatten
 |0=>.nil
 |k+1=>by rw[aP9,aP9,aT0,aT0];exact r.append (Reps.rep r k)
section
variable {X:Cx}{a b e:Expr}{ta tb te:aA}{tr:c7}{pos p2 p3 pos2:Pos}
theorem ar0:eM X tZ (λxs H Q=>∃a kvs,xs = [.ref a]/\H a=some (.dT kvs)/\∀l ys,H l=none->Paired (nR H) ys (kvs.map (·.1))->Q (.ref l) (upd H l (.lst ys))):=by
 rintro H vs xs Q Q' r ⟨ps,rfl,q⟩ k
 obtain⟨v,rfl,r1⟩:=r.one
 cases r1 with
 |@dT a kvs _ m h e r2=>
  refine⟨a,kvs,rfl,h,λl ys hl pr=>k _ _ _ (b7 hl _) (.lst hl bB ?_) q⟩
  have kv:∀(k:List aH),Reps X.K (λa=>H a=none) H (k.map kV) (k.map kP):=λk=>by
   induction k with
   |nil=>exact .nil
   |cons a r ih=>exact .cons (by cases a<;>constructor) ih
  have go:∀{ys:List V}{ks:List (List aH)},Paired (nR H) ys ks->Reps X.K (λa=>H a=none) H ys (ks.map λk=>PV.tup (k.map kP)):=λ{ys ks} pr=>by
   induction pr with
   |nil=>exact .nil
   |cons h t ih=>
    obtain⟨q,rfl,hq⟩:=h
    exact .cons (.tup hq (kv _)) ih
  have e2:(ps.map λp=>PV.tup (p.1.map kP))=(kvs.map (·.1)).map λk=>PV.tup (k.map kP):=by rw[e,List.map_map];rfl
  rw[e2]
  exact (go pr).same (b7 hl _) λ_ z=>z
theorem ar1 (B:Bt X.mg)(hc:X.calm=true)(ha:QA X [e] tr)(hg:Gl X "list":=by rfl)(he:starEach [e] X.env=(false,eval e X.env)::starEach [] X.env:=by rfl)(hpl:(backTo pos (starEach [] X.env)).any (·.1)=false:=by rfl):QE X (.Call (.Name "list" p2) [e] [] pos) (aM tZ tr):=
 t9 (ac5 hc) ar0 hg B.list PyProof.Rows.boot_list ha (he:=he) (hpl:=hpl)
noncomputable def u0:V->Int
 |.int i=>i
 |_=>0
noncomputable def jY (H:Hp):V->ae
 |.ref a=>match H a with
  |some (.tup us)=>us.map u0
  |_=>[]
 |_=>[]
theorem ar2 {H:Hp}{a:Addr}{ns:ae}(h:H a=some (.tup (ns.map V.int))):jY H (.ref a)=ns:=by
 show (match H a with|some (.tup us)=>us.map u0|_=>[])=ns
 rw[h]
 show (ns.map V.int).map u0=ns
 rw[List.map_map]
 exact List.map_id _
theorem C3 {K:ac}{M:Addr->Prop}{H:Hp}:∀{us:List V}{ys:ad},Reps K M H us (ys.map λr=>PV.tup (intz r))->us.map (jY H)=ys/\∀u∈us,∃b,u = .ref b/\H b=some (.tup ((jY H u).map V.int))
 |_,[],.nil=>⟨rfl,λu h=>nomatch h⟩
 |_,y::ys,.cons r t=>by
  obtain⟨a,us,rfl,h,r1⟩:=r.sqT
  obtain rfl:=r1.ofInts
  obtain⟨h1,h2⟩:=C3 t
  have hk:=ar2 h
  refine⟨by rw[aM5,h1,hk],λu hu=>?_⟩
  rcases aI5.mp hu with rfl|hu
  ·exact⟨a,rfl,by rw[hk];exact h⟩
  ·exact h2 u hu
theorem C4 {K:ac}{M:Addr->Prop}{H:Hp}:∀{us:List V},(∀u∈us,∃b,u = .ref b/\H b=some (.tup ((jY H u).map V.int)))->Reps K M H us ((us.map (jY H)).map λr=>PV.tup (intz r))
 |[],_=>.nil
 |u::us,h=>by
  obtain⟨b,rfl,hb⟩:=h u aK0
  exact .cons (.tup hb (Reps.intz _)) (C4 λv hv=>h v (aK2 _ hv))
end
noncomputable def C5:Sp:=λvs H Q _=>∃v ws ls,vs = [v]/\xW H v ws ls/\ws.length<=1000/\ls.length<=2000/\(∀l∈ls,(0<=l.1/\l.1<ws.length)/\0<=l.2/\l.2<ws.length)/\
 ∀(r:Addr) (bs:List Addr) (H':Hp),bs.length=ws.length->hU H H' r bs (λk=>bN ls k)->Q (.ref r) H'
section
variable {P:Program}{w:World}{K:ac}{mg:Str→Option Value}{base:Heap}{f:Addr}{fd:FuncData}{k:Nat}
theorem C6 {M:Addr->Prop}{H:Hp}:∀{us:List V}{ls:aa},Reps K M H us (ls.map λl=>PV.tup [.int l.1,.int l.2])->lS H us ls
 |_,[],.nil=>.nil
 |_,l::ls,.cons r t=>by
  obtain⟨a,us,rfl,h,r1⟩:=r.sqT
  obtain⟨u1,u2,rfl,q1,q2⟩:=r1.two
  cases q1;cases q2
  exact .cons ⟨a,rfl,h⟩ (C6 t)
theorem ar3 {M:Addr->Prop}{H:Hp}{v:V}{ws:ae}{ls:aa}(r:aF K M H v (Core.bG ws ls)):xW H v ws ls:=by
 obtain⟨a,us,rfl,h,r1⟩:=aF.sqT r
 obtain⟨u1,u2,rfl,q1,q2⟩:=r1.two
 obtain⟨p,up,rfl,hp,rp⟩:=q1.sqT
 obtain⟨q,uq,rfl,hq,rq⟩:=q2.sqT
 obtain rfl:=rp.ofInts
 exact⟨a,p,q,uq,rfl,h,hp,hq,C6 rq⟩
theorem C7 {M:Addr->Prop}{H:Hp}:∀{bs:List Addr}{ls:aa} (off:Nat),(∀b∈bs,M b)->(∀(k:Nat) b,bs[k]? = some b->H b=some (.lst ((bN ls ((off+k:Nat):Int)).map V.int)))->Reps K M H (bs.map V.ref) ((List.range' off bs.length).map λ(k:Nat)=>PV.lst (intz (bN ls k)))
 |[],_,_,_,_=>.nil
 |b::bs,ls,off,hm,h=>by
  refine .cons (.lst (hm b aK0) (h 0 b rfl) (Reps.intz _)) (C7 (off+1) (λc hc=>hm c (aK2 _ hc)) λk c hk=>?_)
  have:=h (k+1) c (by rw[aN5];exact hk)
  rw[show off+1+k=off+(k+1) by omega];exact this
theorem ar4 (F:cQ P w K mg base dH k f fd ["web"] C5)(b:gX K fd ["web"] [])(kp:PySem.W.keepIn K (.ref f)=true)(m:mg "near_lists" = some (.ref f)):Df P w K mg base k "near_lists" ["web"] Core.tY:=by
 refine⟨f,fd,F.imp λvs H Q E h=>?_,b,kp,m⟩
 obtain⟨xs,Qp,r,⟨ws,ls,rfl,wb,q⟩,k⟩:=h
 obtain⟨v,rfl,r1⟩:=r.one
 have:=wb.few
 have:=wb.most
 refine⟨v,ws,ls,rfl,ar3 r1,by omega,by omega,wb.links,λt bs H' hb R=>k _ H' _ R.same (.lst R.new R.row ?_) q⟩
 have:=C7 (K:=K) (M:=λa=>H a=none) (H:=H') (bs:=bs) (ls:=ls) 0 (λb hb=>(R.news b hb).1) λk b hk=>by rw[Nat.zero_add];exact R.rows k b hk
 rw[hb,<- List.range_eq_range']at this
 exact this
end
end PP
namespace Core
open PySem L2 PP
noncomputable def two (l:Int×Int):ae:=[l.1,l.2]
noncomputable def mQ (r:ae):Int×Int:=(r.getD 0 0,r.getD 1 0)
theorem jZ (ls:aa):a9 ls=(ls.map two).map λr=>PV.tup (intz r):=by
 unfold a9
 rw[List.map_map];rfl
theorem C8 {zs:ad}{ls:aa}(h:zs.Perm (ls.map two)):∃ls':aa,zs=ls'.map two/\ls'.Perm ls:=by
 refine⟨zs.map mQ,?_,?_⟩
 ·rw[List.map_map]
  have:∀z∈zs,(two ∘ mQ) z=z:=λz hz=>by
   obtain⟨l,_,rfl⟩:=aR1.mp (h.mem_iff.mp hz)
   rfl
  rw[List.map_congr_left this,List.map_id']
 ·have:=h.map mQ
  rw[List.map_map]at this
  have e:ls.map (mQ ∘ two)=ls:=by
   have:∀l∈ls,(mQ ∘ two) l=id l:=λl _=>rfl
   rw[List.map_congr_left this,List.map_id]
  rw[e]at this
  exact this
theorem C9 {ls:aa}(so:(ls.map two).Pairwise λu v=>HT.bZ v u=false)(nd:ls.Nodup):ls.Pairwise eB:=by
 rw[aV5]at so
 refine (List.pairwise_and_iff.mpr ⟨so,nd⟩).imp λ{a b} h=>?_
 obtain⟨h1,h2⟩:=h
 unfold two at h1
 rw[HT.iJ]at h1
 unfold eB
 by_cases e:b.1=a.1
 ·rw[if_pos e,HT.iJ]at h1
  by_cases e2:b.2=a.2
  ·exact absurd (Prod.ext e.symm e2.symm) h2
  ·rw[if_neg e2]at h1
   have:=of_decide_eq_false h1
   omega
 ·rw[if_neg e]at h1
  have:=of_decide_eq_false h1
  omega
noncomputable def eC (l:Int×Int):List aH:=[Sum.inl l.1,Sum.inl l.2]
structure DL (n:Int)(ps:List (List aH×PV))(i:Nat):Prop where
 key:∀p∈ps,∃l:Int×Int,p.1=eC l/\0<=l.1/\l.1<l.2/\l.2<n
 len:ps.length<=i
 fl:flats (ps.map (·.2))=true
 nd:(ps.map (·.1)).Nodup
theorem ar5 {κ:Type}[DecidableEq κ]{ps:List (κ×PV)}(k:κ)(v:PV)(h:(ps.map (·.1)).Nodup):((dS ps k v).map (·.1)).Nodup:=by
 unfold dS
 split
 ·rw[List.map_map]
  have:((λx:κ×PV=>x.1) ∘ λkv:κ×PV=>if kv.1=k then (kv.1,v) else kv)=λx=>x.1:=by
   funext x
   show (if x.1=k then (x.1,v) else x).1=x.1
   split<;>rfl
  rw[this];exact h
 ·rename_i hn
  rw[aM9]
  refine List.nodup_append.mpr ⟨h,aT2 _ _,λx hx y hy e=>hn ?_⟩
  obtain⟨p,hp,rfl⟩:=aR1.mp hx
  rw[aJ7.mp hy]at e
  exact List.any_eq_true.mpr ⟨p,hp,aJ5 e⟩
theorem ar6 {κ:Type}[DecidableEq κ]{ps:List (κ×PV)}{k:κ}{v:PV}{p:κ×PV}(h:p∈dS ps k v):p.1=k∨∃q∈ps,q.1=p.1:=by
 unfold dS at h
 split at h
 ·obtain⟨q,hq,e⟩:=aR1.mp h
  split at e
  ·subst e;exact .inr ⟨q,hq,rfl⟩
  ·subst e;exact .inr ⟨q,hq,rfl⟩
 ·rcases aP6.mp h with h|h
  ·exact .inr ⟨p,h,rfl⟩
  ·rw[aJ7.mp h];exact .inl rfl
theorem DL.put {n:Int}{ps:List (List aH×PV)}{i:Nat}(h:DL n ps i)(l:Int×Int)(hl:0<=l.1/\l.1<l.2/\l.2<n):DL n (dS ps (eC l) (.bl true)) (i+1):=by
 refine⟨λp hp=>?_,?_,aq5 h.fl rfl,ar5 _ _ h.nd⟩
 ·rcases ar6 hp with e|⟨q,hq,e⟩
  ·exact⟨l,e,hl⟩
  ·obtain⟨l',e',h'⟩:=h.key q hq
   exact⟨l',e▸e',h'⟩
 ·have:=aq3 ps (eC l) (.bl true)
  have:=h.len
  omega
theorem DL.links {n:Int}:∀{ps:List (List aH×PV)},(∀p∈ps,∃l:Int×Int,p.1=eC l/\0<=l.1/\l.1<l.2/\l.2<n)->∃ls:aa,(ps.map λp=>PV.tup (p.1.map kP))=a9 ls/\(∀l∈ls,0<=l.1/\l.1<l.2/\l.2<n)/\ls.length=ps.length/\ps.map (·.1)=ls.map eC
 |[],_=>⟨[],rfl,(λ_ h=>nomatch h),rfl,rfl⟩
 |p::ps,h=>by
  obtain⟨l,e,hl⟩:=h p aK0
  obtain⟨ls,h1,h2,h3,h4⟩:=DL.links (ps:=ps) λq hq=>h q (aK2 _ hq)
  refine⟨l::ls,?_,λm hm=>?_,by rw[aM0,aM0,h3],by rw[aM5,aM5,h4,e]⟩
  ·rw[aM5,h1,e];rfl
  ·rcases aI5.mp hm with rfl|hm
   ·exact hl
   ·exact h2 m hm
theorem ar7 {x:PV}{ns:ae}(h:fG x ns):(Slot.sh (flat x) x).tag = .rd->flat x=true:=by
 cases flat x<;>intro z<;>cases z
theorem ar8 (ns:ae){k:Int}(h:0<=k):cS (intz ns) (some k) none=intz (ns.drop k.toNat):=by
 unfold cS
 have e1:HT.aO (intz ns).length 0 (some k)=min k.toNat (intz ns).length:=by
  have:=HT.wJ (intz ns).length 0 k.toNat
  rw[show ((k.toNat:Nat):Int)=k by omega]at this
  exact this
 have e2:HT.aO (intz ns).length (intz ns).length none=(intz ns).length:=rfl
 rw[e1,e2,eS]
 rw[aL8 (by rw[aO8,eS];omega)]
 show _=List.map PV.int _
 rw[List.map_drop]
 by_cases hk:k.toNat<=ns.length
 ·rw[Nat.min_eq_left hk]
 ·rw[Nat.min_eq_right (by omega),List.drop_of_length_le (by rw[eS];omega),List.drop_of_length_le (by rw[eS];omega)]
noncomputable def E1:c8:=λxs Q=>∃ns:ae,xs = [.scr ns]/\ns.length<=63/\Q (.bl true)
structure ar9 (K:ac):Prop where
 ii:PySem.W.kitOne K (.type "int") (.type "int")=some true
 ib:PySem.W.kitOne K (.type "int") (.type "bool")=some false
 tt:PySem.W.kitOne K (.type "tuple") (.type "tuple")=some true
 ll:PySem.W.kitOne K (.type "list") (.type "list")=some true
 bb:PySem.W.kitOne K (.type "bool") (.type "bool")=some true
theorem p6 (K:ac):ar9 K:=by
 have same:∀n:String,PySem.W.kitMeta n=true->True:=λ_ _=>trivial
 refine⟨?_,?_,?_,?_,?_⟩
 ·unfold PySem.W.kitOne;rw[if_pos (by decide)]
 ·have e:(if PySem.W.kitMeta "bool" = true then (fastBuiltinMro "int").map (·.contains (Value.type "bool")) else none)=some false:=by decide +kernel
  unfold PySem.W.kitOne
  rw[if_neg (by decide)]
  exact e
 ·unfold PySem.W.kitOne;rw[if_pos (by decide)]
 ·unfold PySem.W.kitOne;rw[if_pos (by decide)]
 ·unfold PySem.W.kitOne;rw[if_pos (by decide)]
end Core
namespace PP
open PySem L2 PyProof.Rows
theorem as0 {P:Program}{w:World}{K:ac}{mg:Str->Option Value}{base:Heap}{k:Nat}{x:Str}{ps N:List Str}{p:c8}{st:Stmt}{f:Addr}{fd:FuncData}(F:dI K x x st f fd)(S:FnScope N ps (aT st))(len:∀xs Q,p xs Q->xs.length=ps.length)(body:∀(cdv:Value) (A:Around) (outer:List Env) (s:Shared) (H:Hp) (E:XK),bI k (A.deeper (envOfC x (aT st) s.heap.objs.size f cdv))->
   ∃t,dO (cA dH P w K mg base N x (aT st) f cdv A outer s H E).nox (cY st) t/\∀xs Q,p xs Q->t { nx:=λ_=>Q .non,rt:=Q } (dN N xs)):cQ P w K mg base dH (k+1) f fd ps (lZ K p):=by
 refine F.ok S (λvs H Q E h=>?_) (λcdv A outer s H vs Q E hr h=>?_)
 ·obtain⟨xs,Qp,r,q,_⟩:=h
  rw[r.length];exact len xs Qp q
 ·obtain⟨xs,Qp,r,q,k⟩:=h
  obtain⟨t,ht,hq⟩:=body cdv A outer s H E hr
  refine⟨_,ht,λ_=>False,dN N xs,_,oE r,hq xs Qp q,?_,?_,?_,?_⟩
  ·exact λW' σ' H' ρ' e px q=>k _ _ _ px.same .non q
  ·exact λv H' x s r q=>k _ _ _ s r q
  ·exact λW' σ' H' ρ' e px q=>q
  ·exact λW' σ' H' ρ' e px q=>q
noncomputable def p9 (K:ac):Sp:=λvs H Q _=>∃(a:Addr) (ns:ae),vs = [.ref a]/\hV K H a ns/\ns.length<=63/\∀H',Q (.bl true) H'
theorem as1 {P:Program}{w:World}{K:ac}{mg:Str->Option Value}{base:Heap}{k:Nat}{f:Addr}{fd:FuncData}(F:cQ P w K mg base dH k f fd ["script"] (lZ K Core.E1)):cQ P w K mg base dH k f fd ["script"] (p9 K):=
 F.imp λvs H Q E h=>by
  obtain⟨a,ns,rfl,hs,hl,q⟩:=h
  refine⟨[.scr ns],λz=>z = .bl true,.cons (.scr hs) .nil,⟨ns,rfl,hl,rfl⟩,?_⟩
  rintro v H' x _ r rfl
  cases r
  exact q H'
theorem as2 {K:ac}{H:Hp}{a:Addr}{ns:ae}(hO:nL H)(h:aL K H a (ns.map V.int)):hV K H a ns:=by
 rcases h with (h|⟨o,h⟩)|h
 ·rcases hO a with e|⟨o,xs,e⟩<;>(rw[h]at e;cases e)
 ·exact .inl ⟨o,h⟩
 ·exact .inr h
end PP
namespace PyProof.Rows
open PySem
end PyProof.Rows
namespace PP
open PySem L2 PyProof.Rows
section
variable {X:Cx}{a b e:Expr}{ta tb te:aA}{tr:c7}{pos p2:Pos}
noncomputable def E2:PV->Tg->PV->Tg->PK->Prop:=λx _ y _ Q=>∃xs ys,x = .lst xs/\y = .lst ys/\flats xs=true/\flats ys=true/\xs.length+ys.length<=16000000/\Q (.lst (xs++ys)) .fr
noncomputable abbrev pA (ta tb:aA):aA:=q2 E2 ta tb
theorem as3:dL X E2 x6:=by
 rintro W Hs H u v x y g g' Q Q' s n r1 r2 ⟨xs,ys,rfl,rfl,f1,f2,hl,q⟩ k
 obtain⟨a,us,rfl,_,h1,q1⟩:=r1.sqL
 obtain⟨b,ws,rfl,_,h2,q2⟩:=r2.sqL
 have l1:=q1.length
 have l2:=q2.length
 refine⟨a,b,us,ws,rfl,rfl,h1,h2,lim (by omega),λp hp=>k _ _ _ .fr (b7 hp _) (.lst (s.free hp) bB (((q1.flat f1).append (q2.flat f2)).same (b7 hp _) λ_ z=>z)) q⟩
theorem k6 (ha:QE X a ta)(hb:QE X b tb):QE X (.BinOp a .Add b pos) (pA ta tb):=iT Z3 as3 ha hb
end
end PP
namespace L2
open PySem PySem.Spec PyProof.Rows
noncomputable def u5 (K:ac)(a:Addr):It:=
  ⟨λi H=>∃xs x,aL K H a xs/\xs[i]? = some x,
   λi H v H'=>∃T x,H T=none/\v = .ref T/\H'=upd H T (.tup [.int i,x])/\∀xs,aL K H a xs->xs[i]? = some x,
   λi H=>∃xs,aL K H a xs/\xs.length<=i⟩
structure as4 (e it a:Addr)(i:Nat)(h:Heap):Prop where
 ee:∃old,IsEnum h e it i old
 s1:h.IsListIter it a i
theorem as5 {P:Program}{w:World}{K:ac}{elts:List Expr}{k:Nat}{pos:Pos}(a e it:Addr)(d:e≠it) :
  fM P w K (.Tuple elts k pos) (u5 K a) [e,it] e (as4 e it a):=by
 refine⟨by simp,λi h st c hc=>?_,λi h h' st kp=>?_,?_,?_,λA i s Q E st q=>?_⟩
 ·simp only[aI5,aJ6,aM1]at hc
  obtain⟨old,ee⟩:=st.ee
  obtain⟨o1,f1,g1,d1⟩:=st.s1
  rcases hc with rfl|rfl
  ·exact⟨_,ee,λv q=>by cases q⟩
  ·exact⟨_,f1,λv q=>by rw[d1]at q;cases q⟩
 ·obtain⟨old,ee⟩:=st.ee
  exact⟨⟨old,kp e (by simp) _ ee⟩,st.s1.at λo z=>kp it (by simp) o z⟩
 ·intro X hP hw hK hc i pins s σ H E I hf st hg
  subst hP hw hK
  obtain⟨xs,x,ha,hx⟩:=hg
  obtain⟨us,ru,pu,lu⟩:=I.list ha
  obtain⟨ux,eux,rux⟩:=ru.get hx
  obtain⟨old,ee⟩:=st.ee
  refine wpAny_pyNext_enum_item ee st.s1 pu.isList (by simpa using eux) d λh' eo it' pr sz kp=>⟨_,rfl,?_⟩
  refine wpAny_letOwnedTupleGo_enum (s:={ s with heap:=h',toks:=s.toks+1 }) eo λg zz sb=>?_
  have hzl:e<s.heap.objs.size:=aJ3 ee
  have up:∀c o,c≠e->c≠it->s.heap.get? c=some o->g.get? c=some o:=λc o c1 c2 z=>sb.extBut c o c1 (kp c o c1 c2 z)
  have hT:H s.heap.objs.size=none:=I.hok.fresh (aI6 _)
  have prG:g.get? s.heap.objs.size=some { cls:=.type "tuple",data:=.seq #[.int i s.toks,ux] }:=sb.extBut _ _ (aQ0 hzl) pr
  have fpn:∀c u,H c=some u->c∉[e,it]:=λc u z hm=>by rw[(hf c hm).1]at z;cases z
  have upH:∀c o u,H c=some u->s.heap.get? c=some o->g.get? c=some o:=λc o u q z=>by
   have:=fpn c u q
   simp only[aI5,aJ6,aM1,not_or]at this
   exact up c o this.1 this.2 z
  have ns:∀m,s.heap.Ns X.env.locals m->g.Ns X.env.locals m:=λm hm=>by
   obtain⟨o,es,ep,e1,e2⟩:=hm
   exact⟨o,es,ep,up _ o (Ne.symm (hf e (by simp)).2.1) (Ne.symm (hf it (by simp)).2.1) e1,e2⟩
  have I2:a5 X pins σ (upd H s.heap.objs.size (.tup [.int i,x])) { s with heap:=g,toks:=s.toks+1 }:=by
   refine I.step (g':=s.gens) (d':=s.drawn) (ch:=[e,it]) (λc hc'=>?_) (λc o _ _ hc' z _=>?_) (λc o _ _ hc' z _=>⟨o.slots,?_⟩) (λc o _ z n=>?_) (λc o hc' z=>⟨o,?_⟩)
    (λc zs z=>by rw[aN (cG z hT)];exact z) (λc u zs z=>by rw[aN (cG z hT)];exact z) (λc ps z=>⟨#[],by rw[aN (cG z hT),z];simp⟩) ns (λc u z=>?_) I.bare
   ·exact⟨(hf c hc').2.2.2.1,(hf c hc').2.1,(hf c hc').2.2.2.2.1,(hf c hc').2.2.2.2.2⟩
   ·simp only[aI5,aJ6,aM1,not_or]at hc'
    exact up c o hc'.1 hc'.2 z
   ·simp only[aI5,aJ6,aM1,not_or]at hc'
    exact up c o hc'.1 hc'.2 z
   ·rw[aN (aL4 (aJ3 z))];exact n
   ·simp only[aI5,aJ6,aM1,not_or]at hc'
    exact up c o hc'.1 hc'.2 z
   ·by_cases hcT:c=s.heap.objs.size
    ·subst hcT
     rw[bB]at z;cases z
     exact⟨by show 2<=sizeLine;decide,[.int i s.toks,ux],.cons ⟨_,rfl⟩ (.cons rux .nil),⟨_,prG,rfl,_,rfl⟩,λu e=>by rw[prG]at e;cases e;rfl⟩
    ·rw[aN hcT]at z
     refine (I.hok c u z).stay (λc' o' hc2 q'=>?_) (λc' q'=>by rw[aN (cG q' hT)];exact q') λc' zs q'=>by rw[aN (cG q' hT)];exact q'
     rcases hc2 with rfl|hc2
     ·exact upH _ _ _ z q'
     ·exact upH _ _ _ hc2 q'
  refine⟨.ref s.heap.objs.size,_,I2,rfl,⟨_,x,hT,rfl,rfl,λxs' ha'=>?_⟩,⟨⟨ux,by push_cast;exact zz⟩,it'.at λo z=>sb.extBut _ o (Ne.symm d) z⟩,λc hc'=>?_⟩
  ·rw[I.list_inj ha' ha];exact hx
  ·obtain⟨o,z⟩:∃o,s.heap.get? c=some o:=by
    simp only[aI5,aJ6,aM1]at hc'
    obtain⟨o1,f1,_⟩:=st.s1
    rcases hc' with rfl|rfl
    ·exact⟨_,ee⟩
    ·exact⟨_,f1⟩
   rw[aN (aL4 (aJ3 z))];exact (hf c hc').1
 ·intro X hP hw hK hc i pins s σ H E I hf st hg
  subst hP hw hK
  obtain⟨xs,ha,hi⟩:=hg
  obtain⟨us,ru,pu,lu⟩:=I.list ha
  obtain⟨old,ee⟩:=st.ee
  have hh:X.A.handled=none:=I.ok.hd hc
  have e1:=ru.length
  refine wpAny_pyNext_enum_end hh ee st.s1 pu.isList (by rw[Array.getElem?_eq_none];simp only[aI4];omega) λg kp=>⟨rfl,?_⟩
  have fpn:∀c u,H c=some u->c∉[e,it]:=λc u z hm=>by rw[(hf c hm).1]at z;cases z
  have upH:∀c o u,H c=some u->s.heap.get? c=some o->g.get? c=some o:=λc o u q z=>by
   have:=fpn c u q
   simp only[aI5,aJ6,aM1,not_or]at this
   exact kp c o this.2 z
  have ns:∀m,s.heap.Ns X.env.locals m->g.Ns X.env.locals m:=λm hm=>by
   obtain⟨o,es,ep,e1,e2⟩:=hm
   exact⟨o,es,ep,kp _ o (Ne.symm (hf it (by simp)).2.1) e1,e2⟩
  refine I.step (g':=s.gens) (d':=s.drawn) (ch:=[it]) (λc hc'=>?_) (λc o _ _ hc' z _=>?_) (λc o _ _ hc' z _=>⟨o.slots,?_⟩) (λc o _ z n=>n) (λc o hc' z=>⟨o,?_⟩)
   (λc zs z=>z) (λc u zs z=>z) (λc ps z=>⟨#[],by rw[z];simp⟩) ns (λc u z=>?_) I.bare
  ·have hm:c∈[e,it]:=aK2 _ hc'
   exact⟨(hf c hm).2.2.2.1,(hf c hm).2.1,(hf c hm).2.2.2.2.1,(hf c hm).2.2.2.2.2⟩
  ·exact kp c o (λy=>hc' (by rw[y];simp)) z
  ·exact kp c o (λy=>hc' (by rw[y];simp)) z
  ·exact kp c o (λy=>hc' (by rw[y];simp)) z
  ·refine (I.hok c u z).stay (λc' o' hc2 q'=>?_) (λ_ q'=>q') λ_ _ q'=>q'
   rcases hc2 with rfl|hc2
   ·exact upH _ _ _ z q'
   ·exact upH _ _ _ hc2 q'
 ·obtain⟨old,ee⟩:=st.ee
  exact wpAny_pyIter_enum ee q
end L2
namespace Zp
open PySem PyProof.Rows
section
variable {prog:Program}{w:World}{A:Around}{E:Value→Shared→Prop}{s:Shared}
theorem as6 {e it t:Addr}{i:Nat}{items:Array Value}{x old:Value}{Q:Option Value->Shared->Prop}(he:IsEnum s.heap e it i old)(hi:s.heap.IsTupleIter it t i)(ht:s.heap.IsTuple t items)(hx:items[i]? = some x)(ne:e≠it)(q:∀h',IsEnumOut h' e it ((i:Int)+1) x s.heap.objs.size->h'.IsTupleIter it t (i+1)->h'.get? s.heap.objs.size=some { cls:=.type "tuple",data:=.seq #[.int i s.toks,x] }->h'.objs.size=s.heap.objs.size+1->
   (∀b o,b≠e->b≠it->s.heap.get? b=some o->h'.get? b=some o)->Q (some (.ref s.heap.objs.size)) { s with heap:=h',toks:=s.toks+1 }):wpAny (model prog w) A (pyNext (.ref e)) Q E s:=by
 have T:s.TypeIs (.ref e) "enumerate":=⟨_,he,rfl⟩
 have slot:=PySem.F.slot_enumerate_next
 unfold pyNext
 apply aI2
 apply wpAny_attempt
 apply aN4 (name:=Str.ofString "__next__") T slot
 apply aO9 slot T PySem.F.entry_enumerate_next _ (PySem.F.args_enumerate_next_1 _)
 change wpAny _ _ (field (.ref e) 2 >>= _) _ _ _
 apply aI2
 refine aL9 he rfl (x:=.ref it) rfl ?_
 apply aI2
 refine xY hi ht hx λg1 it1 sb1=>?_
 have e1:IsEnum g1 e it i old:=sb1.extBut _ _ ne he
 change wpAny _ _ (field (.ref e) 3 >>= _) _ _ _
 apply aI2
 refine aL9 e1 rfl (x:=rawInt i) rfl ?_
 change wpAny _ _ (field (.ref e) 4 >>= _) _ _ _
 apply aI2
 refine aL9 e1 rfl (x:=.none) rfl ?_
 change wpAny _ _ (mkInt i >>= _) _ _ _
 apply aI2
 refine wpAny_mkInt ?_
 change wpAny _ _ (setField (.ref e) 3 (rawInt ((i:Int)+1)) >>= _) _ _ _
 apply aI2
 refine aO4 e1 (by simp) λg2 e2 sb2=>?_
 apply aI2
 refine aO4 e2 (by simp) λg3 e3 sb3=>?_
 have e3:IsEnum g3 e it ((i:Int)+1) old:=e3
 apply aI2
 refine wpAny_newTuple ?_ (by show 2<=sizeLine;decide)
 have e4:IsEnum (g3.push { cls:=.type "tuple",data:=.seq #[.int i s.toks,x] }) e it ((i:Int)+1) old:=aI3 _ e3
 have size:g3.objs.size=s.heap.objs.size:=by rw[sb3.1,sb2.1,sb1.1]
 change wpAny _ _ (Builtin.SmallTypes.ownedTupleIsFree (.ref e) >>= _) _ _ _
 apply aI2
 unfold Builtin.SmallTypes.ownedTupleIsFree
 apply aI2
 refine aL9 e4 rfl (x:=.none) rfl (aI7 ?_)
 simp only[if_true]
 apply aI2
 apply aV8
 apply aI2
 refine aL9 e4 rfl (x:=old) rfl ?_
 apply aI2
 refine aO4 e4 (by simp) λg5 e5 sb5=>?_
 apply aI2
 unfold Builtin.SmallTypes.ownedTupleHandOut
 apply aI2
 refine aO4 e5 (by simp) λg6 e6 sb6=>?_
 refine aO4 e6 (by simp) λg7 e7 sb7=>?_
 have e7:IsEnumOut g7 e it ((i:Int)+1) x g3.objs.size:=e7
 have elt:e<g3.objs.size:=aJ3 e3
 have up:∀c o,c≠e->(g3.push { cls:=.type "tuple",data:=.seq #[.int i s.toks,x] }).get? c=some o->g7.get? c=some o:=λc o c1 z=>sb7.extBut c o c1 (sb6.extBut c o c1 (sb5.extBut c o c1 z))
 have up3:∀c o,c≠e->g1.get? c=some o->g7.get? c=some o:=λc o c1 z=>up c o c1 (aI3 _ (sb3.extBut c o c1 (sb2.extBut c o c1 z)))
 have p7:g7.get? g3.objs.size=some { cls:=.type "tuple",data:=.seq #[.int i s.toks,x] }:=up _ _ (aQ0 elt) (aK1 _ rfl)
 have s7:g7.objs.size=g3.objs.size+1:=by rw[sb7.1,sb6.1,sb5.1,aQ5]
 apply aI2
 apply wpAny_letGo
 apply aI7
 rw[size]at e7 p7 s7
 refine⟨_,rfl,aI7 ?_⟩
 change Q (some (.ref g3.objs.size)) _
 rw[size]
 exact q g7 e7 (it1.at λo z=>up3 it o (Ne.symm ne) z) p7 s7 λb o b1 b2 z=>up3 b o b1 (sb1.extBut b o b2 z)
theorem as7 {e it t:Addr}{i:Nat}{items:Array Value}{old:Value}{Q:Option Value->Shared->Prop}(hh:A.handled=none)(he:IsEnum s.heap e it i old)(hi:s.heap.IsTupleIter it t i)(ht:s.heap.IsTuple t items)(hx:items[i]? = none)(q:∀h',Heap.ExtBut it s.heap h'->Q none { s with heap:=h' }):wpAny (model prog w) A (pyNext (.ref e)) Q E s:=by
 have T:s.TypeIs (.ref e) "enumerate":=⟨_,he,rfl⟩
 have slot:=PySem.F.slot_enumerate_next
 unfold pyNext
 apply aI2
 apply wpAny_attempt
 apply aN4 (name:=Str.ofString "__next__") T slot
 apply aO9 slot T PySem.F.entry_enumerate_next _ (PySem.F.args_enumerate_next_1 _)
 change wpAny _ _ (field (.ref e) 2 >>= _) _ _ _
 apply aI2
 refine aL9 he rfl (x:=.ref it) rfl ?_
 apply aI2
 refine xZ hh hi ht hx λg2 ex eb exo=>?_
 obtain⟨oe,eo,co⟩:=exo
 apply aI2
 refine wpAny_isInstance (T:="StopIteration") (b:=true) ⟨oe,eo,co⟩ isSubtype_stop ?_
 exact aI7 (q g2 eb)
theorem as8 {M:Model}{A:Around}{E:Value->Shared->Prop}{s:Shared}{α:Type}{c:Prop}[Decidable c]{m n:Sem α}{Q:α->Shared->Prop}(h1:wpAny M A m Q E s)(h2:wpAny M A n Q E s):wpAny M A (if c then m else n) Q E s:=by
 split
 ·exact h1
 ·exact h2
theorem as9 (t:Addr)(xs:Array Value):Meets (Builtin.«enumerate.__new__» ⟨[.type "enumerate",.ref t],[]⟩) (λ_ R s=>s.heap.IsTuple t xs/\R (.ok (.ret (.ref (s.heap.objs.size+1)))) { s with heap:=(s.heap.push { cls:=.type "tuple_iterator",data:=.fields #[.ref t,.int 0 0] }).push { cls:=.type "enumerate",data:=.fields #[.none,.bool false,.ref s.heap.objs.size,rawInt 0,.none,.none] } }):=
 .of_wp λprog w A R s h=>by
  obtain⟨hp,g,d,tk,os⟩:=s
  obtain⟨ht,h⟩:=h
  have sub:=sub_enumerate
  have a1:Heap.IsTuple (Shared.heap ⟨hp,g,d,tk,os⟩) t xs:=ht
  wp_walk using aS3 a1
  refine wpAny_stack_any λst=>aI7 ?_
  refine as8 ?_ ?_
  all_goals
   apply aI2
   refine wpAny_of_eq (a:=(Value.ref t,none)) rfl ?_
   wp_walk using aS3 a1
   have e:∀(o:Obj) (k:Heap),(k.push o).objs.size=k.objs.size+1:=λo k=>aQ5 ..
   refine⟨_,rfl,?_⟩
   simp only[e]at h ⊢
   exact h
theorem at0 {t:Addr}{xs:Array Value}{Q:Value->Shared->Prop}(ht:s.heap.IsTuple t xs)(q:∀h',IsEnum h' (s.heap.objs.size+1) s.heap.objs.size 0 .none->h'.IsTupleIter s.heap.objs.size t 0->h'.objs.size=s.heap.objs.size+2->(∀c o,s.heap.get? c=some o->h'.get? c=some o)->Q (.ref (s.heap.objs.size+1)) { s with heap:=h' }) :
  wpAny (model prog w) A (call (.type "enumerate") [.ref t]) Q E s:=by
 refine callType_new PySem.F.called_enumerate (by decide) (PySem.F.typeCall_enumerate_1 _) (PySem.F.newCall_enumerate_1 _) (λobj=>PySem.F.args_object_init_2 obj _) PySem.F.entry_enumerate_new (as9 t xs) ⟨ht,?_⟩
 have e:∀(o:Obj) (k:Heap),(k.push o).objs.size=k.objs.size+1:=λo k=>aQ5 ..
 have g0:((s.heap.push { cls:=.type "tuple_iterator",data:=.fields #[.ref t,.int 0 0] }).push { cls:=.type "enumerate",data:=.fields #[.none,.bool false,.ref s.heap.objs.size,rawInt 0,.none,.none] }).get? s.heap.objs.size=some { cls:=.type "tuple_iterator",data:=.fields #[.ref t,.int 0 0] }:=aI3 _ (aK1 _ rfl)
 have g1:((s.heap.push { cls:=.type "tuple_iterator",data:=.fields #[.ref t,.int 0 0] }).push { cls:=.type "enumerate",data:=.fields #[.none,.bool false,.ref s.heap.objs.size,rawInt 0,.none,.none] }).get? (s.heap.objs.size+1)=some { cls:=.type "enumerate",data:=.fields #[.none,.bool false,.ref s.heap.objs.size,rawInt 0,.none,.none] }:=by
  have:=aK1 (h:=s.heap.push { cls:=.type "tuple_iterator",data:=.fields #[.ref t,.int 0 0] }) (o:={ cls:=.type "enumerate",data:=.fields #[.none,.bool false,.ref s.heap.objs.size,rawInt 0,.none,.none] }) rfl
  rw[e]at this;exact this
 exact⟨⟨_,g1,rfl⟩,q _ g1 ⟨_,g0,rfl,rfl⟩ (by rw[e,e]) λc o z=>aI3 _ (aI3 _ z)⟩
end
end Zp
namespace L2
open PySem PySem.Spec PyProof.Rows
noncomputable def u6 (K:ac)(a:Addr):It:=
  ⟨λi H=>∃xs x,aI K H a xs/\xs[i]? = some x,
   λi H v H'=>∃T x,H T=none/\v = .ref T/\H'=upd H T (.tup [.int i,x])/\∀xs,aI K H a xs->xs[i]? = some x,
   λi H=>∃xs,aI K H a xs/\xs.length<=i⟩
structure at2 (e it a:Addr)(i:Nat)(h:Heap):Prop where
 ee:∃old,IsEnum h e it i old
 s1:h.IsTupleIter it a i
theorem at3 {P:Program}{w:World}{K:ac}{elts:List Expr}{k:Nat}{pos:Pos}(a e it:Addr)(d:e≠it) :
  fM P w K (.Tuple elts k pos) (u6 K a) [e,it] e (at2 e it a):=by
 refine⟨by simp,λi h st c hc=>?_,λi h h' st kp=>?_,?_,?_,λA i s Q E st q=>?_⟩
 ·simp only[aI5,aJ6,aM1]at hc
  obtain⟨old,ee⟩:=st.ee
  obtain⟨o1,f1,g1,d1⟩:=st.s1
  rcases hc with rfl|rfl
  ·exact⟨_,ee,λv q=>by cases q⟩
  ·exact⟨_,f1,λv q=>by rw[d1]at q;cases q⟩
 ·obtain⟨old,ee⟩:=st.ee
  exact⟨⟨old,kp e (by simp) _ ee⟩,st.s1.at λo z=>kp it (by simp) o z⟩
 ·intro X hP hw hK hc i pins s σ H E I hf st hg
  subst hP hw hK
  obtain⟨xs,x,ha,hx⟩:=hg
  obtain⟨us,ru,pu,lu⟩:=I.tuple ha
  obtain⟨ux,eux,rux⟩:=ru.get hx
  obtain⟨old,ee⟩:=st.ee
  refine Zp.as6 ee st.s1 pu (by simpa using eux) d λh' eo it' pr sz kp=>⟨_,rfl,?_⟩
  refine wpAny_letOwnedTupleGo_enum (s:={ s with heap:=h',toks:=s.toks+1 }) eo λg zz sb=>?_
  have hzl:e<s.heap.objs.size:=aJ3 ee
  have up:∀c o,c≠e->c≠it->s.heap.get? c=some o->g.get? c=some o:=λc o c1 c2 z=>sb.extBut c o c1 (kp c o c1 c2 z)
  have hT:H s.heap.objs.size=none:=I.hok.fresh (aI6 _)
  have prG:g.get? s.heap.objs.size=some { cls:=.type "tuple",data:=.seq #[.int i s.toks,ux] }:=sb.extBut _ _ (aQ0 hzl) pr
  have fpn:∀c u,H c=some u->c∉[e,it]:=λc u z hm=>by rw[(hf c hm).1]at z;cases z
  have upH:∀c o u,H c=some u->s.heap.get? c=some o->g.get? c=some o:=λc o u q z=>by
   have:=fpn c u q
   simp only[aI5,aJ6,aM1,not_or]at this
   exact up c o this.1 this.2 z
  have ns:∀m,s.heap.Ns X.env.locals m->g.Ns X.env.locals m:=λm hm=>by
   obtain⟨o,es,ep,e1,e2⟩:=hm
   exact⟨o,es,ep,up _ o (Ne.symm (hf e (by simp)).2.1) (Ne.symm (hf it (by simp)).2.1) e1,e2⟩
  have I2:a5 X pins σ (upd H s.heap.objs.size (.tup [.int i,x])) { s with heap:=g,toks:=s.toks+1 }:=by
   refine I.step (g':=s.gens) (d':=s.drawn) (ch:=[e,it]) (λc hc'=>?_) (λc o _ _ hc' z _=>?_) (λc o _ _ hc' z _=>⟨o.slots,?_⟩) (λc o _ z n=>?_) (λc o hc' z=>⟨o,?_⟩)
    (λc zs z=>by rw[aN (cG z hT)];exact z) (λc u zs z=>by rw[aN (cG z hT)];exact z) (λc ps z=>⟨#[],by rw[aN (cG z hT),z];simp⟩) ns (λc u z=>?_) I.bare
   ·exact⟨(hf c hc').2.2.2.1,(hf c hc').2.1,(hf c hc').2.2.2.2.1,(hf c hc').2.2.2.2.2⟩
   ·simp only[aI5,aJ6,aM1,not_or]at hc'
    exact up c o hc'.1 hc'.2 z
   ·simp only[aI5,aJ6,aM1,not_or]at hc'
    exact up c o hc'.1 hc'.2 z
   ·rw[aN (aL4 (aJ3 z))];exact n
   ·simp only[aI5,aJ6,aM1,not_or]at hc'
    exact up c o hc'.1 hc'.2 z
   ·by_cases hcT:c=s.heap.objs.size
    ·subst hcT
     rw[bB]at z;cases z
     exact⟨by show 2<=sizeLine;decide,[.int i s.toks,ux],.cons ⟨_,rfl⟩ (.cons rux .nil),⟨_,prG,rfl,_,rfl⟩,λu e=>by rw[prG]at e;cases e;rfl⟩
    ·rw[aN hcT]at z
     refine (I.hok c u z).stay (λc' o' hc2 q'=>?_) (λc' q'=>by rw[aN (cG q' hT)];exact q') λc' zs q'=>by rw[aN (cG q' hT)];exact q'
     rcases hc2 with rfl|hc2
     ·exact upH _ _ _ z q'
     ·exact upH _ _ _ hc2 q'
  refine⟨.ref s.heap.objs.size,_,I2,rfl,⟨_,x,hT,rfl,rfl,λxs' ha'=>?_⟩,⟨⟨ux,by push_cast;exact zz⟩,it'.at λo z=>sb.extBut _ o (Ne.symm d) z⟩,λc hc'=>?_⟩
  ·rw[I.tuple_inj ha' ha];exact hx
  ·obtain⟨o,z⟩:∃o,s.heap.get? c=some o:=by
    simp only[aI5,aJ6,aM1]at hc'
    obtain⟨o1,f1,_⟩:=st.s1
    rcases hc' with rfl|rfl
    ·exact⟨_,ee⟩
    ·exact⟨_,f1⟩
   rw[aN (aL4 (aJ3 z))];exact (hf c hc').1
 ·intro X hP hw hK hc i pins s σ H E I hf st hg
  subst hP hw hK
  obtain⟨xs,ha,hi⟩:=hg
  obtain⟨us,ru,pu,lu⟩:=I.tuple ha
  obtain⟨old,ee⟩:=st.ee
  have hh:X.A.handled=none:=I.ok.hd hc
  have e1:=ru.length
  refine Zp.as7 hh ee st.s1 pu (by rw[Array.getElem?_eq_none];simp only[aI4];omega) λg kp=>⟨rfl,?_⟩
  have fpn:∀c u,H c=some u->c∉[e,it]:=λc u z hm=>by rw[(hf c hm).1]at z;cases z
  have upH:∀c o u,H c=some u->s.heap.get? c=some o->g.get? c=some o:=λc o u q z=>by
   have:=fpn c u q
   simp only[aI5,aJ6,aM1,not_or]at this
   exact kp c o this.2 z
  have ns:∀m,s.heap.Ns X.env.locals m->g.Ns X.env.locals m:=λm hm=>by
   obtain⟨o,es,ep,e1,e2⟩:=hm
   exact⟨o,es,ep,kp _ o (Ne.symm (hf it (by simp)).2.1) e1,e2⟩
  refine I.step (g':=s.gens) (d':=s.drawn) (ch:=[it]) (λc hc'=>?_) (λc o _ _ hc' z _=>?_) (λc o _ _ hc' z _=>⟨o.slots,?_⟩) (λc o _ z n=>n) (λc o hc' z=>⟨o,?_⟩)
   (λc zs z=>z) (λc u zs z=>z) (λc ps z=>⟨#[],by rw[z];simp⟩) ns (λc u z=>?_) I.bare
  ·have hm:c∈[e,it]:=aK2 _ hc'
   exact⟨(hf c hm).2.2.2.1,(hf c hm).2.1,(hf c hm).2.2.2.2.1,(hf c hm).2.2.2.2.2⟩
  ·exact kp c o (λy=>hc' (by rw[y];simp)) z
  ·exact kp c o (λy=>hc' (by rw[y];simp)) z
  ·exact kp c o (λy=>hc' (by rw[y];simp)) z
  ·refine (I.hok c u z).stay (λc' o' hc2 q'=>?_) (λ_ q'=>q') λ_ _ q'=>q'
   rcases hc2 with rfl|hc2
   ·exact upH _ _ _ z q'
   ·exact upH _ _ _ hc2 q'
 ·obtain⟨old,ee⟩:=st.ee
  exact wpAny_pyIter_enum ee q
section
variable {X:Cx}
noncomputable def E3 (K:ac)(ta:TA):TI:=λσ H R=>ta σ H λvs H1=>∃a,vs = [.ref a]/\((∃xs,aL K H1 a xs/\R (u5 K a) H1)∨(∃xs,aI K H1 a xs/\R (u6 K a) H1))
theorem at4 {elts:List Expr}{kt:Nat}{pt:Pos}{a:Expr}{ta:TA}{p pos:Pos}(hg:Gl X "enumerate")(hm:X.mg "enumerate" = none)(ha:PA X [a] ta)(hs:starEach [a] X.env = [(false,eval a X.env)]:=by rfl) :
  PI X (.Tuple elts kt pt) (.Call (.Name "enumerate" p) [a] [] pos) (E3 X.K ta):=by
 intro pins s σ H R I h
 refine Call_ (j9 I hg hm PyProof.Rows.boot_enumerate (aR4 (aJ (ha pos pins s σ H _ I h) λus s1 ⟨vs,H1,I1,r1,q1⟩=>?_) (by rw[hs];rfl) (by rfl)))
 obtain⟨a',e,q⟩:=q1
 subst e
 have fresh:∀k,H1 (s1.heap.objs.size+k)=none:=λk=>I1.hok.fresh (aS5 _ _)
 cases r1 with
 |cons r rr=>
  cases rr
  cases r
  rcases q with⟨xs,h1,q⟩|⟨xs,h1,q⟩
  ·obtain⟨us,_,p1,_⟩:=I1.list h1
   refine call_enumerate_list p1.isList λh' z s1' sz kp=>wpAny_pyIter_enum z ?_
   refine⟨s1.heap.objs.size+1,[s1.heap.objs.size+1,s1.heap.objs.size],_,_,H1,rfl,I1.kept (t':=s1.toks) kp,
    as5 a' _ _ (Nat.succ_ne_self _),⟨⟨_,z⟩,s1'⟩,λc hc=>?_,q⟩
   simp only[aI5,aJ6,aM1]at hc
   rcases hc with rfl|rfl
   ·exact I1.fpOk (aS5 _ _) (fresh 1)
   ·exact I1.fpOk (aI6 _) (fresh 0)
  ·obtain⟨us,_,p1,_⟩:=I1.tuple h1
   refine Zp.at0 p1 λh' z s1' sz kp=>wpAny_pyIter_enum z ?_
   refine⟨s1.heap.objs.size+1,[s1.heap.objs.size+1,s1.heap.objs.size],_,_,H1,rfl,I1.kept (t':=s1.toks) kp,
    at3 a' _ _ (Nat.succ_ne_self _),⟨⟨_,z⟩,s1'⟩,λc hc=>?_,q⟩
   simp only[aI5,aJ6,aM1]at hc
   rcases hc with rfl|rfl
   ·exact I1.fpOk (aS5 _ _) (fresh 1)
   ·exact I1.fpOk (aI6 _) (fresh 0)
end
end L2
namespace PP
open PySem L2 PyProof.Rows
noncomputable def iD (xs:List PV):List PV:=xs.mapIdx λi x=>PV.tup [.int (i:Int),x]
theorem u7 (xs:List PV):(iD xs).length=xs.length:=by unfold iD;rw[List.length_mapIdx]
theorem E4 {xs:List PV}{i:Nat}{x:PV}(h:xs[i]? = some x):(iD xs)[i]? = some (.tup [.int (i:Int),x]):=by
 unfold iD;rw[List.getElem?_mapIdx,h];rfl
theorem at5 {xs:List PV}{i:Nat}{z:PV}(h:(iD xs)[i]? = some z):∃x,xs[i]? = some x/\z = .tup [.int (i:Int),x]:=by
 unfold iD at h
 rw[List.getElem?_mapIdx]at h
 cases e:xs[i]? with
 |none=>rw[e]at h;cases h
 |some x=>rw[e]at h;exact⟨x,rfl,(aL1 h).symm⟩
noncomputable def u8 (te:aA):dB:=λρ Q=>te ρ λx g=>∃xs,(x = .lst xs∨x = .tup xs)/\(g = .rd->flat x=true)/\Q (iD xs) (sQ g xs)
theorem at6 {K:ac}{H0:Hp}{W:Addr->Prop}{g:Bool}{H1:Hp}{a:Addr}{us:List V}{xs:List PV}(tw:∀a,W a->∃o,H1 a=some o/\dJ o=true)(ha:∀W' H',Ev W H1 W' H'->aL K H' a us)(r:Reps K (Ms H0 W g) H1 us xs):iN K H0 W g H1 (u5 K a) (iD xs):=by
 have lr:=r.length
 have ll:=u7 xs
 refine⟨λW' H' i e hi=>⟨us,us[i]'(by omega),ha W' H' e,by simp⟩,λW' H' i v H2 e y hi=>?_,λW' H' e=>⟨us,ha W' H' e,by omega⟩⟩
 obtain⟨T,x,hT,rfl,rfl,y⟩:=y
 obtain⟨z,hz,rz⟩:=r.get (y us (ha W' _ e))
 have sm:=b7 hT (HO.tup [.int (i:Int),x])
 exact⟨sm,_,E4 hz,.tup bB (.cons (.int _) (.cons ((rz.keep (e.keep tw)).same sm λ_ q=>q) .nil))⟩
theorem at7 {K:ac}{H0:Hp}{W:Addr->Prop}{g:Bool}{H1:Hp}{a:Addr}{us:List V}{xs:List PV}(tw:∀a,W a->∃o,H1 a=some o/\dJ o=true)(ha:∀W' H',Ev W H1 W' H'->aI K H' a us)(r:Reps K (Ms H0 W g) H1 us xs):iN K H0 W g H1 (u6 K a) (iD xs):=by
 have lr:=r.length
 have ll:=u7 xs
 refine⟨λW' H' i e hi=>⟨us,us[i]'(by omega),ha W' H' e,by simp⟩,λW' H' i v H2 e y hi=>?_,λW' H' e=>⟨us,ha W' H' e,by omega⟩⟩
 obtain⟨T,x,hT,rfl,rfl,y⟩:=y
 obtain⟨z,hz,rz⟩:=r.get (y us (ha W' _ e))
 have sm:=b7 hT (HO.tup [.int (i:Int),x])
 exact⟨sm,_,E4 hz,.tup bB (.cons (.int _) (.cons ((rz.keep (e.keep tw)).same sm λ_ q=>q) .nil))⟩
section
variable {X:Cx}{σ:L2.St}{H:Hp}{te:aA}{R:It→Hp→Prop}
theorem at8 (h:LI X (u8 te) σ H R):E3 X.K (gW (LE X te) jB) σ H R:=by
 obtain⟨W,ρ,Q,px,q,k⟩:=h
 refine⟨W,ρ,_,px,q,?_⟩
 rintro v H1 x g s r ⟨xs,hx,hg,q⟩
 have px1:=px.mono s
 have tw:∀a,W a->∃o,H1 a=some o/\dJ o=true:=λa z=>(px1.wm a z).2
 rcases hx with rfl|rfl
 ·obtain⟨a,us,rfl,m,h,r⟩:=r.sqL
  have wa:¬W a:=by
   cases g with
   |fr=>exact (px.new m).1
   |nw=>exact m.1
   |sh=>exact m
   |rd=>have:=hg rfl;unfold flat at this;cases this
  exact⟨a,rfl,.inl ⟨us,aL.of h,k _ _ _ _ s (at6 tw (λW' H' e=>aL.of (e _ _ h wa rfl).1) (jH px (λz=>by have:=hg z;unfold flat at this;cases this) r)) q⟩⟩
 ·obtain⟨a,us,rfl,h,r⟩:=r.sqT
  refine⟨a,rfl,.inr ⟨us,aI.of h,k _ _ _ _ s (at7 tw (λW' H' e=>aI.of (e _ _ h (λz=>?_) rfl).1) (jH px (λz=>by have:=hg z;unfold flat at this;exact this) r)) q⟩⟩
  obtain⟨o,h',mu⟩:=tw _ z;rw[h]at h';cases h';cases mu
theorem at9 {elts:List Expr}{kt:Nat}{pt p2 pos:Pos}{a:Expr}{ta:aA}(hg:Gl X "enumerate")(hm:X.mg "enumerate" = none)(ha:QE X a ta)(hs:starEach [a] X.env = [(false,eval a X.env)]:=by rfl):QI X (.Tuple elts kt pt) (.Call (.Name "enumerate" p2) [a] [] pos) (u8 ta):=
 m8 (at4 hg hm (dZ ha fN hs) hs) λ_ _ _=>at8
end
section
variable {X:Cx}{e:Expr}{te:aA}{pos p2:Pos}{scope:Scope}{N:List Str}{fr:List (Option Nat)}{x y:Str}{tp xp yp:Pos}{kt:Nat}{iter elt:Expr}{ti:dB}
noncomputable abbrev u9 (x y:Str)(xp yp:Pos)(kt:Nat)(tp:Pos):Expr:=.Tuple [.Name x xp,.Name y yp] kt tp
theorem au0 {ifs:List Expr}{tcs:bW}(hc:X.calm=true)(he:∀(s:Shared) (H:Hp) (C:Addr) (fp:List Addr),QE (aX X scope N s H C fp bP) elt te)(hi:∀(s:Shared) (H:Hp) (C:Addr) (fp:List Addr),fS (aX X scope N s H C fp bP) ifs (LT (aX X scope N s H C fp bP) tcs))(hN:N.Nodup)(h0:N[0]? = some x)(h1:N[1]? = some y)(hl:∀(s:Shared) (H:Hp) (C:Addr) (fp:List Addr),(aX X scope N s H C fp bP).env.scope.names.lookup x=some .local)(hl2:∀(s:Shared) (H:Hp) (C:Addr) (fp:List Addr),(aX X scope N s H C fp bP).env.scope.names.lookup y=some .local)(s:Shared)(H:Hp) :
  jD X scope N (u9 x y xp yp kt tp) ifs elt s H (lG X.K 2 (gU (cJ 0) (gU (cJ 1) lF))) (LT (X.frm H) tcs) (LE (X.frm H) te):=
 ⟨λC fp=>nF (X:=aX X scope N s H C fp bP) hc (iF (eD hN h0 (.inl (hl s H C fp)) (.inr (hl s H C fp))) (iF (eD hN h1 (.inl (hl2 s H C fp)) (.inr (hl2 s H C fp))) nE)),λC fp=>hi s H C fp,λC fp=>he s H C fp⟩
theorem au1 (hi:QI X (u9 x y xp yp kt tp) iter ti)(he:∀(s:Shared) (H:Hp) (C:Addr) (fp:List Addr),QE (aX X scope N s H C fp bP) elt te)(hc:X.calm=true:=by rfl)(S:cB X scope N fr:=by exact cB.of rfl rfl)(hN:N.Nodup:=by decide +kernel)(h0:N[0]? = some x:=by rfl)(h1:N[1]? = some y:=by rfl)(hl:∀(s:Shared) (H:Hp) (C:Addr) (fp:List Addr),(aX X scope N s H C fp bP).env.scope.names.lookup x=some .local:=by intro _ _ _ _;rfl)(hl2:∀(s:Shared) (H:Hp) (C:Addr) (fp:List Addr),(aX X scope N s H C fp bP).env.scope.names.lookup y=some .local:=by intro _ _ _ _;rfl)(hf:fr[0]? = some none:=by rfl)(hf2:fr[1]? = some none:=by rfl)(hs:∀x,foldedSetIterable iter X.env x=pure x:=by intro _;rfl):QE X (.ListComp elt [⟨u9 x y xp yp kt tp,iter,[],0⟩] scope pos) (dM ti fr (jK 0 1) cR te):=
 bO (rQ (gh:=λ_=>lG X.K 2 (gU (cJ 0) (gU (cJ 1) lF))) (tch:=λH=>LT (X.frm H) cR) (teh:=λH=>LE (X.frm H) te) hc S hi (au0 hc he (λ_ _ _ _=>kR) hN h0 h1 hl hl2) hs) λ_ _ _=>jM (sT _ 0 1) (λi e=>by rcases e with e|e<;>(subst e;assumption))
end
section
variable {X:Cx}{a b e o f:Expr}{ta tb te td tk tx:aA}{pos p2 apos cpos:Pos}{σ:L2.St}{H:Hp}{Q':VK}
noncomputable def E5:PV->Tg->PV->Tg->PK->Prop:=λx _ y _ Q=>∃xs n,x = .lst xs/\y = .int n/\flats xs=true/\-1000000<=n/\n<=1000000/\xs.length<=10/\Q (.lst (List.replicate n.toNat xs).flatten) .fr
noncomputable abbrev E6 (ta tb:aA):aA:=q2 E5 ta tb
theorem au2:dL X E5 x8:=by
 rintro W Hs H u v x y g g' Q Q' s n r1 r2 ⟨xs,m,rfl,rfl,f,h1,h2,hl,q⟩ k
 cases r2
 obtain⟨a,us,rfl,mm,h,r⟩:=r1.sqL
 have lr:=r.length
 refine⟨a,m,us,rfl,rfl,h,by omega,by omega,lim ?_,λp hp=>k _ _ _ .fr (b7 hp _) (.lst (s.free hp) bB (((r.flat f).rep m.toNat).same (b7 hp _) λ_ z=>z)) q⟩
 have h3:us.length<=10:=by omega
 have h4:m.toNat<=1000000:=by omega
 calc us.length*m.toNat<=10*1000000:=Nat.mul_le_mul h3 h4
  _<=16000000:=by decide
theorem au3 (ha:QE X a ta)(hb:QE X b tb):QE X (.BinOp a .Mult b pos) (E6 ta tb):=iT Z5 au2 ha hb
theorem uA {x:Str}{n:Int}{t:Nat}(hg:Gl X x)(hm:X.mg x=some (.int n t))(hd:(x==("__debug__":Str))=false:=by decide):QE X (.Name x pos) (qC (.int n)):=
 bO (v9 (v:=.int n) hg hm ⟨t,rfl⟩ hd) λ_ _ _=>lT λ_=>.int n
end
end PP
namespace Core
open PySem L2 PP
section
variable (ws:ae)(ls:aa)(os ns:ae)
noncomputable def k7:Nat->ae
 |0=>[]
 |k+1=>k7 k++(os.find? (kin ws ls (ns++k7 k))).toList
noncomputable def uB (k:Nat):Option Int:=os.find? (kin ws ls (ns++k7 ws ls os ns k))
end
section
variable {ws:ae}{ls:aa}{os ns:ae}
theorem aH9 {k:Nat}{h:Int}(e:uB ws ls os ns k=some h):k7 ws ls os ns (k+1)=k7 ws ls os ns k++[h]:=by
 show k7 ws ls os ns k++(uB ws ls os ns k).toList=_
 rw[e];rfl
noncomputable def au4 (ws:ae)(ls:aa)(T:ae):Prop:=∀h∈rng ws.length,kin ws ls T h=false
theorem aI0 {k:Nat}{h:Int}(e:uB ws ls os ns k=some h):h∈os/\h∉ns++k7 ws ls os ns k:=
 ⟨List.mem_of_find?_eq_some e,of_decide_eq_false (ap8 (List.find?_some e))⟩
end
theorem mR {i:Nat}{h:Int}{g:Bool}{ρ:b9}{Q:b9->Prop}(q:Q (ρ.set i (some (.sh true (.int h))))):cO i (.int h) g ρ Q:=by
 show Q (ρ.set i (some (.sh (g||true) (.int h))))
 rw[Bool.or_true];exact q
noncomputable def au5 (ns S:ae):Int:=(ns.length:Int)-(((ns.filter λx=>decide (x∈S)).length:Nat):Int)
noncomputable def au6 (ws:ae)(ls:aa)(S:ae)(h:Int):Bool:=decide (au5 (bN ls h) S<ws.getD h.toNat 0)
noncomputable def stay (ws:ae)(ls:aa)(S:ae):ae:=S.filter (au6 ws ls S)
theorem au7 {xs:List PV}{w:Int}(h:0<=w):cS xs none (some w)=xs.take w.toNat:=by
 unfold cS
 rw[HT.V9,List.drop_zero,Nat.sub_zero]
 have:HT.aO xs.length xs.length (some w)=min w.toNat xs.length:=by
  show (if w<0 then (w+(xs.length:Int)).toNat else min w.toNat xs.length)=_
  rw[if_neg (by omega)]
 rw[this,<- List.take_take,aU0]
end Core
namespace PP
open PySem L2 PyProof.Rows
noncomputable def gO (xs ys:List PV):List PV:=List.zipWith (λx y=>PV.tup [x,y]) xs ys
theorem uC (xs ys:List PV):(gO xs ys).length=min xs.length ys.length:=by unfold gO;rw[List.length_zipWith]
theorem E7 {xs ys:List PV}{i:Nat}{x y:PV}(h:xs[i]? = some x)(h':ys[i]? = some y):(gO xs ys)[i]? = some (.tup [x,y]):=by
 unfold gO;rw[List.getElem?_zipWith,h,h']
theorem au8 {xs ys:List PV}{i:Nat}{z:PV}(h:(gO xs ys)[i]? = some z):∃x y,xs[i]? = some x/\ys[i]? = some y/\z = .tup [x,y]:=by
 unfold gO at h
 rw[List.getElem?_zipWith]at h
 cases e:xs[i]? with
 |none=>rw[e]at h;cases h
 |some x=>
  cases e':ys[i]? with
  |none=>rw[e,e']at h;cases h
  |some y=>rw[e,e']at h;exact⟨x,y,rfl,rfl,(aL1 h).symm⟩
theorem au9 {K:ac}{H0:Hp}{W:Addr->Prop}{g:Bool}{H1:Hp}{a b:Addr}{us vs:List V}{xs ys:List PV}(tw:∀a,W a->∃o,H1 a=some o/\dJ o=true)(ha:∀W' H',Ev W H1 W' H'->aI K H' a us)(hb:∀W' H',Ev W H1 W' H'->aI K H' b vs)(r:Reps K (Ms H0 W g) H1 us xs)(r':Reps K (Ms H0 W g) H1 vs ys):iN K H0 W g H1 (rZ K a b) (gO xs ys):=by
 have lr:=r.length
 have lr':=r'.length
 have ll:=uC xs ys
 refine⟨λW' H' i e hi=>⟨us,vs,us[i]'(by omega),vs[i]'(by omega),ha W' H' e,hb W' H' e,by simp,by simp⟩,λW' H' i v H2 e y hi=>?_,λW' H' e=>⟨us,vs,ha W' H' e,hb W' H' e,by omega⟩⟩
 obtain⟨T,x,y',hT,rfl,rfl,y⟩:=y
 obtain⟨h1,h2⟩:=y us vs (ha W' _ e) (hb W' _ e)
 obtain⟨z,hz,rz⟩:=r.get h1
 obtain⟨z',hz',rz'⟩:=r'.get h2
 have sm:=b7 hT (HO.tup [x,y'])
 exact⟨sm,_,E7 hz hz',.tup bB (.cons ((rz.keep (e.keep tw)).same sm λ_ q=>q) (.cons ((rz'.keep (e.keep tw)).same sm λ_ q=>q) .nil))⟩
end PP
namespace Core
open PySem L2 PP
section
variable {ws:ae}{ls:aa}{ns wts:ae}{m:Nat}
noncomputable def loose (ls:aa)(wts ns:ae):List ((Int×Int)×Int):=(ls.zip wts).filter λz=>!(decide (z.1.1∈ns)&&decide (z.1.2∈ns))
end
end Core
namespace PP
open PySem L2 PyProof.Rows
section
variable {X:Cx}{a b e:Expr}{ta tb te:aA}{D:cI}{σ:L2.St}{H:Hp}{pos p2:Pos}
noncomputable def uD (p:fX)(te:aA):aR:=λD ρ=>te ρ λx g=>nY g x/\p x (sG g x) ρ λρ2=>D.nx ρ2
theorem av0 {p:fX}{g:TG}{own:Nat->Prop}(hg:jI X.K own p g)(h:LS X (uD p te) D σ H):iG (LE X te) g D σ H:=by
 obtain⟨W,ρ,D',px,q,k⟩:=h
 refine⟨W,ρ,_,px,q,?_⟩
 rintro v H1 x gt s r ⟨st,q⟩
 refine hg X.H₀ W σ ρ H1 v x _ _ _ (px.mono s) (yJ px st r) q λσ' ρ' px' _ _ q'=>?_
 exact k.nx W σ' H1 ρ' (Ev.same s) px' q'
theorem av1 (i j:Nat){x y:Str}{tp xp yp:Pos}{kt:Nat}(hN:X.N.Nodup)(he:QE X e te)(hx:X.N[i]? = some x:=by rfl)(hy:X.N[j]? = some y:=by rfl)(hlx:fJ X.env.scope x:=by first|exact Or.inl rfl|exact Or.inr rfl)(hly:fJ X.env.scope y:=by first|exact Or.inl rfl|exact Or.inr rfl)(hfx:X.fn x=true∨X.env.scope.names.lookup x=some .local:=by first|exact .inl rfl|exact .inr rfl)(hfy:X.fn y=true∨X.env.scope.names.lookup y=some .local:=by first|exact .inl rfl|exact .inr rfl)(hc:X.calm=true:=by rfl)(hs:swapsWithSole [.Tuple [.Name x xp,.Name y yp] kt tp] e pos.line X.env=pure false:=by rfl)(hw:swappedStores [.Tuple [.Name x xp,.Name y yp] kt tp] e X.env=pure none:=by rfl):QS X (.Assign [.Tuple [.Name x xp,.Name y yp] kt tp] e pos) (uD (jK i j) te):=by
 have g:PG X (.Tuple [.Name x xp,.Name y yp] kt tp) (lG X.K 2 (gU (cJ i) (gU (cJ j) lF))):=nF hc (iF (eD hN hx hlx hfx) (iF (eD hN hy hly hfy) nE))
 exact dU (vM he g hs hw) λ_ _ _=>av0 (sT _ i j)
end
noncomputable abbrev cV:=(Str->Prop)->c8
noncomputable def EX (K:ac)(H0:Hp)(Ep:Str->Prop):XK:=λc d H'=>d=none/\aE H0 H'/\∃n C,c = .ref C/\PySem.W.nsIn K mainGlobals n=some (some (.ref C))/\Ep n
noncomputable def uE (K:ac)(p:cV):Sp:=λvs H Q E=>∃xs Qp Ep,Reps K (λ_=>True) H vs xs/\p Ep xs Qp/\(∀v H' x,aE H H'->aF K (λa=>H a=none) H' v x->Qp x->Q v H')/\
 ∀n C H',aE H H'->PySem.W.nsIn K mainGlobals n=some (some (.ref C))->Ep n->E (.ref C) none H'
structure bL (P:Program)(w:World)(K:ac)(mg:Str->Option Value)(base:Heap)(k:Nat)(x:Str)(ps:List Str)(p:cV):Prop where
 ex:∃f fd,cQ P w K mg base (cE P w) k f fd ps (uE K p)/\gX K fd ps []/\PySem.W.keepIn K (.ref f)=true/\mg x=some (.ref f)
section
variable {X:Cx}{σ:L2.St}{H:Hp}{D:cI}{tr:c7}{Q':VK}{a b c e:Expr}{es:List Expr}{pos p2 cp np hp:Pos}{t:aR}{te:aA}{tc:bW}
noncomputable def k8 (Ep:Str->Prop)(p:cV)(t:c7):aA:=aM (p Ep) t
theorem uF {p:cV}{Ep:Str->Prop}(h:LE X (k8 Ep p tr) σ H Q'):qQ (uE X.K p) [] (EX X.K X.H₀ Ep) (LA X tr) σ H Q':=by
 obtain⟨W,ρ,Q,px,q,k⟩:=h
 refine⟨W,ρ,_,px,q,λvs H1 xs s1 r1 q1=>⟨_,_,Ep,by rw[aQ9];exact r1.any,q1,λv H' x s2 r2 q2=>k v H' x .fr (s1.trans s2) (r2.same (aE.refl _) λ_ z=>s1.free z) q2,λn C H' s2 z1 z2=>⟨rfl,(px.same.trans s1).trans s2,n,C,rfl,z1,z2⟩⟩⟩
theorem uG {Ep:Str->Prop}{k j:Nat}{x:Str}{ps:List Str}{p:cV}(hX:jW X (EX X.K X.H₀ Ep))(d:bL X.prog X.w X.K X.mg X.base k x ps p)(hr:bI j X.A)(ha:QA X (e::es) tr)(hkj:k<=j:=by decide)(hg:Gl X x:=by rfl)(hdb:(x==("__debug__":Str))=false:=by decide)(he:starEach (e::es) X.env=(false,eval e X.env)::starEach es X.env:=by rfl)(hpl:(backTo pos (starEach es X.env)).any (·.1)=false:=by rfl):QE X (.Call (.Name x p2) (e::es) [] pos) (k8 Ep p tr):=by
 obtain⟨f,fd,F,b,kp,m⟩:=d.ex
 exact bO (nI F (hr.mono hkj) hg m kp b .nil hX.pass ha hdb he hpl) λ_ _ _=>uF
theorem E8 {k j:Nat}{x:Str}{ps:List Str}{p:cV}(d:bL X.prog X.w X.K X.mg X.base k x ps p)(hr:bI j X.A)(ha:QA X (e::es) tr)(hkj:k<=j:=by decide)(hg:Gl X x:=by rfl)(hdb:(x==("__debug__":Str))=false:=by decide)(he:starEach (e::es) X.env=(false,eval e X.env)::starEach es X.env:=by rfl)(hpl:(backTo pos (starEach es X.env)).any (·.1)=false:=by rfl):QE X (.Call (.Name x p2) (e::es) [] pos) (aM (p λ_=>False) tr):=by
 obtain⟨f,fd,F,b,kp,m⟩:=d.ex
 refine bO (nI F (E:=EX X.K X.H₀ λ_=>False) (hr.mono hkj) hg m kp b .nil (λ_ _ _ _ _ _ _ h=>?_) ha hdb he hpl) λ_ _ _ h=>uF (Ep:=λ_=>False) h
 obtain⟨_,_,_,_,_,_,_,_,_,_,_,_,z⟩:=h
 exact z.elim
noncomputable def iZ (Ep:Str->Prop)(n:Str)(t:c7):aR:=λ_ ρ=>t ρ λxs=>xs.length<=1000/\Ep n
theorem av2 {Ep:Str->Prop}{n:Str}{C:Addr}(hn:PySem.W.nsIn X.K mainGlobals n=some (some (.ref C)))(h:LS X (iZ Ep n tr) D σ H):B2 (EX X.K X.H₀ Ep) C (LA X tr) D σ H:=by
 obtain⟨W,ρ,D',px,q,k⟩:=h
 exact⟨W,ρ,_,px,q,λvs H1 xs s1 r z=>⟨by rw[r.length];exact lV z.1,rfl,px.same.trans s1,n,C,rfl,hn,z.2⟩⟩
structure Xc (K:ac)(mg:Str->Option Value)(base:Heap)(n:Str):Prop where
 ex:∃C B newId initId bm,OwnCls n C bm newId mg base/\ExcBaseFacts B newId initId bm/\PySem.W.nsIn K mainGlobals n=some (some (.ref C))
theorem l0 {Ep:Str->Prop}{n:Str}(hX:jW X (EX X.K X.H₀ Ep))(x:Xc X.K X.mg X.base n)(ha:QA X (e::es) tr)(hc:X.calm=true:=by rfl)(hg:Gl X n:=by rfl)(hd:(n==("__debug__":Str))=false:=by decide)(he:starEach (e::es) X.env=(false,eval e X.env)::starEach es X.env:=by rfl)(hpl:(backTo cp (starEach es X.env)).any (·.1)=false:=by rfl):QS X (.Raise (some (.Call (.Name n np) (e::es) [] cp)) none pos) (iZ Ep n tr):=by
 obtain⟨C,B,newId,initId,bm,O,FB,hn⟩:=x.ex
 exact dU (ao2 hX hc O FB ha hg hd he hpl) λ_ _ _=>av2 hn
noncomputable abbrev l8:=gI->(Str->Prop)->b9->Prop
noncomputable def LB (X:Cx)(t:l8):TB:=λD Ex σ H=>∃(W:Addr->Prop) (ρ:b9) (D':gI) (Ep:Str->Prop),PX X.K X.H₀ W σ ρ H/\t D' Ep ρ/\lW X W H D' D/\∀n C H',aE H H'->PySem.W.nsIn X.K mainGlobals n=some (some (.ref C))->Ep n->Ex (.ref C) none H'
noncomputable def QB (X:Cx)(sts:List Stmt)(t:l8):Prop:=PB X sts (LB X t)
theorem pbI {sts:List Stmt}{t t':TB}(h:PB X sts t)(m:∀D Ex σ H,t' D Ex σ H->t D Ex σ H):PB X sts t':=λpins s σ H D Ex I q=>h pins s σ H D Ex I (m D Ex σ H q)
noncomputable def E9 (D:gI)(i:Nat):gI:={ nx:=λρ=>D.nx (ρ.set i none),rt:=D.rt,bk:=λρ=>D.bk (ρ.set i none),ct:=λρ=>D.ct (ρ.set i none) }
noncomputable def pB:List Str:=["BadWeb","BadSet","BadOrder","BadPrices","BadBoard","BadDeed","NotWood","NoPaper","NoSuch","TooMany","NoText","OddRound"]
noncomputable def k9 (n m:Str):Option Bool:=if pB.contains n then some (n==m||m=="HearthError"||m=="ValueError") else none
noncomputable def uH (m:Str)(i:Nat)(tb:l8)(ts:aR):aR:=λD ρ=>tb D (λn=>k9 n m=some true/\ts (E9 D i) (ρ.set i (some (.sh true (.exc n))))) ρ
theorem av3 {m:Str}{Ch:Addr}{i:Nat}{tb:l8}{ts:aR}(hs:∀n C,k9 n m=some true->PySem.W.nsIn X.K mainGlobals n=some (some (.ref C))->PySem.W.subIn X.K (.ref C) (.ref Ch)=some true)(h:LS X (uH m i tb ts) D σ H):B4 X.K Ch i (LB X tb) (LS X ts) D σ H:=by
 obtain⟨W,ρ,D',px,q,k⟩:=h
 refine⟨W,ρ,D',_,px,q,k,λn C H' s z1 z2 a C' oe hc na hcl=>?_⟩
 cases hc
 refine⟨hs n C z2.1 z1,W,_,E9 D' i,(px.mono (s.trans (b7 na _))).setSh (g:=true) (.exc bB z1 hcl),z2.2,?_⟩
 have k':=k.step (Ev.same (W:=W) (s.trans (b7 na (.frz oe (.own a)))))
 exact⟨λW' σ' H2 ρ' ev px' q'=>k'.nx W' _ H2 _ ev px'.setNone q',k'.rt,λW' σ' H2 ρ' ev px' q'=>k'.bk W' _ H2 _ ev px'.setNone q',λW' σ' H2 ρ' ev px' q'=>k'.ct W' _ H2 _ ev px'.setNone q'⟩
structure uI (K:ac)(mg:Str->Option Value)(m:Str):Prop where
 ex:∃Ch,mg m=some (.ref Ch)/\tX K Ch/\∀n C,k9 n m=some true->PySem.W.nsIn K mainGlobals n=some (some (.ref C))->PySem.W.subIn K (.ref C) (.ref Ch)=some true
theorem av4 (i:Nat){m n:Str}{b₀:Stmt}{suite body:List Stmt}{tb:l8}{ts:aR}(ct:uI X.K X.mg m)(hN:X.N.Nodup)(hb:QB X body tb)(hs:∀a,dO (X.suite a) (b₀::suite) ts)(hstk:X.stack=X.env::X.outer/\X.env.frame=some X.env.locals:=by exact⟨rfl,rfl⟩)(hi:X.N[i]? = some n:=by rfl)(hl:X.env.scope.names.lookup n=some .local:=by rfl)(hg:Gl X m:=by rfl)(hd:(m==("__debug__":Str))=false:=by decide):QS X (.Try body [.ExceptHandler (some (.Name m np)) (some n) (b₀::suite) hp] [] [] pos) (uH m i tb ts):=by
 obtain⟨Ch,hm,c,sub⟩:=ct.ex
 exact dU (ao5 (ts:=LS X ts) hstk hb hg hm c hN hi hl (λa=>t7 (hs a) λ_ _ _ ⟨W,ρ,D',px,q,k⟩=>⟨W,ρ,D',px,q,⟨k.nx,k.rt,k.bk,k.ct⟩⟩) hd) λ_ _ _=>av3 sub
noncomputable def fR:V->Value
 |.ref a=>.ref a
 |.ty n=>.type n
 |_=>.none
noncomputable def av5 (K:ac):List V->Hp->VK->Prop:=λxs H Q=>∃v v2 b,xs = [v,v2]/\fR v2≠.none/\((∃a o C,v = .ref a/\H a=some (.frz o (.own a))/\o.cls = .ref C/\gN K C/\PySem.W.kitOne K (.ref C) (fR v2)=some b)∨(v = .non/\PySem.W.kitOne K (.type "NoneType") (fR v2)=some b))/\Q (.bl b) H
theorem av6:cN X (.builtin "isinstance") (av5 X.K):=by
 intro pins s σ H xs us Q I r h
 obtain⟨v,v2,b,rfl,hv,hk,q⟩:=h
 obtain⟨u,u',rfl,ru,ru'⟩:=lK r
 obtain rfl:u'=fR v2:=by
  cases v2<;>first|exact ru'|exact absurd rfl hv
 rcases hk with⟨a,o,C,rfl,hH,hc,F,e⟩|⟨rfl,e⟩
 ·obtain⟨h1,_⟩:=I.hok a _ hH
  cases (show u=Value.ref a from ru)
  exact aN7 (ap2 F) I.kIn ⟨o,h1,hc⟩ e (λz=>nomatch z) λtk=>⟨.bl b,H,I.tok tk,rfl,q⟩
 ·cases (show u=Value.none from ru)
  exact aN7 PySem.W.kitx_none I.kIn trivial e (λz=>nomatch z) λtk=>⟨.bl b,H,I.tok tk,rfl,q⟩
noncomputable def av7 (m:Str):PV->Option Bool
 |.exc n=>k9 n m
 |.non=>some false
 |_=>none
noncomputable def uJ (m:Str)(te:aA):aA:=λρ Q=>te ρ λx _=>∃b,av7 m x=some b/\Q (.bl b) .fr
structure F0 (K:ac)(m:Str)(v2:V):Prop where
 nn:fR v2≠.none
 ex:∀n C b,PySem.W.nsIn K mainGlobals n=some (some (.ref C))->k9 n m=some b->gN K C/\PySem.W.kitOne K (.ref C) (fR v2)=some b
 no:PySem.W.kitOne K (.type "NoneType") (fR v2)=some false
theorem av8 {x:Str}{v2:V}{px:Pos}(B:Bt X.mg)(A:F0 X.K x v2)(hx:PE X (.Name x px) (tC v2))(ha:QE X a te)(hg:Gl X "isinstance":=by rfl)(he:starEach [a,.Name x px] X.env=(false,eval a X.env)::starEach [.Name x px] X.env:=by rfl)(he2:starEach [.Name x px] X.env=(false,eval (.Name x px) X.env)::starEach [] X.env:=by rfl)(hpl:(backTo pos (starEach [.Name x px] X.env)).any (·.1)=false:=by rfl):QE X (.Call (.Name "isinstance" p2) [a,.Name x px] [] pos) (uJ x te):=
 bO (qS av6 hg B.isinst PyProof.Rows.boot_isinstance (dZ ha (dZ hx fN he2) he) (he:=he) (hpl:=hpl)) λσ H Q' h=>by
  obtain⟨W,ρ,Q,px,q,k⟩:=h
  refine⟨W,ρ,_,px,q,?_⟩
  rintro v H1 y g s r ⟨b,e,q⟩
  refine⟨v,v2,b,rfl,A.nn,?_,k _ _ _ .fr s (.bl _) q⟩
  cases r with
  |exc h z c=>
   obtain⟨F,kt⟩:=A.ex _ _ _ z e
   exact .inl ⟨_,_,_,rfl,h,c,F,kt⟩
  |non=>cases e;exact .inr ⟨rfl,A.no⟩
  |_=>cases e
end
section
variable {X:Cx}{a:Expr}{pos p2 px:Pos}{te:aA}
structure uK (K:ac)(mg:Str->Option Value)(m:Str):Prop where
 ex:∃C,mg m=some (.ref C)/\F0 K m (.ref C)
theorem av9 {x:Str}(B:Bt X.mg)(A:uK X.K X.mg x)(ha:QE X a te)(hgx:Gl X x:=by rfl)(hdx:(x==("__debug__":Str))=false:=by decide)(hg:Gl X "isinstance":=by rfl)(he:starEach [a,.Name x px] X.env=(false,eval a X.env)::starEach [.Name x px] X.env:=by rfl)(he2:starEach [.Name x px] X.env=(false,eval (.Name x px) X.env)::starEach [] X.env:=by rfl)(hpl:(backTo pos (starEach [.Name x px] X.env)).any (·.1)=false:=by rfl):QE X (.Call (.Name "isinstance" p2) [a,.Name x px] [] pos) (uJ x te):=by
 obtain⟨C,m,i⟩:=A.ex
 exact av8 B i (v9 hgx m rfl hdx) ha hg he he2 hpl
end
structure mS (K:ac)(C:Addr):Prop where
 cls:PySem.W.isClsIn K C=true
 ty:PySem.W.typeIn K (.ref C)=some (.type "type")
 ga:PySem.W.findIn K (.ref C) "__getattribute__" = some (some (.builtin "BaseException.__getattribute__"))
 gt:PySem.W.findIn K (.ref C) "__getattr__" = some none
 fc:PySem.W.findIn K (.ref C) "__class__" = some (some (.builtin "object.__class__"))
 fg:PySem.W.specialIn K (.builtin "object.__class__") "__get__" = some (some (.builtin "getset_descriptor.__get__"))
 ft:PySem.W.takesIn K (.builtin "object.__class__")=some true
 ob:PySem.W.mroIn K C (.type "object")=some true
 be:PySem.W.mroIn K C (.type "BaseException")=some true
theorem mS.exc {K:ac}{C:Addr}(h:mS K C):gN K C:=⟨h.cls,h.ga,h.gt,h.fc,h.fg,h.ft,h.ob,h.be⟩
theorem aw0 {K:ac}{h₀:Heap}{mg:Str->Option Value}{x:Str}{C:Addr}{bmB:List Value}{newId:String}(X:K.In h₀)(m:mg x=some (.ref C))(q:PySem.W.excIn K C bmB newId=true):OwnCls x C bmB newId mg h₀:=by
 refine⟨m,?_⟩
 unfold PySem.W.excIn at q
 split at q
 case h_2=>cases q
 rename_i dd cd sl ho
 split at q
 case h_2=>cases q
 rename_i C' bm k0 k1 k2 k3 n k5 hm hs
 simp only[aN8,beq_iff_eq,Bool.not_eq_true']at q
 obtain⟨⟨⟨⟨⟨rfl,rfl⟩,dl⟩,ht⟩,hok⟩,hni⟩:=q
 obtain⟨nm,bs,mro,ns,qn,hd,sn,sub,ab,col,del⟩:=cd
 dsimp only at hm dl hok hni
 subst hm dl
 obtain rfl:sl = #[k0,k1,k2,k3,some (.builtin n),k5]:=by
  obtain⟨l⟩:=sl
  exact congrArg Array.mk hs
 exact⟨bm,ns,nm,qn,bs,hd,sn,sub,ab,col,dd,k0,k1,k2,k3,k5,_,X _ _ ho,.of_isNs (PySem.W.isNs_of_in X hok),PySem.W.nsMap_none_of_in X hok hni,PySem.W.tail_of_in X ht⟩
theorem F1 {n m:Str}{b:Bool}(h:k9 n m=some b):n∈pB/\b=(n==m||m=="HearthError"||m=="ValueError"):=by
 unfold k9 at h
 split at h
 ·rename_i z
  exact⟨by simpa using z,by cases h;rfl⟩
 ·cases h
theorem aw1 {K:ac}{C:Addr}:PySem.W.kitOne K (.ref C) (.ref C)=some true:=by
 unfold PySem.W.kitOne
 rw[if_pos (aP7 _)]
theorem aw2 {K:ac}{D:Addr}(hd:mS K D)(s:PySem.W.subIn K (.type "NoneType") (.ref D)=some false):PySem.W.kitOne K (.type "NoneType") (.ref D)=some false:=by
 have c:=hd.cls
 unfold PySem.W.isClsIn at c
 unfold PySem.W.kitOne PySem.W.kitCls
 rw[if_neg (λz=>by cases beq_iff_eq.mp z)]
 dsimp only
 rw[if_pos (by rw[c,hd.ty];decide)]
 exact s
theorem bL.of {P:Program}{w:World}{K:ac}{mg:Str->Option Value}{base:Heap}{k:Nat}{x:Str}{ps N:List Str}{p:cV}{st:Stmt}{f:Addr}{fd:FuncData}(F:dI K x x st f fd)(m:mg x=some (.ref f))(S:FnScope N ps (aT st))(hb:∀(kV doc pm:Value) (an:Option Addr) (cdv ct:Value) (us:List Value),us.length=ps.length->bindArgs (PySem.W.fnOf x x (gG st) (cY st) (aT st) .none kV doc pm an cdv ct) ⟨us,[]⟩=pure (ps.zip us))(t:(Str->Prop)->aR)(len:∀Ep xs Q,p Ep xs Q->xs.length=ps.length)(rd:∀Ep xs Q,p Ep xs Q->t Ep { nx:=λ_=>Q .non,rt:=Q } (dN N xs))(body:∀(cdv:Value) (A:Around) (outer:List Env) (s:Shared) (H:Hp) (E:XK) (Ep:Str->Prop),bI k (A.deeper (envOfC x (aT st) s.heap.objs.size f cdv))->jW (cA (cE P w) P w K mg base N x (aT st) f cdv A outer s H E) (EX K H Ep)->
   dO (cA (cE P w) P w K mg base N x (aT st) f cdv A outer s H E) (cY st) (t Ep)):bL P w K mg base (k+1) x ps p:=by
 refine⟨f,fd,F.okX S (λvs H Q E h=>?_) (λcdv A outer s H vs Q E hr h=>?_),F.binds hb,F.kp,m⟩
 ·obtain⟨xs,Qp,Ep,r,q,_⟩:=h
  rw[r.length];exact len Ep xs Qp q
 ·obtain⟨xs,Qp,Ep,r,q,k,ke⟩:=h
  have ht:=body cdv A outer s H E Ep hr (B1 λc d H' z=>?_)
  ·refine⟨_,ht,λ_=>False,dN N xs,_,oE r,rd Ep xs Qp q,?_,?_,?_,?_⟩
   ·exact λW' σ' H' ρ' e px q=>k _ _ _ px.same .non q
   ·exact λv H' x s r q=>k _ _ _ s r q
   ·exact λW' σ' H' ρ' e px q=>q
   ·exact λW' σ' H' ρ' e px q=>q
  ·obtain⟨rfl,s1,n,C,rfl,z1,z2⟩:=z
   exact ke n C H' s1 z1 z2
end PP
namespace Core
open PySem L2 PP
noncomputable abbrev mT (t:(Str->Prop)->aR)(N:List Str)(p:cV):Prop:=∀Ep xs Q,p Ep xs Q->t Ep { nx:=λ_=>Q .non,rt:=Q } (dN N xs)
end Core
namespace PP
open PySem L2
theorem us1 {us:List Value}(h:us.length=1):∃a,us = [a]:=List.length_eq_one_iff.mp h
theorem us2 {us:List Value}(h:us.length=2):∃a b,us = [a,b]:=by
 cases us with
 |nil=>cases h
 |cons a r=>
  obtain⟨b,rfl⟩:=us1 (us:=r) (by simpa using h)
  exact⟨a,b,rfl⟩
theorem F2 {us:List Value}(h:us.length=3):∃a b c,us = [a,b,c]:=by
 cases us with
 |nil=>cases h
 |cons a r=>
  obtain⟨b,c,rfl⟩:=us2 (us:=r) (by simpa using h)
  exact⟨a,b,c,rfl⟩
section
variable {X:Cx}{e:Expr}{tk:aA}{D:cI}{σ:St}{H:Hp}{pos:Pos}
noncomputable def uL (i:Nat)(tk:aA):aR:=λD ρ=>∃ps,ρ[i]? = some (some (.own (.dT ps)))/\tk ρ λy _=>∃k,y = .tup (k.map kP)/\(∃j:Nat,(ps.map (·.1))[j]? = some k)/\∀j:Nat,(ps.map (·.1))[j]? = some k->D.nx (ρ.set i (some (.own (.dT (ps.eraseIdx j)))))
theorem aw3 {i:Nat}(h:LS X (uL i tk) D σ H):qA (B8 (j7 i) (LE X tk)) D σ H:=by
 obtain⟨W,ρ,D',px,⟨ps,hi,q⟩,k⟩:=h
 obtain⟨v,ev,a,rfl,wa,kvs,ea,e1,r⟩:=px.sl i _ hi
 refine⟨_,ev,a,rfl,.inr ⟨kvs,.inl ea⟩,W,ρ,_,px,q,?_⟩
 rintro kv H2 y g s ry ⟨kk,rfl,is,q⟩
 obtain⟨b,us,rfl,hb,rb⟩:=ry.sqT
 obtain rfl:=o8 rb
 have ea2:=s _ _ ea
 refine⟨kvs,kk,b,ea2,rfl,hb,by rw[e1];exact is,λj v hj=>?_⟩
 rw[e1]at hj
 refine k.nx W σ _ _ ((Ev.same s).trans (Ev.upd wa)) ((px.mono s).updT hi ev wa ⟨?_,?_⟩) (q j hj)
 ·rw[Raw.jX,Raw.jX,e1]
 ·rw[Raw.jX,Raw.jX]
  exact ((r.same s λ_ z=>z).eraseIdx j).keep (.upd ea2 rfl λb m=>⟨lX wa m,m⟩)
theorem aw4 (i:Nat){x:Str}{apos cpos xpos:Pos}(hu:X.A.units+1<cLine)(he:QE X e tk)(hm:M1 X (.Name x xpos) "pop" apos e cpos:=by exact⟨rfl,rfl,rfl,rfl⟩)(hN:X.N[i]? = some x:=by rfl)(hv:fI X.env.scope x:=by first|exact Or.inl rfl|exact Or.inr (Or.inl rfl)|exact Or.inr (Or.inr rfl))(hd:(x==("__debug__":Str))=false:=by decide)(hcd:(x==("__classdict__":Str))=false:=by decide)(hsw:swapsWith (.Call (.Attribute (.Name x xpos) "pop" apos) [e] [] cpos) none pos.line X.env=pure false:=by rfl):QS X (.Expr (.Call (.Attribute (.Name x xpos) "pop" apos) [e] [] cpos) pos) (uL i tk):=
 dU (nC (ap6 hu (j8 hN hv hd hcd) he hm) hsw) λ_ _ _=>aw3
end
end PP
namespace Core
open PySem L2 PP
noncomputable def l9:c8:=λxs Q=>∃c k:Int,xs = [.int c,.int k]/\0<=k/\k<=1000/\∀z:Int,0<=z->Q (.int z)
noncomputable def F3:aR:=(aP (bA 2 (bH (o9 (fD (fD (bH (a6 0) (qC (.int 1000000007))) (o9 (a6 1) (a6 1))) (qC (.int 1))) (qC (.int 48271))) (qC (.int 2147483647))))
 (bJ (cK (bH (o9 (a6 2) (a6 2)) (qC (.int 2147483647))) (qC (.int 8)))))
theorem aw5:dP F3 ["cell","k","turn"] l9:=by
 rintro xs Q ⟨c,k,rfl,k0,k1,q⟩
 refine⟨_,rfl,_,_,rfl,rfl,(by show (0:Int)<1000000007;decide),_,rfl,_,rfl,_,_,rfl,rfl,.inl ⟨by show -(2^64)<k;omega,by show k<2^64;omega⟩,_,_,rfl,rfl,_,_,rfl,rfl,_,_,rfl,rfl,.inr ⟨by decide,by decide⟩,_,_,rfl,rfl,(by show (0:Int)<2147483647;decide),trivial,?_⟩
 dsimp only
 have t0:0<=(c%1000000007+k*k+1)*48271%2147483647:=aN0 _ (by decide)
 have t1:(c%1000000007+k*k+1)*48271%2147483647<2147483647:=aO5 _ (by decide)
 generalize (c%1000000007+k*k+1)*48271%2147483647=t at t0 t1
 refine⟨_,rfl,_,rfl,_,_,rfl,rfl,.inl ⟨by show -(2^64)<t;omega,by show t<2^64;omega⟩,_,_,rfl,rfl,(by show (0:Int)<2147483647;decide),_,_,rfl,rfl,⟨by decide,by decide⟩,trivial,q _ ?_⟩
 have:=aN0 (t*t) (show (2147483647:Int)≠0 by decide)
 omega
noncomputable abbrev DK (n:Int)(ps:List (List aH×PV)):Prop:=DL n ps ps.length
theorem DL.dk {n:Int}{ps:List (List aH×PV)}{i:Nat}(h:DL n ps i):DK n ps:=⟨h.key,aI6 _,h.fl,h.nd⟩
theorem DK.nil (n:Int):DK n []:=⟨(λ_ h=>nomatch h),aI6 _,rfl,.nil⟩
theorem uM:∀(m:Nat) (l:List Nat),l.Nodup->(∀x∈l,x<m)->l.length<=m
 |0,[],_,_=>aI6 _
 |0,x::_,_,h=>absurd (h x aK0) (Nat.not_lt_zero _)
 |m+1,l,nd,h=>by
  by_cases hm:m∈l
  ·have h1:=uM m (l.erase m) (nd.erase m) λx hx=>by
    obtain⟨h2,h3⟩:=(nd.mem_erase_iff).mp hx
    have:=h x h3
    omega
   rw[List.length_erase_of_mem hm]at h1
   omega
  ·have h1:=uM m l nd λx hx=>by
    have:=h x hx
    have:x≠m:=λz=>hm (z▸hx)
    omega
   omega
theorem fG.seqTF {x:PV}{ns:ae}(h:fG x ns):seqT x=some (intz ns):=by rcases h with rfl|rfl<;>rfl
theorem DK.put {n:Int}{ps:List (List aH×PV)}(h:DK n ps)(l:Int×Int)(hl:0<=l.1/\l.1<l.2/\l.2<n):DK n (dS ps (eC l) (.bl true)):=(DL.put h l hl).dk
theorem DK.cut {n:Int}{ps:List (List aH×PV)}(h:DK n ps)(j:Nat):DK n (ps.eraseIdx j):=
 ⟨λp hp=>h.key p (List.mem_of_mem_eraseIdx hp),aI6 _,by
  rw[Raw.jX]
  have:∀(j:Nat) {xs:List PV},flats xs=true->flats (xs.eraseIdx j)=true:=by
   intro j
   induction j with
   |zero=>
    intro xs h
    cases xs with
    |nil=>rfl
    |cons x r=>unfold flats at h;rw[aN8]at h;exact h.2
   |succ j ih=>
    intro xs h
    cases xs with
    |nil=>rfl
    |cons x r=>
     unfold flats at h
     rw[aN8]at h
     show (flat x&&flats (r.eraseIdx j))=true
     rw[h.1,ih h.2];rfl
  exact this j h.fl,(h.nd).sublist ((List.eraseIdx_sublist ps j).map _)⟩
end Core
namespace PP
open PySem L2
section
variable {X:Cx}{te:aA}{pos p2:Pos}{scope:Scope}{N:List Str}{fr:List (Option Nat)}{x:Str}{tp:Pos}{iter elt:Expr}{ti:dB}
theorem aw6 {ifs:List Expr}{tcs:bW}(he:∀(s:Shared) (H:Hp) (C:Addr) (fp:List Addr),QE (aX X scope N s H C fp bP) elt te)(hi:∀(s:Shared) (H:Hp) (C:Addr) (fp:List Addr),fS (aX X scope N s H C fp bP) ifs (LT (aX X scope N s H C fp bP) tcs))(hN:N.Nodup)(h0:N[0]? = some x)(hl:∀(s:Shared) (H:Hp) (C:Addr) (fp:List Addr),(aX X scope N s H C fp bP).env.scope.names.lookup x=some .cell)(ho:scope.names.lookup x=some .cell)(s:Shared)(H:Hp) :
  jD X scope N (.Name x tp) ifs elt s H (cJ 0) (LT (X.frm H) tcs) (LE (X.frm H) te):=
 ⟨λC fp=>eD (X:=aX X scope N s H C fp bP) hN h0 (.inr (hl s H C fp)) (.inl (show (scope.names.lookup x==some NameKind.cell)=true by rw[ho];rfl)),λC fp=>hi s H C fp,λC fp=>he s H C fp⟩
theorem aw7 {i:Nat}{z:Str}{zp:Pos}(nd:X.N.Nodup)(hi:QI X (.Name x tp) iter ti)(he:∀(s:Shared) (H:Hp) (C:Addr) (fp:List Addr),QE (aX X scope N s H C fp bP) elt te)(hz:X.N[i]? = some z:=by rfl)(hzl:X.env.scope.names.lookup z=some .local:=by rfl)(hsw:swapsWith (.ListComp elt [⟨.Name x tp,iter,[],0⟩] scope p2) (some (.Name z zp)) pos.line X.env=pure true:=by rfl)(hc:X.calm=true:=by rfl)(S:cB X scope N fr:=by exact cB.of rfl rfl)(hN:N.Nodup:=by decide +kernel)(h0:N[0]? = some x:=by rfl)(hl:∀(s:Shared) (H:Hp) (C:Addr) (fp:List Addr),(aX X scope N s H C fp bP).env.scope.names.lookup x=some .cell:=by intro _ _ _ _;rfl)(ho:scope.names.lookup x=some .cell:=by rfl)(hf:fr[0]? = some none:=by rfl)(hs:∀x,foldedSetIterable iter X.env x=pure x:=by intro _;rfl):QS X (.Assign [.Name z zp] (.ListComp elt [⟨.Name x tp,iter,[],0⟩] scope p2) pos) (bA i (dM ti fr (cO 0) cR te)):=
 dU (rR (gh:=λ_=>cJ 0) (tch:=λH=>LT (X.frm H) cR) (teh:=λH=>LE (X.frm H) te) hc S hi (aw6 he (λ_ _ _ _=>kR) hN h0 hl ho) nd hz hzl hsw hs) λD σ H h=>jM (jJ _ 0) (λi e=>by subst e;exact hf) (sH h)
end
section
variable {X:Cx}{e:Expr}{tr:c7}{pos p2:Pos}
noncomputable def pC:List PV->(PV->Prop)->Prop:=λxs Q=>∃ys:ad,xs = [.lst (ys.map λr=>PV.tup (intz r))]/\ys.length<=4096/\(∀y∈ys,y.length=2)/\∀zs:ad,zs.Perm ys->zs.Pairwise (λu v=>HT.bZ v u=false)->Q (.lst (zs.map λr=>PV.tup (intz r)))
theorem aw8:eM X pC (B0 X.K):=by
 rintro H vs xs Q Q' r ⟨ys,rfl,hl,hne,q⟩ k
 obtain⟨v,rfl,r1⟩:=r.one
 obtain⟨a,us,rfl,_,h,r2⟩:=r1.sqL
 obtain⟨h1,h2⟩:=C3 r2
 have lr:=r2.length
 rw[aJ2]at lr
 refine⟨a,us,jY H,rfl,aL.of h,by omega,λy hy=>?_,λl zs hl' pm so=>?_⟩
 ·obtain⟨b,rfl,hb⟩:=h2 y hy
  refine⟨b,rfl,aI.of hb,hne _ ?_⟩
  rw[<- h1];exact aR1.mpr ⟨_,hy,rfl⟩
 ·have hz:∀u∈zs,∃b,u = .ref b/\H b=some (.tup ((jY H u).map V.int)):=λu hu=>h2 u (pm.mem_iff.mp hu)
  refine k _ _ _ (b7 hl' _) (.lst hl' bB ((C4 hz).same (b7 hl' _) λ_ z=>z)) (q _ ?_ ?_)
  ·rw[<- h1];exact pm.map _
  ·rw[aV5];exact so
theorem F4 (B:Bt X.mg)(ha:QA X [e] tr)(hg:Gl X "sorted":=by rfl)(he:starEach [e] X.env=(false,eval e X.env)::starEach [] X.env:=by rfl)(hpl:(backTo pos (starEach [] X.env)).any (·.1)=false:=by rfl):QE X (.Call (.Name "sorted" p2) [e] [] pos) (aM pC tr):=
 jP an9 aw8 hg B.sorted PyProof.Rows.boot_sorted ha (he:=he) (hpl:=hpl)
end
end PP
namespace Core
open PySem L2 PP
structure WL (n:Int)(ws:ae)(ls:aa):Prop where
 many:(ws.length:Int)=n
 inn:∀l∈ls,0<=l.1/\l.1<l.2/\l.2<n
 most:ls.length<=1700
 ord:ls.Pairwise eB
 pos:∀w∈ws,0<=w
theorem WL.perm {n:Int}{ws:ae}{ls ls':aa}(h1:(ws.length:Int)=n)(h2:∀l∈ls,0<=l.1/\l.1<l.2/\l.2<n)(h3:ls.length<=1700)(nd:ls.Nodup)(h4:∀w∈ws,0<=w)(p:ls'.Perm ls)(so:(ls'.map two).Pairwise λu v=>HT.bZ v u=false):WL n ws ls':=
 ⟨h1,λl hl=>h2 l (p.mem_iff.mp hl),by rw[p.length_eq];exact h3,C9 so (p.nodup_iff.mpr nd),h4⟩
theorem DK.few40 {n:Int}{ps:List (List aH×PV)}(h:DK n ps)(hn:n<=40):ps.length<=1600:=by
 obtain⟨ls,_,e2,e3,e4⟩:=DL.links h.key
 have nd:ls.Nodup:=by
  have:=h.nd
  rw[e4]at this
  exact (aV5.mp this).imp λh e=>h (congrArg eC e)
 have:=uM 1600 (ls.map λl=>(l.1*40+l.2).toNat) (by
  refine aV5.mpr (nd.imp_of_mem λ{a b} ha hb hab e=>hab ?_)
  have:=e2 a ha
  have:=e2 b hb
  exact Prod.ext (by omega) (by omega)) λx hx=>by
   obtain⟨l,hl,rfl⟩:=aR1.mp hx
   have:=e2 l hl
   omega
 rw[aJ2,e3]at this
 omega
noncomputable def pD:c8:=λxs Q=>∃c:Int,xs = [.int c]/\∀z:Int,0<=z->z<=40->Q (.int z)
noncomputable def F5:aR:=(aP (bS (aU (fE (bH (cK (a6 0) (qC (.int 8))) (qC (.int 3))) (qC (.int 1)))) (bJ (bH (cK (a6 0) (qC (.int 24))) (qC (.int 41)))) bX)
 (bJ (bH (a6 0) (qC (.int 8)))))
theorem aw9:dP F5 ["cell"] pD:=by
 rintro xs Q ⟨c,rfl,q⟩
 refine⟨_,rfl,_,_,rfl,rfl,⟨by decide,by decide⟩,_,_,rfl,rfl,(by show (0:Int)<3;decide),.inl ⟨_,_,rfl,rfl,_,rfl,?_⟩⟩
 cases h:(if false=true then !decide (c/8%3=1) else decide (c/8%3=1)) with
 |true=>exact b8 ⟨_,rfl,_,_,rfl,rfl,⟨by decide,by decide⟩,_,_,rfl,rfl,(by show (0:Int)<41;decide),trivial,q _ (aN0 _ (by decide)) (by have:=aO5 (c/24) (show (0:Int)<41 by decide);omega)⟩
 |false=>exact aW ⟨_,rfl,_,_,rfl,rfl,(by show (0:Int)<8;decide),trivial,q _ (aN0 _ (by decide)) (by have:=aO5 c (show (0:Int)<8 by decide);omega)⟩
theorem F6 (n:Nat):∀(a b:ad),((((tups a).zip (tups b)).all λp=>aY (n+1) p.1 p.2)&&(tups a).length==(tups b).length)=decide (a=b)
 |[],[]=>rfl
 |[],_::_=>by simp[tups]
 |_::_,[]=>by simp[tups]
 |x::a,y::b=>by
  have ih:=F6 n a b
  have e:∀(z:ae) (c:ad),tups (z::c)=PV.tup (intz z)::tups c:=λ_ _=>rfl
  rw[e,e]
  simp only[aR2,aR5,aM0,sW]at ih ⊢
  by_cases h:x=y
  ·subst h
   have:((tups a).length+1==(tups b).length+1)=((tups a).length==(tups b).length):=by simp
   rw[this,aJ5 rfl,Bool.true_and,ih]
   simp
  ·rw[aJ1 h,Bool.false_and,Bool.false_and]
   simp[h]
theorem pE (n:Nat)(a b:ad):aY (n+2) (.lst (tups a)) (.lst (tups b))=decide (a=b):=F6 n a b
theorem mU (n:Nat):∀(a b:ad),bF (n+2) (.lst (tups a)) (.lst (tups b))=true
 |[],_=>by unfold bF tups;simp
 |_::_,[]=>by unfold bF tups;simp
 |x::a,y::b=>by
  have ih:=mU n a b
  show (((PV.tup (intz x)::tups a).zip (PV.tup (intz y)::tups b)).all λp=>bF (n+1) p.1 p.2)=true
  rw[aR2,aR5,sY,Bool.true_and]
  exact ih
theorem uN:∀(g:Bool) {x:PV},flat x=true->Nw (Slot.sh g x).tag x
 |true,_,_=>trivial
 |false,_,h=>h
noncomputable abbrev F7 (bs:List Bool):List PV:=bs.map PV.bl
section
variable {ws:ae}{ls:aa}
noncomputable def cne (ws:ae)(ls:aa)(S:ae):Bool:=!decide (S = [])&&decide (stay ws ls S=S)
end
noncomputable def far (ns S:ae):Bool:=decide (((S.filter λx=>decide (x∈ns)).length:Int)=0)
noncomputable def ax0 (ls:aa)(S U:ae):Prop:=∀x∈U,∀y∈bN ls x,y∈S->y∈U
noncomputable def ax1 (ls:aa)(S:ae)(h:Int):ae:=S.filter λx=>@decide (∀U:ae,ax0 ls S U->h∈U->x∈U) (Classical.propDecidable _)
section
variable {ws:ae}{ls:aa}{S:ae}{n:Nat}{h x:Int}
noncomputable def ax2 (ls:aa)(S:ae)(h:Int):Bool:=decide ((ax1 ls S h).head? = some h)
noncomputable def ax3 (ls:aa)(S:ae):ae:=S.filter (ax2 ls S)
end
noncomputable def F8 (ws:ae)(ls:aa):ae->ae->Bool
 |_,[]=>true
 |B,h::R=>inB ws.length h&&(kin ws ls B h&&F8 ws ls (B++[h]) R)
end Core
namespace PP
open PySem L2
section
variable {X:Cx}{a b e:Expr}{ta tb te:aA}{tr:c7}{pos:Pos}{σ:St}{H:Hp}{Q':VK}{es:List Expr}
noncomputable def uO (t:c7):aA:=λρ Q=>t ρ λxs=>xs.length<=1000/\jF xs/\Q (.lst (xs.map (·.1))) .nw
theorem ax4 (h:LE X (uO tr) σ H Q'):qO (LA X tr) σ H Q':=by
 obtain⟨W,ρ,Q,px,q,k⟩:=h
 refine⟨W,ρ,_,px,q,?_⟩
 rintro vs H1 xs s1 r ⟨hl,n,q⟩
 refine⟨by rw[r.length];exact lV hl,λp hp=>k _ _ _ .nw (s1.trans (b7 hp _)) (.lst (px.new (s1.free hp)) bB ?_) q⟩
 exact (jF.reps (vs:=vs) px n r).same (b7 hp _) λ_ z=>z
theorem ax5 (ha:QA X es tr):QE X (.List es pos) (uO tr):=bO (qP ha) λ_ _ _=>ax4
end
end PP
namespace Core
open PySem L2 PP
theorem ax6 {n k:Nat}(h:k<n):fP n (k:Int)=some k:=by
 unfold fP
 rw[if_pos (by omega),if_pos (by omega),aQ1]
noncomputable def Ord (ws:ae)(ls:aa)(ns R:ae):Prop:=F8 ws ls ns R=true/\au4 ws ls (ns++R)
end Core
namespace PP
open PySem L2
section
variable {X:Cx}{a b:Expr}{ta tb:aA}{pos:Pos}
noncomputable def F9:PV->Tg->PV->Tg->PK->Prop:=λx _ y _ Q=>∃ns ms:ae,x = .tup (intz ns)/\y = .tup (intz ms)/\Q (.bl (HT.bZ ns ms)) .fr
theorem ax7:dL X F9 (qU X.K):=by
 rintro W Hs H u v x y g g' Q Q' s n r1 r2 ⟨ns,ms,rfl,rfl,q⟩ k
 obtain⟨p1,us,rfl,h1,r1⟩:=r1.sqT
 obtain⟨p2,vs,rfl,h2,r2⟩:=r2.sqT
 obtain rfl:=r1.ofInts
 obtain rfl:=r2.ofInts
 exact⟨p1,p2,ns,ms,rfl,rfl,aI.of h1,aI.of h2,k _ _ _ _ (aE.refl _) (.bl _) q⟩
end
end PP
namespace L2
open PySem PySem.Spec PyProof.Rows PP
section
variable {prog:Program}{w:World}{A:Around}{R:Result→Shared→Prop}{I S:Addr}{n:Nat}{l:Addr}{its:Array Value}{s0:Shared}{bt:Nat→Nat→Bool}
noncomputable abbrev at_ (s:Shared)(h:Heap)(k:Nat):Shared:={ s with heap:=h,toks:=k }
noncomputable abbrev ax8 (g h:Heap):Prop:=∀b o,g.get? b=some o->h.get? b=some o
noncomputable def c9 (prog:Program)(w:World)(A:Around)(s0:Shared)(its:Array Value)(bt:Nat->Nat->Bool):Prop:=
 ∀(i j:Nat) (v u:Value) (h:Heap) (k:Nat) (Q E:Value->Shared->Prop),its[i]? = some v->its[j]? = some u->ax8 s0.heap h->Q (.bool (bt i j)) (at_ s0 h k)->wpAny (model prog w) A (richCompare .Lt v u) Q E (at_ s0 h k)
end
end L2
namespace Core
open PySem L2 PP
theorem G0 (ps:ae):cS (intz ps) (some 1) none=intz (ps.drop 1):=by
 unfold cS
 have e1:HT.aO (intz ps).length 0 (some 1)=min 1 ps.length:=by
  rw[eS]
  show (if (1:Int)<0 then ((1:Int)+(ps.length:Int)).toNat else min (1:Int).toNat ps.length)=_
  rw[if_neg (by decide)];rfl
 rw[e1]
 show ((intz ps).drop (min 1 ps.length)).take ((intz ps).length-min 1 ps.length)=_
 rw[aL8 (by rw[aO8];exact aI6 _)]
 show (List.map PV.int ps).drop _=List.map PV.int _
 cases ps with
 |nil=>rfl
 |cons x xs=>rw[show min 1 (x::xs).length=1 by simp];rfl
noncomputable def FB (L:ad)(f:ae->Int)(r:ae):Prop:=∃i,L[i]? = some r/\(∀(j:Nat) (s:ae),j<i->L[j]? = some s->f s<f r)/\∀s∈L,f s<=f r
end Core
namespace L2
open PySem PySem.Spec PyProof.Rows
section
variable {prog:Program}{w:World}{A:Around}{E:Value→Shared→Prop}{s:Shared}{l:Addr}{xs:Array (Int×Tok)}
theorem G1 {Q:Value->Shared->Prop}(hl:s.heap.IsTuple l (intItems xs))(h:∀h2:Heap,(h2.IsTupleIter s.heap.objs.size l 0/\h2.IsTuple l (intItems xs))->(∀b∈[s.heap.objs.size,l],b<h2.objs.size)->l≠s.heap.objs.size->(∀b o,s.heap.get? b=some o->b∉[s.heap.objs.size]/\h2.get? b=some o)->Q (.ref s.heap.objs.size) { s with heap:=h2 }):wpAny (model prog w) A (pyIter (.ref l)) Q E s:=by
 have lb:l<s.heap.objs.size:=by obtain⟨_,e,_⟩:=hl;exact aJ3 e
 refine aS3 hl (h _ ⟨⟨_,aK1 _ rfl,rfl,rfl⟩,hl.push _⟩ (λb hb=>?_) (aL4 lb) λb o e=>⟨λhm=>?_,aI3 _ e⟩)
 ·rw[aQ5]
  rcases aI5.mp hb with rfl|hb
  ·exact Nat.lt_succ_self _
  ·rw[aJ7.mp hb];exact Nat.lt_succ_of_lt lb
 ·rw[aJ7.mp hm]at e
  exact absurd (aJ3 e) (aM4 _)
theorem ax9 {Q:Value->Shared->Prop}(hh:A.handled=none)(hl:s.heap.IsTuple l (intItems xs))(hne:0<xs.size)(h:∀v h' tk,(intItems xs)[argBest (λi j=>decide (numAt xs i>numAt xs j)) (xs.size-1)]? = some v->(∀b o,s.heap.get? b=some o->h'.get? b=some o)->Q v { s with heap:=h',toks:=tk }):wpAny (model prog w) A (call (.builtin "max") [.ref l]) Q E s:=by
 refine call_max_walk (G1 hl λh2 st hfp ne old=>?_)
 exact⟨_,_,_,_,_,_,_,rfl,Walks.tuple (A:=A.in1) hh _ l ne (intItems xs),st,hfp,by simpa[intItems] using hne,CmpOf.ints_gt (numAt xs) (λ_ _=>intItems_at),λv h' tk hP hk=>h v h' tk (by simpa[intItems] using hP) λb o e=>hk b o (old b o e).1 (old b o e).2⟩
theorem ay0 {Q:Value->Shared->Prop}(hh:A.handled=none)(hl:s.heap.IsTuple l (intItems xs))(hne:0<xs.size)(h:∀v h' tk,(intItems xs)[argBest (λi j=>decide (numAt xs i<numAt xs j)) (xs.size-1)]? = some v->(∀b o,s.heap.get? b=some o->h'.get? b=some o)->Q v { s with heap:=h',toks:=tk }):wpAny (model prog w) A (call (.builtin "min") [.ref l]) Q E s:=by
 refine call_min_walk (G1 hl λh2 st hfp ne old=>?_)
 exact⟨_,_,_,_,_,_,_,rfl,Walks.tuple (A:=A.in1) hh _ l ne (intItems xs),st,hfp,by simpa[intItems] using hne,CmpOf.ints_lt (numAt xs) (λ_ _=>intItems_at),λv h' tk hP hk=>h v h' tk (by simpa[intItems] using hP) λb o e=>hk b o (old b o e).1 (old b o e).2⟩
end
section
variable {X:Cx}
theorem ay1 (hc:X.calm=true):cN X (.builtin "max") (λxs H Q=>∃(a:Addr) (ns:ae),xs = [.ref a]/\aI X.K H a (ns.map V.int)/\ns≠[]/\∀M:Int,M∈ns->(∀x∈ns,x<=M)->Q (.int M) H):=by
 intro pins s σ H xs us Q I r h
 obtain⟨a,ns,rfl,hq,ne,q⟩:=h
 obtain⟨u,rfl,ru⟩:=gV r
 cases ru
 obtain⟨its,rv,p,hz⟩:=I.tuple hq
 have ia:=lM rv
 obtain⟨ys,ey⟩:=ia.allInts.items
 have en:ns=ys.toList.map (·.1):=by
  have e1:=nums_intItems ys
  rw[<- ey]at e1
  exact ia.numsOf.symm.trans e1
 have pos:0<ys.size:=Nat.pos_of_ne_zero λz=>ne (by rw[en,Array.eq_empty_of_size_eq_zero z];rfl)
 have hl:s.heap.IsTuple a (intItems ys):=by rw[<- ey];exact p
 refine ax9 (I.ok.hd hc) hl pos λv h' tk ev old=>?_
 obtain⟨t,rfl⟩:=intItems_at ev
 have best:=argBest_gt (numAt ys) (ys.size-1)
 have mem:∀x:Int,x∈ns↔∃j,j<ys.size/\numAt ys j=x:=λx=>by
  rw[en]
  constructor
  ·intro z
   obtain⟨j,hj,e⟩:=mem_getD z
   exact⟨j,by simpa using hj,by rw[numAt_eq];exact e⟩
  ·rintro⟨j,hj,rfl⟩
   rw[numAt_eq]
   exact getD_mem (by simpa using hj)
 refine⟨.int _,H,I.kept (t':=tk) (h':=h') old,⟨t,rfl⟩,q _ ?_ λx hx=>?_⟩
 ·exact (mem _).mpr ⟨_,by have:=best.1;omega,rfl⟩
 ·obtain⟨j,hj,rfl⟩:=(mem x).mp hx
  exact best.2 j (by omega)
theorem ay2 (hc:X.calm=true):cN X (.builtin "min") (λxs H Q=>∃(a:Addr) (ns:ae),xs = [.ref a]/\aI X.K H a (ns.map V.int)/\ns≠[]/\∀M:Int,M∈ns->(∀x∈ns,M<=x)->Q (.int M) H):=by
 intro pins s σ H xs us Q I r h
 obtain⟨a,ns,rfl,hq,ne,q⟩:=h
 obtain⟨u,rfl,ru⟩:=gV r
 cases ru
 obtain⟨its,rv,p,hz⟩:=I.tuple hq
 have ia:=lM rv
 obtain⟨ys,ey⟩:=ia.allInts.items
 have en:ns=ys.toList.map (·.1):=by
  have e1:=nums_intItems ys
  rw[<- ey]at e1
  exact ia.numsOf.symm.trans e1
 have pos:0<ys.size:=Nat.pos_of_ne_zero λz=>ne (by rw[en,Array.eq_empty_of_size_eq_zero z];rfl)
 have hl:s.heap.IsTuple a (intItems ys):=by rw[<- ey];exact p
 refine ay0 (I.ok.hd hc) hl pos λv h' tk ev old=>?_
 obtain⟨t,rfl⟩:=intItems_at ev
 have best:=argBest_lt (numAt ys) (ys.size-1)
 have mem:∀x:Int,x∈ns↔∃j,j<ys.size/\numAt ys j=x:=λx=>by
  rw[en]
  constructor
  ·intro z
   obtain⟨j,hj,e⟩:=mem_getD z
   exact⟨j,by simpa using hj,by rw[numAt_eq];exact e⟩
  ·rintro⟨j,hj,rfl⟩
   rw[numAt_eq]
   exact getD_mem (by simpa using hj)
 refine⟨.int _,H,I.kept (t':=tk) (h':=h') old,⟨t,rfl⟩,q _ ?_ λx hx=>?_⟩
 ·exact (mem _).mpr ⟨_,by have:=best.1;omega,rfl⟩
 ·obtain⟨j,hj,rfl⟩:=(mem x).mp hx
  exact best.2 j (by omega)
end
end L2
namespace PP
open PySem L2
section
variable {X:Cx}{a b e:Expr}{ta tb:aA}{tr:c7}{pos p2:Pos}
noncomputable def uP:List PV->(PV->Prop)->Prop:=λxs Q=>∃ns:ae,xs = [.tup (intz ns)]/\ns≠[]/\∀M:Int,M∈ns->(∀x∈ns,x<=M)->Q (.int M)
noncomputable def uQ:List PV->(PV->Prop)->Prop:=λxs Q=>∃ns:ae,xs = [.tup (intz ns)]/\ns≠[]/\∀M:Int,M∈ns->(∀x∈ns,M<=x)->Q (.int M)
theorem ay3:eM X uP (λxs H Q=>∃(a:Addr) (ns:ae),xs = [.ref a]/\aI X.K H a (ns.map V.int)/\ns≠[]/\∀M:Int,M∈ns->(∀x∈ns,x<=M)->Q (.int M) H):=by
 rintro H vs xs Q Q' r ⟨ns,rfl,ne,q⟩ k
 obtain⟨v,rfl,r1⟩:=r.one
 obtain⟨a,us,rfl,h,r2⟩:=r1.sqT
 rw[r2.ofInts]at h
 exact⟨a,ns,rfl,aI.of h,ne,λM m1 m2=>k _ _ _ (aE.refl _) (.int M) (q M m1 m2)⟩
theorem ay4:eM X uQ (λxs H Q=>∃(a:Addr) (ns:ae),xs = [.ref a]/\aI X.K H a (ns.map V.int)/\ns≠[]/\∀M:Int,M∈ns->(∀x∈ns,M<=x)->Q (.int M) H):=by
 rintro H vs xs Q Q' r ⟨ns,rfl,ne,q⟩ k
 obtain⟨v,rfl,r1⟩:=r.one
 obtain⟨a,us,rfl,h,r2⟩:=r1.sqT
 rw[r2.ofInts]at h
 exact⟨a,ns,rfl,aI.of h,ne,λM m1 m2=>k _ _ _ (aE.refl _) (.int M) (q M m1 m2)⟩
theorem ay5 (B:Bt X.mg)(hc:X.calm=true)(ha:QA X [e] tr)(hg:Gl X "max":=by rfl)(he:starEach [e] X.env=(false,eval e X.env)::starEach [] X.env:=by rfl)(hpl:(backTo pos (starEach [] X.env)).any (·.1)=false:=by rfl):QE X (.Call (.Name "max" p2) [e] [] pos) (aM uP tr):=
 jP (ay1 hc) ay3 hg B.max PyProof.Rows.boot_max ha (he:=he) (hpl:=hpl)
theorem ay6 (B:Bt X.mg)(hc:X.calm=true)(ha:QA X [e] tr)(hg:Gl X "min":=by rfl)(he:starEach [e] X.env=(false,eval e X.env)::starEach [] X.env:=by rfl)(hpl:(backTo pos (starEach [] X.env)).any (·.1)=false:=by rfl):QE X (.Call (.Name "min" p2) [e] [] pos) (aM uQ tr):=
 jP (ay2 hc) ay4 hg B.min PyProof.Rows.boot_min ha (he:=he) (hpl:=hpl)
noncomputable def G2 (K:ac):R2:=λx y H Q=>gF (λi j=>.bl (decide (i<j))) x y H Q∨qU K x y H Q
theorem ay7 (hu:X.A.units<cLine):bY X (compareOp .Lt) (G2 X.K):=by
 intro pins s σ H x y v u Q I rx ry h
 rcases h with h|h
 ·exact wA pins s σ H x y v u Q I rx ry h
 ·exact X6 hu pins s σ H x y v u Q I rx ry h
noncomputable def pF:PV->Tg->PV->Tg->PK->Prop:=λx g y g' Q=>eJ (λi j=>.bl (decide (i<j))) x g y g' Q∨F9 x g y g' Q
theorem ay8:dL X pF (G2 X.K):=by
 intro W Hs H u v x y g g' Q Q' s n r1 r2 h k
 rcases h with h|h
 ·exact .inl (nW W Hs H u v x y g g' Q Q' s n r1 r2 h k)
 ·exact .inr (ax7 W Hs H u v x y g g' Q Q' s n r1 r2 h k)
theorem ay9 (hu:X.A.units+1<cLine)(ha:QE X a ta)(hb:QE X b tb):QE X (.Compare a [.Lt] [b] pos) (q2 pF ta tb):=z9 (ay7 (by omega)) ay8 ha hb (iI _)
end
end PP
namespace L2
open PySem PySem.Spec PyProof.Rows
section
variable {X:Cx}
noncomputable def G3 (K:ac)(ta:TA):TI:=λσ H R=>ta σ H λvs H1=>∃a b,vs = [.ref a,.ref b]/\((∃xs ys,aI K H1 a xs/\aI K H1 b ys/\R (rZ K a b) H1)∨∃xs ys,aL K H1 a xs/\aL K H1 b ys/\R (sB K a b) H1)
theorem az0 {elts:List Expr}{kt:Nat}{pt:Pos}{a b:Expr}{ta:TA}{p pos:Pos}(hg:Gl X "zip")(hm:X.mg "zip" = none)(ha:PA X [a,b] ta)(hs:starEach [a,b] X.env = [(false,eval a X.env),(false,eval b X.env)]:=by rfl)(hs2:starEach [b] X.env = [(false,eval b X.env)]:=by rfl) :
  PI X (.Tuple elts kt pt) (.Call (.Name "zip" p) [a,b] [] pos) (G3 X.K ta):=by
 intro pins s σ H R I h
 refine Call_ (j9 I hg hm PyProof.Rows.boot_zip (aR4 (aJ (ha pos pins s σ H _ I h) λus s1 ⟨vs,H1,I1,r1,q1⟩=>?_) (by rw[hs,hs2]) (by rw[hs2];rfl)))
 obtain⟨a',b',e,q1⟩:=q1
 subst e
 obtain⟨u1,u2,rfl,r,r'⟩:=aK.two r1
 cases r
 cases r'
 have fresh:∀k,H1 (s1.heap.objs.size+k)=none:=λk=>I1.hok.fresh (aS5 _ _)
 have fp:∀c∈[s1.heap.objs.size+4,s1.heap.objs.size+2,s1.heap.objs.size+3,s1.heap.objs.size,s1.heap.objs.size+1],dG X pins H1 c:=λc hc=>by
  simp only[aI5,aJ6,aM1]at hc
  rcases hc with rfl|rfl|rfl|rfl|rfl
  ·exact I1.fpOk (aS5 _ _) (fresh 4)
  ·exact I1.fpOk (aS5 _ _) (fresh 2)
  ·exact I1.fpOk (aS5 _ _) (fresh 3)
  ·exact I1.fpOk (aI6 _) (fresh 0)
  ·exact I1.fpOk (aS5 _ _) (fresh 1)
 rcases q1 with⟨xs,ys,h1,h2,q⟩|⟨xs,ys,h1,h2,q⟩
 ·obtain⟨us,_,p1,_⟩:=I1.tuple h1
  obtain⟨ws,_,p2,_⟩:=I1.tuple h2
  refine Zp.ad2 p1 p2 λh' z ti to s1' s2' kp=>wpAny_pyIter_zip z ?_
  exact⟨s1.heap.objs.size+4,[s1.heap.objs.size+4,s1.heap.objs.size+2,s1.heap.objs.size+3,s1.heap.objs.size,s1.heap.objs.size+1],_,_,H1,rfl,I1.kept (t':=s1.toks) kp,ad5 a' b' _ _ _ _ _ (by simp),⟨z,ti,⟨_,_,to⟩,s1',s2'⟩,fp,q⟩
 ·obtain⟨us,_,p1,_⟩:=I1.list h1
  obtain⟨ws,_,p2,_⟩:=I1.list h2
  refine call_zip_2 p1.isList p2.isList λh' z ti to s1' s2' _ kp=>wpAny_pyIter_zip z ?_
  exact⟨s1.heap.objs.size+4,[s1.heap.objs.size+4,s1.heap.objs.size+2,s1.heap.objs.size+3,s1.heap.objs.size,s1.heap.objs.size+1],_,_,H1,rfl,I1.kept (t':=s1.toks) kp,ae1 a' b' _ _ _ _ _ (by simp),⟨z,ti,⟨_,_,to⟩,s1',s2'⟩,fp,q⟩
end
end L2
namespace PP
open PySem L2
theorem az1 {K:ac}{H0:Hp}{W:Addr->Prop}{g:Bool}{H1:Hp}{a b:Addr}{us vs:List V}{xs ys:List PV}(tw:∀a,W a->∃o,H1 a=some o/\dJ o=true)(ha:∀W' H',Ev W H1 W' H'->aL K H' a us)(hb:∀W' H',Ev W H1 W' H'->aL K H' b vs)(r:Reps K (Ms H0 W g) H1 us xs)(r':Reps K (Ms H0 W g) H1 vs ys):iN K H0 W g H1 (sB K a b) (gO xs ys):=by
 have lr:=r.length
 have lr':=r'.length
 have ll:=uC xs ys
 refine⟨λW' H' i e hi=>⟨us,vs,us[i]'(by omega),vs[i]'(by omega),ha W' H' e,hb W' H' e,by simp,by simp⟩,λW' H' i v H2 e y hi=>?_,λW' H' e=>⟨us,vs,ha W' H' e,hb W' H' e,by omega⟩⟩
 obtain⟨T,x,y',hT,rfl,rfl,y⟩:=y
 obtain⟨h1,h2⟩:=y us vs (ha W' _ e) (hb W' _ e)
 obtain⟨z,hz,rz⟩:=r.get h1
 obtain⟨z',hz',rz'⟩:=r'.get h2
 have sm:=b7 hT (HO.tup [x,y'])
 exact⟨sm,_,E7 hz hz',.tup bB (.cons ((rz.keep (e.keep tw)).same sm λ_ q=>q) (.cons ((rz'.keep (e.keep tw)).same sm λ_ q=>q) .nil))⟩
section
variable {X:Cx}{σ:L2.St}{H:Hp}{ta tb:aA}{R:It→Hp→Prop}
noncomputable def uR (ta tb:aA):dB:=λρ Q=>ta ρ λx g0=>tb ρ λy g=>∃xs ys,((x = .tup xs/\y = .tup ys)∨(x = .lst xs/\y = .lst ys/\g0≠.rd/\g≠.rd))/\flats xs=true/\flats ys=true/\Q (gO xs ys) true
theorem G4 {K:ac}{H0 Hs:Hp}{W:Addr->Prop}{σ:L2.St}{ρ:b9}{g:Tg}{b:Addr}(px:PX K H0 W σ ρ Hs)(ng:g≠.rd)(m:Mg H0 W Hs g b):¬W b:=by
 cases g with
 |fr=>exact (px.new m).1
 |nw=>exact m.1
 |sh=>exact m
 |rd=>exact absurd rfl ng
theorem az2 (h:LI X (uR ta tb) σ H R):G3 X.K (gW (LE X ta) (gW (LE X tb) jB)) σ H R:=by
 obtain⟨W,ρ,Q,px,q,k⟩:=h
 refine⟨W,ρ,_,px,q,λv0 H0 x0 g0 s0 r0 q0=>⟨W,ρ,_,px.mono s0,q0,?_⟩⟩
 rintro v H1 x g s r ⟨xs,ys,c,fx,fy,q⟩
 have S:=s0.trans s
 have px1:=px.mono S
 have tw:∀a,W a->∃o,H1 a=some o/\dJ o=true:=λa z=>(px1.wm a z).2
 rcases c with⟨rfl,rfl⟩|⟨rfl,rfl,n0,n1⟩
 ·obtain⟨a,us,rfl,h1,ra⟩:=(r0.same (M':=λ_=>True) s λ_ _=>trivial).sqT
  obtain⟨b,vs,rfl,h2,rb⟩:=r.sqT
  have sta:∀{c us},H1 c=some (.tup us)->∀W' H',Ev W H1 W' H'->aI X.K H' c us:=λ{c us} hc W' H' e=>aI.of (e _ _ hc (λz=>by obtain⟨o,h',mu⟩:=tw _ z;rw[hc]at h';cases h';cases mu) rfl).1
  exact⟨a,b,rfl,.inl ⟨us,vs,aI.of h1,aI.of h2,k _ _ _ _ S (au9 tw (sta h1) (sta h2) (ra.flat fx) (rb.flat fy)) q⟩⟩
 ·obtain⟨a,us,rfl,m0,h1,ra⟩:=(r0.same s λ_ z=>z).sqL
  obtain⟨b,vs,rfl,m1,h2,rb⟩:=r.sqL
  have w0:=G4 px n0 m0
  have w1:=G4 (px.mono s0) n1 m1
  exact⟨a,b,rfl,.inr ⟨us,vs,aL.of h1,aL.of h2,k _ _ _ _ S (az1 tw (λW' H' e=>aL.of (e _ _ h1 w0 rfl).1) (λW' H' e=>aL.of (e _ _ h2 w1 rfl).1) (ra.flat fx) (rb.flat fy)) q⟩⟩
theorem az3 {elts:List Expr}{kt:Nat}{pt p2 pos:Pos}{a b:Expr}(B:Bt X.mg)(ha:QE X a ta)(hb:QE X b tb)(hg:Gl X "zip":=by rfl)(hs:starEach [a,b] X.env = [(false,eval a X.env),(false,eval b X.env)]:=by rfl)(hs2:starEach [b] X.env = [(false,eval b X.env)]:=by rfl):QI X (.Tuple elts kt pt) (.Call (.Name "zip" p2) [a,b] [] pos) (uR ta tb):=
 m8 (az0 hg B.zip (dZ ha (dZ hb fN hs2) (by rw[hs,hs2])) hs hs2) λ_ _ _=>az2
end
end PP
namespace Core
open PySem L2 PP
theorem az4 (xs:List PV):cS xs (some 1) none=xs.drop 1:=by
 unfold cS
 have e1:HT.aO xs.length 0 (some 1)=min 1 xs.length:=by
  show (if (1:Int)<0 then ((1:Int)+(xs.length:Int)).toNat else min (1:Int).toNat xs.length)=_
  rw[if_neg (by decide)];rfl
 rw[e1]
 show (xs.drop (min 1 xs.length)).take (xs.length-min 1 xs.length)=_
 rw[aL8 (by rw[aO8];exact aI6 _)]
 cases xs with
 |nil=>rfl
 |cons x xs=>rw[show min 1 (x::xs).length=1 by simp]
noncomputable def pG {α:Type}(lt:α->α->Bool)(A:List α):Bool:=((A.zip (A.drop 1)).map λp=>lt p.1 p.2).all id
noncomputable def pH:c8:=λxs Q=>∃x,xs = [x]/\((∃ns,gD x ns/\ns.length<=1000/\Q (.bl (ap7 ns)))∨∃ls:aa,x = .lst (a9 ls)/\ls.length<=4096/\∀b:Bool,(b=true↔ls.Pairwise eB)->Q (.bl b))
noncomputable def uS:aR:=(bJ (aM sM (a7 (dM (uR (a6 0) (iS (a6 0) (iR (qC (.int 1))) iQ)) [none,none] (jK 0 1) cR (q2 pF (a6 0) (a6 1))) aB)))
theorem G5 {α:Type}(f:α->PV)(lt:α->α->Bool)(fl:∀a,flat (f a)=true)(hlt:∀(a b:α) (g g':Tg) (K:PK),K (.bl (lt a b)) .fr->pF (f a) g (f b) g' K)(A:List α)(la:A.length<=10000)(x:PV)(hx:x = .tup (A.map f)∨x = .lst (A.map f)){Q:PV->Prop}(q:Q (.bl (pG lt A))) :
  uS { nx:=λ_=>Q .non,rt:=Q } [some (.sh (flat x) x)]:=by
 have fls:∀B:List α,flats (B.map f)=true:=λB=>by
  induction B with
  |nil=>rfl
  |cons b B ih=>show (flat (f b)&&flats (B.map f))=true;rw[fl,ih];rfl
 have sx:seqT x=some (A.map f):=by rcases hx with rfl|rfl<;>rfl
 have cut:cS (A.map f) (some 1) none=(A.drop 1).map f:=by rw[az4,List.map_drop]
 refine⟨_,rfl,_,rfl,_,rfl,_,sx,fls A,?_⟩
 rw[cut]
 refine⟨A.map f,(A.drop 1).map f,?_,fls A,fls _,?_⟩
 ·rcases hx with rfl|rfl
  ·exact .inl ⟨rfl,rfl⟩
  ·refine .inr ⟨rfl,rfl,?_,λz=>by cases z⟩
   cases flat (.lst (A.map f))<;>intro z<;>cases z
 have zl:(gO (A.map f) ((A.drop 1).map f)).length=A.length-1:=by rw[uC,aJ2,aJ2,aO8];omega
 refine⟨by rw[zl];omega,λi acc=>acc=F7 (((A.zip (A.drop 1)).take i).map λp=>lt p.1 p.2),rfl,?_,?_⟩
 ·rintro i y acc hy rfl
  obtain⟨u,v,h1,h2,rfl⟩:=au8 hy
  rw[aJ9]at h1 h2
  cases ha:A[i]? with
  |none=>rw[ha]at h1;cases h1
  |some a=>
   cases hb:(A.drop 1)[i]? with
   |none=>rw[hb]at h2;cases h2
   |some b=>
    rw[ha]at h1
    rw[hb]at h2
    cases h1
    cases h2
    have hz:(A.zip (A.drop 1))[i]? = some (a,b):=List.getElem?_zip_eq_some.mpr ⟨ha,hb⟩
    refine⟨_,_,rfl,_,rfl,_,rfl,hlt a b _ _ _ ⟨trivial,?_⟩⟩
    dsimp only
    rw[aO2,hz,aM9]
    unfold F7
    rw[aM9];rfl
 ·rintro acc rfl
  rw[aL8 (by rw[zl,List.length_zip,aO8];omega)]
  exact⟨_,rfl,trivial,q⟩
theorem az5 (ls:aa):pG (λa b=>HT.bZ [a.1,a.2] [b.1,b.2]) ls=true↔ls.Pairwise eB:=by
 have lt2:∀a b:Int×Int,HT.bZ [a.1,a.2] [b.1,b.2]=true↔eB a b:=λa b=>by
  unfold eB
  rw[HT.iJ,HT.iJ,HT.qT]
  by_cases h1:a.1=b.1
  ·rw[if_pos h1]
   by_cases h2:a.2=b.2
   ·rw[if_pos h2]
    exact⟨λz=>(by cases z),λz=>(by omega)⟩
   ·rw[if_neg h2,aM2];omega
  ·rw[if_neg h1,aM2];omega
 induction ls with
 |nil=>exact⟨λ_=>.nil,λ_=>rfl⟩
 |cons a r ih=>
  cases r with
  |nil=>exact⟨λ_=>aT2 _ _,λ_=>rfl⟩
  |cons b r=>
   have e:pG (λa b:Int×Int=>HT.bZ [a.1,a.2] [b.1,b.2]) (a::b::r)=(HT.bZ [a.1,a.2] [b.1,b.2]&&pG (λa b:Int×Int=>HT.bZ [a.1,a.2] [b.1,b.2]) (b::r)):=rfl
   rw[e,aN8,lt2,List.pairwise_cons]
   refine⟨λ⟨h1,h2⟩=>⟨λc hc=>?_,ih.mp h2⟩,λ⟨h1,h2⟩=>⟨h1 b aK0,ih.mpr h2⟩⟩
   rcases aI5.mp hc with rfl|hc
   ·exact h1
   ·have:=(List.pairwise_cons.mp (ih.mp h2)).1 c hc
    unfold eB at *;omega
theorem az6:dP uS ["things"] pH:=by
 rintro xs Q ⟨x,rfl,⟨ns,hx,hl,q⟩|⟨ls,rfl,hl,q⟩⟩
 ·exact G5 PV.int (λa b=>decide (a<b)) (λ_=>rfl) (λa b g g' K h=>.inl ⟨_,_,rfl,rfl,h⟩) ns (by omega) x hx q
 ·exact G5 (λl:Int×Int=>PV.tup [.int l.1,.int l.2]) (λa b=>HT.bZ [a.1,a.2] [b.1,b.2]) (λ_=>rfl) (λa b g g' K h=>.inr ⟨_,_,rfl,rfl,h⟩) ls (by omega) _ (.inr rfl) (q _ (az5 ls))
noncomputable def bD (l:Int×Int):Int×Int:=(min l.1 l.2,max l.1 l.2)
noncomputable def cP (n:Nat)(ls:aa):ae:=(List.range n).map λ(k:Nat)=>((bN ls (k:Int)).length:Int)
section
variable {n:Nat}{ls:aa}{S:ae}
theorem pI:(cP n ls).length=n:=by unfold cP;rw[aJ2,aT1]
end
noncomputable def j4 (n:Nat)(ls:aa):Prop:=(∀l∈ls,0<=l.1/\l.1<l.2/\l.2<(n:Int))/\ls.length<=1700/\ls.Pairwise eB
theorem az7 {l:Int×Int}(h:l.1<l.2):bD l=l:=by
 unfold bD
 rw[show min l.1 l.2=l.1 by omega,show max l.1 l.2=l.2 by omega]
theorem az8 {a b:aa}(p:a.Perm b)(ha:a.Pairwise eB)(hb:b.Pairwise eB):a=b:=
 p.eq_of_pairwise (λx y _ _ h1 h2=>by unfold eB at h1 h2;omega) ha hb
theorem G6:∀n:Nat,(List.replicate n [PV.int 0]).flatten=intz (List.replicate n 0)
 |0=>rfl
 |n+1=>by rw[aP9,aT0,aP9];show PV.int 0::_=PV.int 0::_;rw[G6 n];rfl
noncomputable def az9:c8:=λxs Q=>∃ws ls,xs = [bG ws ls,.int 0]/\Wb ws ls/\Q (bG (cP ws.length ls) ls)
noncomputable def uT:aR:=(bJ (cC (a7 (aM i8 (a7 (dM (fW (aM tY (a7 (a6 0) aB))) [none,some 1] (cO 0) cR (aM lY (a7 (qC (.int 0)) (a7 (jN (aM eO (a7 (a6 0) aB)) (a6 1)) aB)))) aB)) (a7 (cT (a6 0) (qC (.int 1))) aB))))
theorem aA0:dP uT ["web","few"] az9:=by
 rintro xs Q ⟨ws,ls,rfl,wb,q⟩
 have few:=wb.few
 have nl:(iC ws.length ls).length=ws.length:=by unfold iC;rw[aJ2,aT1]
 have get:∀i y,(iC ws.length ls)[i]? = some y->i<ws.length/\y = .lst (intz (bN ls (i:Int))):=λi y h=>by
  unfold iC at h
  rw[aJ9]at h
  by_cases hi:i<ws.length
  ·rw[aT5 hi]at h;cases h;exact⟨hi,rfl⟩
  ·rw[List.getElem?_eq_none (by rw[aT1];omega)]at h;cases h
 refine⟨_,rfl,ws,ls,rfl,wb,_,rfl,(λz=>by cases z),by rw[nl];omega,λi acc=>acc=intz ((cP ws.length ls).take i),rfl,?_,?_⟩
 ·rintro i y acc hy rfl
  obtain⟨hi,rfl⟩:=get i y hy
  have dg:(cP ws.length ls)[i]? = some ((bN ls (i:Int)).length:Int):=by unfold cP;rw[aJ9,aT5 hi];rfl
  refine⟨_,rfl,_,_,rfl,rfl,_,rfl,_,_,rfl,rfl,_,_,rfl,trivial,?_⟩
  dsimp only
  rw[eS,aO2,dg,mO,Int.sub_zero,show (if ((bN ls (i:Int)).length:Int)>0 then ((bN ls (i:Int)).length:Int) else 0)=((bN ls (i:Int)).length:Int) by split<;>omega]
  rfl
 rintro acc rfl
 rw[nl,aL8 (by rw[pI];exact aI6 _)]
 exact⟨⟨_,_,rfl,rfl,eI _,_,rfl,_,_,_,rfl,rfl,rfl,by show 2<=1000;decide,mP (cP ws.length ls) ls,trivial,q⟩,λns z=>by cases z⟩
noncomputable def inL (S:ae)(l:Int×Int):Bool:=decide (l.1∈S)&&decide (l.2∈S)
noncomputable def pJ:c8:=λxs Q=>∃x ns,∃n:Nat,xs = [x,.int n]/\fG x ns/\ns.length<=63/\n<=40/\∀ls,j4 n ls->Q (.lst (a9 ls))
noncomputable def uU:aR:=(aP (fB (fW (a6 0)) (cO 3)
  (bS (aU (i7 (a6 1) (qC (.int 1)))) (aP (bA 6 (aM l9 (a7 (a6 3) (a7 (qC (.int 0)) aB))))
   (aP (bA 4 (bH (a6 6) (a6 1)))
   (aP (bA 5 (bH (fD (fD (a6 4) (qC (.int 1))) (bH (cK (a6 6) (qC (.int 64))) (jN (a6 1) (qC (.int 1))))) (a6 1)))
   (aP (bA 7 (cC (a7 (aM sN (a7 (a6 4) (a7 (a6 5) aB))) (a7 (aM lY (a7 (a6 4) (a7 (a6 5) aB))) aB))))
   (bS (iM (aU (sU false (a6 7) (a6 2))) (aU (fE (bH (cK (a6 6) (qC (.int 4096))) (qC (.int 2))) (qC (.int 0))))) (uL 2 (a6 7)) (m5 2 (a6 7) (qC (.bl true)))))))) bX))
 (bJ (aM pC (a7 (aM tZ (a7 (a6 2) aB)) aB))))
noncomputable def G7:aR:=(aP (jG 2 (qC (.dT [])))
 (aP (bS (iM (aU (i7 (aM eO (a7 (a6 0) aB)) (qC (.int 0)))) (aU (fE (bH (cT (a6 0) (qC (.int 0))) (qC (.int 2))) (qC (.int 1))))) (aP (bA 3 (cK (cT (a6 0) (qC (.int 0))) (qC (.int 2))))
  (aP (fB (m3 (a6 1)) (cO 4)
   (fB (sS (fD (a6 4) (qC (.int 1))) (a6 1)) (cO 5)
    (aP (bS (aU (fE (bH (a6 3) (qC (.int 2))) (qC (.int 1)))) (m5 2 (cC (a7 (a6 4) (a7 (a6 5) aB))) (qC (.bl true))) bX)
    (bA 3 (cK (a6 3) (qC (.int 2)))))))
  (bA 0 (iS (a6 0) (iR (qC (.int 1))) iQ)))) bX)
 uU))
theorem aA1 {n one t:Int}(h:1<n)(o0:0<=one)(o1:one<n)(t0:0<=t):(one+1+t%(n-1))%n≠one:=by
 have r0:0<=t%(n-1):=aN0 _ (by omega)
 have r1:t%(n-1)<n-1:=aO5 _ (by omega)
 generalize t%(n-1)=r at r0 r1
 by_cases c:one+1+r<n
 ·rw[Int.emod_eq_of_lt (by omega) c];omega
 ·rw[show one+1+r=(one+1+r-n)+n by omega,Int.add_emod_right,Int.emod_eq_of_lt (by omega) (by omega)];omega
theorem G8 {x:PV}{ns:ae}{n:Nat}{g:Bool}{ps:List (List aH×PV)}{y3 y4 y5:Option Slot}{Q:PV->Prop}(hx:fG x ns)(hg:(Slot.sh g x).tag = .rd->flat x=true)(n1:n<=40)(dk:DK (n:Int) ps)(q:∀ls,j4 n ls->Q (.lst (a9 ls))) :
  uU { nx:=λ_=>Q .non,rt:=Q } [some (.sh g x),si (n:Nat),some (.own (.dT ps)),y3,y4,y5,none,none]:=by
 refine⟨_,rfl,_,hx.seq,hg,λi ρ=>∃(a b c d e:Option Slot) (ps:List (List aH×PV)),ρ = [some (.sh g x),si (n:Nat),some (.own (.dT ps)),a,b,c,d,e]/\DK (n:Int) ps,⟨y3,y4,y5,none,none,ps,rfl,dk⟩,?_,?_⟩
 ·rintro i y ρ hy ⟨a,b,c,d,e,ps,rfl,dk⟩
  obtain⟨cell,rfl,hc⟩:=oY hy
  have few:=dk.few40 (by omega)
  refine mR ?_
  refine⟨_,rfl,_,_,rfl,rfl,_,rfl,?_⟩
  by_cases h1:(n:Int)>1
  ·dsimp only
   rw[aJ5 h1]
   refine b8 ⟨_,rfl,cell,0,rfl,by decide,by decide,λt t0=>⟨trivial,?_⟩⟩
   refine⟨_,rfl,_,rfl,_,_,rfl,rfl,(by show (0:Int)<(n:Int);omega),trivial,?_⟩
   dsimp only
   generalize hone:t%(n:Int)=one
   have o1:0<=one/\one<n:=by rw[<- hone];exact⟨aN0 _ (by omega),aO5 _ (by omega)⟩
   refine⟨_,rfl,_,_,rfl,rfl,_,rfl,_,_,rfl,rfl,⟨by decide,by decide⟩,_,rfl,_,_,rfl,rfl,_,_,rfl,rfl,(by show (0:Int)<(n:Int)-1;omega),_,_,rfl,rfl,_,rfl,_,_,rfl,rfl,(by show (0:Int)<(n:Int);omega),trivial,?_⟩
   dsimp only
   have ne:=aA1 h1 o1.1 o1.2 (Int.ediv_nonneg t0 (by decide:(0:Int)<=64))
   generalize hoth:(one+1+t/64%((n:Int)-1))%(n:Int)=oth
   have o2:0<=oth/\oth<n:=by rw[<- hoth];exact⟨aN0 _ (by omega),aO5 _ (by omega)⟩
   rw[hoth]at ne
   have lk:0<=(if oth<one then oth else one)/\(if oth<one then oth else one)<(if oth>one then oth else one)/\(if oth>one then oth else one)<(n:Int):=by
    split<;>split<;>omega
   refine⟨_,rfl,_,rfl,_,_,rfl,_,rfl,_,rfl,_,_,rfl,by show 2<=1000;decide,rfl,trivial,?_⟩
   dsimp only
   revert lk
   generalize (if oth<one then oth else one)=mn
   generalize (if oth>one then oth else one)=mx
   intro lk
   have put:∀D:gI,(∀ρ,(∃(a b c d e:Option Slot) (ps:List (List aH×PV)),ρ = [some (.sh g x),si (n:Nat),some (.own (.dT ps)),a,b,c,d,e]/\DK (n:Int) ps)->D.nx ρ)->(m5 2 (a6 7) (qC (.bl true))) D [some (.sh g x),si (n:Nat),some (.own (.dT ps)),si cell,si one,si oth,si t,some (.sh true (.tup [.int mn,.int mx]))]:=λD hD=>
    ⟨ps,rfl,_,rfl,eC (mn,mx),rfl,trivial,by omega,hD _ ⟨_,_,_,_,_,_,rfl,dk.put (mn,mx) lk⟩⟩
   refine⟨_,rfl,_,rfl,_,.inr ⟨ps,eC (mn,mx),rfl,rfl,rfl⟩,_,rfl,?_⟩
   cases hv:(eQ ps (eC (mn,mx))).isSome with
   |false=>exact aW (aW (put _ λρ h=>h))
   |true=>
    have is:∃j:Nat,(ps.map (·.1))[j]? = some (eC (mn,mx)):=by
     rw[<- B9]at hv
     obtain⟨p,hp,e⟩:=List.any_eq_true.mp hv
     have e:=of_decide_eq_true e
     obtain⟨j,hj,ej⟩:=aT6 hp
     exact⟨j,by rw[aJ9,aI8 hj,ej];exact congrArg some e⟩
    refine b8 ⟨_,rfl,_,_,rfl,rfl,⟨by decide,by decide⟩,_,_,rfl,rfl,(by show (0:Int)<2;decide),.inl ⟨_,_,rfl,rfl,_,rfl,?_⟩⟩
    dsimp only
    cases (if false=true then !decide (t/4096%2=0) else decide (t/4096%2=0)) with
    |true=>exact b8 ⟨ps,rfl,_,rfl,eC (mn,mx),rfl,is,λj hj=>⟨_,_,_,_,_,_,rfl,dk.cut j⟩⟩
    |false=>exact aW (put _ λρ h=>h)
  ·dsimp only
   rw[aJ1 h1]
   exact aW ⟨_,_,_,_,_,ps,rfl,dk⟩
 rintro ρ ⟨a,b,c,d,e,ps,rfl,dk⟩
 have few:=dk.few40 (by omega)
 obtain⟨ls,e1,e2,e3,e4⟩:=DL.links dk.key
 have lnd:ls.Nodup:=by
  have:=dk.nd
  rw[e4]at this
  exact (aV5.mp this).imp λh e=>h (congrArg eC e)
 refine⟨_,rfl,ps,rfl,ls.map two,?_,by rw[aJ2];omega,?_,λus pz so=>?_⟩
 ·show [PV.lst (ps.map λp=>PV.tup (p.1.map kP))]=_
  rw[e1,jZ]
 ·intro y hy
  obtain⟨l,_,rfl⟩:=aR1.mp hy
  rfl
 obtain⟨ls',rfl,pl⟩:=C8 pz
 rw[<- jZ]
 exact⟨trivial,q ls' ⟨λl hl=>e2 l (pl.mem_iff.mp hl),by rw[pl.length_eq];omega,C9 so (pl.nodup_iff.mpr lnd)⟩⟩
theorem aA2:dP G7 ["flow","many","links","cell","one","other","turn","pair"] pJ:=by
 rintro xs Q ⟨x,ns,n,rfl,hx,hns,n1,q⟩
 refine⟨rfl,rfl,?_⟩
 have last:uU { nx:=λ_=>Q .non,rt:=Q } [some (.sh (flat x) x),si (n:Nat),some (.own (.dT [])),none,none,none,none,none]:=G8 hx (ar7 hx) n1 (DK.nil n) q
 refine⟨_,rfl,_,_,rfl,hx.len,_,_,rfl,rfl,_,rfl,?_⟩
 by_cases h1:(0:Int)<(ns.length:Int)
 ·dsimp only
  rw[aJ5 h1]
  have g0:ns[0]? = some (ns[0]'(by omega)):=aI8 (by omega)
  have i0:L2.atI (intz ns) (0:Int)=some (.int (ns[0]'(by omega))):=qW (xs:=intz ns) (j:=0) (by rw[aJ9,g0];rfl)
  refine b8 ⟨_,rfl,_,_,_,hx.seq,rfl,i0,_,_,rfl,rfl,(by show (0:Int)<2;decide),.inl ⟨_,_,rfl,rfl,_,rfl,?_⟩⟩
  cases h2:(if false=true then !decide (ns[0]'(by omega)%2=1) else decide (ns[0]'(by omega)%2=1)) with
  |false=>exact aW last
  |true=>
   refine b8 ⟨_,rfl,_,_,_,hx.seq,rfl,i0,_,_,rfl,rfl,⟨by decide,by decide⟩,trivial,?_⟩
   refine⟨_,rfl,(n:Int),rfl,by omega,by omega,λi ρ=>∃(c:Int) (y z:Option Slot) (ps:List (List aH×PV)),ρ = [some (.sh (flat x) x),si (n:Nat),some (.own (.dT ps)),si c,y,z,none,none]/\DK (n:Int) ps,⟨_,none,none,[],rfl,DK.nil n⟩,?_,?_⟩
   ·rintro i y ρ hy ⟨c,y1,z1,ps,rfl,dl⟩
    obtain⟨rfl,hi⟩:=oZ hy
    refine mR ?_
    refine⟨_,rfl,_,_,rfl,rfl,_,rfl,_,(n:Int),rfl,rfl,⟨by omega,by omega,by omega,by omega⟩,λj ρ=>∃(c:Int) (z:Option Slot) (ps:List (List aH×PV)),ρ = [some (.sh (flat x) x),si (n:Nat),some (.own (.dT ps)),si c,si (0+(i:Int)),z,none,none]/\DK (n:Int) ps,⟨c,z1,ps,rfl,dl⟩,?_,?_⟩
    ·rintro j y ρ hy ⟨c,z2,ps,rfl,dl⟩
     obtain⟨rfl,hj⟩:=oZ hy
     have few:=dl.few40 (by omega)
     refine mR ?_
     refine⟨_,rfl,_,_,rfl,rfl,(by show (0:Int)<2;decide),.inl ⟨_,_,rfl,rfl,_,rfl,?_⟩⟩
     cases h:(if false=true then !decide (c%2=1) else decide (c%2=1)) with
     |true=>
      refine b8 ⟨_,rfl,_,rfl,_,rfl,by show 2<=1000;decide,rfl,eC (0+(i:Int),0+(i:Int)+1+(j:Int)),rfl,trivial,by omega,?_⟩
      refine⟨_,rfl,_,_,rfl,rfl,⟨by decide,by decide⟩,trivial,c/2,si (0+(i:Int)+1+(j:Int)),_,rfl,?_⟩
      exact dl.put _ ⟨by show (0:Int)<=0+(i:Int);omega,by show (0:Int)+(i:Int)<0+(i:Int)+1+(j:Int);omega,by show (0:Int)+(i:Int)+1+(j:Int)<n;omega⟩
     |false=>exact aW ⟨_,rfl,_,_,rfl,rfl,⟨by decide,by decide⟩,trivial,c/2,si (0+(i:Int)+1+(j:Int)),ps,rfl,dl⟩
    ·rintro ρ ⟨c,z2,ps,rfl,dl⟩
     exact⟨c,si (0+(i:Int)),z2,ps,rfl,dl⟩
   ·rintro ρ ⟨c,y1,z1,ps,rfl,dl⟩
    refine⟨_,rfl,_,rfl,_,hx.seqTF,eI _,trivial,?_⟩
    have hc:fG (t5 x (cS (intz ns) (some 1) none)) (ns.drop 1):=by
     rcases hx with rfl|rfl
     ·exact .inr (by show PV.lst (cS (intz ns) (some 1) none)=_;rw[G0])
     ·exact .inr (by show PV.lst (cS (intz ns) (some 1) none)=_;rw[G0])
    exact G8 (g:=true) hc (λz=>by cases z) n1 dl q
 ·dsimp only
  rw[aJ1 h1]
  exact aW (aW last)
theorem mV (a b:aa):a9 (a++b)=a9 a++a9 b:=aM9 ..
noncomputable def uV (r c:Int)(l:Int×Int):Bool:=decide (0<=l.1)&&(decide (l.1<r)&&(decide (0<=l.2)&&decide (l.2<c)))
noncomputable def aA3 (l:Int×Int):aa:=[(l.1-1,l.2),(l.1,l.2-1),(l.1,l.2+1),(l.1+1,l.2)]
noncomputable def uW (r c:Int)(l:Int×Int):aa:=(aA3 l).filter (uV r c)
section
variable {ls:aa}{n:Nat}{B:ae}
noncomputable def ins (ls:aa)(S:ae)(h:Int):Nat:=((bN ls h).filter λx=>decide (x∈S)).length
end
noncomputable def pK (d:Int):Int:=if d-1>0 then d-1 else 0
noncomputable def dF (n:Nat)(ls:aa):ae:=(List.range n).map λ(k:Nat)=>pK ((bN ls (k:Int)).length:Int)
theorem G9 {n:Nat}{ls:aa}:(dF n ls).length=n:=by unfold dF;rw[aJ2,aT1]
noncomputable def aA4:c8:=λxs Q=>∃ws ls,xs = [bG ws ls,.int 1]/\Wb ws ls/\Q (bG (dF ws.length ls) ls)
noncomputable abbrev aA5:aR:=uT
theorem aA6:dP aA5 ["web","few"] aA4:=by
 rintro xs Q ⟨ws,ls,rfl,wb,q⟩
 have few:=wb.few
 have nl:(iC ws.length ls).length=ws.length:=by unfold iC;rw[aJ2,aT1]
 have get:∀i y,(iC ws.length ls)[i]? = some y->i<ws.length/\y = .lst (intz (bN ls (i:Int))):=λi y h=>by
  unfold iC at h
  rw[aJ9]at h
  by_cases hi:i<ws.length
  ·rw[aT5 hi]at h;cases h;exact⟨hi,rfl⟩
  ·rw[List.getElem?_eq_none (by rw[aT1];omega)]at h;cases h
 refine⟨_,rfl,ws,ls,rfl,wb,_,rfl,(λz=>by cases z),by rw[nl];omega,λi acc=>acc=intz ((dF ws.length ls).take i),rfl,?_,?_⟩
 ·rintro i y acc hy rfl
  obtain⟨hi,rfl⟩:=get i y hy
  have dg:(dF ws.length ls)[i]? = some (pK ((bN ls (i:Int)).length:Int)):=by unfold dF;rw[aJ9,aT5 hi];rfl
  refine⟨_,rfl,_,_,rfl,rfl,_,rfl,_,_,rfl,rfl,_,_,rfl,trivial,?_⟩
  dsimp only
  rw[eS,aO2,dg,mO]
  rfl
 rintro acc rfl
 rw[nl,aL8 (by rw[G9];exact aI6 _)]
 exact⟨⟨_,_,rfl,rfl,eI _,_,rfl,_,_,_,rfl,rfl,rfl,by show 2<=1000;decide,mP (dF ws.length ls) ls,trivial,q⟩,λns z=>by cases z⟩
theorem J0 (ws:ae)(ls:aa):bF 3 (bG ws ls) (bG ws ls)=true/\aY 3 (bG ws ls) (bG ws ls)=true:=by
 have a1:bF 2 (.tup (intz ws)) (.tup (intz ws))=true:=sY 1 ws ws
 have a2:aY 2 (.tup (intz ws)) (.tup (intz ws))=true:=by rw[sW 1,aJ5 rfl]
 have b1:bF 2 (.tup (tups (ls.map two))) (.tup (tups (ls.map two)))=true:=mU 0 (ls.map two) (ls.map two)
 have b2:aY 2 (.tup (tups (ls.map two))) (.tup (tups (ls.map two)))=decide (ls.map two=ls.map two):=pE 0 (ls.map two) (ls.map two)
 rw[aJ5 rfl]at b2
 have ep:tups (ls.map two)=a9 ls:=(jZ ls).symm
 rw[ep]at b1 b2
 constructor
 ·show (bF 2 (.tup (intz ws)) (.tup (intz ws))&&(bF 2 (.tup (a9 ls)) (.tup (a9 ls))&&true))=true
  rw[a1,b1];rfl
 ·show ((aY 2 (.tup (intz ws)) (.tup (intz ws))&&(aY 2 (.tup (a9 ls)) (.tup (a9 ls))&&true))&&true)=true
  rw[a2,b2];rfl
end Core
namespace L2
open PySem PySem.Spec PyProof.Rows SO
noncomputable abbrev kk (l:Int×Int):List aH:=[Sum.inl l.1,Sum.inl l.2]
end L2
namespace Core
open PySem L2 PP
inductive mW (r c:Int)(S:aa):Int×Int->Prop
 |seed {x:Int×Int}:x∈S->mW r c S x
 |kin {x a b:Int×Int}:uV r c x=true->a∈uW r c x->b∈uW r c x->a≠b->mW r c S a->mW r c S b->mW r c S x
noncomputable def nbC (r c:Int)(P:aa)(x:Int×Int):Nat:=(P.filter λp=>decide (x∈uW r c p)).length
structure Wk (r c:Int)(S K P:aa):Prop where
 nd:K.Nodup
 ndP:P.Nodup
 sub:∀x∈P,x∈K
 brn:∀x∈K,mW r c S x
 sd:∀x∈S,x∈K
 bd:∀x∈K,uV r c x=true
 low:∀x,x∉K->nbC r c P x<2
theorem J1 {ls:aa}{w:Int}(h:0<=w):cS (a9 ls) none (some w)=a9 (ls.take w.toNat):=by
 rw[au7 h];unfold a9;rw[List.map_take]
theorem J2 {ls:aa}(w:Nat):cS (a9 ls) (some (w:Int)) none=a9 (ls.drop w):=by
 unfold cS
 have e1:HT.aO (a9 ls).length 0 (some (w:Int))=min w (a9 ls).length:=HT.wJ _ 0 w
 have e2:HT.aO (a9 ls).length (a9 ls).length none=(a9 ls).length:=rfl
 rw[e1,e2,fH,aL8 (by rw[aO8,fH];omega)]
 by_cases hk:w<=ls.length
 ·rw[Nat.min_eq_left hk];unfold a9;rw[List.map_drop]
 ·rw[Nat.min_eq_right (by omega),List.drop_of_length_le (by rw[fH];exact aI6 _),List.drop_of_length_le (by omega)];rfl
theorem J3 (K:aa):(bF 3 (.lst (a9 K)) (.lst (a9 K))=true/\aY 3 (.lst (a9 K)) (.lst (a9 K))=true)/\bF 3 (.tup (a9 K)) (.tup (a9 K))=true/\aY 3 (.tup (a9 K)) (.tup (a9 K))=true:=by
 have h1:bF 3 (.lst (tups (K.map two))) (.lst (tups (K.map two)))=true:=mU 1 (K.map two) (K.map two)
 have h2:aY 3 (.lst (tups (K.map two))) (.lst (tups (K.map two)))=decide (K.map two=K.map two):=pE 1 (K.map two) (K.map two)
 have h3:bF 3 (.tup (tups (K.map two))) (.tup (tups (K.map two)))=true:=mU 1 (K.map two) (K.map two)
 have h4:aY 3 (.tup (tups (K.map two))) (.tup (tups (K.map two)))=decide (K.map two=K.map two):=pE 1 (K.map two) (K.map two)
 rw[aJ5 rfl]at h2 h4
 have ep:tups (K.map two)=a9 K:=(jZ K).symm
 rw[ep]at h1 h2 h3 h4
 exact⟨⟨h1,h2⟩,h3,h4⟩
structure Bx where
 t:Int
 l:Int
 b:Int
 r:Int
deriving DecidableEq
noncomputable def Bx.k (x:Bx):ae:=[x.t,x.l,x.b,x.r]
noncomputable def okX (x:Bx):Prop:=x.t<=x.b/\x.l<=x.r
noncomputable def J4 (x:Bx)(p:Int×Int):Prop:=x.t<=p.1/\p.1<=x.b/\x.l<=p.2/\p.2<=x.r
noncomputable def J5 (x a:Int×Int):Prop:=(a.1=x.1/\(a.2=x.2-1∨a.2=x.2+1))∨(a.2=x.2/\(a.1=x.1-1∨a.1=x.1+1))
noncomputable def Clo (B:Bx)(U:Int×Int->Prop):Prop:=∀x a b,J4 B x->J5 x a->J5 x b->a≠b->U a->U b->U x
section
variable {B:Bx}{U:Int×Int→Prop}
variable {t l b r:Int}
section
variable (cl:Clo B U){p1 p2:Int}(u:U (p1, p2))(ip:J4 B (p1, p2))
include cl u ip
end
end
theorem mX {b:Bool}{x:PV}{P:Prop}(h:(Slot.sh b x).tag = .rd):P:=by cases b<;>cases h
section
variable {ls:aa}{n:Nat}{U:ae}{v:Int}
noncomputable def mu (ls:aa)(U:ae):Int:=((ls.filter (inL U)).length:Int)-(U.length:Int)+((ax3 ls U).length:Int)
end
theorem J6 {h:Int}:∀{ls:aa},(∀l∈ls,l.1≠l.2)->(ls.filter λl=>decide (h∈[l.1,l.2])).length=(bN ls h).length
 |[],_=>rfl
 |l::r,ne=>by
  have ih:=J6 (h:=h) (ls:=r) λl hl=>ne l (aK2 _ hl)
  have e:bN (l::r) h=((if l.1=h then [l.2] else [])++(if l.2=h then [l.1] else []))++bN r h:=rfl
  have n1:=ne l aK0
  rw[e,aL5,<- ih,List.filter_cons]
  by_cases h1:l.1=h
  ·have h2:¬l.2=h:=λz=>n1 (h1.trans z.symm)
   rw[if_pos h1,if_neg h2,aJ5 (by rw[<- h1];exact aK0)]
   rw[if_pos rfl,aM0]
   show _=1+_
   omega
  ·by_cases h2:l.2=h
   ·rw[if_neg h1,if_pos h2,aJ5 (by rw[<- h2];exact aK2 _ aK0)]
    rw[if_pos rfl,aM0]
    show _=1+_
    omega
   ·rw[if_neg h1,if_neg h2,aJ1 (λz=>by
     simp only[aI5,aJ6,aM1]at z
     rcases z with z|z
     ·exact h1 z.symm
     ·exact h2 z.symm)]
    rw[if_neg (by decide)]
    show _=0+_
    omega
end Core
namespace PP
open PySem L2
section
variable {X:Cx}{a b c:Expr}{ta tb:aA}{tc:bW}{pos:Pos}{σ:St}{H:Hp}{Q':VK}
noncomputable def uX (t:bW)(ta tb:aA):aA:=λρ Q=>t ρ λd=>if d=true then ta ρ Q else tb ρ Q
theorem aA7 (h:LE X (uX tc ta tb) σ H Q'):vF (LT X tc) (LE X ta) (LE X tb) σ H Q':=by
 obtain⟨W,ρ,Q,px,q,k⟩:=h
 refine⟨W,ρ,_,px,q,λd H1 s1 q1=>?_⟩
 cases d with
 |true=>exact b8 ⟨W,ρ,Q,px.mono s1,by simpa using q1,λw H' z g s3 r3 q3=>k w H' z g (s1.trans s3) (r3.same (aE.refl _) λ_ y=>Mg.back s1 y) q3⟩
 |false=>exact aW ⟨W,ρ,Q,px.mono s1,by simpa using q1,λw H' z g s3 r3 q3=>k w H' z g (s1.trans s3) (r3.same (aE.refl _) λ_ y=>Mg.back s1 y) q3⟩
theorem aA8 (hc:QT X c tc)(ha:QE X a ta)(hb:QE X b tb):QE X (.IfExp c a b pos) (uX tc ta tb):=bO (Q7 hc ha hb) λ_ _ _=>aA7
end
end PP
namespace L2
open PySem PySem.Spec PyProof.Rows
section
variable {M:Model}{A:Around}{E:Value→Shared→Prop}{s:Shared}
theorem aA9 {x:Value}{env env':Env}(h:env'.frame=env.frame):noteFrame x env'=noteFrame x env:=by
 unfold noteFrame PySem.frameOf
 rw[h]
theorem aB0 {h1 h2 h3:Heap}(a:h1.UpToSlots h2)(b:h2.UpToSlots h3):h1.UpToSlots h3:=λc o e n=>by
 obtain⟨sl,e2⟩:=a c o e n
 obtain⟨sl2,e3⟩:=b c { o with slots:=sl } e2 n
 exact⟨sl2,e3⟩
theorem aB1 {base:Heap}{env:Env}{outer:List Env}{L e:Addr}{cls a0 fl:Value}{Q:Unit->Shared->Prop}(hfr:A.frames=some (env::outer))(hf:env.frame=some L)(k1:base.StaysIn s.heap)(k2:base.get? e=none)(k3:s.heap.FunFrames base (env::outer))(k4:s.heap.TracedAtW base e cls a0 fl)(hQ:∀h',Heap.FlyingW base outer e cls a0 h'->s.heap.UpToSlots h'->Q () { s with heap:=h' }):wpAny M A (leaving env (.ref e)) Q E s:=by
 by_cases c:fl=rawInt L
 ·subst c
  unfold leaving
  refine aI2 (wpAny_noteFrame_againW hf k4 ?_)
  refine wpAny_landsW ⟨k1,k2,k3,k4⟩ λh' hfl up=>?_
  obtain⟨l1,l2,⟨_,_,l3⟩,l4⟩:=hfl
  exact hQ h' ⟨l1,l2,l3,l4⟩ up
 ·unfold leaving
  refine aI2 ?_
  obtain⟨oe,vs,T,oT,ts,he,⟨hcls,h0⟩,hd,h1,hnT,hTe,hT,hdT,h3⟩:=k4
  subst hcls
  unfold noteFrame
  simp only[hf]
  refine aI2 (aL9 he hd h1 ?_)
  rw[if_pos (show (Value.ref T != Value.none)=true from by simp)]
  refine aI2 (aL9 hT hdT h3 ?_)
  rw[if_neg (show ¬((fl==rawInt L)=true) from λz=>c (eq_of_beq z))]
  refine aI2 (wpAny_setField hT hdT (Array.getElem?_eq_some_iff.mp h3).1 ?_)
  have other:∀b,b≠T->(s.heap.update T (Obj.mapFields (·.setIfInBounds 3 Value.none))).get? b=s.heap.get? b:=λb hb=>Heap.get?_update_other _ _ (Ne.symm hb)
  have noRecord:∀b o,s.heap.get? b=some o->(∀vs,o.data≠.fields vs)->b≠T:=λb o hb hnf q=>by
   rw[q,hT]at hb;injection hb with hb;subst hb;exact hnf ts hdT
  refine wpAny_entryW hfr (k3.of_keeps λb o hb hnf=>⟨o,(other b (noRecord b o hb hnf)).trans hb,rfl⟩) hf ((other e (Ne.symm hTe)).trans he)
   (λb o hbo=>(other b λq=>by rw[q,hnT]at hbo;cases hbo).trans (k1 b o hbo)) k2 hd (Array.getElem?_eq_some_iff.mp h1).1 h0 ?_
  rintro h1' ⟨x1,x2,x3,x4⟩
  refine wpAny_landsW (s:={ s with heap:=h1' }) ⟨x1,k2,x2,x3⟩ λh' hfl up=>?_
  obtain⟨l1,l2,⟨_,_,l3⟩,l4⟩:=hfl
  exact hQ h' ⟨l1,l2,l3,l4⟩ (aB0 (λb o hb hnf=>x4 b o ((other b (noRecord b o hb hnf)).trans hb) hnf) up)
end
structure aB2 (P:Program)(w:World)(outer:List Env)(ch:List Addr)(H:Hp)(s:Shared)(H':Hp)(B:Heap)(a C:Addr)(s':Shared):Prop where
 os:s'.os=s.os
 bare:AllBare s'.gens
 un:Un (aZ outer) ch H H' s.heap s'.heap
 hok:bE P w H' s'.heap
 st:B.StaysIn s'.heap
 na:B.get? a=none
 ff:s'.heap.FunFrames B outer
 tr:∃a0 fl,s'.heap.TracedAtW B a (.ref C) a0 fl
 b0:∀b o,s.heap.get? b=some o->b∉aZ outer->b∉ch->∃o',B.get? b=some o'
 b1:∀b o,s.heap.get? b=some o->H b=none->b∉aZ outer->b∉ch->B.get? b=some o
 b2:∀b u o,H' b=some u->s'.heap.get? b=some o->B.get? b=some o
noncomputable def j5 (X:Cx)(E:XK):Prop:=∀(pins:List (Addr×Obj)) (σ:St) (H H':Hp) (s s':Shared) (B:Heap) (a C:Addr) (ch:List Addr),a5 X pins σ H s->(∀b∈ch,dG X pins H b/\X.s₀.heap.objs.size<=b)->aB2 X.prog X.w X.stack ch H s H' B a C s'->E (.ref C) none H'->X.xe (.ref a) s'
section
variable {P:Program}{w:World}{K:ac}{mg:Str→Option Value}{base:Heap}{N:List Str}{qual:Str}{scope:Scope}{f:Addr}{cd:Value}{A:Around}{outer:List Env}{s₀:Shared}{H₀:Hp}{E₀ E₁:XK}
theorem aB3 (hE:∀c d H',E₁ c d H'->E₀ c d H'):j5 (cA (cE P w) P w K mg base N qual scope f cd A outer s₀ H₀ E₀) E₁:=by
 intro pins σ H H' s s' B a C ch I hch fl q
 have I':=I.call' fl.os fl.un fl.hok fl.bare (ch:=ch) λb hb=>⟨(hch b hb).1.2.2.2.1,(hch b hb).1.2.1,(hch b hb).1.2.2.2.2.1,(hch b hb).1.2.2.2.2.2⟩
 have nch:∀{b o},s₀.heap.get? b=some o->b∉ch:=λ{b o} e z=>absurd (aI9 (aJ3 e) (hch b z).2) (aM4 _)
 obtain⟨a0,fv,tr⟩:=fl.tr
 refine aB1 I.ok.frames rfl fl.st fl.na fl.ff tr λh' fly' up=>?_
 have slot:∀b o,s₀.heap.get? b=some o->b∈aZ outer->∃sl,h'.get? b=some { o with slots:=sl }:=λb o e hb=>by
  obtain⟨sl,e1⟩:=I'.base.slot b o e (I.ok.frf b hb) hb (λz=>nomatch z)
  obtain⟨_,o2,e2,nf⟩:=I.ok.funs.mem hb
  rw[show (cA (cE P w) P w K mg base N qual scope f cd A outer s₀ H₀ E₀).s₀=s₀ from rfl,e]at e2
  cases e2
  obtain⟨sl',e3⟩:=up b _ e1 nf
  exact⟨sl',e3⟩
 have old:∀b o,s₀.heap.get? b=some o->H₀ b=none->b∉aZ outer->B.get? b=some o:=λb o e n hb=>
  fl.b1 b o (I.base.keep b o e n hb (λz=>nomatch z)) (I.base.free b o e n (λz=>nomatch z)) (kX I e hb) (nch e)
 have old0:∀b o,s₀.heap.get? b=some o->b∉aZ outer->∃o',B.get? b=some o':=λb o e hb=>by
  obtain⟨o1,e1⟩:=I.base.there b o e (λz=>nomatch z)
  exact fl.b0 b o1 e1 (kX I e hb) (nch e)
 have hok2:bE P w H' h':=λb u e=>
  (fl.hok b u e).stay (λc v hc q=>by
   rcases hc with z|z
   ·subst z;exact fly'.1 _ _ (fl.b2 _ _ _ e q)
   ·exact fly'.1 _ _ (fl.b2 _ _ _ z q)) (λ_ q=>q) λ_ _ q=>q
 refine⟨H',B,a,C,rfl,⟨I'.os,I'.bare,⟨λb o e n hb _=>fly'.1 _ _ (old b o e n hb),λb o e n hb _=>slot b o e hb,λb o e n hx=>I'.base.free b o e n hx,λb o e _=>?_,I'.base.tups,I'.base.frzs,I'.base.tbls⟩,hok2,⟨a0,fly'⟩,old0,old,λb u o e h=>?_⟩,hE _ _ _ q⟩
 ·by_cases hb:b∈aZ outer
  ·obtain⟨sl,e1⟩:=slot b o e hb
   exact⟨_,e1⟩
  ·obtain⟨o',e1⟩:=old0 b o e hb
   exact⟨o',fly'.1 _ _ e1⟩
 ·obtain⟨ob,e1⟩:=(fl.hok b u e).at
  have e2:=fl.b2 b u ob e e1
  have e3:=fly'.1 _ _ e2
  have h:h'.get? b=some o:=h
  rw[h]at e3;cases e3;exact e2
end
section
variable {X:Cx}{pins:List (Addr×Obj)}{σ:St}{H:Hp}{s:Shared}{scope:Scope}{N:List Str}{fr:List (Option Nat)}{tg iter elt:Expr}{ifs:List Expr}{pos:Pos}{wi:TI}{g:TG}{tc:TT}{te:TE}
structure J7 (X:Cx)(scope:Scope)(N:List Str)(tg:Expr)(ifs:List Expr)(elt:Expr)(s:Shared)(H:Hp)(XE:Addr->List Addr->Value->Shared->Prop)(g:TG)(tc:TT)(te:TE):Prop where
 tg:∀(C:Addr) (fp:List Addr),PG (aX X scope N s H C fp (XE C fp)) tg g
 ifs:∀(C:Addr) (fp:List Addr),fS (aX X scope N s H C fp (XE C fp)) ifs tc
 elt:∀(C:Addr) (fp:List Addr),PE (aX X scope N s H C fp (XE C fp)) elt te
theorem aB4 {XE:Addr->List Addr->Value->Shared->Prop}{Rr:Value->Addr->Result->Shared->Prop}{J:It}{fp:List Addr}{it:Addr}{tn:Nat->Heap->Prop}{Q:VK}(hc:X.calm=true)(S:cB X scope N fr)(B:J7 X scope N tg ifs elt s H XE g tc te)(I:a5 X pins σ H s)(T:fM X.prog X.w X.K tg J fp it tn)(hst:tn 0 s.heap)(hf:∀b∈fp,dG X pins H b)(h:∀D,H D=none->∃W:Nat->Nat->List V->Hp->Prop,(∃m,W 0 m [] (upd H D (.lst [])))/\kH g tc te (cW fr σ) J D Q W)(herr:∀(D C:Addr) (e:Value) (s':Shared),s.heap.objs.size<=C->XE C fp e s'->notedBy (model X.prog X.w) X.A (compEnvC scope (dA X scope C) C X.env) (λe s''=>Rr (.ref D) C (.error e) s'') e s')(hend:∀(D C:Addr) (s':Shared) (H':Hp) (m:Str->Option Value),s.heap.objs.size<=C->s.heap.objs.size<=D->a5 X pins σ H' s'->s'.heap.Ns C m->H' C=none->Q (.ref D) H'->Rr (.ref D) C (.ok .next) s') :
  wpAny (model X.prog X.w) X.A (newList []) (λacc s₃=>wpAny (model X.prog X.w) X.A (newFunctionEnv scope X.env.globals (cZ X.env.cells scope.names []) [] X.env.qual none .none (some X.env)) (λcenv s₄=>
   codeAny (model X.prog X.w) X.A (.compStart (.ListComp elt [⟨tg,iter,ifs,0⟩] scope pos) 0 (.ref it) acc { cenv with scope:=relabel scope X.env }) (Rr acc cenv.locals) s₄) X.xe s₃) X.xe s:=by
 refine aP0 (xR (λh₁ hns₁ keep₁ hco₁=>?_))
 dsimp only at hns₁ keep₁ hco₁ ⊢
 generalize hH2:s.heap.push { cls:=.type "list",dict:=none,data:=.seq ([]:List Value).toArray }=H2 at hns₁ keep₁ hco₁ ⊢
 have hC:H2.objs.size=s.heap.objs.size+1:=by rw[<- hH2,aQ5]
 have hDC:s.heap.objs.size<H2.objs.size:=by rw[hC];exact Nat.lt_succ_self _
 have hCle:s.heap.objs.size<=H2.objs.size:=by rw[hC];exact Nat.le_succ _
 have old:∀b o,s.heap.get? b=some o->h₁.get? b=some o:=λb o e=>keep₁ b o (hH2▸aI3 _ e)
 have hacc:h₁.get? s.heap.objs.size=some { cls:=.type "list",data:=.seq #[] 0 }:=keep₁ _ _ (hH2▸aK1 _ rfl)
 have hfl:∀b∈fp,b<s.heap.objs.size:=λb hb=>by obtain⟨o,e,_⟩:=T.obj _ _ hst b hb;exact aJ3 e
 obtain⟨W,⟨m0,w0⟩,turn⟩:=h s.heap.objs.size (I.hok.fresh (aI6 _))
 have st1:tn 0 h₁:=T.keep _ _ _ hst λb _ o e=>old b o e
 have fr0:∀b∈fp,upd H s.heap.objs.size (.lst []) b=none:=λb hb=>by rw[aN (aL4 (hfl b hb))];exact (hf b hb).1
 have stat:∀{H':Hp},(∀b∈fp,H' b=none)->∀b∈fp,dG (aX X scope N s H H2.objs.size fp (XE H2.objs.size fp)) [] H' b:=λ{H'} hn b hb=>by
  have f:=hf b hb
  refine⟨hn b hb,aL4 (aI9 (hfl b hb) hCle),λz=>?_,.inl hb,λx c e=>(iL e).elim (λz=>aQ0 (Nat.lt_trans (aI9 (hfl b hb) hCle) (hco₁.empty x c z).2)) λz=>f.2.2.2.2.1 x c (lR scope.names [] (S.cells I) (λ_ _ z=>by simp at z) z.2),λp hp=>absurd (show p∈([]:List (Addr×Obj)) from hp) (by simp)⟩
  rcases aI5.mp (I.stkSub b z) with e|e
  ·exact f.2.1 e
  ·exact f.2.2.1 e
 generalize hX:aX X scope N s H H2.objs.size fp (XE H2.objs.size fp)=Y at stat
 have I0:a5 Y [] (cW fr σ) (upd H s.heap.objs.size (.lst [])) { s with heap:=h₁ }:=hX▸xO S I hf hfl (aI6 _) hCle hDC old hns₁ hacc hco₁
 have bt:PG Y tg g:=hX▸B.tg H2.objs.size fp
 have bi:fS Y ifs tc:=hX▸B.ifs H2.objs.size fp
 have be:PE Y elt te:=hX▸B.elt H2.objs.size fp
 have eP:Y.prog=X.prog:=by rw[<- hX];rfl
 have ew:Y.w=X.w:=by rw[<- hX];rfl
 have eK:Y.K=X.K:=by rw[<- hX];rfl
 have eA:Y.A=X.A:=by rw[<- hX];rfl
 have eE:Y.env=compEnvC scope (dA X scope H2.objs.size) H2.objs.size X.env:=by rw[<- hX];rfl
 have eX:Y.xe=XE H2.objs.size fp:=by rw[<- hX];rfl
 have ec:Y.calm=true:=by rw[<- hX];exact hc
 have never:∀(e:Value) (s':Shared),Y.xe e s'->notedBy (model X.prog X.w) X.A (compEnvC scope (dA X scope H2.objs.size) H2.objs.size X.env) (λe s''=>Rr (.ref s.heap.objs.size) H2.objs.size (.error e) s'') e s':=λe s' z=>by rw[eX]at z;exact herr _ _ e s' hCle z
 have out:∀{pins' σ' H' s'},a5 Y pins' σ' H' s'->a5 X pins σ H' s':=λ{_ _ _ _} I'=>rN (C:=H2.objs.size) (E:=XE H2.objs.size fp) (scope:=scope) (N:=N) I hf (hX▸I')
 have loop:codeAny (model X.prog X.w) X.A (.compLoop (.ListComp elt [⟨tg,iter,ifs,0⟩] scope pos) 0 (.ref it) (.ref s.heap.objs.size) (compEnvC scope (dA X scope H2.objs.size) H2.objs.size X.env))
   (Rr (.ref s.heap.objs.size) H2.objs.size) { s with heap:=h₁ }:=by
  refine xQ (λn s'=>∃i acc H',a5 Y [] (cW fr σ) H' s'/\tn i s'.heap/\(∀b∈fp,H' b=none)/\W i n acc H') ?_ m0 ⟨0,[],_,I0,st1,fr0,w0⟩
  rintro n s3 ⟨i,acc,H3,I3,st3,fr3,w3⟩
  unfold nQ
  dsimp only
  obtain⟨hD3,step⟩:=turn i n acc H3 w3
  rcases step with⟨stop,qn⟩|⟨go,step⟩
  ·have z:=T.done Y eP ew eK ec i [] s3 _ H3 (notedBy (model X.prog X.w) X.A (compEnvC scope (dA X scope H2.objs.size) H2.objs.size X.env) λe s'=>Rr (.ref s.heap.objs.size) H2.objs.size (.error e) s') I3 (stat fr3) st3 stop
   rw[eA]at z
   refine aJ z λr s4 ⟨hr,I4⟩=>?_
   subst hr
   obtain⟨m4,hn4,_⟩:=I4.loc
   rw[eE]at hn4
   have f4:=I4.free
   rw[eE]at f4
   exact hend _ _ s4 H3 m4 hCle (aI6 _) (out I4) hn4 f4 qn
  ·have z:=T.item Y eP ew eK ec i [] s3 _ H3 (notedBy (model X.prog X.w) X.A (compEnvC scope (dA X scope H2.objs.size) H2.objs.size X.env) λe s'=>Rr (.ref s.heap.objs.size) H2.objs.size (.error e) s') I3 (stat fr3) st3 go
   rw[eA]at z
   refine aJ z λr s4 ⟨u,hr,h4⟩=>?_
   subst hr
   refine aJ h4 λ_ s5 ⟨x,H5,I5,r5,y5,st5,fr5⟩=>?_
   have I5':=I5.pinned (stat fr5) (T.obj _ _ st5)
   have q1:=bt _ s5 _ H5 x u _ I5' r5 (step x H5 y5)
   rw[eP,ew,eA,eE]at q1
   refine aN1 q1 (λ_ s6 ⟨σ6,H6,I6,wk,q6⟩=>?_) never
   have q2:=bi _ s6 σ6 H6 _ I6 q6
   rw[eP,ew,eA,eE]at q2
   refine aN1 q2 (λb s7 ⟨H7,I7,q7⟩=>?_) never
   have again:∀{H8:Hp}{s8:Shared}{acc':List V},a5 Y ([]++kE fp s5.heap) σ6 H8 s8->(∃m',m'<n/\W (i+1) m' acc' H8)->∃m,m<n/\∃i acc H',a5 Y [] (cW fr σ) H' s8/\tn i s8.heap/\(∀b∈fp,H' b=none)/\W i m acc H':=λ{H8 s8 acc'} I8 n8=>by
    obtain⟨m',hm,w8⟩:=n8
    refine⟨m',hm,i+1,acc',H8,(I8.unpinned).weak wk.1 wk.2,T.keep _ _ _ st5 λb hb o e=>(I8.pin (b,o) (aK9 _ (aK9 _ (kF hb e)))).1,λb hb=>?_,w8⟩
    obtain⟨o,e,d⟩:=T.obj _ _ st5 b hb
    exact (I8.pin (b,o) (aK9 _ (aK9 _ (kF hb e)))).2.1
   cases b with
   |false=>
    rw[if_neg aJ4]at q7 ⊢
    exact again I7 q7
   |true=>
    rw[if_pos rfl]at q7 ⊢
    have q3:=be _ s7 σ6 H7 _ I7 q7
    rw[eP,ew,eA,eE]at q3
    refine aN1 q3 (λv s8 ⟨y,H8,I8,r8,hD8,hz8,q8⟩=>?_) never
    have q4:=lP _ s8 σ6 H8 (.ref s.heap.objs.size) [y] (.ref s.heap.objs.size) [v] (λ_ H9=>∃m',m'<n/\W (i+1) m' (acc++[y]) H9) I8 rfl (.cons r8 .nil) ⟨_,_,_,rfl,rfl,hD8,hz8,q8⟩
    rw[eP,ew,eA]at q4
    exact aN1 q4 (λ_ s9 ⟨_,H9,I9,_,q9⟩=>again I9 q9) never
 exact codeAny_compStart_list loop (T.self _ 0 _ _ _ st1 loop)
noncomputable def XC (X:Cx)(scope:Scope)(N:List Str)(s:Shared)(H:Hp)(E:XK)(C:Addr)(fp:List Addr):Value->Shared->Prop:=λe s'=>∃pins σ H1 s1,a5 (aX X scope N s H C fp λ_ _=>False) pins σ H1 s1/\cE X.prog X.w X.stack H1 s1 E e s'
theorem aB5 {E:XK}{C:Addr}{fp:List Addr}:jC (cE X.prog X.w) (aX X scope N s H C fp (XC X scope N s H E C fp)) E:=by
 intro pins σ H1 s1 e s' I h
 exact⟨pins,σ,H1,s1,⟨⟨I.ok.mod,I.ok.kind,I.ok.glob,I.ok.blt,I.ok.above,I.ok.inj,I.ok.has,I.ok.cab,I.ok.hd,I.ok.frames,I.ok.stk,I.ok.exf,I.ok.bs,I.ok.bsz,I.ok.noex,I.ok.exfs,I.ok.funs,I.ok.frf⟩,I.os,I.bare,I.base,I.loc,I.cell,I.free,I.freeC,I.pin,I.hok,I.len⟩,h⟩
theorem aB6 {E:XK}{fp:List Addr}{C:Addr}{e:Value}{s':Shared}{cenv:Env}{Q:Value->Shared->Prop}{acc:Value}(pa:j5 X E)(hst:X.stack=X.env::X.outer)(hfm:X.env.frame=some X.env.locals)(I:a5 X pins σ H s)(hf:∀b∈fp,dG X pins H b)(hC:s.heap.objs.size<=C)(hcf:cenv.frame=X.env.frame)(h:XC X scope N s H E C fp e s'):notedBy (model X.prog X.w) X.A cenv (λe s''=>compPost (model X.prog X.w) X.A X.xe none Q acc C (.error e) s'') e s':=by
 obtain⟨pins1,σ1,H1,s1,I1,H',B,a,Cc,rfl,fl,q⟩:=h
 have I2:a5 X pins σ H1 s1:=rN I hf I1
 obtain⟨m,hns,_⟩:=I1.loc
 have hns:s1.heap.Ns C m:=hns
 have HC1:H1 C=none:=I1.free
 obtain⟨oC,es,ep,hoC,hdC,hsk,hnf⟩:=hns
 have nfr:C∉aZ X.stack:=λz=>by
  rcases aI5.mp (I.stkSub C z) with y|y
  ·exact absurd (aI9 I.lt hC) (by rw[y];exact aM4 _)
  ·exact I.nofs hC y
 have BC:B.get? C=some oC:=fl.b1 C oC hoC HC1 nfr
 have HC':H' C=none:=fl.un.free C oC hoC HC1 (by simp)
 obtain⟨a0,fly⟩:=fl.fly
 unfold notedBy
 rw[aA9 hcf]
 have fly0:Heap.FlyingW B (X.env::X.outer) a (.ref Cc) a0 s'.heap:=hst▸fly
 refine wpAny_looks_onW (by rw[I.ok.frames,hst]) hfm fly0 λh1 held up=>?_
 obtain⟨k1,k2,k3,k4⟩:=held
 refine⟨m,⟨oC,es,ep,k1 _ _ BC,hdC,hsk,hnf⟩,λh' sb cenv' hc'=>?_⟩
 obtain⟨oe,vs,T,oT,ts,he,hcls,hd,hv1,hnT,hTe,hT,hdT,h3⟩:=k4
 have aC:a≠C:=λz=>by rw[z,BC]at k2;cases k2
 have TC:T≠C:=λz=>by rw[z,BC]at hnT;cases hnT
 have he':h'.get? a=some oe:=(sb.2 a aC).trans he
 have hT':h'.get? T=some oT:=(sb.2 T TC).trans hT
 have hsz3:3<ts.size:=(Array.getElem?_eq_some_iff.mp h3).1
 unfold PySem.passOn
 refine aI2 (aL9 (s:={ s' with heap:=h' }) he' hd hv1 ?_)
 rw[if_neg (show ¬((Value.ref T==Value.none)=true) from by simp)]
 refine aI2 ?_
 unfold setFlight
 refine aI2 (aL9 (s:={ s' with heap:=h' }) he' hd hv1 ?_)
 rw[if_pos (show (Value.ref T != Value.none)=true from by simp)]
 refine wpAny_setField (s:={ s' with heap:=h' }) hT' hdT hsz3 (wpAny_throw ?_)
 generalize hv:(cenv'.frame.elim Value.none λf=>rawInt f)=fv
 generalize hh2:h'.update T (Obj.mapFields (·.setIfInBounds 3 fv))=h2
 have other:∀b,b≠T->h2.get? b=h'.get? b:=λb hb=>by rw[<- hh2];exact Heap.get?_update_other _ _ (Ne.symm hb)
 have nC2:(PySem.W.hideAll B [C]).get? C=none:=PySem.W.hideAll_none [C] (.head _)
 have inB:∀{b o},B.get? b=some o->b≠C->(PySem.W.hideAll B [C]).get? b=some o:=λ{b o} e n=>PySem.W.hideAll_get [C] e λz=>n (aJ7.mp z)
 have ofB:∀{b o},(PySem.W.hideAll B [C]).get? b=some o->B.get? b=some o:=λ{b o} e=>PySem.W.of_hideAll [C] e
 have none2:∀{b},B.get? b=none->(PySem.W.hideAll B [C]).get? b=none:=λ{b} e=>by
  cases z:(PySem.W.hideAll B [C]).get? b with
  |none=>rfl
  |some o=>rw[ofB z]at e;cases e
 have neC:∀{b o},(PySem.W.hideAll B [C]).get? b=some o->b≠C:=λ{b o} e z=>by rw[z,nC2]at e;cases e
 have stay:(PySem.W.hideAll B [C]).StaysIn h2:=λb o e=>by
  rw[other b (λz=>by rw[z]at e;rw[ofB e]at hnT;cases hnT),sb.2 b (neC e)]
  exact k1 _ _ (ofB e)
 have upS:∀b o,s'.heap.get? b=some o->(∀vs,o.data≠.fields vs)->b≠C->∃sl,h2.get? b=some { o with slots:=sl }:=λb o e nf n=>by
  obtain⟨sl,e1⟩:=up b o e nf
  refine⟨sl,?_⟩
  rw[other b (λz=>?_),sb.2 b n]
  ·exact e1
  ·rw[z]at e1
   rw[hT]at e1
   cases e1
   exact nf ts hdT
 have hne:∀{b u},H' b=some u->b≠C:=λ{b u} e z=>by rw[z,HC']at e;cases e
 have tr2:∀{b u o},H' b=some u->s'.heap.get? b=some o->(PySem.W.hideAll B [C]).get? b=some o:=λ{b u o} e g=>inB (fl.b2 b u o e g) (hne e)
 refine pa pins σ H1 H' s1 _ (PySem.W.hideAll B [C]) a Cc [C] I2 (λb hb=>?_) ⟨fl.os,fl.bare,⟨λb o e n hb hx=>?_,λb o e n hb hx=>?_,λb o e n hx=>fl.un.free b o e n (by simp),λb o e hx=>?_,fl.un.tups,fl.un.frzs,fl.un.tbls⟩,λb u e=>?_,stay,none2 k2,?_,?_,λb o e hb hx=>?_,λb o e n hb hx=>?_,λb u o e g=>?_⟩ q
 ·rw[aJ7.mp hb]
  exact⟨I.fpOk hC HC1,aN2 I.sz hC⟩
 ·exact stay _ _ (inB (fl.b1 b o e n hb) λz=>hx (by rw[z];exact .head _))
 ·obtain⟨sl,e1⟩:=fl.un.slot b o e n hb (by simp)
  have nf:∀vs,o.data≠.fields vs:=by
   obtain⟨_,o2,e2,nf⟩:=I2.stack.mem hb
   rw[e]at e2;cases e2;exact nf
  obtain⟨sl2,e2⟩:=upS b _ e1 nf λz=>hx (by rw[z];exact .head _)
  exact⟨sl2,e2⟩
 ·by_cases hb:b∈aZ X.stack
  ·have n:=I2.stkFree b hb
   obtain⟨sl,e1⟩:=fl.un.slot b o e n hb (by simp)
   have nf:∀vs,o.data≠.fields vs:=by
    obtain⟨_,o2,e2,nf⟩:=I2.stack.mem hb
    rw[e]at e2;cases e2;exact nf
   obtain⟨sl2,e2⟩:=upS b _ e1 nf λz=>hx (by rw[z];exact .head _)
   exact⟨_,e2⟩
  ·obtain⟨o',e1⟩:=fl.b0 b o e hb
   exact⟨o',stay _ _ (inB e1 λz=>hx (by rw[z];exact .head _))⟩
 ·refine (fl.hok b u e).stay (λc v hc g=>?_) (λ_ g=>g) λ_ _ g=>g
  rcases hc with z|z
  ·subst z;exact stay _ _ (tr2 e g)
  ·exact stay _ _ (tr2 z g)
 ·rw[hst]
  have ff:h1.FunFrames B (X.env::X.outer):=k3
  have ff2:∀{l:List Env},h1.FunFrames B l->h2.FunFrames (PySem.W.hideAll B [C]) l:=by
   intro l
   induction l with
   |nil=>exact λ_=>trivial
   |cons en l ih=>
    rintro⟨hk,⟨Lf,o,hfL,hn,ho,hdd⟩,hr⟩
    refine⟨hk,⟨Lf,o,hfL,none2 hn,?_,hdd⟩,ih hr⟩
    have n1:Lf≠C:=λz=>by rw[z,BC]at hn;cases hn
    have n2:Lf≠T:=λz=>by
     rw[z,hT]at ho;cases ho
     exact absurd hdT (hdd ts)
    rw[other Lf n2,sb.2 Lf n1]
    exact ho
  exact ff2 ff
 ·refine⟨a0,fv,oe,vs,T,Obj.mapFields (·.setIfInBounds 3 fv) oT,ts.setIfInBounds 3 fv,(other a (Ne.symm hTe)).trans he',hcls,hd,hv1,none2 hnT,hTe,?_,aU4 hdT _,?_⟩
  ·rw[<- hh2]
   exact aU7 _ hT' (Obj.isFreed_of_fields (aU4 hdT _))
  ·show (ts.setIfInBounds 3 fv)[3]? = some fv
   simp[hsz3]
 ·obtain⟨o',e1⟩:=fl.b0 b o e hb
  exact⟨o',inB e1 λz=>hx (by rw[z];exact .head _)⟩
 ·exact inB (fl.b1 b o e n hb) λz=>hx (by rw[z];exact .head _)
 ·obtain⟨ob,e1⟩:=(fl.hok b u e).at
  have e2:=tr2 e e1
  have e3:=stay _ _ e2
  rw[show h2.get? b=some o from g]at e3
  cases e3;exact e2
end
end L2
namespace PP
open PySem L2
section
variable {X:Cx}{σ:L2.St}{H:Hp}{D:cI}{tr:c7}{Q':VK}{a b c e:Expr}{es:List Expr}{pos p2:Pos}{t:aR}{te:aA}{tc:bW}{Ep:Str→Prop}
variable {scope:Scope}{N:List Str}{fr:List (Option Nat)}{x y:Str}{tp:Pos}{iter elt tg:Expr}{ifs:List Expr}{ti:dB}{wi:TI}{gh:Hp→TG}{tch:Hp→TT}{teh:Hp→TE}
noncomputable def J8 (X:Cx)(wi:TI)(fr:List (Option Nat))(gh:Hp->TG)(tch:Hp->TT)(teh:Hp->TE):TE:=λσ H Q=>wi σ H λJ H1=>aE X.H₀ H1/\∀D,H1 D=none->
 ∃W:Nat->Nat->List V->Hp->Prop,(∃m,W 0 m [] (upd H1 D (.lst [])))/\kH (gh H1) (tch H1) (teh H1) (cW fr σ) J D Q W
theorem aB7 {E E':XK}(pa:j5 X E)(h:∀c d H',E' c d H'->E c d H'):j5 X E':=λpins σ H H' s s' B a C ch I hc fl q=>pa pins σ H H' s s' B a C ch I hc fl (h _ _ _ q)
theorem aB8 (pa:j5 X (EX X.K X.H₀ Ep))(hst:X.stack=X.env::X.outer)(hfm:X.env.frame=some X.env.locals)(hc:X.calm=true)(S:cB X scope N fr)(hi:PI X tg iter wi)(B:∀(s:Shared) (H:Hp),J7 X scope N tg ifs elt s H (XC X scope N s H (EX X.K H Ep)) (gh H) (tch H) (teh H))(hs:∀x,foldedSetIterable iter X.env x=pure x:=by intro _;rfl):PE X (.ListComp elt [⟨tg,iter,ifs,0⟩] scope pos) (J8 X wi fr gh tch teh):=by
 intro pins s σ H Q I h
 rw[eval_ListComp]
 refine wpAny_comprehension_free (use:=none) rfl hs (nM (S.cells I)) S.kind S.names (aJ (hi pins s σ H _ I h) λv s1 h1=>aJ h1 λitv s2 h2=>?_)
 obtain⟨it,fp,tn,J,H2,e,I2,T,st2,f2,sm,hW⟩:=h2
 subst e
 have pa2:j5 X (EX X.K H2 Ep):=aB7 pa λc d H' z=>⟨z.1,sm.trans z.2.1,z.2.2⟩
 refine aB4 (Rr:=λacc C=>compPost (model X.prog X.w) X.A X.xe none (EP X pins σ Q) acc C) hc S (B _ _) I2 T st2 f2 hW (λD C e s' hC hx=>aB6 pa2 hst hfm I2 f2 hC rfl hx) ?_
 intro D C s' H' m hC hD I' hns hHC q
 exact⟨m,hns,λh' sb=>⟨.ref D,H',I2.drop hC I' hHC sb,rfl,q⟩⟩
theorem aB9 {p:fX}{g:TG}{own:Nat->Prop}(hg:jI X.K own p g)(ho:∀i,own i->fr[i]? = some none)(h:LE X (dM ti fr p tc te) σ H Q') :
  J8 X (LI X ti) fr (λ_=>g) (λH1=>LT (X.frm H1) tc) (λH1=>LE (X.frm H1) te) σ H Q':=by
 obtain⟨W,ρ,Q2,px,q2,k2⟩:=jM hg ho h
 exact⟨W,ρ,Q2,px,q2,λJ H1 xs gb s it hq=>⟨px.same.trans s,k2 J H1 xs gb s it hq⟩⟩
theorem aC0 (pa:j5 X (EX X.K X.H₀ Ep))(hi:QI X (.Name x tp) iter ti)(he:∀(s:Shared) (H:Hp) (C:Addr) (fp:List Addr),QE (aX X scope N s H C fp (XC X scope N s H (EX X.K H Ep) C fp)) elt te)(hst:X.stack=X.env::X.outer:=by rfl)(hfm:X.env.frame=some X.env.locals:=by rfl)(hc:X.calm=true:=by rfl)(S:cB X scope N fr:=by exact cB.of rfl rfl)(hN:N.Nodup:=by decide +kernel)(h0:N[0]? = some x:=by rfl)(hl:∀(s:Shared) (H:Hp) (C:Addr) (fp:List Addr),(aX X scope N s H C fp bP).env.scope.names.lookup x=some .local:=by intro _ _ _ _;rfl)(hf:fr[0]? = some none:=by rfl)(hs:∀x,foldedSetIterable iter X.env x=pure x:=by intro _;rfl):QE X (.ListComp elt [⟨.Name x tp,iter,[],0⟩] scope pos) (dM ti fr (cO 0) cR te):=
 bO (aB8 (gh:=λ_=>cJ 0) (tch:=λH=>LT (X.frm H) cR) (teh:=λH=>LE (X.frm H) te) pa hst hfm hc S hi
  (λs H=>⟨λC fp=>eD (X:=aX X scope N s H C fp (XC X scope N s H (EX X.K H Ep) C fp)) hN h0 (.inl (hl s H C fp)) (.inr (hl s H C fp)),λC fp=>kR (Y:=aX X scope N s H C fp (XC X scope N s H (EX X.K H Ep) C fp)),λC fp=>he s H C fp⟩) hs) λ_ _ _=>aB9 (jJ _ 0) (λi e=>by subst e;exact hf)
theorem aC1 {k j:Nat}{x:Str}{ps:List Str}{p:cV}(hp:jC (cE X.prog X.w) X (EX X.K X.H₀ Ep))(d:bL X.prog X.w X.K X.mg X.base k x ps p)(hr:bI j X.A)(ha:QA X (e::es) tr)(hkj:k<=j:=by decide)(hg:Gl X x:=by rfl)(hdb:(x==("__debug__":Str))=false:=by decide)(he:starEach (e::es) X.env=(false,eval e X.env)::starEach es X.env:=by rfl)(hpl:(backTo pos (starEach es X.env)).any (·.1)=false:=by rfl):QE X (.Call (.Name x p2) (e::es) [] pos) (k8 Ep p tr):=by
 obtain⟨f,fd,F,b,kp,m⟩:=d.ex
 exact bO (nI F (hr.mono hkj) hg m kp b .nil hp ha hdb he hpl) λ_ _ _=>uF
end
theorem bL.ofA {P:Program}{w:World}{K:ac}{mg:Str->Option Value}{base:Heap}{k:Nat}{x:Str}{ps N:List Str}{p:cV}{st:Stmt}{f:Addr}{fd:FuncData}(F:dI K x x st f fd)(m:mg x=some (.ref f))(S:FnScope N ps (aT st))(hb:∀(kV doc pm:Value) (an:Option Addr) (cdv ct:Value) (us:List Value),us.length=ps.length->bindArgs (PySem.W.fnOf x x (gG st) (cY st) (aT st) .none kV doc pm an cdv ct) ⟨us,[]⟩=pure (ps.zip us))(t:(Str->Prop)->aR)(len:∀Ep xs Q,p Ep xs Q->xs.length=ps.length)(rd:∀Ep xs Q,p Ep xs Q->t Ep { nx:=λ_=>Q .non,rt:=Q } (dN N xs))(body:∀(cdv:Value) (A:Around) (outer:List Env) (s:Shared) (H:Hp) (E:XK) (Ep:Str->Prop),bI k (A.deeper (PyProof.Rows.envOfC x (aT st) s.heap.objs.size f cdv))->jW (cA (cE P w) P w K mg base N x (aT st) f cdv A outer s H E) (EX K H Ep)->j5 (cA (cE P w) P w K mg base N x (aT st) f cdv A outer s H E) (EX K H Ep)->
   dO (cA (cE P w) P w K mg base N x (aT st) f cdv A outer s H E) (cY st) (t Ep)):bL P w K mg base (k+1) x ps p:=by
 refine⟨f,fd,F.okX S (λvs H Q E h=>?_) (λcdv A outer s H vs Q E hr h=>?_),F.binds hb,F.kp,m⟩
 ·obtain⟨xs,Qp,Ep,r,q,_⟩:=h
  rw[r.length];exact len Ep xs Qp q
 ·obtain⟨xs,Qp,Ep,r,q,k,ke⟩:=h
  have hE:∀c d H',EX K H Ep c d H'->E c d H':=λc d H' z=>by
   obtain⟨rfl,s,n,C,rfl,h1,h2⟩:=z
   exact ke n C H' s h1 h2
  have ht:=body cdv A outer s H E Ep hr (B1 hE) (aB3 hE)
  refine⟨_,ht,λ_=>False,dN N xs,_,oE r,rd Ep xs Qp q,?_,?_,?_,?_⟩
  ·exact λW' σ' H' ρ' e px q=>k _ _ _ px.same .non q
  ·exact λv H' x s r q=>k _ _ _ s r q
  ·exact λW' σ' H' ρ' e px q=>q
  ·exact λW' σ' H' ρ' e px q=>q
end PP
namespace L2
open PySem
section
variable {X:Cx}{k:Nat}{ps:List Str}{sp:Sp}{x n:Str}{p cp pos np hpos:Pos}{e c:Expr}{es:List Expr}{t:TA}{i:Nat}
noncomputable def aC2 (i:Nat)(G:Addr->Sp->Prop)(t:TA):TB:=λD Ex σ H=>∃f sp,σ[i]? = some (some (.ref f))/\G f sp/\t σ H λvs H1=>sp vs H1 (λ_ H2=>D.nx σ H2) Ex
theorem aC3 {G:Addr->Sp->Prop}(F:∀f sp,G f sp->∃fd ps,cQ X.prog X.w X.K X.mg X.base (cE X.prog X.w) k f fd ps sp/\PySem.W.keepIn X.K (.ref f)=true/\gX X.K fd ps [])(hr:bI k X.A)(hN:X.N[i]? = some x)(hv:fI X.env.scope x)(ha:∀E,PA (X.wish E) (e::es) t)(hdb:(x==("__debug__":Str))=false:=by decide)(hcd:(x==("__classdict__":Str))=false:=by decide)(he:starEach (e::es) X.env=(false,eval e X.env)::starEach es X.env:=by rfl)(hpl:(backTo cp (starEach es X.env)).any (·.1)=false:=by rfl)(hsw:swapsWith (.Call (.Name x p) (e::es) [] cp) none pos.line X.env=pure false:=by rfl) :
  PB X [.Expr (.Call (.Name x p) (e::es) [] cp) pos] (aC2 i G t):=by
 intro pins s σ H D Ex I h
 obtain⟨f,sp,hσ,g,h⟩:=h
 obtain⟨fd,ps,F,hk,hb⟩:=F f sp g
 refine wpAny_execs_cons (wpAny_Expr_any ?_ I.quiet hsw)
 refine wpAny_Call_Name_kw (aJ (j8 (X:=X.wish (XB X pins σ Ex)) (pos:=p) hN hv hdb hcd pins s σ H (λv H'=>v = .ref f/\H'=H) (I.wish _) ⟨_,hσ,rfl,rfl⟩) λu s0 h0=>?_)
 obtain⟨v,H',I0,r0,rfl,rfl⟩:=h0
 obtain rfl:u = .ref f:=r0
 have I:=I0.unwish
 refine PySem.W.callWith_K (h₀:=X.base) I.ok.mod.kin hk (aJ (ha (XB X pins σ Ex) cp pins s0 σ H' _ (I.wish _) h) λus s1 h1=>⟨?_,?_⟩) he hpl
 ·obtain⟨_,_,I1,_⟩:=h1
  exact I1.kIn
 ·obtain⟨vs,H1,I1,r,q⟩:=h1
  have I1:=I1.unwish
  have hl:us.length=ps.length:=by rw[<- r.length];exact F.len _ _ _ _ q
  have bd:=hb s1 us I1.kIn (by rw[aQ9];exact hl)
  rw[aQ9]at bd
  refine wpAny_call (codeAny_mono (F.run X.A X.stack s1 H1 ⟨us,[]⟩ us vs _ Ex hr I1.env0 bd r q) λrs s' hq=>?_)
  cases rs with
  |error ev=>exact⟨H1,s1,I1,hq⟩
  |ok fl=>
   cases fl with
   |ret u=>
    obtain⟨v,H2,I2,_,q2⟩:=I1.after hq
    exact wpAny_execs_nil ⟨σ,H2,I2,q2⟩
   |next=>exact False.elim hq
   |brk=>exact False.elim hq
   |cont=>exact False.elim hq
end
end L2
namespace PP
open PySem L2
structure iE (K:ac)(mg:Str->Option Value)(x:Str):Prop where
 ex:∃f,mg x=some (.ref f)/\PySem.W.nsIn K mainGlobals x=some (some (.ref f))
section
variable {X:Cx}{σ:L2.St}{H:Hp}{tr:c7}{Q':VK}{e:Expr}{es:List Expr}{pos p2 cp np:Pos}
theorem K0 {x:Str}(fv:iE X.K X.mg x)(hg:Gl X x:=by rfl)(hd:(x==("__debug__":Str))=false:=by decide):QE X (.Name x pos) (qC (.fn x)):=by
 obtain⟨f,m,n⟩:=fv.ex
 exact bO (t:=tC (.ref f)) (λpins s σ H Q I h=>lE I hg m ⟨.ref f,H,I,rfl,h⟩ hd) λ_ _ _=>lT λ_=>.fn n
noncomputable def K1 (i:Nat)(tab:List (Str×cV))(t:c7):l8:=λD Ep ρ=>∃g x p,ρ[i]? = some (some (.sh g (.fn x)))/\(x,p)∈tab/\t ρ λxs=>p Ep (xs.map (·.1)) λ_=>D.nx ρ
theorem aC4 (i:Nat){k j:Nat}{x:Str}{tab:List (Str×cV)}(ds:∀z,z∈tab->iE X.K X.mg z.1/\∃ps,bL X.prog X.w X.K X.mg X.base k z.1 ps z.2)(hr:bI j X.A)(ha:∀E,QA (X.wish E) (e::es) tr)(hkj:k<=j:=by decide)(hN:X.N[i]? = some x:=by rfl)(hv:fI X.env.scope x:=by first|exact Or.inl rfl|exact Or.inr (Or.inl rfl)|exact Or.inr (Or.inr rfl))(hdb:(x==("__debug__":Str))=false:=by decide)(hcd:(x==("__classdict__":Str))=false:=by decide)(he:starEach (e::es) X.env=(false,eval e X.env)::starEach es X.env:=by rfl)(hpl:(backTo cp (starEach es X.env)).any (·.1)=false:=by rfl)(hsw:swapsWith (.Call (.Name x p2) (e::es) [] cp) none pos.line X.env=pure false:=by rfl):QB X [.Expr (.Call (.Name x p2) (e::es) [] cp) pos] (K1 i tab tr):=by
 refine pbI (aC3 (k:=k) (t:=LA X tr) (G:=λf sp=>∃z,z∈tab/\X.mg z.1=some (.ref f)/\sp=uE X.K z.2) (λf sp g=>?_) (hr.mono hkj) hN hv (λE=>ha E) hdb hcd he hpl hsw) λD Ex σ H h=>?_
 ·obtain⟨z,hz,m,rfl⟩:=g
  obtain⟨_,ps,d⟩:=ds z hz
  obtain⟨f',fd,F,b,kp,m'⟩:=d.ex
  rw[m]at m';cases m'
  exact⟨fd,ps,F,kp,b⟩
 obtain⟨W,ρ,D',Ep,px,⟨g,y,p,hi,hz,q⟩,k,ke⟩:=h
 obtain⟨v,hv,r⟩:=px.sl i _ hi
 have r:aF X.K (Ms X.H₀ W g) H v (.fn y):=r
 cases r with
 |fn n=>
  obtain⟨f,m,n'⟩:=(ds _ hz).1.ex
  rw[n']at n;cases n
  refine⟨_,_,hv,⟨_,hz,m,rfl⟩,?_⟩
  exact⟨W,ρ,_,px,q,λvs H1 xs s1 r q1=>⟨_,_,Ep,r.any,q1,λv H' x s2 r2 q2=>k.nx W σ H' ρ (Ev.same (s1.trans s2)) (px.mono (s1.trans s2)) q2,λn C H' s2 z1 z2=>ke n C H' (s1.trans s2) z1 z2⟩⟩
end
theorem aC5 {P:Program}{w:World}{K:ac}{mg:Str->Option Value}{base:Heap}{k:Nat}{x y:Str}{ps qs:List Str}{p q:cV}(a:iE K mg x)(d:bL P w K mg base k x ps p)(b:iE K mg y)(e:bL P w K mg base k y qs q) :
  ∀z,z∈[(x,p),(y,q)]->iE K mg z.1/\∃ps,bL P w K mg base k z.1 ps z.2:=λz hz=>by
 rcases aI5.mp hz with rfl|hz
 ·exact⟨a,_,d⟩
 ·rw[aJ7.mp hz];exact⟨b,_,e⟩
end PP
namespace Core
open PySem L2 PP
noncomputable def gP (n:Nat)(l:Int×Int):Prop:=0<=l.1/\l.1<(n:Int)/\0<=l.2/\l.2<(n:Int)/\l.1≠l.2
noncomputable def pL:cV:=λEp xs Q=>∃(n:Nat) (l:Int×Int),xs = [.int n,.tup [.int l.1,.int l.2]]/\(gP n l->Q (.tup [.int (bD l).1,.int (bD l).2]))/\(¬gP n l->Ep "BadWeb")
noncomputable def K2 (Ep:Str->Prop):aR:=(aP (bA 2 (aM uQ (a7 (a6 1) aB)))
 (aP (bA 3 (aM uP (a7 (a6 1) aB)))
 (aP (bS (eZ (aU (m6 (a6 2) (qC (.int 0)))) (aU (qGe (a6 3) (a6 0)))) (iZ Ep "BadWeb" (a7 (qC (.str "a link has a number that is no hearth")) aB)) bX)
 (aP (bS (aU (fE (a6 2) (a6 3))) (iZ Ep "BadWeb" (a7 (qC (.str "a link joins two unlike hearths")) aB)) bX)
 (bJ (cC (a7 (a6 2) (a7 (a6 3) aB))))))))
theorem aC6:mT K2 ["many","link","one","other"] pL:=by
 rintro Ep xs Q ⟨n,l,rfl,q,bad⟩
 refine⟨_,rfl,[l.1,l.2],rfl,(λz=>by cases z),λm m1 m2=>⟨trivial,?_⟩⟩
 refine⟨_,rfl,[l.1,l.2],rfl,(λz=>by cases z),λM M1 M2=>⟨trivial,?_⟩⟩
 have hm:m=(bD l).1:=by
  have h1:=m2 l.1 (by simp)
  have h2:=m2 l.2 (by simp)
  show m=min l.1 l.2
  rcases aI5.mp m1 with z|z
  ·omega
  ·have:=aJ7.mp z;omega
 have hM:M=(bD l).2:=by
  have h1:=M2 l.1 (by simp)
  have h2:=M2 l.2 (by simp)
  show M=max l.1 l.2
  rcases aI5.mp M1 with z|z
  ·omega
  ·have:=aJ7.mp z;omega
 have e1:(bD l).1=min l.1 l.2:=rfl
 have e2:(bD l).2=max l.1 l.2:=rfl
 unfold gP at q bad
 subst hm hM
 refine⟨_,rfl,_,_,rfl,rfl,_,rfl,?_⟩
 dsimp only
 by_cases c1:(bD l).1<0
 ·rw[aJ5 c1]
  exact b8 (b8 ⟨by show 1<=1000;decide,bad (by omega)⟩)
 rw[aJ1 c1]
 refine aW ⟨_,rfl,_,rfl,_,_,rfl,rfl,_,rfl,?_⟩
 dsimp only
 by_cases c2:(bD l).2 >= (n:Int)
 ·rw[aJ5 c2]
  exact b8 ⟨by show 1<=1000;decide,bad (by omega)⟩
 rw[aJ1 c2]
 refine aW ⟨_,rfl,_,rfl,.inl ⟨_,_,rfl,rfl,_,rfl,?_⟩⟩
 show if decide ((bD l).1=(bD l).2)=true then _ else _
 by_cases c3:(bD l).1=(bD l).2
 ·rw[aJ5 c3]
  exact b8 ⟨by show 1<=1000;decide,bad (by omega)⟩
 rw[aJ1 c3]
 exact aW ⟨_,rfl,_,rfl,by show 2<=1000;decide,rfl,trivial,q (by omega)⟩
noncomputable def uY (ws:ae)(ls:aa):Prop:=ws.length<=40/\(∀w∈ws,0<=w/\w<=60)/\(∀l∈ls,gP ws.length l)/\(ls.map bD).Nodup
noncomputable def mY:cV:=λEp xs Q=>∃x y ws ls,xs = [x,y]/\gD x ws/\(y = .tup (a9 ls)∨y = .lst (a9 ls))/\ls.length<=1800/\(uY ws ls->ls.length<=1700/\∀ls',ls'.Perm (ls.map bD)->WL (ws.length:Int) ws ls'->Q (bG ws ls'))/\(¬uY ws ls->Ep "BadWeb")
noncomputable def K3 (Ep:Str->Prop):aR:=(aP (bS (aU (i7 (aM eO (a7 (a6 0) aB)) (qC (.int 40)))) (iZ Ep "BadWeb" (a7 (qC (.str "a web has at most 40 hearths")) aB)) bX)
 (aP (fB (fW (a6 0)) (cO 2)
  (bS (eZ (aU (m6 (a6 2) (qC (.int 0)))) (aU (i7 (a6 2) (qC (.int 60))))) (iZ Ep "BadWeb" (a7 (qC (.str "a hearth wants from 0 to 60 neighbours")) aB)) bX))
 (aP (bA 3 (aM pC (a7 (dM (fW (a6 1)) [none,some 0] (cO 0) cR (k8 Ep pL (a7 (aM eO (a7 (a6 1) aB)) (a7 (a6 0) aB)))) aB)))
 (aP (bS (eL (aU (aM pH (a7 (a6 3) aB)))) (iZ Ep "BadWeb" (a7 (qC (.str "two links have the same two hearths")) aB)) bX)
 (bJ (cC (a7 (aM i8 (a7 (a6 0) aB)) (a7 (aM i8 (a7 (a6 3) aB)) aB))))))))
theorem aC7:mT K3 ["wants","links","want","pairs"] mY:=by
 rintro Ep xs Q ⟨x,y,ws,ls,rfl,hx,hy,l17,q,bad⟩
 have sy:hZ y=some (a9 ls):=by rcases hy with rfl|rfl<;>rfl
 have fy:flats (a9 ls)=true:=dE ls
 have pl:(a9 ls).length=ls.length:=aJ2 _
 refine⟨_,rfl,_,_,rfl,hx.len,_,_,rfl,rfl,_,rfl,?_⟩
 dsimp only
 by_cases c1:(ws.length:Int)>40
 ·rw[aJ5 c1]
  exact b8 ⟨by show 1<=1000;decide,bad λz=>by have:=z.1;omega⟩
 rw[aJ1 c1]
 refine aW ?_
 refine⟨_,rfl,_,hx.seq,aq0 hx,λi ρ=>(∀w∈ws.take i,0<=w/\w<=60)/\∃y2,ρ = [some (.sh (flat x) x),some (.sh (flat y) y),y2,none],⟨(λ_ z=>by cases z),none,rfl⟩,?_,?_⟩
 ·rintro i z ρ hz ⟨ok,y2,rfl⟩
  obtain⟨n,rfl,hn⟩:=oY hz
  have mn:=aP1 hn
  refine mR ?_
  refine⟨_,rfl,_,_,rfl,rfl,_,rfl,?_⟩
  dsimp only
  by_cases c2:n<0
  ·rw[aJ5 c2]
   exact b8 (b8 ⟨by show 1<=1000;decide,bad λz=>by have:=z.2.1 n mn;omega⟩)
  rw[aJ1 c2]
  refine aW ⟨_,rfl,_,_,rfl,rfl,_,rfl,?_⟩
  dsimp only
  by_cases c3:n>60
  ·rw[aJ5 c3]
   exact b8 ⟨by show 1<=1000;decide,bad λz=>by have:=z.2.1 n mn;omega⟩
  rw[aJ1 c3]
  refine aW ⟨λw hw=>?_,_,rfl⟩
  rw[aO2,hn]at hw
  rcases aP6.mp hw with hw|hw
  ·exact ok w hw
  ·rw[aJ7.mp hw];omega
 rintro ρ ⟨hw,y2,rfl⟩
 have hw:∀w∈ws,0<=w/\w<=60:=λw h=>hw w (by rw[eS,aU0];exact h)
 refine⟨_,rfl,_,sy,(λz=>?_),by rw[pl];omega,λi acc=>(∀l∈ls.take i,gP ws.length l)/\acc=a9 ((ls.take i).map bD),⟨(λ_ z=>by cases z),rfl⟩,?_,?_⟩
 ·cases h:flat y with
  |true=>exact h
  |false=>rw[h]at z;cases z
 ·rintro i z acc hz ⟨ok,rfl⟩
  obtain⟨l,rfl,hl⟩:=p5 hz
  have ml:=aP1 hl
  refine⟨_,rfl,_,_,rfl,hx.len,_,rfl,ws.length,l,rfl,λgP=>⟨trivial,λm hm=>?_,?_⟩,λno=>bad λz=>no (z.2.2.1 l ml)⟩
  ·rw[aO2,hl]at hm
   rcases aP6.mp hm with hm|hm
   ·exact ok m hm
   ·rw[aJ7.mp hm];exact gP
  rw[aO2,hl,aM9]
  unfold a9
  rw[aM9];rfl
 rintro acc ⟨inn,rfl⟩
 rw[pl,aU0]at inn ⊢
 refine⟨(ls.map bD).map two,by rw[jZ];rfl,by rw[aJ2,aJ2];omega,λr hr=>by obtain⟨l,_,rfl⟩:=aR1.mp hr;rfl,λZ pz so=>⟨trivial,?_⟩⟩
 obtain⟨ls',rfl,pp⟩:=C8 pz
 have ll:=pp.length_eq
 rw[aJ2]at ll
 rw[show ((ls'.map two).map λr=>PV.tup (intz r))=a9 ls' from (jZ ls').symm]
 refine⟨_,rfl,_,rfl,.inr ⟨ls',rfl,by omega,λb hb=>?_⟩⟩
 refine⟨_,rfl,?_⟩
 by_cases nd:(ls.map bD).Nodup
 ·have okw:uY ws ls:=⟨by omega,hw,inn,nd⟩
  have l17:=(q okw).1
  have wl:WL (ws.length:Int) ws ls':=WL.perm rfl (λl hl=>by
   obtain⟨m,hm,rfl⟩:=aR1.mp hl
   obtain⟨a0,a1,b0,b1,ne⟩:=inn m hm
   show 0<=min m.1 m.2/\min m.1 m.2<max m.1 m.2/\max m.1 m.2<(ws.length:Int)
   omega) (by rw[aJ2];exact l17) nd (λw h=>(hw w h).1) pp so
  rw[hb.mpr wl.ord]
  refine aW ?_
  refine⟨_,rfl,⟨_,_,rfl,hx.seqT,eI _,?_⟩,hx.noscr⟩
  refine⟨_,rfl,⟨_,_,rfl,rfl,dE _,?_⟩,λ_ z=>by cases z⟩
  exact⟨by show 2<=1000;decide,mP ws ls',trivial,(q okw).2 ls' pp wl⟩
 ·have hb2:b=false:=by
   cases b with
   |false=>rfl
   |true=>
    have o:=hb.mp rfl
    have nd':ls'.Nodup:=o.imp λ{a b} h e=>by rw[e]at h;unfold eB at h;omega
    exact absurd (pp.nodup_iff.mp nd') nd
  rw[hb2]
  exact b8 ⟨by show 1<=1000;decide,bad λz=>nd z.2.2.2⟩
noncomputable def gE (n:Int)(ls:aa):Prop:=0<=n/\n<=40/\(∀l∈ls,gP n.toNat l)/\(ls.map bD).Nodup
noncomputable def lA:cV:=λEp xs Q=>∃(n:Int) (y:PV) (ls:aa),xs = [.int n,y]/\(y = .tup (a9 ls)∨y = .lst (a9 ls))/\ls.length<=1800/\(gE n ls->ls.length<=1700/\∀ls',ls'.Perm (ls.map bD)->j4 n.toNat ls'->Q (bG (List.replicate n.toNat 0) ls'))/\(¬gE n ls->Ep "BadWeb")
noncomputable def K4 (Ep:Str->Prop):aR:=(aP (bS (eZ (aU (m6 (a6 0) (qC (.int 0)))) (aU (i7 (a6 0) (qC (.int 40))))) (iZ Ep "BadWeb" (a7 (qC (.str "a web has from 0 to 40 hearths")) aB)) bX)
 (bJ (k8 Ep mY (a7 (E6 (fA (a7 (qC (.int 0)) aB)) (a6 0)) (a7 (a6 1) aB)))))
theorem aC8:mT K4 ["many","links"] lA:=by
 rintro Ep xs Q ⟨n,y,ls,rfl,hy,l17,q,bad⟩
 refine⟨_,rfl,_,_,rfl,rfl,_,rfl,?_⟩
 dsimp only
 by_cases c1:n<0
 ·rw[aJ5 c1]
  exact b8 (b8 ⟨by show 1<=1000;decide,bad λz=>by have:=z.1;omega⟩)
 rw[aJ1 c1]
 refine aW ⟨_,rfl,_,_,rfl,rfl,_,rfl,?_⟩
 dsimp only
 by_cases c2:n>40
 ·rw[aJ5 c2]
  exact b8 ⟨by show 1<=1000;decide,bad λz=>by have:=z.2.1;omega⟩
 rw[aJ1 c2]
 refine aW ?_
 obtain⟨m,rfl⟩:∃m:Nat,n=m:=⟨n.toNat,by omega⟩
 have rp:(List.replicate (m:Int).toNat [PV.int 0]).flatten=intz (List.replicate m 0):=by rw[aQ1];exact G6 m
 refine⟨by show 1<=1000;decide,rfl,_,rfl,_,_,rfl,rfl,rfl,by omega,by omega,by decide,_,rfl,?_⟩
 have rl:(List.replicate m (0:Int)).length=m:=List.length_replicate
 refine⟨_,_,List.replicate m 0,ls,rfl,.inr (by show PV.lst (List.replicate (m:Int).toNat [PV.int 0]).flatten=_;rw[rp]),hy,l17,λok=>?_,λno=>bad λz=>no ?_⟩
 ·obtain⟨o1,o2,o3,o4⟩:=ok
  rw[rl]at o3
  have q:=q ⟨by omega,by omega,o3,o4⟩
  exact⟨q.1,λls' pp wl=>⟨trivial,q.2 ls' pp ⟨λl hl=>by have:=wl.inn l hl;rw[rl]at this;exact this,wl.most,wl.ord⟩⟩⟩
 ·obtain⟨o1,o2,o3,o4⟩:=z
  exact⟨by rw[rl];omega,λw hw=>by rw[List.eq_of_mem_replicate hw];decide,by rw[rl];exact o3,o4⟩
noncomputable def gQ:c8:=λxs Q=>∃ws ls,∃k:Int,xs = [bG ws ls,.int k]/\Wb ws ls/\((k=0/\Q (bG (cP ws.length ls) ls))∨(k=1/\Q (bG (dF ws.length ls) ls)))
noncomputable abbrev K5:aR:=uT
theorem aC9:dP K5 ["web","few"] gQ:=λxs Q ⟨ws,ls,k,e,wb,h⟩=>h.elim (λ⟨z,q⟩=>aA0 xs Q ⟨ws,ls,by rw[e,z],wb,q⟩) λ⟨z,q⟩=>aA6 xs Q ⟨ws,ls,by rw[e,z],wb,q⟩
noncomputable def lB:cV:=λEp xs Q=>∃(n:Int) (y:PV) (ls:aa),xs = [.int n,y]/\(y = .tup (a9 ls)∨y = .lst (a9 ls))/\ls.length<=1800/\(gE n ls->ls.length<=1700/\∀ls',ls'.Perm (ls.map bD)->j4 n.toNat ls'->Q (bG (cP n.toNat ls') ls'))/\(¬gE n ls->Ep "BadWeb")
noncomputable def K6 (Ep:Str->Prop):aR:=(bJ (aM gQ (a7 (k8 Ep lA (a7 (a6 0) (a7 (a6 1) aB))) (a7 (qC (.int 0)) aB))))
theorem aD0:mT K6 ["many","links"] lB:=by
 rintro Ep xs Q ⟨n,y,ls,rfl,hy,l17,q,bad⟩
 have lr:(List.replicate n.toNat (0:Int)).length=n.toNat:=List.length_replicate
 refine⟨_,rfl,_,rfl,n,y,ls,rfl,hy,l17,λok=>⟨(q ok).1,λls' pp lk=>⟨List.replicate n.toNat 0,ls',0,rfl,⟨by have:=ok.2.1;rw[lr];omega,lk.2.1,λl hl=>by have:=lk.1 l hl;rw[lr];omega⟩,.inl ⟨rfl,trivial,?_⟩⟩⟩,bad⟩
 rw[lr];exact (q ok).2 ls' pp lk
noncomputable def lC:cV:=λEp xs Q=>∃(n:Int) (y:PV) (ls:aa),xs = [.int n,y]/\(y = .tup (a9 ls)∨y = .lst (a9 ls))/\ls.length<=1800/\(gE n ls->ls.length<=1700/\∀ls',ls'.Perm (ls.map bD)->j4 n.toNat ls'->Q (bG (dF n.toNat ls') ls'))/\(¬gE n ls->Ep "BadWeb")
noncomputable def K7 (Ep:Str->Prop):aR:=(bJ (aM gQ (a7 (k8 Ep lA (a7 (a6 0) (a7 (a6 1) aB))) (a7 (qC (.int 1)) aB))))
theorem aD1:mT K7 ["many","links"] lC:=by
 rintro Ep xs Q ⟨n,y,ls,rfl,hy,l17,q,bad⟩
 have lr:(List.replicate n.toNat (0:Int)).length=n.toNat:=List.length_replicate
 refine⟨_,rfl,_,rfl,n,y,ls,rfl,hy,l17,λok=>⟨(q ok).1,λls' pp lk=>⟨List.replicate n.toNat 0,ls',1,rfl,⟨by have:=ok.2.1;rw[lr];omega,lk.2.1,λl hl=>by have:=lk.1 l hl;rw[lr];omega⟩,.inr ⟨rfl,trivial,?_⟩⟩⟩,bad⟩
 rw[lr];exact (q ok).2 ls' pp lk
theorem K8 (l:Int×Int):bD (l.2,l.1)=bD l:=by
 unfold bD
 show (min l.2 l.1,max l.2 l.1)=_
 rw[show min l.2 l.1=min l.1 l.2 by omega,show max l.2 l.1=max l.1 l.2 by omega]
noncomputable def pM:c8:=λxs Q=>∃(ls:aa) (c:Int),xs = [.lst (a9 ls),.int c]/\(∀l∈ls,l.1<l.2)/\ls.length<=1700/\∀ts,(ts.map bD).Perm ls->Q (.lst (a9 ts))
noncomputable def K9:aR:=(aP (jG 2 (fA aB))
 (aP (fB (u8 (a6 0)) (jK 3 4)
  (aP (bS (aU (fE (bH (fD (cK (a6 1) (qC (.int 5))) (o9 (a6 3) (a6 3))) (qC (.int 3))) (qC (.int 1)))) (bA 4 (cC (a7 (cT (a6 4) (qC (.int 1))) (a7 (cT (a6 4) (qC (.int 0))) aB)))) bX)
  (sI 2 (a6 4))))
 (aP (bA 5 (bH (cK (a6 1) (qC (.int 7))) (fD (aM eO (a7 (a6 2) aB)) (qC (.int 1)))))
 (bJ (pA (iS (a6 2) (iR (a6 5)) iQ) (iS (a6 2) iQ (iR (a6 5))))))))
theorem aD2:dP K9 ["links","cell","told","k","pair","cut"] pM:=by
 rintro xs Q ⟨ls,c,rfl,up,l17,q⟩
 have fl:flats (a9 ls)=true:=dE ls
 refine⟨by show 0<=1000;decide,rfl,rfl,rfl,?_⟩
 refine⟨_,rfl,_,.inl rfl,mX,λi ρ=>∃(P:List PV) (ts:aa) (y3 y4:Option Slot),ρ = [some (.sh (flat (.lst (a9 ls))) (.lst (a9 ls))),si c,some (.own (.lst P)),y3,y4,none]/\P=a9 ts/\ts.map bD=ls.take i,⟨[],[],none,none,rfl,rfl,rfl⟩,?_,?_⟩
 ·rintro i y ρ hy ⟨P,ts,y3,y4,rfl,rfl,et⟩
  obtain⟨y,hy2,rfl⟩:=at5 hy
  obtain⟨l,rfl,hl⟩:=p5 hy2
  have il:=(aK3.mp hl).1
  have tl:ts.length<=ls.length:=by have:=congrArg List.length et;rw[aJ2,aQ8]at this;omega
  have nl:=az7 (up l (aP1 hl))
  refine⟨_,_,rfl,?_⟩
  refine⟨_,rfl,_,_,rfl,rfl,⟨by decide,by decide⟩,_,rfl,_,rfl,_,_,rfl,rfl,(.inl ⟨by omega,by omega⟩),_,_,rfl,rfl,_,_,rfl,rfl,(by show (0:Int)<3;decide),.inl ⟨_,_,rfl,rfl,_,rfl,?_⟩⟩
  dsimp only
  cases (if false=true then !decide ((c/5+(i:Int)*i)%3=1) else decide ((c/5+(i:Int)*i)%3=1)) with
  |true=>
   refine b8 ⟨_,rfl,_,_,_,rfl,rfl,rfl,_,rfl,_,_,_,rfl,rfl,rfl,by show 2<=1000;decide,rfl,trivial,?_⟩
   refine⟨_,rfl,_,rfl,uN _ rfl,by rw[fH];omega,_,ts++[(l.2,l.1)],_,_,rfl,(mV ts [(l.2,l.1)]).symm,?_⟩
   ·rw[aO2,hl,aM9,et]
    show _++[bD (l.2,l.1)]=_++[l]
    rw[K8,nl]
  |false=>
   refine aW ⟨_,rfl,_,rfl,uN _ rfl,by rw[fH];omega,_,ts++[l],_,_,rfl,(mV ts [l]).symm,?_⟩
   ·rw[aO2,hl,aM9,et]
    show _++[bD l]=_++[l]
    rw[nl]
 rintro ρ ⟨P,ts,y3,y4,rfl,rfl,et⟩
 rw[u7,fH,aU0]at et
 have tl:ts.length=ls.length:=by have:=congrArg List.length et;rw[aJ2]at this;exact this
 refine⟨_,rfl,_,_,rfl,rfl,⟨by decide,by decide⟩,_,rfl,_,_,rfl,rfl,_,_,rfl,rfl,_,_,rfl,rfl,by show (0:Int)<((a9 ts).length:Int)+1;omega,trivial,?_⟩
 have s0:=aN0 (c/7) (show ((a9 ts).length:Int)+1≠0 by omega)
 dsimp only
 generalize c/7%(((a9 ts).length:Int)+1)=sp at s0
 obtain⟨s,rfl⟩:∃s:Nat,sp=s:=⟨sp.toNat,by omega⟩
 refine⟨_,rfl,_,rfl,(s:Int),rfl,a9 ts,rfl,dE _,?_⟩
 rw[J2]
 refine⟨_,rfl,_,rfl,(s:Int),rfl,a9 ts,rfl,dE _,?_⟩
 rw[J1 (by omega)]
 refine⟨a9 (ts.drop s),a9 (ts.take s),rfl,rfl,dE _,dE _,by rw[fH,fH,aO8,aQ8];omega,trivial,?_⟩
 rw[<- mV]
 refine q _ ?_
 rw[<- et]
 refine List.Perm.map _ ?_
 have:=aU8 (l₁:=ts.drop s) (l₂:=ts.take s)
 rw[aL6]at this
 exact this
noncomputable def mZ:c8:=λxs Q=>∃ws ls,xs = [bG ws ls,.lst (intz ws),.lst (a9 ls)]/\Q (.bl true)
noncomputable def L4 (K:ac):aR:=(aP (bS (eZ (eL (aU (fC K "tuple" (a6 0)))) (eZ (aU (t6 (aM eO (a7 (a6 0) aB)) (qC (.int 2)))) (aU (q2 (i6 2 true) (a6 0) (cC (a7 (aM i8 (a7 (a6 1) aB)) (a7 (aM i8 (a7 (a6 2) aB)) aB))))))) (bJ (qC (.bl false))) bX)
 (aP (fB (fW (cT (a6 0) (qC (.int 0)))) (cO 3)
  (bS (eL (aU (aM kZ (a7 (a6 3) aB)))) (bJ (qC (.bl false))) bX))
 (aP (fB (fW (cT (a6 0) (qC (.int 1)))) (cO 4)
  (bS (eZ (eL (aU (fC K "tuple" (a6 4)))) (eZ (eL (aU (aM kZ (a7 (cT (a6 4) (qC (.int 0))) aB)))) (eL (aU (aM kZ (a7 (cT (a6 4) (qC (.int 1))) aB)))))) (bJ (qC (.bl false))) bX))
 (bJ (nX (fC K "tuple" (cT (a6 0) (qC (.int 0)))) (fC K "tuple" (cT (a6 0) (qC (.int 1)))))))))
theorem aD3 {K:ac}(kt:PySem.W.kitOne K (.type "tuple") (.type "tuple")=some true):dP (L4 K) ["found","wants","links","want","pair"] mZ:=by
 rintro xs Q ⟨ws,ls,rfl,q⟩
 refine⟨_,rfl,_,_,rfl,kt,_,rfl,aW ⟨_,rfl,_,_,rfl,rfl,.inl ⟨_,_,rfl,rfl,_,rfl,?_⟩⟩⟩
 show if (!decide ((2:Int)=2))=true then _ else _
 refine aW ⟨_,rfl,_,rfl,⟨_,_,rfl,rfl,eI _,_,rfl,⟨_,_,rfl,rfl,dE _,by show 2<=1000;decide,mP ws ls,.inl ⟨_,_,rfl,rfl⟩,(J0 ws ls).1,_,rfl,?_⟩,λns z=>by cases z⟩,λns z=>by cases z⟩
 show if (!aY 3 (bG ws ls) (bG ws ls))=true then _ else _
 rw[(J0 ws ls).2]
 refine aW ?_
 refine⟨_,rfl,_,_,_,rfl,rfl,rfl,_,rfl,mX,λi ρ=>∃y3,ρ = [some (.sh (flat (bG ws ls)) (bG ws ls)),some (.sh (flat (.lst (intz ws))) (.lst (intz ws))),some (.sh (flat (.lst (a9 ls))) (.lst (a9 ls))),y3,none],⟨none,rfl⟩,?_,?_⟩
 ·rintro i y ρ hy ⟨y3,rfl⟩
  obtain⟨h,rfl,hh⟩:=oY hy
  exact mR ⟨_,rfl,h,rfl,_,rfl,aW ⟨_,rfl⟩⟩
 rintro ρ ⟨y3,rfl⟩
 refine⟨_,rfl,_,_,_,rfl,rfl,rfl,_,rfl,mX,λi ρ=>∃y3 y4,ρ = [some (.sh (flat (bG ws ls)) (bG ws ls)),some (.sh (flat (.lst (intz ws))) (.lst (intz ws))),some (.sh (flat (.lst (a9 ls))) (.lst (a9 ls))),y3,y4],⟨y3,none,rfl⟩,?_,?_⟩
 ·rintro i y ρ hy ⟨y3,y4,rfl⟩
  obtain⟨l,rfl,hl⟩:=p5 hy
  show (bS _ _ _) _ _
  refine⟨_,rfl,_,_,rfl,kt,_,rfl,aW ?_⟩
  refine⟨_,rfl,_,_,_,rfl,rfl,rfl,l.1,rfl,_,rfl,aW ?_⟩
  exact⟨_,rfl,_,_,_,rfl,rfl,rfl,l.2,rfl,_,rfl,aW ⟨_,_,rfl⟩⟩
 rintro ρ ⟨y3,y4,rfl⟩
 exact⟨_,rfl,_,_,_,rfl,rfl,rfl,_,_,rfl,kt,_,rfl,b8 ⟨_,rfl,_,_,_,rfl,rfl,rfl,_,_,rfl,kt,trivial,q⟩⟩
theorem pN (ws vs:ae)(ls:aa):bF 3 (bG ws ls) (bG vs ls)=true/\aY 3 (bG ws ls) (bG vs ls)=decide (ws=vs):=by
 have a1:bF 2 (.tup (intz ws)) (.tup (intz vs))=true:=sY 1 ws vs
 have a2:aY 2 (.tup (intz ws)) (.tup (intz vs))=decide (ws=vs):=sW 1 ws vs
 have b1:bF 2 (.tup (tups (ls.map two))) (.tup (tups (ls.map two)))=true:=mU 0 (ls.map two) (ls.map two)
 have b2:aY 2 (.tup (tups (ls.map two))) (.tup (tups (ls.map two)))=decide (ls.map two=ls.map two):=pE 0 (ls.map two) (ls.map two)
 rw[aJ5 rfl]at b2
 have ep:tups (ls.map two)=a9 ls:=(jZ ls).symm
 rw[ep]at b1 b2
 constructor
 ·show (bF 2 (.tup (intz ws)) (.tup (intz vs))&&(bF 2 (.tup (a9 ls)) (.tup (a9 ls))&&true))=true
  rw[a1,b1];rfl
 ·show ((aY 2 (.tup (intz ws)) (.tup (intz vs))&&(aY 2 (.tup (a9 ls)) (.tup (a9 ls))&&true))&&true)=_
  rw[a2,b2];simp
noncomputable def pO:c8:=λxs Q=>∃ws ls,xs = [bG ws ls]/\Wb ws ls/\Q (.bl (decide (ws=cP ws.length ls)))
noncomputable def L5:aR:=(bJ (q2 (i6 2 false) (a6 0) (aM gQ (a7 (a6 0) (a7 (qC (.int 0)) aB)))))
theorem aD4:dP L5 ["web"] pO:=by
 rintro xs Q ⟨ws,ls,rfl,wb,q⟩
 refine⟨_,rfl,_,rfl,ws,ls,0,rfl,wb,.inl ⟨rfl,.inl ⟨_,_,rfl,rfl⟩,(pN _ _ _).1,trivial,?_⟩⟩
 show Q (.bl (aY 3 (bG ws ls) (bG (cP ws.length ls) ls)))
 rw[(pN _ _ _).2];exact q
noncomputable def pP:c8:=λxs Q=>∃ws ls,xs = [bG ws ls]/\Wb ws ls/\Q (.bl (decide (ws=dF ws.length ls)))
noncomputable def L6:aR:=(bJ (q2 (i6 2 false) (a6 0) (aM gQ (a7 (a6 0) (a7 (qC (.int 1)) aB)))))
theorem aD5:dP L6 ["web"] pP:=by
 rintro xs Q ⟨ws,ls,rfl,wb,q⟩
 refine⟨_,rfl,_,rfl,ws,ls,1,rfl,wb,.inr ⟨rfl,.inl ⟨_,_,rfl,rfl⟩,(pN _ _ _).1,trivial,?_⟩⟩
 show Q (.bl (aY 3 (bG ws ls) (bG (dF ws.length ls) ls)))
 rw[(pN _ _ _).2];exact q
noncomputable def kA (ts:aa)(s:Nat)(p:Int×Int):aa:=ts.take s++[p]++ts.drop s
theorem uZ (ts:aa)(s:Nat)(p:Int×Int):(kA ts s p).length=ts.length+1:=by
 unfold kA
 rw[aL5,aL5,aQ8,aO8,aS2];omega
theorem L7 (ts:aa)(s:Nat)(p:Int×Int):(kA ts s p).Perm (p::ts):=by
 unfold kA
 have h:=List.perm_middle (a:=p) (l₁:=ts.take s) (l₂:=ts.drop s)
 rw[aL6]at h
 rw[aK7];exact h
theorem L8 {n:Int}{ts:aa}{s:Nat}{p:Int×Int}(h:¬gP n.toNat p):¬gE n (kA ts s p):=λz=>h (z.2.2.1 p ((L7 ts s p).mem_iff.mpr aK0))
theorem aD6 {n:Int}{ts:aa}{s:Nat}{p r:Int×Int}(hr:r∈ts)(e:bD p=bD r):¬gE n (kA ts s p):=λz=>by
 have nd:=((L7 ts s p).map bD).nodup_iff.mp z.2.2.2
 rw[aM5,List.nodup_cons]at nd
 exact nd.1 (by rw[e];exact aR1.mpr ⟨r,hr,rfl⟩)
noncomputable abbrev kB (te:aA):aR:=(bJ (lU (a7 (a6 0) (a7 (pA (pA (iS (a6 1) iQ (iR (a6 4))) (fA (a7 te aB))) (iS (a6 1) (iR (a6 4)) iQ)) aB))))
theorem v3 {te:aA}{n:Nat}{s:Nat}{ts:aa}{p:Int×Int}{y2 y3 y5 y6 y7 y8:Option Slot}{b:Bool}{Q:PV->Prop}{D:gI}(hD:D.rt=Q)(l17:ts.length<=1700)(ht:∀K:PV->Tg->Prop,(∀g,K (.tup [.int p.1,.int p.2]) g)->te [si n,some (.sh b (.lst (a9 ts))),y2,y3,si (s:Nat),y5,y6,y7,y8] K)(q:Q (.tup [.int n,.lst (a9 (kA ts s p))])):kB te D [si n,some (.sh b (.lst (a9 ts))),y2,y3,si (s:Nat),y5,y6,y7,y8]:=by
 refine⟨_,rfl,_,rfl,_,rfl,(s:Int),rfl,a9 ts,rfl,dE _,?_⟩
 rw[J1 (by omega)]
 refine ht _ λg=>?_
 have e1:a9 (ts.take s)++[.tup [.int p.1,.int p.2]]=a9 (ts.take s++[p]):=(mV (ts.take s) [p]).symm
 refine⟨by show 1<=1000;decide,rfl,a9 (ts.take s),[.tup [.int p.1,.int p.2]],rfl,rfl,dE _,rfl,by rw[fH,aQ8];show _+1<=_;omega,?_⟩
 rw[e1]
 refine⟨_,rfl,_,rfl,(s:Int),rfl,a9 ts,rfl,dE _,?_⟩
 rw[J2]
 refine⟨a9 (ts.take s++[p]),a9 (ts.drop s),rfl,rfl,dE _,dE _,by rw[fH,fH,aL5,aS2,aQ8,aO8];omega,by show 2<=1000;decide,λz hz=>?_,trivial,?_⟩
 ·rcases aI5.mp hz with rfl|hz
  ·trivial
  ·rw[aJ7.mp hz];trivial
 ·rw[hD]
  show Q (.tup [.int n,.lst (a9 (ts.take s++[p])++a9 (ts.drop s))])
  rw[<- mV];exact q
noncomputable def pQ:c8:=λxs Q=>∃(n:Nat) (ts:aa) (c:Int),xs = [.int n,.lst (a9 ts),.int c]/\ts.length<=1700/\∀m us,¬gE m us->us.length<=1800->Q (.tup [.int m,.lst (a9 us)])
noncomputable def L9:aR:=(aP (bA 3 (bH (cK (a6 2) (qC (.int 1009))) (ai7 (qC (.int 10)) (qC (.int 30)))))
 (aP (bA 4 (bH (cK (a6 2) (qC (.int 8))) (fD (aM eO (a7 (a6 1) aB)) (qC (.int 1)))))
 (aP (bS (aU (fE (bH (a6 2) (qC (.int 4))) (qC (.int 0)))) (bJ (uX (aU (fE (bH (cK (a6 2) (qC (.int 4))) (qC (.int 2))) (qC (.int 0)))) (lU (a7 (jN (iP (qC (.int 1))) (a6 3)) (a7 (fA aB) aB))) (lU (a7 (fD (qC (.int 41)) (a6 3)) (a7 (fA aB) aB))))) bX)
 (aP (bS (iM (aU (fE (bH (a6 2) (qC (.int 4))) (qC (.int 1)))) (aU (i7 (aM eO (a7 (a6 1) aB)) (qC (.int 0))))) (aP (uD (jK 5 6) (cT (a6 1) (bH (cK (a6 2) (qC (.int 97))) (aM eO (a7 (a6 1) aB)))))
  (kB (cT (fA (a7 (cC (a7 (a6 5) (a7 (a6 6) aB))) (a7 (cC (a7 (a6 6) (a7 (a6 5) aB))) aB))) (bH (cK (a6 2) (qC (.int 4))) (qC (.int 2)))))) bX)
 (aP (bS (iM (aU (fE (bH (a6 2) (qC (.int 4))) (qC (.int 2)))) (aU (i7 (a6 0) (qC (.int 0))))) (aP (bA 7 (bH (cK (a6 2) (qC (.int 97))) (a6 0)))
  (kB (cC (a7 (a6 7) (a7 (a6 7) aB))))) bX)
 (aP (bA 8 (cT (fA (a7 (cC (a7 (qC (.int 0)) (a7 (a6 0) aB))) (a7 (cC (a7 (iP (qC (.int 1))) (a7 (qC (.int 0)) aB))) (a7 (cC (a7 (fD (a6 0) (a6 3)) (a7 (qC (.int 0)) aB))) (a7 (cC (a7 (qC (.int 0)) (a7 (jN (iP (qC (.int 1))) (a6 3)) aB))) aB))))) (bH (cK (a6 2) (qC (.int 4))) (qC (.int 4)))))
 (kB (a6 8))))))))
theorem aD7:dP L9 ["many","links","cell","far","spot","one","other","hearth","odd"] pQ:=by
 rintro xs Q ⟨n,ts,c,rfl,l17,q⟩
 refine⟨_,rfl,_,_,rfl,rfl,⟨by decide,by decide⟩,_,_,rfl,rfl,⟨by decide,by decide,by decide⟩,_,_,rfl,rfl,(by show (0:Int)<10^(30:Int).toNat;decide),trivial,?_⟩
 dsimp only
 have f0:0<=c/1009%10^(30:Int).toNat:=aN0 _ (by decide)
 generalize c/1009%10^(30:Int).toNat=f at f0
 refine⟨_,rfl,_,_,rfl,rfl,⟨by decide,by decide⟩,_,rfl,_,_,rfl,rfl,_,_,rfl,rfl,_,_,rfl,rfl,by show (0:Int)<((a9 ts).length:Int)+1;omega,trivial,?_⟩
 have s0:=aN0 (c/8) (show ((a9 ts).length:Int)+1≠0 by omega)
 dsimp only
 generalize c/8%(((a9 ts).length:Int)+1)=sp at s0
 obtain⟨s,rfl⟩:∃s:Nat,sp=s:=⟨sp.toNat,by omega⟩
 refine⟨_,rfl,_,_,rfl,rfl,(by show (0:Int)<4;decide),.inl ⟨_,_,rfl,rfl,_,rfl,?_⟩⟩
 have nn:∀(m:Int) (z:PV×Tg),z∈[(PV.int m,Tg.fr),(PV.lst [],Tg.fr)]->Nw z.2 z.1:=λm z hz=>by
  rcases aI5.mp hz with rfl|hz
  ·trivial
  ·rw[aJ7.mp hz];trivial
 show if decide (c%4=0)=true then _ else _
 cases decide (c%4=0) with
 |true=>
  refine b8 ⟨_,rfl,_,_,rfl,rfl,⟨by decide,by decide⟩,_,_,rfl,rfl,(by show (0:Int)<2;decide),.inl ⟨_,_,rfl,rfl,_,rfl,?_⟩⟩
  show if decide (c/4%2=0)=true then _ else _
  cases decide (c/4%2=0) with
  |true=>exact b8 ⟨_,rfl,_,rfl,_,_,rfl,rfl,by show 0<=1000;decide,rfl,by show 2<=1000;decide,nn _,trivial,q (-1-f) [] (λz=>by have:=z.1;omega) (by show 0<=1800;decide)⟩
  |false=>exact aW ⟨_,rfl,_,_,rfl,rfl,by show 0<=1000;decide,rfl,by show 2<=1000;decide,nn _,trivial,q (41+f) [] (λz=>by have:=z.2.1;omega) (by show 0<=1800;decide)⟩
 |false=>
 refine aW ?_
 have last:(aP (bA 8 (cT (fA (a7 (cC (a7 (qC (.int 0)) (a7 (a6 0) aB))) (a7 (cC (a7 (iP (qC (.int 1))) (a7 (qC (.int 0)) aB))) (a7 (cC (a7 (fD (a6 0) (a6 3)) (a7 (qC (.int 0)) aB))) (a7 (cC (a7 (qC (.int 0)) (a7 (jN (iP (qC (.int 1))) (a6 3)) aB))) aB))))) (bH (cK (a6 2) (qC (.int 4))) (qC (.int 4)))))
   (kB (a6 8))) { nx:=λ_=>Q .non,rt:=Q } [si n,some (.sh (flat (.lst (a9 ts))) (.lst (a9 ts))),si c,si f,si (s:Nat),none,none,none,none]:=by
  have g0:=aN0 (c/4) (show (4:Int)≠0 by decide)
  have g1:=aO5 (c/4) (show (0:Int)<4 by decide)
  refine⟨_,rfl,by show 2<=1000;decide,rfl,_,rfl,by show 2<=1000;decide,rfl,_,rfl,_,rfl,_,_,rfl,rfl,by show 2<=1000;decide,rfl,_,rfl,_,rfl,_,_,rfl,rfl,by show 2<=1000;decide,rfl,by show 4<=1000;decide,rfl,_,rfl,_,_,rfl,rfl,⟨by decide,by decide⟩,_,_,rfl,rfl,(by show (0:Int)<4;decide),?_⟩
  obtain⟨p,hp,bad⟩:∃p:Int×Int,L2.atI [PV.tup [.int 0,.int n],.tup [.int (-1),.int 0],.tup [.int ((n:Int)+f),.int 0],.tup [.int 0,.int (-1-f)]] (c/4%4)=some (.tup [.int p.1,.int p.2])/\¬gP n p:=by
   generalize c/4%4=k at g0 g1
   have:k=0∨k=1∨k=2∨k=3:=by omega
   rcases this with rfl|rfl|rfl|rfl
   ·exact⟨(0,n),rfl,λz=>by have h:=z.2.2.2.1;exact absurd h (by show ¬((n:Int)<n);omega)⟩
   ·exact⟨(-1,0),rfl,λz=>absurd z.1 (by show ¬((0:Int) <= -1);decide)⟩
   ·exact⟨((n:Int)+f,0),rfl,λz=>absurd z.2.1 (by show ¬((n:Int)+f<n);omega)⟩
   ·exact⟨(0,-1-f),rfl,λz=>absurd z.2.2.1 (by show ¬((0:Int) <= -1-f);omega)⟩
  refine⟨_,_,_,rfl,rfl,hp,trivial,?_⟩
  exact v3 (p:=p) rfl l17 (λK k=>⟨_,rfl,k _⟩) (q n _ (L8 (by rw[aQ1];exact bad)) (by rw[uZ];omega))
 have mid:(aP (bS (iM (aU (fE (bH (a6 2) (qC (.int 4))) (qC (.int 2)))) (aU (i7 (a6 0) (qC (.int 0))))) (aP (bA 7 (bH (cK (a6 2) (qC (.int 97))) (a6 0)))
  (kB (cC (a7 (a6 7) (a7 (a6 7) aB))))) bX) (aP (bA 8 (cT (fA (a7 (cC (a7 (qC (.int 0)) (a7 (a6 0) aB))) (a7 (cC (a7 (iP (qC (.int 1))) (a7 (qC (.int 0)) aB))) (a7 (cC (a7 (fD (a6 0) (a6 3)) (a7 (qC (.int 0)) aB))) (a7 (cC (a7 (qC (.int 0)) (a7 (jN (iP (qC (.int 1))) (a6 3)) aB))) aB))))) (bH (cK (a6 2) (qC (.int 4))) (qC (.int 4)))))
   (kB (a6 8)))) { nx:=λ_=>Q .non,rt:=Q } [si n,some (.sh (flat (.lst (a9 ts))) (.lst (a9 ts))),si c,si f,si (s:Nat),none,none,none,none]:=by
  refine⟨_,rfl,_,_,rfl,rfl,(by show (0:Int)<4;decide),.inl ⟨_,_,rfl,rfl,_,rfl,?_⟩⟩
  show if decide (c%4=2)=true then _ else _
  cases decide (c%4=2) with
  |false=>exact aW last
  |true=>
   refine b8 ⟨_,rfl,_,_,rfl,rfl,_,rfl,?_⟩
   dsimp only
   by_cases n0:(n:Int)>0
   ·rw[aJ5 n0]
    refine b8 ⟨_,rfl,_,_,rfl,rfl,⟨by decide,by decide⟩,_,rfl,_,_,rfl,rfl,n0,trivial,?_⟩
    dsimp only
    exact v3 (p:=(c/97%n,c/97%n)) rfl l17 (λK k=>⟨_,rfl,_,rfl,by show 2<=1000;decide,rfl,k _⟩) (q n _ (L8 λz=>z.2.2.2.2 rfl) (by rw[uZ];omega))
   ·rw[aJ1 n0]
    exact aW last
 refine⟨_,rfl,_,_,rfl,rfl,(by show (0:Int)<4;decide),.inl ⟨_,_,rfl,rfl,_,rfl,?_⟩⟩
 show if decide (c%4=1)=true then _ else _
 cases decide (c%4=1) with
 |false=>exact aW mid
 |true=>
  refine b8 ⟨_,rfl,_,_,rfl,rfl,_,_,rfl,rfl,_,rfl,?_⟩
  dsimp only
  by_cases t0:((a9 ts).length:Int)>0
  ·rw[aJ5 t0]
   have g0:=aN0 (c/97) (show ((a9 ts).length:Int)≠0 by omega)
   have g1:=aO5 (c/97) t0
   obtain⟨j,hj⟩:∃j:Nat,c/97%((a9 ts).length:Int)=j:=⟨(c/97%((a9 ts).length:Int)).toNat,by omega⟩
   have jl:j<ts.length:=by rw[hj,fH]at g1;omega
   obtain⟨r,hr⟩:∃r,ts[j]? = some r:=⟨_,aI8 jl⟩
   have hrP:L2.atI (a9 ts) (c/97%((a9 ts).length:Int))=some (.tup [.int r.1,.int r.2]):=by rw[hj];exact qW (by unfold a9;rw[aJ9,hr];rfl)
   have mr:=aP1 hr
   refine b8 ⟨_,rfl,_,rfl,_,_,rfl,rfl,⟨by decide,by decide⟩,_,rfl,_,_,rfl,rfl,_,_,rfl,rfl,t0,_,_,_,rfl,rfl,hrP,?_⟩
   have sto:∀(g:Tg),nY g (.tup [.int r.1,.int r.2]):=λg=>by cases g<;>first|trivial|rfl
   refine⟨sto _,_,_,rfl,?_⟩
   have h0:=aN0 (c/4) (show (2:Int)≠0 by decide)
   have h1:=aO5 (c/4) (show (0:Int)<2 by decide)
   obtain⟨p,hp,ep⟩:∃p:Int×Int,L2.atI [PV.tup [.int r.1,.int r.2],.tup [.int r.2,.int r.1]] (c/4%2)=some (.tup [.int p.1,.int p.2])/\bD p=bD r:=by
    generalize c/4%2=k at h0 h1
    have:k=0∨k=1:=by omega
    rcases this with rfl|rfl
    ·exact⟨r,rfl,rfl⟩
    ·exact⟨(r.2,r.1),rfl,K8 r⟩
   exact v3 (p:=p) rfl l17 (λK k=>⟨_,rfl,_,rfl,by show 2<=1000;decide,rfl,_,rfl,_,rfl,by show 2<=1000;decide,rfl,by show 2<=1000;decide,rfl,_,rfl,_,_,rfl,rfl,⟨by decide,by decide⟩,_,_,rfl,rfl,(by show (0:Int)<2;decide),_,_,_,rfl,rfl,hp,k _⟩) (q n _ (aD6 mr ep) (by rw[uZ];omega))
  ·rw[aJ1 t0]
   exact aW mid
noncomputable abbrev aD8:List (Str×cV):=[("full_web",lB),("nearly_full_web",lC)]
noncomputable def pR:c8:=λxs Q=>∃(m:Int) (us:aa),xs = [.int m,.lst (a9 us)]/\¬gE m us/\us.length<=1800/\Q (.bl true)
noncomputable def M0:aR:=(aP (fB (fW (fA (a7 (qC (.fn "full_web")) (a7 (qC (.fn "nearly_full_web")) aB)))) (cO 2)
  (aP (bA 3 (qC (.bl false)))
  (aP (uH "HearthError" 4 (K1 2 aD8 (a7 (a6 0) (a7 (a6 1) aB))) (bA 3 (uJ "BadWeb" (a6 4))))
  (bS (eL (sO (a6 3))) (bJ (qC (.bl false))) bX))))
 (bJ (qC (.bl true))))
theorem aD9:dP M0 ["many","links","maker","caught","e"] pR:=by
 rintro xs Q ⟨m,us,rfl,bad,ul,q⟩
 refine⟨by show 2<=1000;decide,rfl,_,rfl,(λz=>by cases z),λi ρ=>∃y2 y3 y4,ρ = [si m,some (.sh (flat (.lst (a9 us))) (.lst (a9 us))),y2,y3,y4],⟨none,none,none,rfl⟩,?_,?_⟩
 ·rintro i y ρ hy ⟨y2,y3,y4,rfl⟩
  have hy2:y = .fn "full_web"∨y = .fn "nearly_full_web":=by
   match i,hy with
   |0,h=>exact .inl (aL1 h).symm
   |1,h=>exact .inr (aL1 h).symm
   |k+2,h=>cases h
  rcases hy2 with rfl|rfl
  ·refine⟨trivial,_,_,_,rfl,aK0,_,rfl,_,rfl,m,_,us,rfl,.inr rfl,ul,λz=>absurd z bad,λ_=>⟨rfl,?_⟩⟩
   exact⟨_,rfl,true,rfl,trivial,_,rfl,true,rfl,aW ⟨_,_,_,rfl⟩⟩
  ·refine⟨trivial,_,_,_,rfl,aK2 _ aK0,_,rfl,_,rfl,m,_,us,rfl,.inr rfl,ul,λz=>absurd z bad,λ_=>⟨rfl,?_⟩⟩
   exact⟨_,rfl,true,rfl,trivial,_,rfl,true,rfl,aW ⟨_,_,_,rfl⟩⟩
 ·rintro ρ ⟨y2,y3,y4,rfl⟩
  exact⟨trivial,q⟩
noncomputable def v4:c8:=E1
noncomputable def M3:aR:=(aP (bA 12 (aM pQ (a7 (a6 1) (a7 (a6 6) (a7 (cK (a6 2) (qC (.int 16))) aB)))))
 (bJ (aM pR (a7 (cT (a6 12) (qC (.int 0))) (a7 (cT (a6 12) (qC (.int 1))) aB)))))
noncomputable def v7 (K:ac):aR:=(aP (bA 9 (cC (a7 (aM i8 (a7 (a6 8) aB)) (a7 (aM i8 (a7 (a6 3) aB)) aB))))
 (aP (bA 10 (aM pO (a7 (a6 9) aB)))
 (aP (bA 11 (aM pP (a7 (a6 9) aB)))
 (aP (bS (eZ (eL (aU (fC K "bool" (a6 10)))) (aU (t6 (a6 10) (q2 (i6 2 false) (a6 8) (a6 4))))) (bJ (qC (.bl false))) bX)
 (aP (bS (eZ (eL (aU (fC K "bool" (a6 11)))) (aU (t6 (a6 11) (q2 (i6 2 false) (a6 8) (a6 5))))) (bJ (qC (.bl false))) bX)
 M3)))))
noncomputable def M4 (K:ac):aR:=(aP (bA 2 (aM kY (a7 (a6 0) (a7 (qC (.int 2)) aB))))
 (aP (jG 8 (dM (m3 (a6 1)) [none,some 2] (cO 0) cR (bH (aM l9 (a7 (a6 1) (a7 (a6 0) aB))) (qC (.int 4)))))
 (aP (bS (aU (m6 (bH (a6 2) (qC (.int 4))) (qC (.int 2)))) (aP (jG 8 (aM nZ (a7 (cT (uO (a7 (a6 4) (a7 (a6 5) aB))) (bH (a6 2) (qC (.int 2)))) aB)))
  (bS (iM (aU (fE (bH (cK (a6 2) (qC (.int 4))) (qC (.int 2))) (qC (.int 1)))) (aU (i7 (a6 1) (qC (.int 0))))) (sJ 8 (bH (cK (a6 2) (qC (.int 8))) (a6 1)) (bH (cK (a6 2) (qC (.int 500))) (qC (.int 5)))) bX)) bX)
 (v7 K))))
noncomputable def M5 (K:ac):aR:=(aP (bA 1 (aM pD (a7 (aM kY (a7 (a6 0) (a7 (qC (.int 0)) aB))) aB)))
 (aP (bA 2 (aM kY (a7 (a6 0) (a7 (qC (.int 1)) aB))))
 (aP (bA 3 (aM pJ (a7 (iS (a6 0) (iR (qC (.int 3))) iQ) (a7 (a6 1) aB))))
 (aP (bA 4 (dM (m3 (a6 1)) [none,some 3] (cO 0) cR (aM eO (a7 (dM (fW (a6 1)) [none,some 0] (cO 0) (aU (q2 (sZ false) (a6 1) (a6 0))) (a6 0)) aB))))
 (aP (bA 5 (dM (fW (a6 4)) [none] (cO 0) cR (aM lY (a7 (qC (.int 0)) (a7 (jN (a6 0) (qC (.int 1))) aB)))))
 (aP (bA 6 (aM pM (a7 (a6 3) (a7 (a6 2) aB))))
 (aP (bA 7 (aM nZ (a7 (a6 6) aB)))
 (aP (bS (eZ (eL (aU (aM mZ (a7 (aM (lB λ_=>False) (a7 (a6 1) (a7 (a6 7) aB))) (a7 (a6 4) (a7 (a6 3) aB)))))) (aU (q2 (i6 2 true) (a6 7) (a6 6)))) (bJ (qC (.bl false))) bX)
 (aP (bS (eL (aU (aM mZ (a7 (aM (lC λ_=>False) (a7 (a6 1) (a7 (aM i8 (a7 (a6 6) aB)) aB))) (a7 (a6 5) (a7 (a6 3) aB)))))) (bJ (qC (.bl false))) bX)
 (M4 K))))))))))
section
variable {K:ac}{n:Nat}{c:Int}{ns ws:ae}{ls ts:aa}{y7 y8:Option Slot}{Q:PV→Prop}
noncomputable abbrev pS (ns:ae)(n:Nat)(c:Int)(ls ts:aa)(y7 y8 y9 y10 y11:Option Slot):b9:=[some (.sh true (.scr ns)),si n,si c,some (.sh true (.lst (a9 ls))),some (.sh true (.lst (intz (cP n ls)))),some (.sh true (.lst (intz (dF n ls)))),some (.sh true (.lst (a9 ts))),y7,y8,y9,y10,y11,none]
theorem aE0 {y9 y10 y11:Option Slot}(tl:ts.length<=1700)(q:Q (.bl true)):M3 { nx:=λ_=>Q .non,rt:=Q } (pS ns n c ls ts y7 y8 y9 y10 y11):=by
 refine⟨_,rfl,_,rfl,_,rfl,_,_,rfl,rfl,⟨by decide,by decide⟩,n,ts,_,rfl,tl,λm us bad ul=>⟨trivial,?_⟩⟩
 exact⟨_,rfl,_,_,_,rfl,rfl,rfl,_,rfl,_,_,_,rfl,rfl,rfl,m,us,rfl,bad,ul,trivial,q⟩
theorem aE1 (kb:PySem.W.kitOne K (.type "bool") (.type "bool")=some true)(n40:n<=40)(lk:j4 n ls)(tl:ts.length<=1700)(wl:ws.length=n)(q:Q (.bl true)):v7 K { nx:=λ_=>Q .non,rt:=Q } (pS ns n c ls ts y7 (some (.own (.lst (intz ws)))) none none none):=by
 have wb:Wb ws ls:=⟨by omega,lk.2.1,λl hl=>by have:=lk.1 l hl;rw[wl];omega⟩
 refine⟨_,rfl,⟨_,_,rfl,rfl,eI _,_,rfl,⟨_,_,rfl,rfl,dE _,by show 2<=1000;decide,mP ws ls,trivial,?_⟩,λns z=>by cases z⟩,λns z=>by cases z⟩
 refine⟨_,rfl,ws,ls,rfl,wb,trivial,?_⟩
 refine⟨_,rfl,ws,ls,rfl,wb,trivial,?_⟩
 rw[wl]
 refine⟨_,rfl,_,_,rfl,kb,_,rfl,aW ⟨_,rfl,_,rfl,_,rfl,.inr ⟨_,_,rfl,rfl⟩,yW 2 _ _,.inr ⟨_,_,rfl,rfl,_,rfl,?_⟩⟩⟩
 show if (!decide (decide (ws=cP n ls)=aY 3 (.lst (intz ws)) (.lst (intz (cP n ls)))))=true then _ else _
 rw[yV 2,aJ5 rfl]
 refine aW ⟨_,rfl,_,_,rfl,kb,_,rfl,aW ⟨_,rfl,_,rfl,_,rfl,.inr ⟨_,_,rfl,rfl⟩,yW 2 _ _,.inr ⟨_,_,rfl,rfl,_,rfl,?_⟩⟩⟩
 show if (!decide (decide (ws=dF n ls)=aY 3 (.lst (intz ws)) (.lst (intz (dF n ls)))))=true then _ else _
 rw[yV 2,aJ5 rfl]
 exact aW (aE0 tl q)
theorem aE2 (kb:PySem.W.kitOne K (.type "bool") (.type "bool")=some true)(n40:n<=40)(lk:j4 n ls)(tl:ts.length<=1700)(q:Q (.bl true)):M4 K { nx:=λ_=>Q .non,rt:=Q } (pS ns n c ls ts y7 none none none none):=by
 refine⟨_,rfl,_,ns,2,rfl,.inl rfl,by decide,trivial,?_⟩
 generalize ns.getD (2:Int).toNat 0=d
 refine⟨_,rfl,(n:Int),rfl,by omega,by omega,by rw[iO];omega,λi acc=>∃T:ae,acc=intz T/\T.length=i,⟨[],rfl,rfl⟩,?_,?_⟩
 ·rintro i y acc hy ⟨T,rfl,tl⟩
  obtain⟨rfl,hi⟩:=oZ hy
  refine⟨_,rfl,_,rfl,d,_,rfl,by omega,by omega,λz z0=>⟨_,_,rfl,rfl,(by show (0:Int)<4;decide),trivial,T++[z%4],by rw[mO];rfl,by rw[aL5,tl];rfl⟩⟩
 rintro acc ⟨T,rfl,tT⟩
 rw[iO]at tT
 have tT:T.length=n:=by omega
 refine⟨rfl,eI _,?_⟩
 refine⟨_,rfl,_,_,rfl,rfl,(by show (0:Int)<4;decide),_,_,rfl,rfl,_,rfl,?_⟩
 dsimp only
 have fin:∀ws:ae,ws.length=n->v7 K { nx:=λ_=>Q .non,rt:=Q } (pS ns n d ls ts y7 (some (.own (.lst (intz ws)))) none none none):=λws h=>aE1 kb n40 lk tl h q
 cases decide (d%4<2) with
 |false=>exact aW (fin T tT)
 |true=>
  refine b8 ?_
  have g0:=aN0 d (show (2:Int)≠0 by decide)
  have g1:=aO5 d (show (0:Int)<2 by decide)
  obtain⟨ws,hw,wl⟩:∃ws:ae,L2.atI [PV.lst (intz (cP n ls)),.lst (intz (dF n ls))] (d%2)=some (.lst (intz ws))/\ws.length=n:=by
   generalize d%2=k at g0 g1
   have:k=0∨k=1:=by omega
   rcases this with rfl|rfl
   ·exact⟨_,rfl,pI⟩
   ·exact⟨_,rfl,G9⟩
  refine⟨_,rfl,_,rfl,by show 2<=1000;decide,λz hz=>?_,_,rfl,_,_,rfl,rfl,(by show (0:Int)<2;decide),_,_,_,rfl,rfl,hw,_,_,rfl,rfl,eI _,rfl,eI _,?_⟩
  ·rcases aI5.mp hz with rfl|hz
   ·trivial
   ·rw[aJ7.mp hz];trivial
  refine⟨_,rfl,_,_,rfl,rfl,⟨by decide,by decide⟩,_,_,rfl,rfl,(by show (0:Int)<2;decide),.inl ⟨_,_,rfl,rfl,_,rfl,?_⟩⟩
  show if decide (d/4%2=1)=true then _ else _
  cases decide (d/4%2=1) with
  |false=>exact aW (fin ws wl)
  |true=>
   refine b8 ⟨_,rfl,_,_,rfl,rfl,_,rfl,?_⟩
   dsimp only
   by_cases n0:(n:Int)>0
   ·rw[aJ5 n0]
    have s0:=aN0 (d/8) (show (n:Int)≠0 by omega)
    have s1:=aO5 (d/8) n0
    obtain⟨s,hs⟩:∃s:Nat,d/8%(n:Int)=s:=⟨(d/8%(n:Int)).toNat,by omega⟩
    have e:(intz ws).set s (.int (d/500%5))=intz (ws.set s (d/500%5)):=(List.map_set (f:=PV.int)).symm
    refine b8 ⟨_,rfl,_,_,rfl,rfl,⟨by decide,by decide⟩,_,_,rfl,rfl,(by show (0:Int)<5;decide),_,rfl,_,rfl,_,_,rfl,rfl,⟨by decide,by decide⟩,_,rfl,_,_,rfl,rfl,n0,_,s,rfl,by rw[hs,eS];exact ax6 (by omega),trivial,?_⟩
    dsimp only
    rw[e]
    exact fin _ (by rw[aO0];exact wl)
   ·rw[aJ1 n0]
    exact aW (fin ws wl)
theorem aE3 (kb:PySem.W.kitOne K (.type "bool") (.type "bool")=some true):dP (M5 K) ["script","many","cell","links","degrees","nearly","told","handed","wants","web","full","nearly_so","odd"] v4:=by
 rintro xs Q ⟨ns,rfl,hl,q⟩
 refine⟨_,rfl,_,ns,0,rfl,.inl rfl,by decide,_,rfl,λM m0 m1=>⟨trivial,?_⟩⟩
 obtain⟨n,rfl⟩:∃n:Nat,M=n:=⟨M.toNat,by omega⟩
 refine⟨_,rfl,_,ns,1,rfl,.inl rfl,by decide,trivial,?_⟩
 generalize ns.getD (1:Int).toNat 0=c
 have hc:fG (t5 (.scr ns) (cS (intz ns) (some 3) none)) (ns.drop 3):=.inr (by show PV.lst (cS (intz ns) (some 3) none)=_;rw[ar8 ns (by decide)];rfl)
 refine⟨_,rfl,_,rfl,_,rfl,eI _,_,rfl,_,_,n,rfl,hc,by rw[aO8];omega,by omega,λls lk=>⟨trivial,?_⟩⟩
 have ne:∀l∈ls,l.1≠l.2:=λl hl=>Int.ne_of_lt (lk.1 l hl).2.1
 have pl:(a9 ls).length=ls.length:=aJ2 _
 have l17:=lk.2.1
 refine⟨_,rfl,(n:Int),rfl,by omega,by omega,by rw[iO];omega,λi acc=>acc=intz ((cP n ls).take i),rfl,?_,?_⟩
 ·rintro i y acc hy rfl
  obtain⟨rfl,hi⟩:=oZ hy
  have hi:i<n:=by omega
  have dg:(cP n ls)[i]? = some ((bN ls (i:Int)).length:Int):=by unfold cP;rw[aJ9,aT5 hi];rfl
  rw[show (0:Int)+(i:Int)=(i:Int) by omega]
  refine⟨_,rfl,a9 ls,rfl,mX,by rw[pl];omega,λj acc=>acc=a9 ((ls.take j).filter λl=>decide ((i:Int)∈[l.1,l.2])),rfl,?_,?_⟩
  ·rintro j w acc hw rfl
   obtain⟨l,rfl,hl⟩:=p5 hw
   have tk:=ap9 (p:=λl:Int×Int=>decide ((i:Int)∈[l.1,l.2])) hl
   refine⟨_,rfl,_,rfl,(i:Int),[l.1,l.2],rfl,rfl,_,rfl,?_⟩
   show if decide ((i:Int)∈[l.1,l.2])=true then _ else _
   cases hm:decide ((i:Int)∈[l.1,l.2]) with
   |true=>
    rw[hm]at tk
    refine b8 ⟨_,rfl,uN _ rfl,?_⟩
    dsimp only
    rw[tk]
    unfold a9
    rw[aM9];rfl
   |false=>
    rw[hm]at tk
    refine aW ?_
    dsimp only
    rw[tk];simp
  rintro acc rfl
  rw[pl,aU0]
  refine⟨_,_,rfl,rfl,trivial,?_⟩
  rw[show (a9 (ls.filter λl=>decide ((i:Int)∈[l.1,l.2]))).length=(ls.filter λl=>decide ((i:Int)∈[l.1,l.2])).length from aJ2 _,J6 ne]
  dsimp only
  rw[aO2,dg,mO];rfl
 rintro acc rfl
 rw[iO,aL8 (by rw[pI];omega)]
 refine⟨trivial,?_⟩
 have d1:dF n ls=(cP n ls).map pK:=by unfold dF cP;rw[List.map_map];rfl
 refine⟨_,rfl,_,rfl,mX,by rw[eS,pI];omega,λi acc=>acc=intz (((cP n ls).take i).map pK),rfl,?_,?_⟩
 ·rintro i y acc hy rfl
  obtain⟨d,rfl,hd⟩:=oY hy
  refine⟨_,rfl,_,_,rfl,rfl,_,_,rfl,trivial,?_⟩
  dsimp only
  rw[aO2,hd,aM9,mO];rfl
 rintro acc rfl
 rw[eS,aU0,<- d1]
 refine⟨trivial,?_⟩
 refine⟨_,rfl,_,rfl,ls,c,rfl,λl hl=>(lk.1 l hl).2.1,l17,λts pt=>⟨trivial,?_⟩⟩
 have tl:ts.length=ls.length:=by have:=pt.length_eq;rw[aJ2]at this;exact this
 have ndl:ls.Nodup:=lk.2.2.imp λ{a b} h e=>by rw[e]at h;unfold eB at h;omega
 have okn:gE (n:Int) ts:=⟨by omega,by omega,λt ht=>by
   have m:=pt.mem_iff.mp (aR1.mpr ⟨t,ht,rfl⟩)
   have h:=lk.1 _ m
   have h:0<=min t.1 t.2/\min t.1 t.2<max t.1 t.2/\max t.1 t.2<(n:Int):=h
   rw[aQ1]
   exact⟨by omega,by omega,by omega,by omega,by omega⟩,pt.nodup_iff.mpr ndl⟩
 have uq:∀ls',ls'.Perm (ts.map bD)->j4 (n:Int).toNat ls'->ls'=ls:=λls' pp lk'=>az8 (pp.trans pt) lk'.2.2 lk.2.2
 refine⟨_,rfl,_,_,rfl,rfl,dE _,trivial,?_⟩
 refine⟨_,rfl,_,rfl,(n:Int),_,ts,rfl,.inr rfl,by omega,λ_=>⟨by omega,λls' pp lk'=>?_⟩,λno=>no okn⟩
 rw[uq ls' pp lk',aQ1]
 refine⟨_,rfl,_,rfl,cP n ls,ls,rfl,_,rfl,aW ⟨_,rfl,_,rfl,.inr ⟨_,_,rfl,rfl⟩,(J3 ts).1.1,_,rfl,?_⟩⟩
 show if (!aY 3 (.lst (a9 ts)) (.lst (a9 ts)))=true then _ else _
 rw[(J3 ts).1.2]
 refine aW ?_
 refine⟨_,rfl,_,rfl,⟨_,_,rfl,rfl,dE _,(n:Int),_,ts,rfl,.inl rfl,by omega,λ_=>⟨by omega,λls' pp lk'=>?_⟩,λno=>no okn⟩,λns z=>by cases z⟩
 rw[uq ls' pp lk',aQ1]
 refine⟨_,rfl,_,rfl,dF n ls,ls,rfl,_,rfl,aW ?_⟩
 exact aE2 kb (by omega) lk (by omega) q
end
end Core
namespace K_k75
open PySem PySem.W L2 PP Core
theorem _root_.L2.FnScope.au {N P:List Str}{s:Scope}(a:s.kind=.function:=by rfl)(b:s.isCoroutine=false:=by rfl)(c:s.isGenerator=false:=by rfl)(d:N.Nodup:=by decide +kernel)(e:N.take P.length=P:=by rfl)(f:∀x∈P,s.names.lookup x=some .local∨s.names.lookup x=some .cell:=by decide +kernel)(g:∀y∈s.names,y.2≠.free:=by decide +kernel):FnScope N P s:=⟨a,b,c,d,e,f,g⟩
noncomputable def b6 (i:Nat):Stmt:=PySem.Challenge.pw_kindleweb_k75_full_and_nearly_full.main.body.getD i (.Pass ⟨0,0,0,0⟩)
structure FK (K:Frag)(n:Str)(i:Nat)(f:Addr)(d:FuncData):Prop where
 a:nsIn K mainGlobals n=some (some (.ref f))
 F:dI K n n (b6 i) f d
structure FM (K:Frag)(mg:Str->Option Value)(n:Str)(i:Nat)(f:Addr)(d:FuncData):Prop where
 F:dI K n n (b6 i) f d
 m:mg n=some (.ref f)
theorem FK.M {K:Frag}{mg:Str->Option Value}{n:Str}{i:Nat}{f:Addr}{d:FuncData}{h:Heap}(z:FK K n i f d)(X:K.In h)(G:h.Ns mainGlobals mg):FM K mg n i f d:=⟨z.F,mg_of X G z.a⟩
noncomputable abbrev Hb (x:Str)(ps:List Str)(i:Nat):Prop:=∀(kV doc pm:Value) (an:Option Addr) (cdv ct:Value) (us:List Value),us.length=ps.length->bindArgs (fnOf x x (gG (b6 i)) (cY (b6 i)) (aT (b6 i)) .none kV doc pm an cdv ct) ⟨us,[]⟩=pure (ps.zip us)
theorem pT {A:Around}{k:Nat}(hr:bI k A):A.units+3<cLine:=by have:=hr.units;omega
section
variable {P:Program}{w:World}{K:Frag}{mg:Str→Option Value}{base:Heap}{f:Addr}{fd:FuncData}{k i:Nat}{x:Str}{ps N:List Str}
theorem Df.au {p:c8}(F:FM K mg x i f fd)(S:FnScope N ps (aT (b6 i)))(body:∀(cdv:Value) (A:Around) (outer:List Env) (s:Shared) (H:Hp) (E:XK),bI k (A.deeper (PyProof.Rows.envOfC x (aT (b6 i)) s.heap.objs.size f cdv))->∃t,dO (cA dH P w K mg base N x (aT (b6 i)) f cdv A outer s H E).nox (cY (b6 i)) t/\∀xs Q,p xs Q->t { nx:=λ_=>Q .non,rt:=Q } (dN N xs))(hb:Hb x ps i:=by intro _ _ _ _ _ _ us hl;first|(obtain⟨_,rfl⟩:=us1 hl;rfl)|(obtain⟨_,_,rfl⟩:=us2 hl;rfl)|(obtain⟨_,_,_,rfl⟩:=F2 hl;rfl)|(obtain⟨_,_,_,_,rfl⟩:=us4 hl;rfl)|(obtain⟨_,_,_,_,_,rfl⟩:=us5 hl;rfl))(len:∀xs Q,p xs Q->xs.length=ps.length:=by intro xs Q h;repeat (first|(obtain⟨rfl,_⟩:=h;rfl)|(obtain⟨_,h⟩:=h))):Df P w K mg base (k+1) x ps p:=
 Df.of F.F F.m S hb len body
theorem bL.au {p:cV}(F:FM K mg x i f fd)(S:FnScope N ps (aT (b6 i)))(t:(Str->Prop)->aR)(rd:∀Ep xs Q,p Ep xs Q->t Ep { nx:=λ_=>Q .non,rt:=Q } (dN N xs))(body:∀(cdv:Value) (A:Around) (outer:List Env) (s:Shared) (H:Hp) (E:XK) (Ep:Str->Prop),bI k (A.deeper (PyProof.Rows.envOfC x (aT (b6 i)) s.heap.objs.size f cdv))->jW (cA (cE P w) P w K mg base N x (aT (b6 i)) f cdv A outer s H E) (EX K H Ep)->dO (cA (cE P w) P w K mg base N x (aT (b6 i)) f cdv A outer s H E) (cY (b6 i)) (t Ep))(hb:Hb x ps i:=by intro _ _ _ _ _ _ us hl;first|(obtain⟨_,rfl⟩:=us1 hl;rfl)|(obtain⟨_,_,rfl⟩:=us2 hl;rfl)|(obtain⟨_,_,_,rfl⟩:=F2 hl;rfl)|(obtain⟨_,_,_,_,rfl⟩:=us4 hl;rfl)|(obtain⟨_,_,_,_,_,rfl⟩:=us5 hl;rfl))(len:∀Ep xs Q,p Ep xs Q->xs.length=ps.length:=by intro Ep xs Q h;repeat (first|(obtain⟨rfl,_⟩:=h;rfl)|(obtain⟨_,h⟩:=h))):bL P w K mg base (k+1) x ps p:=
 bL.of F.F F.m S hb t len rd body
end
section
variable {P:Program}{w:World}{K:Frag}{mg:Str→Option Value}{base:Heap}{f:Addr}{fd:FuncData}
noncomputable abbrev M6:Stmt:=b6 9
theorem pU:FnScope ["web","around","one","other"] ["web"] (aT M6):=.au
theorem aE4 (F:dI K "near_lists" "near_lists" M6 f fd):cQ P w K mg base dH 1 f fd ["web"] C5:=by
 refine F.ok pU (λvs H Q E h=>?_) (λcdv A outer s H vs Q E hr h=>?_)
 ·obtain⟨v,ws,ls,rfl,_⟩:=h
  rfl
 obtain⟨v,ws,ls,rfl,W,hn,hm,hin,q⟩:=h
 refine⟨_,nB (ab6 (i:=1) (N:=["want"]) (fr:=[none]) rfl (cB.of rfl rfl) (vQ (lN qY (pv 0) pY (λ_ _=>rfl)))
   ⟨λ_ _ _ _=>eD (i:=0) (aT2 _ _) rfl (Or.inl rfl) (.inr rfl),λ_ _ _ _=>xP,λ_ _ _ _=>qP fN⟩ pU.nd rfl rfl rfl)
  (nB (vV PassesOwn.never rfl (vQ (lN qY (pv 0) pY (λ_ _=>rfl))) (nF (n:=2) rfl (iF (eD (i:=2) pU.nd rfl (Or.inl rfl) (.inr rfl)) (iF (eD (i:=3) pU.nd rfl (Or.inl rfl) (.inr rfl)) nE)) )
   (nB (nC (rA PySem.F.plainAttrs_list PySem.F.slot_list_append PySem.F.type_list_append lP (lN qX (pv 1) (pv 2) (λ_ _=>rfl)) (dZ (pv 3) fN)))
   (pZ (nC (rA PySem.F.plainAttrs_list PySem.F.slot_list_append PySem.F.type_list_append lP (lN qX (pv 1) (pv 3) (λ_ _=>rfl)) (dZ (pv 2) fN))))))
  (pZ (vJ (pv 1)))),?_⟩
 obtain⟨a,p,q',ys,rfl,ha,hp,hq,hL⟩:=W.at_
 have lw:(ws.map V.int).length=ws.length:=aJ2 _
 refine⟨_,rfl,a,_,_,_,rfl,rfl,aI.of ha,rfl,p,rfl,⟨_,aI.of hp⟩,ab8 (ab7 (aI.of hp)) (λi acc H'=>∃bs:List Addr,acc=bs.map V.ref/\bs.length=i/\bs.Nodup/\∀b∈bs,H b=none/\H' b=some (.lst [])) (by rw[lw];exact aS6 (xM hn))
  (λD hD=>⟨[],rfl,rfl,List.nodup_nil,λ_ z=>nomatch z⟩) (λi x acc D H' hx c hPv=>?_) (λD acc H' hD sm hDa hlen hPv=>?_)⟩
 ·obtain⟨bs,rfl,hbl,nd,hb⟩:=hPv
  refine⟨wk0 (n:=none),ac9 ⟨aP8 _,λr hr'=>?_⟩⟩
  have hrD:r≠D:=λz=>by rw[z,c.acc]at hr';cases hr'
  have hrH:H r=none:=c.same.free hr'
  refine c.yes (b7 hr' _) ⟨bs++[r],by simp,by simp[hbl],?_,λb hm=>?_⟩
  ·refine List.nodup_append.mpr ⟨nd,aT2 _ _,λb hb1 b' hb2 e=>?_⟩
   rw[aJ7.mp hb2]at e
   rw[e]at hb1
   rw[(hb r hb1).2]at hr';cases hr'
  ·rcases aP6.mp hm with hm|hm
   ·have hbD:b≠D:=λz=>by
     rw[z]at hm
     have:=(hb D hm).2
     rw[c.acc]at this
     have:bs.map V.ref = []:=by injection this with e1;injection e1
     have:bs = []:=List.map_eq_nil_iff.mp this
     rw[this]at hm;simp at hm
    refine⟨(hb b hm).1,?_⟩
    rw[aN hbD,aN (cG (hb b hm).2 hr')]
    exact (hb b hm).2
   ·rw[aJ7.mp hm]
    exact⟨hrH,by rw[aN hrD,bB]⟩
 ·obtain⟨bs,rfl,hbl,nd,hb⟩:=hPv
  rw[lw]at hbl
  have R0:hU H H' D bs (λk=>bN (ls.take 0) k):=by
   refine⟨hD,λb hm=>⟨(hb b hm).1,λz=>?_⟩,nd,hDa,λk b hk=>(hb b (aP1 hk)).2,sm⟩
   rw[z]at hm
   have:=(hb D hm).2
   rw[hDa]at this
   have:bs.map V.ref = []:=by injection this with e1;injection e1
   have:bs = []:=List.map_eq_nil_iff.mp this
   rw[this]at hm;simp at hm
  have lL:=hL.length
  refine⟨_,rfl,a,_,_,_,rfl,rfl,aI.of (sm _ _ ha),rfl,q',rfl,⟨_,aI.of (sm _ _ hq)⟩,S2 (K:=K) (a:=q') (xs:=ys) (λi σ H2=>∃x y:Option V,σ = [some (.ref a),some (.ref D),x,y]/\hU H H2 D bs (λk=>bN (ls.take i) k))
   ⟨none,none,rfl,R0⟩ (λi σ H2 _ ⟨_,_,_,R⟩=>aI.of (R.same _ _ hq)) ?_ ?_⟩
  ·rintro i y σ H2 hi ⟨x1,x2,rfl,R⟩
   obtain⟨l,b,hl,rfl,hbt⟩:=hL.get hi
   have hlm:l∈ls:=aP1 hl
   obtain⟨⟨h1,h2⟩,h3,h4⟩:=hin l hlm
   have k1:l.1.toNat<bs.length:=by omega
   have k2:l.2.toNat<bs.length:=by omega
   have e1:bs[l.1.toNat]? = some (bs[l.1.toNat]):=aI8 k1
   have e2:bs[l.2.toNat]? = some (bs[l.2.toNat]):=aI8 k2
   refine⟨b,_,rfl,aI.of (R.same _ _ hbt),rfl,_,_,rfl,_,_,rfl,rfl,?_⟩
   refine⟨_,rfl,_,rfl,D,_,_,.ref bs[l.1.toNat],rfl,rfl,aL.of R.row,rW h1 (by rw[aJ9,e1];rfl),rX (aL.of (R.rows _ _ e1)),_,rfl,_,_,_,rfl,rfl,R.rows _ _ e1,?_,?_⟩
   ·rw[aJ2]
    have:=xX (ls.take i) (l.1.toNat:Nat)
    rw[aQ8]at this
    exact jE (by omega)
   ·have R1:=R.app e1 l.2
    refine⟨_,rfl,_,rfl,D,_,_,.ref bs[l.2.toNat],rfl,rfl,aL.of R1.row,rW h3 (by rw[aJ9,e2];rfl),rX (aL.of (R1.rows _ _ e2)),_,rfl,_,_,_,rfl,rfl,R1.rows _ _ e2,?_,?_⟩
    ·rw[aJ2]
     have:=xX (ls.take i) (l.2.toNat:Nat)
     rw[aQ8]at this
     split
     ·rw[aL5,aS2];exact jE (by omega)
     ·exact jE (by omega)
    ·have R2:=R1.app e2 l.1
     refine⟨_,_,rfl,R2.congr λk hk=>?_⟩
     rw[ac8 hl]
     have c1:(k=l.1.toNat)↔l.1=(k:Int):=by omega
     have c2:(k=l.2.toNat)↔l.2=(k:Int):=by omega
     by_cases d1:k=l.1.toNat
     ·by_cases d2:k=l.2.toNat
      ·rw[if_pos d2,if_pos d1,if_pos (c1.mp d1),if_pos (c2.mp d2)];simp
      ·rw[if_neg d2,if_pos d1,if_pos (c1.mp d1),if_neg (λz=>d2 (c2.mpr z))];simp
     ·by_cases d2:k=l.2.toNat
      ·rw[if_pos d2,if_neg d1,if_neg (λz=>d1 (c1.mpr z)),if_pos (c2.mp d2)];simp
      ·rw[if_neg d2,if_neg d1,if_neg (λz=>d1 (c1.mpr z)),if_neg (λz=>d2 (c2.mpr z))];simp
  ·
   rintro σ H2 ⟨x1,x2,rfl,R⟩
   refine⟨_,rfl,q D bs H2 hbl ?_⟩
   rw[lL,aU0]at R
   exact R
theorem M7:FnScope ["many","link","one","other"] ["many","link"] (aT (b6 7)):=.au
theorem aE5 (B:Bt mg)(F:FM K mg "lesser_first" 7 f fd)(x_BadWeb:Xc K mg base "BadWeb"):bL P w K mg base 1 "lesser_first" ["many","link"] pL:=
 bL.au F M7 K2 aC6 (λcdv A outer s H E Ep hr hX=>by
  have nd:=M7.nd
  exact (aS (bV (i:=2) nd (ay6 B rfl (a8 (qv 1) aG)))
   (aS (bV (i:=3) nd (ay5 B rfl (a8 (qv 1) aG)))
   (aS (cD (eR (gL (mB (qv 2) aD) (iV (ai9 (qv 3) (qv 0))))) (aV (l0 hX x_BadWeb (a8 kO aG))) cF)
   (aS (cD (fY (qv 2) (qv 3)) (aV (l0 hX x_BadWeb (a8 kO aG))) cF)
   (aV (bK (dW (a8 (qv 2) (a8 (qv 3) aG))))))))))
theorem aE6:FnScope ["things"] ["things"] (aT (b6 8)):=.au
theorem aE7 (B:Bt mg)(F:FM K mg "rises" 8 f fd) :Df P w K mg base 1 "rises" ["things"] pH:=
 Df.au F aE6 (λcdv A outer s H E hr=>by
  have hu:=xL hr
  exact⟨(uS),(aV (bK (aj8 B rfl (a8 (au1 (N:=["ahead","behind"]) (fr:=[none,none]) (az3 B (qv 0) (gC (qv 0) (gB aD) gA)) (λ_ _ _ _=>(ay9 hu (qv 0) (qv 1)))) aG)))),az6⟩)
theorem aE8:FnScope ["script","k"] ["script","k"] (aT (b6 18)):=.au
theorem aE9 (B:Bt mg)(F:FM K mg "_law_cell_at" 18 f fd) :Df P w K mg base 1 "_law_cell_at" ["script","k"] kY:=
 Df.au F aE8 (λcdv A outer s H E hr=>by
  exact⟨(C1),(aS (cD (mB (qv 1) (g9 B (a8 (qv 0) aG))) (aV (bK (dC (qv 0) (qv 1)))) cF)
   (aV (bK aD))),aq8⟩)
theorem aF0:FnScope ["found"] ["found"] (aT (b6 19)):=.au
theorem aF1 (B:Bt mg)(F:FM K mg "_law_whole" 19 f fd) :Df P w K mg base 1 "_law_whole" ["found"] kZ:=
 Df.au F aF0 (λcdv A outer s H E hr=>by
  exact⟨(C2 K),(aV (bK (zB (ak4 B (qv 0)) (zA (aj2 (tI B (qv 0))))))),aq9 (p6 K).ii (p6 K).ib⟩)
theorem M8:FnScope ["cell","k","turn"] ["cell","k"] (aT (b6 20)):=.au
theorem aF2 (B:Bt mg)(F:FM K mg "_law_stir" 20 f fd) :Df P w K mg base 1 "_law_stir" ["cell","k"] l9:=
 Df.au F M8 (λcdv A outer s H E hr=>by
  have nd:=M8.nd
  exact⟨(F3),(aS (bV (i:=2) nd (bT (oA (gJ (gJ (bT (qv 0) aD) (oA (qv 1) (qv 1))) aD) aD) aD))
   (aV (bK (cU (bT (oA (qv 2) (qv 2)) aD) aD)))),aw5⟩)
theorem aF3:FnScope ["cell"] ["cell"] (aT (b6 21)):=.au
theorem aF4 (B:Bt mg)(F:FM K mg "_law_many" 21 f fd) :Df P w K mg base 1 "_law_many" ["cell"] pD:=
 Df.au F aF3 (λcdv A outer s H E hr=>by
  exact⟨(F5),(aS (cD (fY (bT (cU (qv 0) aD) aD) aD) (aV (bK (bT (cU (qv 0) aD) aD))) cF)
   (aV (bK (bT (qv 0) aD)))),aw9⟩)
theorem M9:FnScope ["links","cell","told","k","pair","cut"] ["links","cell"] (aT (b6 23)):=.au
theorem aF5 (B:Bt mg)(F:FM K mg "_law_told" 23 f fd) :Df P w K mg base 1 "_law_told" ["links","cell"] pM:=
 Df.au F M9 (λcdv A outer s H E hr=>by
  have nd:=M9.nd
  exact⟨(K9),(aS (tD (i:=2) nd (gM aG))
   (aS (ak7 3 4 nd (at9 rfl B.enum (qv 0))
    (aS (cD (fY (bT (gJ (cU (qv 1) aD) (oA (qv 3) (qv 3))) aD) aD) (aV (bV (i:=4) nd (dW (a8 (dC (qv 4) aD) (a8 (dC (qv 4) aD) aG))))) cF)
    (aV (aj4 2 (qv 4)))))
   (aS (bV (i:=5) nd (bT (cU (qv 1) aD) (gJ (g9 B (a8 (qv 2) aG)) aD)))
   (aV (bK (k6 (gC (qv 2) (gB (qv 5)) gA) (gC (qv 2) gA (gB (qv 5))))))))),aD2⟩)
theorem N0:FnScope ["many","links","cell","far","spot","one","other","hearth","odd"] ["many","links","cell"] (aT (b6 26)):=.au
theorem aF6 (B:Bt mg)(F:FM K mg "_law_odd" 26 f fd) :Df P w K mg base 1 "_law_odd" ["many","links","cell"] pQ:=
 Df.au F N0 (λcdv A outer s H E hr=>by
  have nd:=N0.nd
  exact⟨(L9),(aS (bV (i:=3) nd (bT (cU (qv 2) aD) (ai8 aD aD)))
   (aS (bV (i:=4) nd (bT (cU (qv 2) aD) (gJ (g9 B (a8 (qv 1) aG)) aD)))
   (aS (cD (fY (bT (qv 2) aD) aD) (aV (bK (aA8 (fY (bT (cU (qv 2) aD) aD) aD) (mE (a8 (m9 (tG aD) (qv 3)) (a8 (gM aG) aG))) (mE (a8 (gJ aD (qv 3)) (a8 (gM aG) aG)))))) cF)
   (aS (cD (eR (mD (fY (bT (qv 2) aD) aD) (mC (iU (g9 B (a8 (qv 1) aG)) aD)))) (aS (av1 5 6 nd (dC (qv 1) (bT (cU (qv 2) aD) (g9 B (a8 (qv 1) aG)))))
    (aV (bK (mE (a8 (qv 0) (a8 (k6 (k6 (gC (qv 1) gA (gB (qv 4))) (gM (a8 (dC (gM (a8 (dW (a8 (qv 5) (a8 (qv 6) aG))) (a8 (dW (a8 (qv 6) (a8 (qv 5) aG))) aG))) (bT (cU (qv 2) aD) aD)) aG))) (gC (qv 1) (gB (qv 4)) gA)) aG)))))) cF)
   (aS (cD (eR (mD (fY (bT (qv 2) aD) aD) (mC (iU (qv 0) aD)))) (aS (bV (i:=7) nd (bT (cU (qv 2) aD) (qv 0)))
    (aV (bK (mE (a8 (qv 0) (a8 (k6 (k6 (gC (qv 1) gA (gB (qv 4))) (gM (a8 (dW (a8 (qv 7) (a8 (qv 7) aG))) aG))) (gC (qv 1) (gB (qv 4)) gA)) aG)))))) cF)
   (aS (bV (i:=8) nd (dC (gM (a8 (dW (a8 aD (a8 (qv 0) aG))) (a8 (dW (a8 (tG aD) (a8 aD aG))) (a8 (dW (a8 (gJ (qv 0) (qv 3)) (a8 aD aG))) (a8 (dW (a8 aD (a8 (m9 (tG aD) (qv 3)) aG))) aG))))) (bT (cU (qv 2) aD) aD)))
   (aV (bK (mE (a8 (qv 0) (a8 (k6 (k6 (gC (qv 1) gA (gB (qv 4))) (gM (a8 (qv 8) aG))) (gC (qv 1) (gB (qv 4)) gA)) aG))))))))))),aD7⟩)
theorem N1:FnScope ["wants","links","want","pairs"] ["wants","links"] (aT (b6 6)):=.au
theorem aF7 (B:Bt mg)(F:dI K "made_web" "made_web" (b6 6) f fd)(m:mg "made_web" = some (.ref f))(d_lesser_first:bL P w K mg base 1 "lesser_first" ["many","link"] pL)(d_rises:Df P w K mg base 1 "rises" ["things"] pH)(x_BadWeb:Xc K mg base "BadWeb"){u_MOST_HEARTHS:Nat}(m_MOST_HEARTHS:mg "MOST_HEARTHS" = some (.int 40 u_MOST_HEARTHS)){u_MOST_WANTED:Nat}(m_MOST_WANTED:mg "MOST_WANTED" = some (.int 60 u_MOST_WANTED)):bL P w K mg base 2 "made_web" ["wants","links"] mY:=
 bL.ofA F m N1 (λ_ _ _ _ _ _ us hl=>by obtain⟨_,_,rfl⟩:=us2 hl;rfl) K3 (λEp xs Q h=>by unfold mY at h;repeat (first|(obtain⟨rfl,_⟩:=h;rfl)|(obtain⟨_,h⟩:=h))) aC7 (λcdv A outer s H E Ep hr hX pa=>by
  have nd:=N1.nd
  exact (aS (cD (iU (g9 B (a8 (qv 0) aG)) (uA rfl m_MOST_HEARTHS)) (aV (l0 hX x_BadWeb (a8 kO aG))) cF)
   (aS (jQ 2 (hp:=hX.own) nd (i9 (qv 0))
    (aV (cD (eR (gL (mB (qv 2) aD) (iV (iU (qv 2) (uA rfl m_MOST_WANTED))))) (aV (l0 hX x_BadWeb (a8 kO aG))) cF)))
   (aS (bV (i:=3) nd (F4 B (a8 (aC0 pa (N:=["link","wants"]) (fr:=[none,some 0]) (i9 (qv 1)) (λ_ _ _ _=>(aC1 aB5 d_lesser_first hr (a8 (g9 B (a8 (qv 1) aG)) (a8 (qv 0) aG))))) aG)))
   (aS (cD (fZ (gK (cL d_rises hr (a8 (qv 3) aG)))) (aV (l0 hX x_BadWeb (a8 kO aG))) cF)
   (aV (bK (dW (a8 (iW B (a8 (qv 0) aG)) (a8 (iW B (a8 (qv 3) aG)) aG))))))))))
theorem aF8:FnScope ["web","few"] ["web","few"] (aT (b6 14)):=.au
theorem aF9 (B:Bt mg)(F:FM K mg "wanting_all_but" 14 f fd)(d_near_lists:Df P w K mg base 1 "near_lists" ["web"] tY):Df P w K mg base 2 "wanting_all_but" ["web","few"] gQ:=
 Df.au F aF8 (λcdv A outer s H E hr=>by
  exact⟨(K5),(aV (bK (dW (a8 (iW B (a8 (ak8 (N:=["beside","few"]) (fr:=[none,some 1]) (i9 (cL d_near_lists hr (a8 (qv 0) aG))) (λ_ _ _ _=>(tF B rfl (a8 aD (a8 (m9 (g9 B (a8 (qv 0) aG)) (qv 1)) aG))))) aG)) (a8 (dC (qv 0) aD) aG))))),aC9⟩)
theorem N2:FnScope ["flow","many","links","cell","one","other","turn","pair"] ["flow","many"] (aT (b6 22)):=.au
theorem aG0 (B:Bt mg)(F:FM K mg "_law_links" 22 f fd)(d__law_stir:Df P w K mg base 1 "_law_stir" ["cell","k"] l9):Df P w K mg base 2 "_law_links" ["flow","many"] pJ:=
 Df.au F N2 (λcdv A outer s H E hr=>by
  have nd:=N2.nd
  have hu:=xL hr
  exact⟨(G7),(aS (tD (i:=2) nd aj3)
   (aS (cD (eR (mD (iU (g9 B (a8 (qv 0) aG)) aD) (mC (fY (bT (dC (qv 0) aD) aD) aD)))) (aS (bV (i:=3) nd (cU (dC (qv 0) aD) aD))
    (aS (jQ 4 nd (tE rfl B.range (qv 1))
     (aV (jQ 5 nd (aj6 rfl B.range (gJ (qv 4) aD) (qv 1))
      (aS (cD (fY (bT (qv 3) aD) aD) (aV (zC hu (i:=2) (dW (a8 (qv 4) (a8 (qv 5) aG))) fF)) cF)
      (aV (bV (i:=3) nd (cU (qv 3) aD)))))))
    (aV (bV (i:=0) nd (gC (qv 0) (gB aD) gA))))) cF)
   (aS (jQ 3 nd (i9 (qv 0))
    (aV (cD (iU (qv 1) aD) (aS (bV (i:=6) nd (cL d__law_stir hr (a8 (qv 3) (a8 aD aG))))
     (aS (bV (i:=4) nd (bT (qv 6) (qv 1)))
     (aS (bV (i:=5) nd (bT (gJ (gJ (qv 4) aD) (bT (cU (qv 6) aD) (m9 (qv 1) aD))) (qv 1)))
     (aS (bV (i:=7) nd (dW (a8 (aj9 B rfl (a8 (qv 4) (a8 (qv 5) aG))) (a8 (tF B rfl (a8 (qv 4) (a8 (qv 5) aG))) aG))))
     (aV (cD (eR (mD (aj0 hu (qv 7) (qv 2)) (mC (fY (bT (cU (qv 6) aD) aD) aD)))) (aV (aw4 2 hu (qv 7))) (aV (zC hu (i:=2) (qv 7) fF)))))))) cF)))
   (aV (bK (F4 B (a8 (ar1 B rfl (a8 (qv 2) aG)) aG))))))),aA2⟩)
theorem N3:FnScope ["found","wants","links","want","pair"] ["found","wants","links"] (aT (b6 24)):=.au
theorem aG1 (B:Bt mg)(F:FM K mg "_law_web_is" 24 f fd)(d__law_whole:Df P w K mg base 1 "_law_whole" ["found"] kZ):Df P w K mg base 2 "_law_web_is" ["found","wants","links"] mZ:=
 Df.au F N3 (λcdv A outer s H E hr=>by
  have nd:=N3.nd
  have hu3:=pT hr
  exact⟨(L4 K),(aS (cD (eR (gL (fZ (gK (oB B (qv 0)))) (gL (t8 (g9 B (a8 (qv 0) aG)) aD) (iV (zJ hu3 (qv 0) (dW (a8 (iW B (a8 (qv 1) aG)) (a8 (iW B (a8 (qv 2) aG)) aG)))))))) (aV (bK fF)) cF)
   (aS (jQ 3 nd (i9 (dC (qv 0) aD))
    (aV (cD (fZ (gK (cL d__law_whole hr (a8 (qv 3) aG)))) (aV (bK fF)) cF)))
   (aS (jQ 4 nd (i9 (dC (qv 0) aD))
    (aV (cD (eR (gL (fZ (gK (oB B (qv 4)))) (gL (fZ (gK (cL d__law_whole hr (a8 (dC (qv 4) aD) aG)))) (iV (fZ (gK (cL d__law_whole hr (a8 (dC (qv 4) aD) aG)))))))) (aV (bK fF)) cF)))
   (aV (bK (zB (oB B (dC (qv 0) aD)) (zA (oB B (dC (qv 0) aD))))))))),aD3 (p6 K).tt⟩)
theorem aG2:FnScope ["many","links"] ["many","links"] (aT (b6 13)):=.au
theorem aG3 (B:Bt mg)(F:FM K mg "linked_web" 13 f fd)(d_made_web:bL P w K mg base 2 "made_web" ["wants","links"] mY)(x_BadWeb:Xc K mg base "BadWeb"){u_MOST_HEARTHS:Nat}(m_MOST_HEARTHS:mg "MOST_HEARTHS" = some (.int 40 u_MOST_HEARTHS)):bL P w K mg base 3 "linked_web" ["many","links"] lA:=
 bL.au F aG2 K4 aC8 (λcdv A outer s H E Ep hr hX=>by
  exact (aS (cD (eR (gL (mB (qv 0) aD) (iV (iU (qv 0) (uA rfl m_MOST_HEARTHS))))) (aV (l0 hX x_BadWeb (a8 kO aG))) cF)
   (aV (bK (uG hX d_made_web hr (a8 (au3 (gM (a8 aD aG)) (qv 0)) (a8 (qv 1) aG)))))))
theorem aG4:FnScope ["web"] ["web"] (aT (b6 15)):=.au
theorem aG5 (B:Bt mg)(F:FM K mg "is_full" 15 f fd)(d_wanting_all_but:Df P w K mg base 2 "wanting_all_but" ["web","few"] gQ):Df P w K mg base 3 "is_full" ["web"] pO:=
 Df.au F aG4 (λcdv A outer s H E hr=>by
  have hu3:=pT hr
  exact⟨(L5),(aV (bK (oD hu3 (qv 0) (cL d_wanting_all_but hr (a8 (qv 0) (a8 aD aG)))))),aD4⟩)
theorem aG6:FnScope ["web"] ["web"] (aT (b6 16)):=.au
theorem aG7 (B:Bt mg)(F:FM K mg "is_nearly_full" 16 f fd)(d_wanting_all_but:Df P w K mg base 2 "wanting_all_but" ["web","few"] gQ):Df P w K mg base 3 "is_nearly_full" ["web"] pP:=
 Df.au F aG6 (λcdv A outer s H E hr=>by
  have hu3:=pT hr
  exact⟨(L6),(aV (bK (oD hu3 (qv 0) (cL d_wanting_all_but hr (a8 (qv 0) (a8 aD aG)))))),aD5⟩)
theorem aG8:FnScope ["many","links"] ["many","links"] (aT (b6 11)):=.au
theorem aG9 (B:Bt mg)(F:FM K mg "full_web" 11 f fd)(d_wanting_all_but:Df P w K mg base 2 "wanting_all_but" ["web","few"] gQ)(d_linked_web:bL P w K mg base 3 "linked_web" ["many","links"] lA):bL P w K mg base 4 "full_web" ["many","links"] lB:=
 bL.au F aG8 K6 aD0 (λcdv A outer s H E Ep hr hX=>by
  exact (aV (bK (cL d_wanting_all_but hr (a8 (uG hX d_linked_web hr (a8 (qv 0) (a8 (qv 1) aG))) (a8 aD aG))))))
theorem aH0:FnScope ["many","links"] ["many","links"] (aT (b6 12)):=.au
theorem aH1 (B:Bt mg)(F:FM K mg "nearly_full_web" 12 f fd)(d_wanting_all_but:Df P w K mg base 2 "wanting_all_but" ["web","few"] gQ)(d_linked_web:bL P w K mg base 3 "linked_web" ["many","links"] lA):bL P w K mg base 4 "nearly_full_web" ["many","links"] lC:=
 bL.au F aH0 K7 aD1 (λcdv A outer s H E Ep hr hX=>by
  exact (aV (bK (cL d_wanting_all_but hr (a8 (uG hX d_linked_web hr (a8 (qv 0) (a8 (qv 1) aG))) (a8 aD aG))))))
theorem N4:FnScope ["many","links","maker","caught","e"] ["many","links"] (aT (b6 25)):=.au
theorem aH2 (B:Bt mg)(F:FM K mg "_law_refused" 25 f fd)(d_full_web:bL P w K mg base 4 "full_web" ["many","links"] lB)(d_nearly_full_web:bL P w K mg base 4 "nearly_full_web" ["many","links"] lC)(fv_full_web:iE K mg "full_web")(fv_nearly_full_web:iE K mg "nearly_full_web")(cat_HearthError:uI K mg "HearthError")(is_BadWeb:uK K mg "BadWeb"):Df P w K mg base 5 "_law_refused" ["many","links"] pR:=
 Df.au F N4 (λcdv A outer s H E hr=>by
  have nd:=N4.nd
  exact⟨(M0),(aS (jQ 2 nd (i9 (gM (a8 (K0 fv_full_web) (a8 (K0 fv_nearly_full_web) aG))))
    (aS (bV (i:=3) nd fF)
    (aS (av4 4 cat_HearthError nd (aC4 2 (aC5 fv_full_web d_full_web fv_nearly_full_web d_nearly_full_web) hr (λ_=>(a8 (qv 0) (a8 (qv 1) aG)))) (λ_=>(aV (bV (i:=3) nd (av9 B is_BadWeb (qv 4))))))
    (aV (cD (fZ (aj1 (qv 3))) (aV (bK fF)) cF)))))
   (aV (bK fF))),aD9⟩)
theorem N5:FnScope ["script","many","cell","links","degrees","nearly","told","handed","wants","web","full","nearly_so","odd"] ["script"] (aT (b6 27)):=.au
theorem aH3 (B:Bt mg)(F:dI K "law" "law" (b6 27) f fd)(d__law_many:Df P w K mg base 1 "_law_many" ["cell"] pD)(d__law_cell_at:Df P w K mg base 1 "_law_cell_at" ["script","k"] kY)(d__law_links:Df P w K mg base 2 "_law_links" ["flow","many"] pJ)(d__law_told:Df P w K mg base 1 "_law_told" ["links","cell"] pM)(d__law_web_is:Df P w K mg base 2 "_law_web_is" ["found","wants","links"] mZ)(d_full_web:bL P w K mg base 4 "full_web" ["many","links"] lB)(d_nearly_full_web:bL P w K mg base 4 "nearly_full_web" ["many","links"] lC)(d__law_stir:Df P w K mg base 1 "_law_stir" ["cell","k"] l9)(d_is_full:Df P w K mg base 3 "is_full" ["web"] pO)(d_is_nearly_full:Df P w K mg base 3 "is_nearly_full" ["web"] pP)(d__law_odd:Df P w K mg base 1 "_law_odd" ["many","links","cell"] pQ)(d__law_refused:Df P w K mg base 5 "_law_refused" ["many","links"] pR):cQ P w K mg base dH 6 f fd ["script"] (lZ K v4):=
 as0 F N5 (λxs Q h=>by unfold v4 at h;repeat (first|(obtain⟨rfl,_⟩:=h;rfl)|(obtain⟨_,h⟩:=h))) (λcdv A outer s H E hr=>by
  have nd:=N5.nd
  have hu3:=pT hr
  exact⟨(M5 K),(aS (bV (i:=1) nd (cL d__law_many hr (a8 (cL d__law_cell_at hr (a8 (qv 0) (a8 aD aG))) aG)))
   (aS (bV (i:=2) nd (cL d__law_cell_at hr (a8 (qv 0) (a8 aD aG))))
   (aS (bV (i:=3) nd (cL d__law_links hr (a8 (gC (qv 0) (gB aD) gA) (a8 (qv 1) aG))))
   (aS (aw7 (i:=4) nd (N:=["hearth","links"]) (fr:=[none,some 3]) (tE rfl B.range (qv 1)) (λ_ _ _ _=>(g9 B (a8 (ak9 (N:=["pair","hearth"]) (fr:=[none,some 0]) (i9 (qv 1)) (λ_ _ _ _=>(ak1 (qv 1) (qv 0))) (λ_ _ _ _=>(qv 0))) aG))))
   (aS (al0 (i:=5) nd (N:=["degree"]) (fr:=[none]) (i9 (qv 4)) (λ_ _ _ _=>(tF B rfl (a8 aD (a8 (m9 (qv 0) aD) aG)))))
   (aS (bV (i:=6) nd (cL d__law_told hr (a8 (qv 3) (a8 (qv 2) aG))))
   (aS (bV (i:=7) nd (zE B (a8 (qv 6) aG)))
   (aS (cD (eR (gL (fZ (gK (cL d__law_web_is hr (a8 (E8 d_full_web hr (a8 (qv 1) (a8 (qv 7) aG))) (a8 (qv 4) (a8 (qv 3) aG)))))) (iV (zJ hu3 (qv 7) (qv 6))))) (aV (bK fF)) cF)
   (aS (cD (fZ (gK (cL d__law_web_is hr (a8 (E8 d_nearly_full_web hr (a8 (qv 1) (a8 (iW B (a8 (qv 6) aG)) aG))) (a8 (qv 5) (a8 (qv 3) aG)))))) (aV (bK fF)) cF)
   (aS (bV (i:=2) nd (cL d__law_cell_at hr (a8 (qv 0) (a8 aD aG))))
   (aS (al1 (i:=8) nd (N:=["k","cell"]) (fr:=[none,some 2]) (tE rfl B.range (qv 1)) (λ_ _ _ _=>(bT (cL d__law_stir hr (a8 (qv 1) (a8 (qv 0) aG))) aD)))
   (aS (cD (mB (bT (qv 2) aD) aD) (aS (tD (i:=8) nd (zE B (a8 (dC (ax5 (a8 (qv 4) (a8 (qv 5) aG))) (bT (qv 2) aD)) aG)))
    (aV (cD (eR (mD (fY (bT (cU (qv 2) aD) aD) aD) (mC (iU (qv 1) aD)))) (aV (al2 (i:=8) (bT (cU (qv 2) aD) (qv 1)) (bT (cU (qv 2) aD) aD))) cF))) cF)
   (aS (bV (i:=9) nd (dW (a8 (iW B (a8 (qv 8) aG)) (a8 (iW B (a8 (qv 3) aG)) aG))))
   (aS (bV (i:=10) nd (cL d_is_full hr (a8 (qv 9) aG)))
   (aS (bV (i:=11) nd (cL d_is_nearly_full hr (a8 (qv 9) aG)))
   (aS (cD (eR (gL (fZ (gK (tI B (qv 10)))) (iV (t8 (qv 10) (oD hu3 (qv 8) (qv 4)))))) (aV (bK fF)) cF)
   (aS (cD (eR (gL (fZ (gK (tI B (qv 11)))) (iV (t8 (qv 11) (oD hu3 (qv 8) (qv 5)))))) (aV (bK fF)) cF)
   (aS (bV (i:=12) nd (cL d__law_odd hr (a8 (qv 1) (a8 (qv 6) (a8 (cU (qv 2) aD) aG)))))
   (aV (bK (cL d__law_refused hr (a8 (dC (qv 12) aD) (a8 (dC (qv 12) aD) aG))))))))))))))))))))))),aE3 (p6 K).bb⟩)
end
set_option autoImplicit true in
theorem aH4 {l:OpenLaw}{w:World}{K:Frag}{h:Heap}{mg:Str->Option Value}(X:K.In h)(G:h.Ns mainGlobals mg)(hfa:mg "law" = some (.ref fa))(h0:FK K "lesser_first" 7 f0 d0)(h1:FK K "rises" 8 f1 d1)(h2:FK K "near_lists" 9 f2 d2)(h3:FK K "_law_cell_at" 18 f3 d3)(h4:FK K "_law_whole" 19 f4 d4)(h5:FK K "_law_stir" 20 f5 d5)(h6:FK K "_law_many" 21 f6 d6)(h7:FK K "_law_told" 23 f7 d7)(h8:FK K "_law_odd" 26 f8 d8)(h9:FK K "made_web" 6 f9 d9)(h10:FK K "wanting_all_but" 14 f10 d10)(h11:FK K "_law_links" 22 f11 d11)(h12:FK K "_law_web_is" 24 f12 d12)(h13:FK K "linked_web" 13 f13 d13)(h14:FK K "is_full" 15 f14 d14)(h15:FK K "is_nearly_full" 16 f15 d15)(h16:FK K "full_web" 11 f16 d16)(h17:FK K "nearly_full_web" 12 f17 d17)(h18:FK K "_law_refused" 25 f18 d18)(a19:nsIn K mainGlobals "law" = some (some (.ref f19)))(l19:K.lookup f19=some ⟨oc19,od19,.func (fnOf "law" "law" (gG (b6 27)) (cY (b6 27)) (aT (b6 27)) .none kV19 dc19 pm19 an19 cd19 ct19),sl19⟩)(c19:codeIn K cd19 "law" = true)(k19:keepIn K (.ref f19)=true)(z_len:nsIn K mainGlobals "len" = some none)(z_range:nsIn K mainGlobals "range" = some none)(z_tuple:nsIn K mainGlobals "tuple" = some none)(z_list:nsIn K mainGlobals "list" = some none)(z_sorted:nsIn K mainGlobals "sorted" = some none)(z_all:nsIn K mainGlobals "all" = some none)(z_any:nsIn K mainGlobals "any" = some none)(z_zip:nsIn K mainGlobals "zip" = some none)(z_min:nsIn K mainGlobals "min" = some none)(z_max:nsIn K mainGlobals "max" = some none)(z_sum:nsIn K mainGlobals "sum" = some none)(z_isinstance:nsIn K mainGlobals "isinstance" = some none)(z_int:nsIn K mainGlobals "int" = some none)(z_bool:nsIn K mainGlobals "bool" = some none)(z_enumerate:nsIn K mainGlobals "enumerate" = some none){u_MOST_HEARTHS:Nat}(z_MOST_HEARTHSx:nsIn K mainGlobals "MOST_HEARTHS" = some (some (.int 40 u_MOST_HEARTHS))){u_MOST_WANTED:Nat}(z_MOST_WANTEDx:nsIn K mainGlobals "MOST_WANTED" = some (some (.int 60 u_MOST_WANTED))){C_HearthError C_BadWeb:Addr}(aX_HE:nsIn K mainGlobals "HearthError" = some (some (.ref C_HearthError)))(aX_BW:nsIn K mainGlobals "BadWeb" = some (some (.ref C_BadWeb)))(zX_BS:nsIn K mainGlobals "BadSet" = some none)(zX_BO:nsIn K mainGlobals "BadOrder" = some none)(zX_BP:nsIn K mainGlobals "BadPrices" = some none)(zX_BB:nsIn K mainGlobals "BadBoard" = some none)(zX_BD:nsIn K mainGlobals "BadDeed" = some none)(zX_NW:nsIn K mainGlobals "NotWood" = some none)(zX_NP:nsIn K mainGlobals "NoPaper" = some none)(zX_NS:nsIn K mainGlobals "NoSuch" = some none)(zX_TM:nsIn K mainGlobals "TooMany" = some none)(zX_NT:nsIn K mainGlobals "NoText" = some none)(zX_OR:nsIn K mainGlobals "OddRound" = some none)(y_fg:specialIn K (.builtin "object.__class__") "__get__" = some (some (.builtin "getset_descriptor.__get__")))(y_ft:takesIn K (.builtin "object.__class__")=some true)(z_VE:nsIn K mainGlobals "ValueError" = some none)(y1_HE:isClsIn K C_HearthError=true)(y2_HE:typeIn K (.ref C_HearthError)=some (.type "type"))(y3_HE:findIn K (.ref C_HearthError) "__getattribute__" = some (some (.builtin "BaseException.__getattribute__")))(y4_HE:findIn K (.ref C_HearthError) "__getattr__" = some none)(y5_HE:findIn K (.ref C_HearthError) "__class__" = some (some (.builtin "object.__class__")))(y6_HE:mroIn K C_HearthError (.type "object")=some true)(y7_HE:mroIn K C_HearthError (.type "BaseException")=some true)(y1_BW:isClsIn K C_BadWeb=true)(y2_BW:typeIn K (.ref C_BadWeb)=some (.type "type"))(y3_BW:findIn K (.ref C_BadWeb) "__getattribute__" = some (some (.builtin "BaseException.__getattribute__")))(y4_BW:findIn K (.ref C_BadWeb) "__getattr__" = some none)(y5_BW:findIn K (.ref C_BadWeb) "__class__" = some (some (.builtin "object.__class__")))(y6_BW:mroIn K C_BadWeb (.type "object")=some true)(y7_BW:mroIn K C_BadWeb (.type "BaseException")=some true)(sB_HE:subIn K (.ref C_HearthError) (.type "BaseException")=some true)(s_BW_HE:subIn K (.ref C_BadWeb) (.ref C_HearthError)=some true)(sN_BW:subIn K (.type "NoneType") (.ref C_BadWeb)=some false)(q_BW:excIn K C_BadWeb [.type "ValueError",.type "Exception",.type "BaseException",.type "object"] "ValueError.__new__" = true)
 :∃fd:FuncData,(∀(s:Shared) (v:Value),BindsTo s fd ⟨[v],[]⟩ [("script",v)])/\∀base:Heap,K.In base->base.Ns mainGlobals mg->cQ l.prog w K mg base dH 6 fa fd ["script"] (p9 K):=by
 have e:=hfa.symm.trans (mg_of X G a19)
 cases e
 have F19:=ab1 (st:=b6 27) l19 c19 k19
 have m19:=mg_of X G a19
 have B:Bt mg:=⟨mg_none_of X G z_len,mg_none_of X G z_range,mg_none_of X G z_tuple,mg_none_of X G z_list,mg_none_of X G z_sorted,mg_none_of X G z_all,mg_none_of X G z_any,mg_none_of X G z_zip,mg_none_of X G z_min,mg_none_of X G z_max,mg_none_of X G z_sum,mg_none_of X G z_isinstance,mg_none_of X G z_int,mg_none_of X G z_bool,mg_none_of X G z_enumerate⟩
 have fv_full_web:iE K mg "full_web":=⟨_,mg_of X G h16.a,h16.a⟩
 have fv_nearly_full_web:iE K mg "nearly_full_web":=⟨_,mg_of X G h17.a,h17.a⟩
 have m_MOST_HEARTHS:=mg_of X G z_MOST_HEARTHSx
 have m_MOST_WANTED:=mg_of X G z_MOST_WANTEDx
 refine⟨fnOf "law" "law" (gG (b6 27)) (cY (b6 27)) (aT (b6 27)) .none kV19 dc19 pm19 an19 cd19 ct19,λs v=>.of_eq rfl,λbase KB _=>?_⟩
 have XK_HearthError:mS K C_HearthError:=⟨y1_HE,y2_HE,y3_HE,y4_HE,y5_HE,y_fg,y_ft,y6_HE,y7_HE⟩
 have XK_BadWeb:mS K C_BadWeb:=⟨y1_BW,y2_BW,y3_BW,y4_BW,y5_BW,y_fg,y_ft,y6_BW,y7_BW⟩
 have cat_HearthError:uI K mg "HearthError":=⟨C_HearthError,mg_of X G aX_HE,⟨y1_HE,y2_HE,sB_HE⟩,λn C h2 h1=>by
  obtain⟨hm,hb⟩:=F1 h2
  simp only[pB,aI5,aJ6,aM1]at hm
  rcases hm with rfl|rfl|rfl|rfl|rfl|rfl|rfl|rfl|rfl|rfl|rfl|rfl
  ·rw[aX_BW]at h1;cases h1;exact s_BW_HE
  ·rw[zX_BS]at h1;cases h1
  ·rw[zX_BO]at h1;cases h1
  ·rw[zX_BP]at h1;cases h1
  ·rw[zX_BB]at h1;cases h1
  ·rw[zX_BD]at h1;cases h1
  ·rw[zX_NW]at h1;cases h1
  ·rw[zX_NP]at h1;cases h1
  ·rw[zX_NS]at h1;cases h1
  ·rw[zX_TM]at h1;cases h1
  ·rw[zX_NT]at h1;cases h1
  ·rw[zX_OR]at h1;cases h1⟩
 have is_BadWeb:uK K mg "BadWeb":=⟨C_BadWeb,mg_of X G aX_BW,λz=>(by cases z),(λn C b h1 h2=>by
  obtain⟨hm,hb⟩:=F1 h2
  simp only[pB,aI5,aJ6,aM1]at hm
  rcases hm with rfl|rfl|rfl|rfl|rfl|rfl|rfl|rfl|rfl|rfl|rfl|rfl
  ·rw[aX_BW]at h1;cases h1;rw[hb,show (("BadWeb":Str)=="BadWeb"||("BadWeb":Str)=="HearthError"||("BadWeb":Str)=="ValueError")=true by decide];exact⟨XK_BadWeb.exc,aw1⟩
  ·rw[zX_BS]at h1;cases h1
  ·rw[zX_BO]at h1;cases h1
  ·rw[zX_BP]at h1;cases h1
  ·rw[zX_BB]at h1;cases h1
  ·rw[zX_BD]at h1;cases h1
  ·rw[zX_NW]at h1;cases h1
  ·rw[zX_NP]at h1;cases h1
  ·rw[zX_NS]at h1;cases h1
  ·rw[zX_TM]at h1;cases h1
  ·rw[zX_NT]at h1;cases h1
  ·rw[zX_OR]at h1;cases h1),aw2 XK_BadWeb sN_BW⟩
 have x_BadWeb:Xc K mg base "BadWeb":=⟨C_BadWeb,_,_,_,_,aw0 KB (mg_of X G aX_BW) q_BW,PySem.F.excBase_ValueError,aX_BW⟩
 have D0:=aE5 (P:=l.prog) (w:=w) (base:=base) B (h0.M X G)  x_BadWeb
 have D1:=aE7 (P:=l.prog) (w:=w) (base:=base) B (h1.M X G)
 have D2:=ar4 (aE4 (P:=l.prog) (w:=w) (mg:=mg) (base:=base) h2.F) (h2.F.binds (ps:=["web"]) λ_ _ _ _ _ _ us hl=>by obtain⟨_,rfl⟩:=us1 hl;rfl) h2.F.kp (mg_of X G h2.a)
 have D3:=aE9 (P:=l.prog) (w:=w) (base:=base) B (h3.M X G)
 have D4:=aF1 (P:=l.prog) (w:=w) (base:=base) B (h4.M X G)
 have D5:=aF2 (P:=l.prog) (w:=w) (base:=base) B (h5.M X G)
 have D6:=aF4 (P:=l.prog) (w:=w) (base:=base) B (h6.M X G)
 have D7:=aF5 (P:=l.prog) (w:=w) (base:=base) B (h7.M X G)
 have D8:=aF6 (P:=l.prog) (w:=w) (base:=base) B (h8.M X G)
 have D9:=aF7 (P:=l.prog) (w:=w) (base:=base) B h9.F (mg_of X G h9.a) D0 D1 x_BadWeb m_MOST_HEARTHS m_MOST_WANTED
 have D10:=aF9 (P:=l.prog) (w:=w) (base:=base) B (h10.M X G) D2
 have D11:=aG0 (P:=l.prog) (w:=w) (base:=base) B (h11.M X G) D5
 have D12:=aG1 (P:=l.prog) (w:=w) (base:=base) B (h12.M X G) D4
 have D13:=aG3 (P:=l.prog) (w:=w) (base:=base) B (h13.M X G) D9 x_BadWeb m_MOST_HEARTHS
 have D14:=aG5 (P:=l.prog) (w:=w) (base:=base) B (h14.M X G) D10
 have D15:=aG7 (P:=l.prog) (w:=w) (base:=base) B (h15.M X G) D10
 have D16:=aG9 (P:=l.prog) (w:=w) (base:=base) B (h16.M X G) D10 D13
 have D17:=aH1 (P:=l.prog) (w:=w) (base:=base) B (h17.M X G) D10 D13
 have D18:=aH2 (P:=l.prog) (w:=w) (base:=base) B (h18.M X G) D16 D17 fv_full_web fv_nearly_full_web cat_HearthError is_BadWeb
 exact as1 (aH3 B F19 D6 D3 D11 D7 D12 D16 D17 D5 D14 D15 D8 D18)
theorem aH5 {l:OpenLaw}{q:Program}{loose:List Str}{XP:(Str->Option Value)->Heap->Prop}{YP:World->Heap->Prop}{d:DefRec}{K:Params->Frag}(hn:l.most=some 63)(hdf:d.params.defaults = [])(hY:∀(w:World) (h:Heap),YP w h->(K w.params).In h)(F:∀(w:World) (mg:Str->Option Value) (fa:Addr) (h:Heap),(K w.params).In h->h.Ns mainGlobals mg->mg d.name=some (.ref fa)->
   ∃fd:FuncData,(∀(s:Shared) (u:Value),BindsTo s fd ⟨[u],[]⟩ [("script",u)])/\∀base:Heap,(K w.params).In base->base.Ns mainGlobals mg->cQ l.prog w (K w.params) mg base dH 6 fa fd ["script"] (p9 (K w.params))) :
  WalkO q loose XP YP l.row.toRowW d [] (λf vs=>PySem.call f vs):=
 L2.aa9 (n:=63) (k:=6) (x:="script") (CX:=λ_=>dH) (sp:=λw=>p9 (K w.params)) hn (by decide) hdf ⟨rfl,by decide,by decide⟩ hY F (λ_ _ a ns hl hO hS=>⟨a,ns,rfl,as2 hO hS,hl,λ_=>rfl⟩) λ_ _ _ _ _ z=>z
end K_k75
open PySem PySem.W PyProof.Rows
set_option maxRecDepth 100000 in
set_option maxHeartbeats 0 in
theorem PySem.Challenge.cw_kindleweb_k75_full_and_nearly_full_holds : PySem.Challenge.rw_kindleweb_k75_full_and_nearly_full.Holds := by
 w_on;o_law;k_head;(case hw => w_witness2)
 k_fill
 refine K_k75.aH5 (l := PySem.Challenge.rw_kindleweb_k75_full_and_nearly_full) rfl rfl (λw h Y => PySem.W.kIn_of Y) ?F
 case F =>
  intro w mg fa h KX G hmg
  refine' K_k75.aH4 KX G hmg ?h0 ?h1 ?h2 ?h3 ?h4 ?h5 ?h6 ?h7 ?h8 ?h9 ?h10 ?h11 ?h12 ?h13 ?h14 ?h15 ?h16 ?h17 ?h18 ?a19 ?l19 ?c19 ?k19 ?z_len ?z_range ?z_tuple ?z_list ?z_sorted ?z_all ?z_any ?z_zip ?z_min ?z_max ?z_sum ?z_isinstance ?z_int ?z_bool ?z_enumerate ?z_MOST_HEARTHSx ?z_MOST_WANTEDx ?aX_HE ?aX_BW ?zX_BS ?zX_BO ?zX_BP ?zX_BB ?zX_BD ?zX_NW ?zX_NP ?zX_NS ?zX_TM ?zX_NT ?zX_OR ?y_fg ?y_ft ?z_VE ?y1_HE ?y2_HE ?y3_HE ?y4_HE ?y5_HE ?y6_HE ?y7_HE ?y1_BW ?y2_BW ?y3_BW ?y4_BW ?y5_BW ?y6_BW ?y7_BW ?sB_HE ?s_BW_HE ?sN_BW ?q_BW
  (case h0|h1|h2|h3|h4|h5|h6|h7|h8|h9|h10|h11|h12|h13|h14|h15|h16|h17|h18 => exact⟨by k_is, ⟨⟨_, _, _, _, _, _, _, _, _, rfl, by k_is, by k_is⟩, by k_is⟩⟩)
  (case a19|l19|c19|k19|z_len|z_range|z_tuple|z_list|z_sorted|z_all|z_any|z_zip|z_min|z_max|z_sum|z_isinstance|z_int|z_bool|z_enumerate|z_MOST_HEARTHSx|z_MOST_WANTEDx|aX_HE|aX_BW|zX_BS|zX_BO|zX_BP|zX_BB|zX_BD|zX_NW|zX_NP|zX_NS|zX_TM|zX_NT|zX_OR|y_fg|y_ft|z_VE|y1_HE|y2_HE|y3_HE|y4_HE|y5_HE|y6_HE|y7_HE|y1_BW|y2_BW|y3_BW|y4_BW|y5_BW|y6_BW|y7_BW|sB_HE|s_BW_HE|sN_BW => k_is)
  (case q_BW => k_exc)


