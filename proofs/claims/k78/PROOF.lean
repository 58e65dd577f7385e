import PyProof.Rows.All
import Wide.All
import OpenK.AllK
import Wide.FinOn
import Lean
import PyProof.EqAt
import PyProof.EqKinds
import PyProof.TupleCall
import PyProof.NeKinds
import PyProof.Draws
import PyProof.ZipIter
import PyProof.DictUpdate
import PyProof.AutoSeq1
import PyProof.ListRange
import PyProof.ListMulRoad
import PyProof.FactsAll.tuple_2
import PyProof.Rows.SortShell
import PyProof.EnumFor
import PyProof.EnumMake
import PyProof.EnumStmt
import PyProof.Rows.SortWalk
import KE.KDictList
import PyProof.SumAny
import PyProof.ConsumeWalk
import PyProof.WalksMore
import PyProof.Rows.TupAssign
import PyProof.ExcArgsOwn
import PySem.Challenge.RW_kindleweb_k78_whole_measures
set_option Elab.async false
set_option linter.all false
set_option maxRecDepth 100000
set_option maxHeartbeats 4000000
section
open PySem PySem.Spec PyProof.Rows
def bz7:=@wpAny_bind
def bz8:=@Heap.get?_push_of_some
def bz9:=@decide_eq_true
def bA0:=@decide_eq_false
def bA1:=@List.mem_singleton
def bA2:=@List.size_toArray
def bA3:=@Nat.le_refl
def bA4:=@List.mem_cons_self
def bA5:=@List.length_map
def bA6:=@List.getElem?_eq_getElem
def bA7:=@List.mem_cons
def bA8:=@wpAny_pure
def bA9:=@List.mem_cons_of_mem
def bB0:=@List.getElem?_eq_some_iff
def bB1:=@List.length_append
def bB2:=@Heap.lt_size
def bB3:=@List.mem_filter
def bB4:=@Heap.get?_push_size
def bB5:=@wpS_bind
def bB6:=@List.getElem?_map
def bB7:=@List.not_mem_nil
def bB8:=@List.mem_append
def bB9:=@List.getD_eq_getElem?_getD
def bC0:=@Nat.lt_of_lt_of_le
def bC1:=@Bool.false_ne_true
def bC2:=@decide_eq_true_eq
def bC3:=@List.map_append
def bC4:=@wpS_pure
def bC5:=@List.append_assoc
def bC6:=@Bool.false_eq_true
def bC7:=@List.length_cons
def bC9:=@List.pairwise_singleton
def bD1:=@List.mem_append_right
def bD2:=@List.mem_append_left
def bD4:=@Nat.ne_of_lt
def bD5:=@List.append_nil
def bD6:=@List.getElem?_set_ne
def bD7:=@List.mem_of_getElem?
def bD8:=@List.take_length
def bD9:=@List.take_add_one
def bE0:=@Option.some.inj
def bE3:=@List.take_append_drop
def bE4:=@List.take_of_length_le
def bE5:=@Bool.and_eq_true
def bE6:=@of_decide_eq_true
def bE8:=@Nat.le_trans
def bE9:=@Nat.zero_le
def bF0:=@List.mem_map
def bF1:=@Bool.eq_iff_iff
def bF2:=@or_false
def bF3:=@List.pairwise_append
def bF4:=@List.map_cons
def bF5:=@List.getElem?_cons_succ
def bF6:=@List.getElem?_append_left
def bF7:=@List.length_singleton
def bF9:=@Nat.lt_irrefl
def bG0:=@Nat.lt_or_ge
def bG2:=@if_false
def bG3:=@Array.getElem_mem
def bG4:=@PySem.mem_of_lookup
def bG5:=@List.filter_eq_self
def bG7:=@wpAny_call_entry
def bG8:=@List.pairwise_map
def bG9:=@List.nodup_append
def bH0:=@Nat.le_of_lt
def bH1:=@Int.ne_of_lt
def bH2:=@wpAny_field
def bH3:=@wpAny_callSpecial?_slot
def bH4:=@Array.toList_append
def bH5:=@List.pairwise_iff_getElem
def bH7:=@PySem.W.kia_one
def bH8:=@List.lookup_cons
def bH9:=@List.all_eq_true
def bI0:=@wpAny_setField_rec
def bI2:=@List.length_set
def bI3:=@List.length_take
def bI4:=@List.getElem?_append_right
def bI5:=@List.length_drop
def bI6:=@decide_eq_false_iff_not
def bI7:=@List.filter_cons
def bI8:=@wpAny_newObj_type
def bI9:=@List.length_range
def bJ2:=@List.getElem?_set_self
def bJ3:=@wpAny_mono
def bJ4:=@Nat.ne_of_gt
def bJ5:=@wpS_forRange
def bJ6:=@List.nodup_cons
def bJ7:=@beq_self_eq_true
def bJ8:=@List.replicate_succ
def bJ9:=@List.length_filter_le
def bK0:=@PyProof.Rows.callWith_type1
def bK2:=@Bool.and_false
def bK3:=@Int.emod_lt_of_pos
def bK4:=@Int.emod_nonneg
def bK5:=@Classical.byContradiction
def bK6:=@wpAny_truthy_bool
def bK7:=@Int.toNat_natCast
def bK8:=@List.flatten_cons
def bK9:=@List.filter_congr
def bL0:=@Array.getElem?_toList
def bL1:=@wpAny_holding
def bL2:=@Heap.size_push
def bL4:=@List.find?_cons
def bL7:=@wpAny_pyIter_tuple
def bL8:=@List.zip_cons_cons
def bM0:=@of_decide_eq_false
def bM1:=@List.pairwise_cons
def bM2:=@List.getElem_mem
def bM3:=@PySem.F.plainAttrs_list
def bM4:=@List.all_cons
def bM6:=@Bool.eq_false_iff
def bM7:=@List.map_map
def bM9:=@List.getElem?_range
def bN0:=@PyProof.Rows.slot_tuple_getitem
def bN1:=@List.perm_append_comm
def bN4:=@Nat.le_add_right
def bN6:=@PyProof.Rows.boot_sorted
def bN9:=@Bool.false_and
def bO0:=@List.mem_singleton_self
def bO1:=@List.filter_cons_of_neg
def bO3:=@True.intro
def bO4:=@beq_eq_false_iff_ne
def bO5:=@Array.length_toList
def bO6:=@List.getElem_of_mem
def bO7:=@Array.getD_eq_getD_getElem?
def bP0:=@List.any_cons
def bP3:=@Nat.le_of_not_lt
def bP4:=@List.mem_range
def bP6:=@wpAny_seqItems
def bP7:=@Nat.eq_or_lt_of_le
def bP8:=@List.length_replicate
def bP9:=@wpAny_execs_nil
def bQ0:=@wpAny_passesOwn
def bQ1:=@List.length_nil
def bQ3:=@Int.le_refl
def bQ4:=@Int.le_of_lt
def bQ5:=@wpS_mono
def bQ6:=@List.mem_of_mem_take
def bQ8:=@Nat.pow_le_pow_right
def bQ9:=@wpAny_rule
def bR2:=@List.drop_take
end
abbrev aa:=List (Int×Int)
abbrev ad:=PySem.W.Frag
abbrev ae:=List (List Int)
abbrev af:=List Int
namespace L2
open PySem PySem.Spec PyProof.Rows
abbrev aC:=Sum Int Str
def mQ:aC->Value->Bool
 |.inl k,v=>Value.isInt k v
 |.inr x,v=>Value.isStrOf x v
def ar9 (w:World):aC->Int
 |.inl k=>hashInt k
 |.inr x=>hashStr w x
theorem j6:∀{k:aC}{v:Value},mQ k v=true->(∃i t,k=Sum.inl i/\v=Value.int i t)∨(∃x t,k=Sum.inr x/\v=Value.str x t)
 |.inl i,v,h=>by
  obtain⟨t,e⟩:=Value.isInt_shape (k:=i) (v:=v) h
  exact .inl ⟨i,t,rfl,e⟩
 |.inr x,v,h=>by
  obtain⟨t,e⟩:=Value.isStrOf_shape (x:=x) (v:=v) h
  exact .inr ⟨x,t,rfl,e⟩
theorem as0 (i:Int)(t:Tok):mQ (.inl i) (.int i t)=true:=by simp[mQ,Value.isInt]
theorem as1 (x:Str)(t:Tok):mQ (.inr x) (.str x t)=true:=by simp[mQ,Value.isStrOf]
theorem as2 (a b:Int):decide ((Sum.inl a:aC)=Sum.inl b)=(a==b):=by
 by_cases e:a=b
 ·subst e;simp
 ·have h:¬(Sum.inl a:aC)=Sum.inl b:=λq=>e (Sum.inl.inj q)
  rw[bA0 h]
  exact (bO4.mpr e).symm
theorem as3 (a b:Str):decide ((Sum.inr a:aC)=Sum.inr b)=decide (a=b):=by
 by_cases e:a=b
 ·subst e;simp
 ·have h:¬(Sum.inr a:aC)=Sum.inr b:=λq=>e (Sum.inr.inj q)
  rw[bA0 h,bA0 e]
theorem as4 (a:Int)(b:Str):decide ((Sum.inl a:aC)=Sum.inr b)=false:=bA0 (λq=>nomatch q)
theorem as5 (a:Str)(b:Int):decide ((Sum.inr a:aC)=Sum.inl b)=false:=bA0 (λq=>nomatch q)
def eB (prog:Program)(w:World):PySem.KeyKind prog w aC where
 is:=mQ
 hash:=ar9 w
 inj:=λv a b ha hb=>by
  rcases j6 ha with⟨i,t,rfl,rfl⟩|⟨x,t,rfl,rfl⟩
  ·rcases j6 hb with⟨j,u,rfl,e⟩|⟨y,u,rfl,e⟩
   ·injection e with e1 _;rw[e1]
   ·exact nomatch e
  ·rcases j6 hb with⟨j,u,rfl,e⟩|⟨y,u,rfl,e⟩
   ·exact nomatch e
   ·injection e with e1 _;rw[e1]
 byValue:=λk v h=>by
  rcases j6 h with⟨i,t,rfl,rfl⟩|⟨x,t,rfl,rfl⟩<;>rfl
 pyHash:=λhv h=>by
  rcases j6 hv with⟨i,t,rfl,rfl⟩|⟨x,t,rfl,rfl⟩
  ·exact wpAny_pyHash_int h
  ·exact wpAny_pyHash_str h
 eqBool:=λhu hv h=>by
  rcases j6 hu with⟨i,t,rfl,rfl⟩|⟨x,t,rfl,rfl⟩
  ·rcases j6 hv with⟨j,u,rfl,rfl⟩|⟨y,u,rfl,rfl⟩
   ·rw[as2]at h;exact wpAny_eqBool_int h
   ·rw[as4]at h;exact SeqAt.EqAt.int_str i t y u _ _ _ _ h
  ·rcases j6 hv with⟨j,u,rfl,rfl⟩|⟨y,u,rfl,rfl⟩
   ·rw[as5]at h;exact SeqAt.EqAt.str_int x t j u _ _ _ _ h
   ·rw[as3]at h;exact wpAny_eqBool_str h
 «strs»:=λk x t v h=>by
  rcases j6 h with⟨i,u,rfl,e⟩|⟨y,u,rfl,e⟩
  ·exact nomatch e
  ·injection e with e1 _
   subst e1
   cases v<;>rfl
theorem as6 (prog:Program)(w:World)(i:Int)(t:Tok):(eB prog w).is (.inl i) (.int i t)=true:=as0 i t
theorem as7 (prog:Program)(w:World)(x:Str)(t:Tok):(eB prog w).is (.inr x) (.str x t)=true:=as1 x t
inductive V where
 |non|bl (b:Bool)|int (i:Int)|str (x:Str)|byt (b:Array UInt8)|flt (b:UInt64)|ref (a:Addr)|ty (n:String)
 deriving DecidableEq
def b6:V->Value->Prop
 |.non,u=>u=Value.none
 |.bl b,u=>u=Value.bool b
 |.int i,u=>∃t,u=Value.int i t
 |.str x,u=>∃t,u=Value.str x t
 |.byt b,u=>∃t,u=Value.bytes b t
 |.flt b,u=>∃t,u=Value.float b t
 |.ref a,u=>u=Value.ref a
 |.ty n,u=>u=Value.type n
abbrev aO:List V->List Value->Prop:=Paired b6
theorem aO.length {xs:List V}{us:List Value}(r:aO xs us):xs.length=us.length:=Paired.length r
theorem aO.get:∀{xs:List V}{us:List Value}{i:Nat}{x:V},aO xs us->xs[i]? = some x->∃u,us[i]? = some u/\b6 x u
 |_,_,_,_,.nil,e=>by simp at e
 |_,_,0,_,.cons r _,e=>by simp at e;subst e;exact⟨_,rfl,r⟩
 |_,_,i+1,x,.cons _ t,e=>by
  obtain⟨u,h1,h2⟩:=aO.get (i:=i) (x:=x) t (by simpa using e)
  exact⟨u,by simpa using h1,h2⟩
theorem aO.append:∀{xs ys:List V}{us ws:List Value},aO xs us->aO ys ws->aO (xs++ys) (us++ws)
 |_,_,_,_,.nil,s=>s
 |_,_,_,_,.cons r t,s=>.cons r (aO.append t s)
theorem aO.take:∀{xs:List V}{us:List Value} (n:Nat),aO xs us->aO (xs.take n) (us.take n)
 |_,_,0,_=>.nil
 |_,_,_+1,.nil=>.nil
 |_,_,n+1,.cons r t=>.cons r (aO.take n t)
theorem aO.drop:∀{xs:List V}{us:List Value} (n:Nat),aO xs us->aO (xs.drop n) (us.drop n)
 |_,_,0,r=>r
 |_,_,_+1,.nil=>.nil
 |_,_,n+1,.cons _ t=>aO.drop n t
def lP:Option V->Option Value->Prop
 |some v,some u=>b6 v u
 |none,none=>True
 |_,_=>False
def KV {κ:Type}:List (κ×V)->List (κ×Value)->Prop:=Paired λ(p:κ×V) (q:κ×Value)=>p.1=q.1/\b6 p.2 q.2
def kV:aC->V
 |.inl i=>.int i
 |.inr x=>.str x
inductive HO where
 |lst (xs:List V)
 |tup (xs:List V)
 |dK (kvs:List (aC×V))|dT (kvs:List (List aC×V))
 |set (S:Int->Bool) (n:Nat)
 |ins (C dx:Addr) (fs:List (Str×V))
 |own (x:Addr)
 |xd (fs:List (Str×V))
 |met (f x:Addr)
 |rng (lo hi:Int)
 |frz (o:Obj) (u:HO)
 |tbl (ps:Array Value)
 |ext (φ:Heap->Prop)
abbrev Hp:=Addr->Option HO
def upd (H:Hp)(a:Addr)(o:HO):Hp:=λb=>if b=a then some o else H b
theorem bJ {H:Hp}{a:Addr}{o:HO}:upd H a o a=some o:=by unfold upd;rw[if_pos rfl]
theorem aW {H:Hp}{a b:Addr}{o:HO}(h:b≠a):upd H a o b=H b:=by unfold upd;rw[if_neg h]
theorem E4 {H:Hp}{a b:Addr}{o u:HO}(h:H a=some o)(h':H b=some u)(d:o≠u):a≠b:=by
 intro e;subst e;rw[h]at h';exact d (bE0 h')
theorem cM {H:Hp}{a b:Addr}{o:HO}(h:H a=some o)(h':H b=none):a≠b:=by
 intro e;subst e;rw[h]at h';cases h'
def j7 (h:Heap)(a:Addr):Prop:=∀o,h.get? a=some o->o.dict=none
theorem j7.new (h:Heap)(o:Obj)(d:o.dict=none)(s:o.isFreed=false:=by rfl):j7 (h.push o) h.objs.size:=λu e=>by
 rw[bB4 h (o:=o) s]at e
 cases e;exact d
theorem j7.stay {h h':Heap}{a:Addr}{o:Obj}(n:j7 h a)(e:h.get? a=some o)(e':h'.get? a=some o):j7 h' a:=λu hu=>by
 rw[e']at hu;cases hu;exact n _ e
section
variable (P:Program)(w:World)
def bR (H:Hp)(h:Heap)(a:Addr):HO->Prop
 |.lst xs=>xs.length<=sizeLine/\∃(its:List Value) (n:Nat),aO xs its/\h.get? a=some { cls:=.type "list",data:=.seq its.toArray n }
 |.tup xs=>xs.length<=sizeLine/\∃its:List Value,aO xs its/\IsTup h a its.toArray/\j7 h a
 |.dK kvs=>kvs.length<=sizeLine/\(a==sysModules)=false/\∃vs,KV kvs vs/\h.DictOf (eB P w) a vs
 |.dT kvs=>kvs.length<=sizeLine/\(a==sysModules)=false/\∃xs:List (List aC×Addr×Value),
   Paired (λ(p:List aC×V) (q:List aC×Addr×Value)=>p.1=q.1/\H q.2.1=some (.tup (p.1.map kV))/\b6 p.2 q.2.2) kvs xs/\
   ∃o es ep,h.get? a=some o/\o.ExactDict/\o.data = .dict es ep/\es.toList=xs.map (entryOfKey (tupleKind (eB P w)))/\(xs.map (·.1)).Nodup
 |.set S n=>h.SetOf (intKind P w) a S n
 |.ins C dx fs=>H dx=some (.own a)/\fs.length<=1000/\dx≠a/\h.get? a=some (PySem.W.instObj C dx)/\
   ∃mA,h.Ns1 dx mA/\(∀f,lP (fs.lookup f) (mA f))/\PySem.Within mA (fs.map (·.1))
 |.own _=>∃o,h.get? a=some o
 |.xd fs=>∃mA,h.Ns1 a mA/\∀f,lP (fs.lookup f) (mA f)
 |.rng lo hi=>∃t u v,h.get? a=some { cls:=.type "range",data:=.fields #[.int lo t,.int hi u,.int 1 v] }
 |.frz o u=>h.get? a=some o/\bR H h a u
 |.tbl ps=>h.get? a=some { cls:=.none,data:=.fields ps }
 |.met f x=>h.get? a=some (PySem.W.methodObj (.ref f) (.ref x))
 |.ext φ=>φ h/\(∃o,h.get? a=some o)/\∀h1 h2:Heap,φ h1->(∀o,h1.get? a=some o->h2.get? a=some o)->φ h2
def bY (H:Hp)(h:Heap):Prop:=∀a o,H a=some o->bR P w H h a o
end
section
variable {P:Program}{w:World}{H H':Hp}{h h':Heap}{a:Addr}{o:HO}
theorem bR.lt (x:bR P w H h a o):a<h.objs.size:=by
 cases o with
 |lst xs=>obtain⟨_,_,_,_,e⟩:=x;exact bB2 e
 |tup xs=>obtain⟨_,_,_,p,_⟩:=x;exact p.lt
 |dK kvs=>obtain⟨_,_,_,_,o,_,_,e,_⟩:=x;exact bB2 e
 |dT kvs=>obtain⟨_,_,_,_,o,_,_,e,_⟩:=x;exact bB2 e
 |set S n=>obtain⟨o,_,_,_,e,_⟩:=x;exact bB2 e
 |ins C dx fs=>obtain⟨_,_,_,e,_⟩:=x;exact bB2 e
 |own y=>obtain⟨_,e⟩:=x;exact bB2 e
 |xd fs=>obtain⟨_,⟨_,_,_,e,_⟩,_⟩:=x;exact bB2 e
 |rng lo hi=>obtain⟨_,_,_,e⟩:=x;exact bB2 e
 |frz ob u=>obtain⟨e,_⟩:=x;exact bB2 e
 |tbl ps=>exact bB2 (show h.get? a=some _ from x)
 |met f y=>exact bB2 (show h.get? a=some _ from x)
 |ext φ=>obtain⟨_,⟨_,e⟩,_⟩:=x;exact bB2 e
theorem Paired.mapP {α β:Type}{F G:α->β->Prop}:∀{l₁:List α}{l₂:List β},Paired F l₁ l₂->(∀a b,F a b->G a b)->Paired G l₁ l₂
 |_,_,.nil,_=>.nil
 |_,_,.cons r t,f=>.cons (f _ _ r) (Paired.mapP t f)
theorem bR.stay (x:bR P w H h a o)(k:∀b u,(b=a∨H b=some (.own a))->h.get? b=some u->h'.get? b=some u)(ho:∀b,H b=some (.own a)->H' b=some (.own a))(ht:∀b xs,H b=some (.tup xs)->H' b=some (.tup xs)):bR P w H' h' a o:=by
 induction o with
 |lst xs=>obtain⟨z,its,n,r,e⟩:=x;exact⟨z,its,n,r,k _ _ (.inl rfl) e⟩
 |tup xs=>obtain⟨z,its,r,⟨ob,e,c⟩,nd⟩:=x;exact⟨z,its,r,⟨ob,k _ _ (.inl rfl) e,c⟩,nd.stay e (k _ _ (.inl rfl) e)⟩
 |dK kvs=>obtain⟨z,y,vs,r,ob,es,ep,e,c⟩:=x;exact⟨z,y,vs,r,ob,es,ep,k _ _ (.inl rfl) e,c⟩
 |dT kvs=>
  obtain⟨z,y,xs,r,ob,es,ep,e,c⟩:=x
  exact⟨z,y,xs,Paired.mapP r λp q z=>⟨z.1,ht _ _ z.2.1,z.2.2⟩,ob,es,ep,k _ _ (.inl rfl) e,c⟩
 |set S n=>obtain⟨ob,es,ep,t,e,c⟩:=x;exact⟨ob,es,ep,t,k _ _ (.inl rfl) e,c⟩
 |ins C dx fs=>
  obtain⟨d,z,ne,e,mA,⟨od,es,ep,e2,c⟩,r⟩:=x
  exact⟨ho _ d,z,ne,k _ _ (.inl rfl) e,mA,⟨od,es,ep,k _ _ (.inr d) e2,c⟩,r⟩
 |own y=>obtain⟨ob,e⟩:=x;exact⟨ob,k _ _ (.inl rfl) e⟩
 |xd fs=>obtain⟨mA,⟨od,es,ep,e,c⟩,r⟩:=x;exact⟨mA,⟨od,es,ep,k _ _ (.inl rfl) e,c⟩,r⟩
 |rng lo hi=>obtain⟨t,u,v,e⟩:=x;exact⟨t,u,v,k _ _ (.inl rfl) e⟩
 |frz ob u ih=>obtain⟨e,q⟩:=x;exact⟨k _ _ (.inl rfl) e,ih q⟩
 |tbl ps=>
  have e:h.get? a=some { cls:=.none,data:=.fields ps }:=x
  show h'.get? a=some { cls:=.none,data:=.fields ps }
  exact k a _ (.inl rfl) e
 |met f y=>
  have e:h.get? a=some (PySem.W.methodObj (.ref f) (.ref y)):=x
  show h'.get? a=some (PySem.W.methodObj (.ref f) (.ref y))
  exact k a _ (.inl rfl) e
 |ext φ=>obtain⟨p,⟨o,e⟩,st⟩:=x;exact⟨st _ _ p λo q=>k _ _ (.inl rfl) q,⟨o,k _ _ (.inl rfl) e⟩,st⟩
theorem bY.lt (x:bY P w H h)(e:H a=some o):a<h.objs.size:=(x a o e).lt
theorem bY.fresh (x:bY P w H h)(e:h.objs.size<=a):H a=none:=by
 cases q:H a with
 |none=>rfl
 |some u=>exact absurd (bC0 (x.lt q) e) (bF9 _)
theorem bY.kept (x:bY P w H h)(k:∀b u,h.get? b=some u->h'.get? b=some u):bY P w H h':=λa o e=>
 (x a o e).stay (λb u _ q=>k b u q) (λ_ q=>q) λ_ _ q=>q
theorem bY.laid (x:bY P w H h)(k:∀b u,h.get? b=some u->h'.get? b=some u)(hp:h.objs.size<=a)(new:bR P w (upd H a o) h' a o):bY P w (upd H a o) h':=λb u e=>by
 have hn:=x.fresh hp
 by_cases hb:b=a
 ·subst hb;rw[bJ]at e;cases e;exact new
 ·rw[aW hb]at e
  exact (x b u e).stay (λc v _ q=>k c v q) (λc q=>by rw[aW (cM q hn)];exact q) λc xs q=>by rw[aW (cM q hn)];exact q
end
def Rd (H:Hp)(a:Addr)(u:HO):Prop:=H a=some u∨∃o,H a=some (.frz o u)
theorem Rd.ok {P:Program}{w:World}{H:Hp}{h:Heap}{a:Addr}{u:HO}(r:Rd H a u)(x:bY P w H h):bR P w H h a u:=by
 rcases r with r|⟨o,r⟩
 ·exact x a u r
 ·obtain⟨_,q⟩:=x a _ r
  exact q
def oM:Option HO->Prop
 |some (.lst _)=>True
 |some (.dK _)=>True
 |some (.dT _)=>True
 |some (.set _ _)=>True
 |some (.ins _ _ _)=>True
 |some (.ext _)=>True
 |_=>False
section
variable {P:Program}{w:World}{H:Hp}{h h':Heap}{x e:Addr}{o':HO}
theorem bY.write (ok:bY P w H h)(mu:oM (H x))(he:e=x∨H e=some (.own x))(k:∀b u,b≠e->h.get? b=some u->h'.get? b=some u)(heo:∃u,h'.get? e=some u)(new:bR P w (upd H x o') h' x o'):bY P w (upd H x o') h':=λb u q=>by
 have nown:∀c y,H c=some (.own y)->c≠x:=λc y r z=>by subst z;rw[r]at mu;exact mu
 have ntup:∀c xs,H c=some (.tup xs)->c≠x:=λc xs r z=>by subst z;rw[r]at mu;exact mu
 by_cases hb:b=x
 ·subst hb;rw[bJ]at q;cases q;exact new
 ·rw[aW hb]at q
  by_cases hbe:b=e
  ·have q':H b=some (.own x):=by
    rcases he with z|z
    ·exact absurd (hbe.trans z) hb
    ·rw[hbe];exact z
   rw[q]at q';cases q'
   obtain⟨v,hv⟩:=heo
   exact⟨v,by rw[hbe];exact hv⟩
  ·refine (ok b u q).stay (λc v hc r=>k c v ?_ r) (λc r=>by rw[aW (nown c b r)];exact r) λc xs r=>by rw[aW (ntup c xs r)];exact r
   rcases hc with rfl|hc
   ·exact hbe
   ·rintro rfl
    rcases he with z|z
    ·exact nown c b hc z
    ·rw[hc]at z;cases z;exact hb rfl
end
structure Un (fs ex:List Addr)(H H':Hp)(h h':Heap):Prop where
 keep:∀b o,h.get? b=some o->H b=none->b∉fs->b∉ex->h'.get? b=some o
 slot:∀b o,h.get? b=some o->H b=none->b∈fs->b∉ex->∃sl,h'.get? b=some { o with slots:=sl }
 free:∀b o,h.get? b=some o->H b=none->b∉ex->H' b=none
 there:∀b o,h.get? b=some o->b∉ex->∃o',h'.get? b=some o'
 tups:∀b xs,H b=some (.tup xs)->H' b=some (.tup xs)
 frzs:∀b o u,H b=some (.frz o u)->H' b=some (.frz o u)
 tbls:∀b ps,H b=some (.tbl ps)->∃more,H' b=some (.tbl (ps++more))
section
variable {fs fs' ex ex':List Addr}{H H1 H2:Hp}{h h1 h2 h':Heap}{a x e:Addr}{o:HO}
theorem Un.any (u:Un fs ex H H1 h h1){b:Addr}{ob:Obj}(q:h.get? b=some ob)(n:H b=none)(hx:b∉ex):∃sl,h1.get? b=some { ob with slots:=sl }:=by
 by_cases hb:b∈fs
 ·exact u.slot b ob q n hb hx
 ·exact⟨ob.slots,u.keep b ob q n hb hx⟩
theorem Un.kept (k:∀b u,h.get? b=some u->h'.get? b=some u):Un fs ex H H h h':=
 ⟨λb ob q _ _ _=>k b ob q,λb ob q _ _ _=>⟨ob.slots,k b ob q⟩,λ_ _ _ n _=>n,λb ob q _=>⟨ob,k b ob q⟩,λ_ _ q=>q,λ_ _ _ q=>q,λ_ ps q=>⟨#[],by rw[q];simp⟩⟩
theorem Un.refl:Un fs ex H H h h:=Un.kept λ_ _ q=>q
theorem Un.laid (k:∀b u,h.get? b=some u->h'.get? b=some u)(hp:h.objs.size<=a)(hn:H a=none):Un fs ex H (upd H a o) h h' where
 keep:=λb u q _ _ _=>k b u q
 slot:=λb u q _ _ _=>⟨u.slots,k b u q⟩
 free:=λb u q n _=>by rw[aW (bD4 (bC0 (bB2 q) hp))];exact n
 there:=λb u q _=>⟨u,k b u q⟩
 tups:=λb xs q=>by rw[aW (cM q hn)];exact q
 frzs:=λb u xs q=>by rw[aW (cM q hn)];exact q
 tbls:=λb ps q=>⟨#[],by rw[aW (cM q hn),q];simp⟩
theorem Un.write (mu:oM (H x))(he:e=x∨H e=some (.own x))(k:∀b u,b≠e->h.get? b=some u->h'.get? b=some u)(heo:∃u,h'.get? e=some u):Un fs ex H (upd H x o) h h':=by
 have hx:∀b,H b=none->b≠x:=λb n z=>by subst z;rw[n]at mu;exact mu
 have hb:∀b,H b=none->b≠e:=λb n z=>by
  subst z
  rcases he with r|r
  ·exact hx b n r
  ·rw[n]at r;cases r
 have hm:∀b u,H b=some u->¬oM (some u)->b≠x:=λb u q nm z=>by subst z;rw[q]at mu;exact nm mu
 refine⟨λb u q n _ _=>k b u (hb b n) q,λb u q n _ _=>⟨u.slots,k b u (hb b n) q⟩,λb u q n _=>by rw[aW (hx b n)];exact n,λb u q _=>?_,
  λb xs q=>by rw[aW (hm b _ q λz=>z)];exact q,λb u xs q=>by rw[aW (hm b _ q λz=>z)];exact q,λb ps q=>⟨#[],by rw[aW (hm b _ q λz=>z),q];simp⟩⟩
 by_cases hbe:b=e
 ·subst hbe;exact heo
 ·exact⟨u,k b u hbe q⟩
end
def qZ (h:Heap)(H:Hp):List Addr:=(List.range h.objs.size).filter λa=>(H a).isSome
def jO (h:Heap)(H:Hp):Heap:=PySem.W.hideAll h (qZ h H)
theorem as8 (h:Heap)(H:Hp):(jO h H).objs.size=h.objs.size:=PySem.W.hideAll_size _ _
theorem as9 {h:Heap}{H:Hp}{b:Addr}{o:Obj}(e:h.get? b=some o)(n:H b=none):(jO h H).get? b=some o:=
 PySem.W.hideAll_get _ e λhm=>by
  have q:(H b).isSome=true:=(bB3.mp hm).2
  rw[n]at q;simp at q
theorem at0 {h:Heap}{H:Hp}{b:Addr}{o:Obj}(e:(jO h H).get? b=some o):h.get? b=some o/\H b=none:=by
 have e':h.get? b=some o:=PySem.W.of_hideAll (qZ h H) e
 refine⟨e',?_⟩
 cases q:H b with
 |none=>rfl
 |some x=>
  have hm:b∈qZ h H:=bB3.mpr ⟨bP4.mpr (bB2 e'),by simp[q]⟩
  have z:(jO h H).get? b=none:=PySem.W.hideAll_none (qZ h H) hm
  rw[z]at e;cases e
def oN (g h:Heap)(L:Addr):List (Addr×Obj):=(List.range h.objs.size).filterMap λa=>if a=L∨(g.get? a).isSome=true then none else (h.get? a).map λo=>(a,o)
theorem E5 {g h:Heap}{L a:Addr}{o:Obj}(h1:a≠L)(h2:g.get? a=none)(h3:h.get? a=some o):(a,o)∈oN g h L:=
 List.mem_filterMap.mpr ⟨a,bP4.mpr (bB2 h3),by simp[h1,h2,h3]⟩
theorem at2 {g h:Heap}{L:Addr}{p:Addr×Obj}(hp:p∈oN g h L):p.1≠L/\g.get? p.1=none/\h.get? p.1=some p.2:=by
 obtain⟨b,_,e⟩:=List.mem_filterMap.mp hp
 split at e
 ·cases e
 ·rename_i hn
  cases q:h.get? b with
  |none=>rw[q]at e;simp at e
  |some u=>
   rw[q]at e
   simp only[Option.map_some,Option.some.injEq]at e
   subst e
   refine⟨λz=>hn (.inl z),?_,q⟩
   show g.get? b=none
   cases r:g.get? b with
   |none=>rfl
   |some v=>exact (hn (.inr (by simp[r]))).elim
def cO (g h:Heap)(L d:Addr):List (Addr×Obj):=(oN g h L).filter λp=>decide (p.1≠d)
theorem at3 {g h:Heap}{L:Addr}:News g L h (oN g h L):=λp hp=>let ⟨a,b,c⟩:=at2 hp;⟨c,a,b⟩
structure Mod (K:ad)(mg:Str->Option Value)(base:Heap):Prop where
 kin:K.In base
 glob:base.Ns mainGlobals mg
 blt:∃mb,base.Ns builtinsNs mb/\∀x:Str,x≠"__name__"->mb x=bootBuiltins x
 nolimit:base.NoLimit
structure Cx where
 prog:Program
 w:World
 K:ad
 mg:Str->Option Value
 base:Heap
 A:Around
 N:List Str
 s₀:Shared
 H₀:Hp
 env:Env
 outer:List Env
 stack:List Env
 ex:List Addr
 fn:Str->Bool
 calm:Bool
 pn:List (Addr×Obj)
 xe:Value->Shared->Prop
def bV (l:List Env):List Addr:=l.filterMap (·.frame)
abbrev Cx.fs (X:Cx):List Addr:=bV X.outer
def fU (sc:Scope)(x:Str):Prop:=sc.names.lookup x=some .local∨sc.names.lookup x=some .cell∨sc.names.lookup x=some .free
def j8 (sc:Scope)(x:Str):Prop:=sc.names.lookup x=some .local∨sc.names.lookup x=some .cell
def at5 (env:Env)(h:Heap)(m:Str->Option Value)(x:Str)(u:Value):Prop:=
 (env.kindOf x=some .local/\m x=some u)∨((env.kindOf x=some .cell∨env.kindOf x=some .free)/\∃c,env.cells.lookup x=some c/\h.IsCell c (some u))
structure Cx.Ok (X:Cx):Prop where
 mod:Mod X.K X.mg X.base
 kind:X.env.scope.kind = .function
 glob:X.env.globals=mainGlobals
 blt:X.env.builtins=builtinsNs
 above:X.s₀.heap.objs.size<=X.env.locals
 inj:∀x y c,X.env.cells.lookup x=some c->X.env.cells.lookup y=some c->x=y
 has:∀x,(X.env.kindOf x=some .cell∨X.env.kindOf x=some .free)->∃c,X.env.cells.lookup x=some c
 cab:∀x c,X.fn x=true->X.env.cells.lookup x=some c->X.s₀.heap.objs.size<=c
 hd:X.calm=true->X.A.handled=none
 frames:X.A.frames=some X.stack
 stk:X.stack=X.outer∨(X.stack=X.env::X.outer/\X.env.frame=some X.env.locals)
 exf:∀b∈X.ex,b≠X.env.locals/\∀x c,X.env.cells.lookup x=some c->c≠b
 bs:∀b o,X.base.get? b=some o->X.s₀.heap.get? b=some o/\X.H₀ b=none
 bsz:X.base.objs.size<=X.s₀.heap.objs.size
 noex:∀b o,X.base.get? b=some o->b∉X.ex
 exfs:∀b∈X.ex,b∉X.fs
 funs:X.s₀.heap.FunFrames X.base X.outer
 frf:∀b∈X.fs,X.H₀ b=none
structure a7 (X:Cx)(pins:List (Addr×Obj))(σ:List (Option V))(H:Hp)(s:Shared):Prop where
 ok:X.Ok
 os:s.os=X.s₀.os
 bare:AllBare s.gens
 base:Un X.fs X.ex X.H₀ H X.s₀.heap s.heap
 loc:∃m,s.heap.Ns X.env.locals m/\∀(i:Nat) (x:Str) (v:V),X.N[i]? = some x->σ[i]? = some (some v)->fU X.env.scope x->∃u,b6 v u/\at5 X.env s.heap m x u
 cell:∀x c,X.env.cells.lookup x=some c->∃v,s.heap.IsCell c v
 free:H X.env.locals=none
 freeC:∀x c,X.env.cells.lookup x=some c->H c=none
 pin:∀p∈X.pn++pins,s.heap.get? p.1=some p.2/\H p.1=none/\p.1≠X.env.locals/\p.1∉X.fs/\∀v,p.2.data≠.cell v
 hok:bY X.prog X.w H s.heap
 len:σ.length=X.N.length
section
variable {X:Cx}{pins:List (Addr×Obj)}{σ:List (Option V)}{H H':Hp}{s:Shared}{h':Heap}
theorem Cx.Ok.nofr (ok:X.Ok){b:Addr}{o:Obj}(e:X.base.get? b=some o):b∉X.fs:=λhb=>by
 have:=(ok.funs.mem hb).1
 rw[e]at this;cases this
theorem a7.bs (I:a7 X pins σ H s):∀b o,X.base.get? b=some o->s.heap.get? b=some o/\H b=none:=λb o e=>
 ⟨I.base.keep b o (I.ok.bs b o e).1 (I.ok.bs b o e).2 (I.ok.nofr e) (I.ok.noex b o e),I.base.free b o (I.ok.bs b o e).1 (I.ok.bs b o e).2 (I.ok.noex b o e)⟩
theorem a7.bk (I:a7 X pins σ H s):∀b o,X.base.get? b=some o->s.heap.get? b=some o:=λb o e=>(I.bs b o e).1
theorem a7.mod (I:a7 X pins σ H s):Mod X.K X.mg X.base:=I.ok.mod
theorem a7.kIn (I:a7 X pins σ H s):X.K.In s.heap:=I.ok.mod.kin.keeps I.bk
theorem a7.fr (I:a7 X pins σ H s):∃m,Fr X.base X.env.locals s.heap m:=
 let ⟨m,hn,_⟩:=I.loc
 ⟨m,hn,I.bk,bE8 I.ok.bsz I.ok.above⟩
theorem a7.lt (I:a7 X pins σ H s):X.env.locals<s.heap.objs.size:=let ⟨_,hn,_⟩:=I.loc;hn.lt
theorem a7.sz (I:a7 X pins σ H s):X.s₀.heap.objs.size<=s.heap.objs.size:=bE8 I.ok.above (bH0 I.lt)
theorem a7.nofs (I:a7 X pins σ H s){a:Addr}(h:s.heap.objs.size<=a):a∉X.fs:=λhb=>by
 obtain⟨_,o,ho,_⟩:=I.ok.funs.mem hb
 exact absurd (bC0 (bB2 ho) (bE8 I.sz h)) (bF9 _)
theorem a7.cne (I:a7 X pins σ H s):∀x c,X.env.cells.lookup x=some c->c≠X.env.locals:=λx c e z=>by
 obtain⟨v,o,ho,hd⟩:=I.cell x c e
 obtain⟨m,⟨o',es,ep,ho',hd',_⟩,_⟩:=I.loc
 rw[z,ho']at ho;cases ho;rw[hd']at hd;cases hd
theorem a7.funs (I:a7 X pins σ H s):s.heap.FunFrames X.base X.outer:=by
 have all:∀(l:List Env),(∀b∈bV l,b∈X.fs)->X.s₀.heap.FunFrames X.base l->s.heap.FunFrames X.base l:=by
  intro l
  induction l with
  |nil=>intro _ _;trivial
  |cons env r ih=>
   intro hs hl
   obtain⟨hk,⟨L,o,hf,hn,ho,hd⟩,hr⟩:=hl
   have hL:L∈X.fs:=hs L (by unfold bV;rw[List.filterMap_cons,hf];exact bA4)
   obtain⟨sl,e⟩:=I.base.slot L o ho (I.ok.frf L hL) hL λz=>I.ok.exfs L z hL
   exact⟨hk,⟨L,_,hf,hn,e,hd⟩,ih (λb hb=>hs b (by unfold bV;rw[List.filterMap_cons,hf];exact bA9 _ hb)) hr⟩
 exact all X.outer (λ_ hb=>hb) I.ok.funs
theorem a7.stack (I:a7 X pins σ H s):s.heap.FunFrames X.base X.stack:=by
 rcases I.ok.stk with e|⟨e,hf⟩
 ·rw[e];exact I.funs
 ·rw[e]
  obtain⟨m,hn,_⟩:=I.loc
  refine .cons (by rw[I.ok.kind];decide) hf hn ?_ I.funs
  exact Heap.get?_none_of_le (bE8 I.ok.bsz I.ok.above)
theorem a7.stkSub (I:a7 X pins σ H s):∀b∈bV X.stack,b∈X.env.locals::X.fs:=λb hb=>by
 rcases I.ok.stk with e|⟨e,hf⟩
 ·rw[e]at hb;exact bA9 _ hb
 ·rw[e]at hb
  unfold bV at hb
  rw[List.filterMap_cons,hf]at hb
  exact hb
theorem a7.stkFree (I:a7 X pins σ H s):∀b∈bV X.stack,H b=none:=λb hb=>by
 rcases bA7.mp (I.stkSub b hb) with e|hb
 ·rw[e];exact I.free
 ·obtain⟨_,o,ho,_⟩:=I.ok.funs.mem hb
  exact I.base.free b o ho (I.ok.frf b hb) λz=>I.ok.exfs b z hb
theorem a7.step {g':Array GenState}{t':Nat}{d':Drawn}{ch:List Addr}(I:a7 X pins σ H s)(hch:∀b∈ch,(b∈X.ex∨X.s₀.heap.objs.size<=b)/\b≠X.env.locals/\(∀x c,X.env.cells.lookup x=some c->c≠b)/\∀p∈X.pn++pins,p.1≠b)(keep:∀b o,b≠X.env.locals->b∉X.fs->b∉ch->s.heap.get? b=some o->H b=none->h'.get? b=some o)(slot:∀b o,b≠X.env.locals->b∈X.fs->b∉ch->s.heap.get? b=some o->H b=none->∃sl,h'.get? b=some { o with slots:=sl })(free:∀b o,b∉ch->s.heap.get? b=some o->H b=none->H' b=none)(there:∀b o,b∉ch->s.heap.get? b=some o->∃o',h'.get? b=some o')(tups:∀b xs,H b=some (.tup xs)->H' b=some (.tup xs))(frzs:∀b o u,H b=some (.frz o u)->H' b=some (.frz o u))(tbls:∀b ps,H b=some (.tbl ps)->∃more,H' b=some (.tbl (ps++more)))(ns:∀m,s.heap.Ns X.env.locals m->h'.Ns X.env.locals m)(hok:bY X.prog X.w H' h')(hg:AllBare g') :
  a7 X pins σ H' { s with heap:=h',gens:=g',drawn:=d',toks:=t' }:=by
 have neL:∀b o,X.s₀.heap.get? b=some o->b≠X.env.locals:=λb o e=>bD4 (bC0 (bB2 e) I.ok.above)
 have neC:∀b o,X.s₀.heap.get? b=some o->b∉X.ex->b∉ch:=λb o e hx hb=>by
  rcases (hch b hb).1 with z|z
  ·exact hx z
  ·exact absurd (bC0 (bB2 e) z) (bF9 _)
 have cellK:∀x c,X.env.cells.lookup x=some c->∀v,s.heap.IsCell c v->h'.IsCell c v:=λx c e v ⟨o,ho,hd⟩=>by
  have nch:c∉ch:=λz=>(hch c z).2.2.1 x c e rfl
  by_cases hc:c∈X.fs
  ·obtain⟨sl,q⟩:=slot c o (I.cne x c e) hc nch ho (I.freeC x c e)
   exact⟨_,q,hd⟩
  ·exact⟨o,keep c o (I.cne x c e) hc nch ho (I.freeC x c e),hd⟩
 refine⟨I.ok,I.os,hg,⟨λb o e n hb hx=>?_,λb o e n hb hx=>?_,λb o e n hx=>?_,λb o e hx=>?_,λb xs e=>tups b xs (I.base.tups b xs e),λb o xs e=>frzs b o xs (I.base.frzs b o xs e),λb ps e=>?_⟩,?_,λx c e=>?_,?_,λx c e=>?_,λp hp=>?_,hok,I.len⟩
 ·exact keep b o (neL b o e) hb (neC b o e hx) (I.base.keep b o e n hb hx) (I.base.free b o e n hx)
 ·obtain⟨sl,e1⟩:=I.base.slot b o e n hb hx
  obtain⟨sl',e2⟩:=slot b _ (neL b o e) hb (neC b o e hx) e1 (I.base.free b o e n hx)
  exact⟨sl',e2⟩
 ·obtain⟨o',e1⟩:=I.base.there b o e hx
  exact free b o' (neC b o e hx) e1 (I.base.free b o e n hx)
 ·obtain⟨o',e1⟩:=I.base.there b o e hx
  exact there b o' (neC b o e hx) e1
 ·obtain⟨m1,e1⟩:=I.base.tbls b ps e
  obtain⟨m2,e2⟩:=tbls b _ e1
  exact⟨m1++m2,by rw[e2,Array.append_assoc]⟩
 ·obtain⟨m,hn,hl⟩:=I.loc
  refine⟨m,ns m hn,λi x v e1 e2 e3=>?_⟩
  obtain⟨u,r,l⟩:=hl i x v e1 e2 e3
  refine⟨u,r,?_⟩
  rcases l with l|⟨k,c,e,z⟩
  ·exact .inl l
  ·exact .inr ⟨k,c,e,cellK x c e _ z⟩
 ·obtain⟨v,z⟩:=I.cell x c e
  exact⟨v,cellK x c e v z⟩
 ·obtain⟨m,⟨o,_,_,ho,_⟩,_⟩:=I.loc
  exact free _ o (λz=>(hch _ z).2.1 rfl) ho I.free
 ·obtain⟨v,o,ho,hd⟩:=I.cell x c e
  exact free c o (λz=>(hch c z).2.2.1 x c e rfl) ho (I.freeC x c e)
 ·obtain⟨e,n,ne,nf,d⟩:=I.pin p hp
  have nch:p.1∉ch:=λz=>(hch p.1 z).2.2.2 p hp rfl
  exact⟨keep p.1 p.2 ne nf nch e n,free p.1 p.2 nch e n,ne,nf,d⟩
theorem a7.un {t':Nat}(I:a7 X pins σ H s)(u:Un X.fs [] H H' s.heap h')(hok:bY X.prog X.w H' h'):a7 X pins σ H' { s with heap:=h',toks:=t' }:=by
 obtain⟨m,⟨o,es,ep,ho,r⟩,_⟩:=id I.loc
 obtain⟨sl,hL⟩:=u.any ho I.free (by simp)
 exact I.step (g':=s.gens) (d':=s.drawn) (ch:=[]) (λ_ z=>nomatch z) (λb o _ hb _ e n=>u.keep b o e n hb (by simp)) (λb o _ hb _ e n=>u.slot b o e n hb (by simp)) (λb o _ e n=>u.free b o e n (by simp)) (λb o _ e=>u.there b o e (by simp)) u.tups u.frzs u.tbls (λm' hm=>by
  obtain⟨o',es',ep',ho',r'⟩:=hm
  rw[ho]at ho';cases ho'
  exact⟨_,es',ep',hL,r'⟩) hok I.bare
theorem a7.call {g':Array GenState}{t':Nat}{d':Drawn}{ch:List Addr}(I:a7 X pins σ H s)(u:Un (bV X.stack) ch H H' s.heap h')(hok:bY X.prog X.w H' h')(hg:AllBare g')(hch:∀b∈ch,(b∈X.ex∨X.s₀.heap.objs.size<=b)/\b≠X.env.locals/\(∀x c,X.env.cells.lookup x=some c->c≠b)/\∀p∈X.pn++pins,p.1≠b) :
  a7 X pins σ H' { s with heap:=h',gens:=g',drawn:=d',toks:=t' }:=by
 obtain⟨m,⟨o,es,ep,ho,r⟩,_⟩:=id I.loc
 obtain⟨sl,hL⟩:=u.any ho I.free λz=>(hch _ z).2.1 rfl
 exact I.step (ch:=ch) hch (λb o hL hb hc e n=>u.keep b o e n (λz=>(bA7.mp (I.stkSub b z)).elim hL hb) hc) (λb o _ _ hc e n=>u.any e n hc) (λb o hc e n=>u.free b o e n hc) (λb o hc e=>u.there b o e hc) u.tups u.frzs u.tbls (λm' hm=>by
  obtain⟨o',es',ep',ho',r'⟩:=hm
  rw[ho]at ho';cases ho'
  exact⟨_,es',ep',hL,r'⟩) hok hg
theorem a7.turned {t':Nat}{it:Addr}(I:a7 X pins σ H s)(k:∀b o,b≠it->s.heap.get? b=some o->h'.get? b=some o)(hn:H it=none)(hL:it≠X.env.locals)(h1:it∈X.ex∨X.s₀.heap.objs.size<=it)(h2:∀x c,X.env.cells.lookup x=some c->c≠it)(h3:∀p∈X.pn++pins,p.1≠it):a7 X pins σ H { s with heap:=h',toks:=t' }:=by
 have nit:∀b u,H b=some u->b≠it:=λb u e z=>by rw[z,hn]at e;cases e
 refine I.step (g':=s.gens) (d':=s.drawn) (ch:=[it]) (λb hb=>?_) (λb o _ _ hc e _=>k b o (λz=>hc (by simp[z])) e) (λb o _ _ hc e _=>⟨o.slots,k b o (λz=>hc (by simp[z])) e⟩) (λ_ _ _ _ n=>n)
  (λb o hc e=>⟨o,k b o (λz=>hc (by simp[z])) e⟩) (λ_ _ e=>e) (λ_ _ _ e=>e) (λb ps e=>⟨#[],by rw[e];simp⟩) (λm hm=>?_) (λb u e=>?_) I.bare
 ·have e:b=it:=by simpa using hb
  subst e
  exact⟨h1,hL,h2,h3⟩
 ·obtain⟨o,es,ep,ho,r⟩:=hm
  exact⟨o,es,ep,k _ o (Ne.symm hL) ho,r⟩
 ·refine (I.hok b u e).stay (λc v hc q=>k c v ?_ q) (λ_ q=>q) λ_ _ q=>q
  rcases hc with z|z
  ·rw[z];exact nit b u e
  ·exact nit c _ z
theorem a7.tok (I:a7 X pins σ H s)(t:Nat):a7 X pins σ H { s with toks:=t }:=I.un (h':=s.heap) (t':=t) Un.refl I.hok
theorem a7.kept {t':Nat}(I:a7 X pins σ H s)(k:∀b u,s.heap.get? b=some u->h'.get? b=some u):a7 X pins σ H { s with heap:=h',toks:=t' }:=I.un (Un.kept k) (I.hok.kept k)
theorem a7.laid {a:Addr}{o:HO}{t':Nat}(I:a7 X pins σ H s)(k:∀b u,s.heap.get? b=some u->h'.get? b=some u)(hp:s.heap.objs.size<=a)(new:bR X.prog X.w (upd H a o) h' a o) :
  a7 X pins σ (upd H a o) { s with heap:=h',toks:=t' }:=I.un (Un.laid k hp (I.hok.fresh hp)) (I.hok.laid k hp new)
theorem a7.write {x e:Addr}{o:HO}{t':Nat}(I:a7 X pins σ H s)(mu:oM (H x))(he:e=x∨H e=some (.own x))(k:∀b u,b≠e->s.heap.get? b=some u->h'.get? b=some u)(heo:∃u,h'.get? e=some u)(new:bR X.prog X.w (upd H x o) h' x o):a7 X pins σ (upd H x o) { s with heap:=h',toks:=t' }:=I.un (Un.write mu he k heo) (I.hok.write mu he k heo new)
theorem a7.weak {σ':List (Option V)}(I:a7 X pins σ H s)(hl:σ'.length=σ.length)(w:∀(i:Nat) v,σ'[i]? = some (some v)->σ[i]? = some (some v)):a7 X pins σ' H s:=
 ⟨I.ok,I.os,I.bare,I.base,let ⟨m,hn,hl'⟩:=I.loc;⟨m,hn,λi x v e1 e2 e3=>hl' i x v e1 (w i v e2) e3⟩,I.cell,I.free,I.freeC,I.pin,I.hok,hl.trans I.len⟩
theorem a7.pins_of {pins':List (Addr×Obj)}(I:a7 X pins σ H s)(h:∀p∈pins',s.heap.get? p.1=some p.2/\H p.1=none/\p.1≠X.env.locals/\p.1∉X.fs/\∀v,p.2.data≠.cell v):a7 X pins' σ H s:=
 ⟨I.ok,I.os,I.bare,I.base,I.loc,I.cell,I.free,I.freeC,λp hp=>(bB8.mp hp).elim (λz=>I.pin p (bD2 _ z)) (h p),I.hok,I.len⟩
theorem uW {N:List Str}(hN:N.Nodup){i j:Nat}{x:Str}(a:N[i]? = some x)(b:N[j]? = some x):i=j:=by
 obtain⟨h1,e1⟩:=bB0.mp a
 obtain⟨h2,e2⟩:=bB0.mp b
 exact (List.getElem_inj hN).mp (e1.trans e2.symm)
theorem uX {M:Model}{A:Around}{E:Value->Shared->Prop}{i:Nat}{x:Str}{v:V}{u:Value}{Q:Unit->Shared->Prop}(I:a7 X pins σ H s)(hN:X.N.Nodup)(hi:X.N[i]? = some x)(hx:j8 X.env.scope x)(r:b6 v u)(h:∀s',a7 X pins (σ.set i (some v)) H s'->(∃a,Heap.SameBut a s.heap s'.heap/\(a=X.env.locals∨X.env.cells.lookup x=some a))->Q () s')(hf:X.fn x=true∨X.env.scope.names.lookup x=some .local:=by first|exact .inl rfl|exact .inr rfl|assumption):wpAny M A (storeName X.env x u) Q E s:=by
 obtain⟨m,hn,hl⟩:=id I.loc
 have hcls:(X.env.scope.kind==.class||(X.env.scope.kind==.module&&X.env.locals != X.env.globals))=false:=by rw[I.ok.kind];rfl
 have hiσ:i<σ.length:=by rw[I.len];exact (bB0.mp hi).1
 have cne:=I.cne
 have tracked:∀{a:Addr}{h':Heap},(∃o,s.heap.get? a=some o/\H a=none)->Heap.SameBut a s.heap h'->bY X.prog X.w H h':=λ{a h'} ha hs b ob e=>by
  obtain⟨_,_,hfree⟩:=ha
  refine (I.hok b ob e).stay (λc w' hc q=>(hs.2 c ?_).trans q) (λ_ q=>q) λ_ _ q=>q
  rintro rfl
  rcases hc with rfl|hc
  ·rw[hfree]at e;cases e
  ·rw[hfree]at hc;cases hc
 rcases hx with hk|hk
 ·refine wpAny_storeName_local hk hn (λh' hn' hs=>?_) hcls
  obtain⟨oL,_,_,hoL,_⟩:=id hn
  refine h _ ⟨I.ok,I.os,I.bare,⟨λb o e n hb hx=>?_,λb o e n hb hx=>?_,I.base.free,λb o e hx=>?_,I.base.tups,I.base.frzs,I.base.tbls⟩,⟨_,hn',λj y v' e1 e2 e3=>?_⟩,λy c e=>?_,I.free,I.freeC,λp hp=>?_,tracked ⟨oL,hoL,I.free⟩ hs,by simpa using I.len⟩ ⟨_,hs,.inl rfl⟩
  ·exact (hs.2 b (bD4 (bC0 (bB2 e) I.ok.above))).trans (I.base.keep b o e n hb hx)
  ·obtain⟨sl,e1⟩:=I.base.slot b o e n hb hx
   exact⟨sl,(hs.2 b (bD4 (bC0 (bB2 e) I.ok.above))).trans e1⟩
  ·obtain⟨o',e1⟩:=I.base.there b o e hx
   exact⟨o',(hs.2 b (bD4 (bC0 (bB2 e) I.ok.above))).trans e1⟩
  ·by_cases hj:j=i
   ·subst hj
    rw[hi]at e1;cases e1
    rw[bJ2 hiσ]at e2
    cases e2
    exact⟨u,r,.inl ⟨hk,by simp⟩⟩
   ·rw[bD6 (Ne.symm hj)]at e2
    obtain⟨u',r',q⟩:=hl j y v' e1 e2 e3
    refine⟨u',r',?_⟩
    rcases q with⟨k,e⟩|⟨k,c,e,z⟩
    ·refine .inl ⟨k,?_⟩
     have:y≠x:=λe=>hj (uW hN e1 (e▸hi))
     simp[this,e]
    ·exact .inr ⟨k,c,e,z.sameBut hs (cne y c e)⟩
  ·obtain⟨w',z⟩:=I.cell y c e
   exact⟨w',z.sameBut hs (cne y c e)⟩
  ·obtain⟨e,n,ne,nf,d⟩:=I.pin p hp
   exact⟨(hs.2 p.1 ne).trans e,n,ne,nf,d⟩
 ·have hfn:X.fn x=true:=by
   rcases hf with z|z
   ·exact z
   ·rw[z]at hk;cases hk
  obtain⟨c,hc⟩:=I.ok.has x (.inl hk)
  obtain⟨w',z⟩:=I.cell x c hc
  refine wpAny_storeName_cell I.ok.kind hk hc z (λh' hc' hs=>?_)
  obtain⟨oc,hoc,hocd⟩:=id z
  refine h { s with heap:=h' } ⟨I.ok,I.os,I.bare,⟨λb o e n hb hx=>?_,λb o e n hb hx=>?_,I.base.free,λb o e hx=>?_,I.base.tups,I.base.frzs,I.base.tbls⟩,⟨m,hn.sameBut hs (Ne.symm (cne x c hc)),λj y v' e1 e2 e3=>?_⟩,λy c' e=>?_,I.free,I.freeC,λp hp=>?_,tracked ⟨oc,hoc,I.freeC x c hc⟩ hs,by simpa using I.len⟩ ⟨c,hs,.inr hc⟩
  ·exact (hs.2 b (bD4 (bC0 (bB2 e) (I.ok.cab x c hfn hc)))).trans (I.base.keep b o e n hb hx)
  ·obtain⟨sl,e1⟩:=I.base.slot b o e n hb hx
   exact⟨sl,(hs.2 b (bD4 (bC0 (bB2 e) (I.ok.cab x c hfn hc)))).trans e1⟩
  ·obtain⟨o',e1⟩:=I.base.there b o e hx
   exact⟨o',(hs.2 b (bD4 (bC0 (bB2 e) (I.ok.cab x c hfn hc)))).trans e1⟩
  ·by_cases hj:j=i
   ·subst hj
    rw[hi]at e1;cases e1
    rw[bJ2 hiσ]at e2
    cases e2
    exact⟨u,r,.inr ⟨.inl hk,c,hc,hc'⟩⟩
   ·rw[bD6 (Ne.symm hj)]at e2
    obtain⟨u',r',q⟩:=hl j y v' e1 e2 e3
    refine⟨u',r',?_⟩
    rcases q with q|⟨k,c',e,z'⟩
    ·exact .inl q
    ·refine .inr ⟨k,c',e,z'.sameBut hs ?_⟩
     rintro rfl
     exact hj (uW hN e1 (I.ok.inj _ _ _ e hc▸hi))
  ·by_cases hcc:c'=c
   ·subst hcc;exact⟨_,hc'⟩
   ·obtain⟨w2,z2⟩:=I.cell y c' e
    exact⟨w2,z2.sameBut hs hcc⟩
  ·obtain⟨e,n,ne,nf,d⟩:=I.pin p hp
   refine⟨(hs.2 p.1 ?_).trans e,n,ne,nf,d⟩
   intro q
   rw[q,hoc]at e
   have q':oc=p.2:=bE0 e
   exact d w' (by rw[<- q'];exact hocd)
theorem uY {M:Model}{A:Around}{E:Value->Shared->Prop}{i:Nat}{x:Str}{v:V}{u:Value}{Q:Unit->Shared->Prop}(I:a7 X pins σ H s)(hN:X.N.Nodup)(hi:X.N[i]? = some x)(hx:j8 X.env.scope x)(r:b6 v u)(h:∀s',a7 X pins (σ.set i (some v)) H s'->Q () s')(hf:X.fn x=true∨X.env.scope.names.lookup x=some .local:=by first|exact .inl rfl|exact .inr rfl|assumption):wpAny M A (storeName X.env x u) Q E s:=
 uX I hN hi hx r (λs' I' _=>h s' I') hf
theorem a7.call' {s':Shared}{ch:List Addr}(I:a7 X pins σ H s)(ho:s'.os=s.os)(u:Un (bV X.stack) ch H H' s.heap s'.heap)(hok:bY X.prog X.w H' s'.heap)(hg:AllBare s'.gens)(hch:∀b∈ch,(b∈X.ex∨X.s₀.heap.objs.size<=b)/\b≠X.env.locals/\(∀x c,X.env.cells.lookup x=some c->c≠b)/\∀p∈X.pn++pins,p.1≠b):a7 X pins σ H' s':=by
 obtain⟨h',g',d',t',o'⟩:=s'
 have e:o'=s.os:=ho
 subst e
 exact I.call (g':=g') (t':=t') (d':=d') u hok hg hch
end
abbrev XK:=Value->Option Addr->Hp->Prop
abbrev St:=List (Option V)
abbrev VK:=V->Hp->Prop
abbrev TE:=St->Hp->VK->Prop
abbrev TT:=St->Hp->(Bool->Hp->Prop)->Prop
abbrev TA:=St->Hp->(List V->Hp->Prop)->Prop
structure cP where
 nx:St->Hp->Prop
 rt:VK
 bk:St->Hp->Prop:=λ_ _=>False
 ct:St->Hp->Prop:=λ_ _=>False
abbrev TS:=cP->St->Hp->Prop
def EP (X:Cx)(pins:List (Addr×Obj))(σ:St)(Q:VK)(u:Value)(s':Shared):Prop:=∃v H',a7 X pins σ H' s'/\b6 v u/\Q v H'
def TP (X:Cx)(pins:List (Addr×Obj))(σ:St)(Q:Bool->Hp->Prop)(b:Bool)(s':Shared):Prop:=∃H',a7 X pins σ H' s'/\Q b H'
def AP (X:Cx)(pins:List (Addr×Obj))(σ:St)(Q:List V->Hp->Prop)(us:List Value)(s':Shared):Prop:=∃vs H',a7 X pins σ H' s'/\aO vs us/\Q vs H'
def SP (X:Cx)(pins:List (Addr×Obj))(D:cP)(f:Flow)(s':Shared):Prop:=
 match f with
 |.next=>∃σ' H',a7 X pins σ' H' s'/\D.nx σ' H'
 |.brk=>∃σ' H',a7 X pins σ' H' s'/\D.bk σ' H'
 |.cont=>∃σ' H',a7 X pins σ' H' s'/\D.ct σ' H'
 |.ret u=>∃v σ' H',a7 X pins σ' H' s'/\b6 v u/\D.rt v H'
def PE (X:Cx)(e:Expr)(t:TE):Prop:=
 ∀(pins:List (Addr×Obj)) (s:Shared) (σ:St) (H:Hp) (Q:VK),a7 X pins σ H s->t σ H Q->wpAny (model X.prog X.w) X.A (eval e X.env) (EP X pins σ Q) X.xe s
def PT (X:Cx)(e:Expr)(t:TT):Prop:=
 ∀(pins:List (Addr×Obj)) (s:Shared) (σ:St) (H:Hp) (Q:Bool->Hp->Prop),a7 X pins σ H s->t σ H Q->wpAny (model X.prog X.w) X.A (isTrue e X.env (eval e X.env)) (TP X pins σ Q) X.xe s
def PW (X:Cx)(e:Expr)(t:TT):Prop:=
 ∀(whole:Sem Value) (pins:List (Addr×Obj)) (s:Shared) (σ:St) (H:Hp) (Q:Bool->Hp->Prop),a7 X pins σ H s->t σ H Q->wpAny (model X.prog X.w) X.A (isTrue e X.env whole) (TP X pins σ Q) X.xe s
theorem PW.pt {X:Cx}{e:Expr}{t:TT}(h:PW X e t):PT X e t:=h _
def PA (X:Cx)(es:List Expr)(t:TA):Prop:=
 ∀(pos:Pos) (pins:List (Addr×Obj)) (s:Shared) (σ:St) (H:Hp) (Q:List V->Hp->Prop),a7 X pins σ H s->t σ H Q->wpAny (model X.prog X.w) X.A (spliced (backTo pos (starEach es X.env))) (AP X pins σ Q) X.xe s
def PS (X:Cx)(st:Stmt)(t:TS):Prop:=
 ∀(pins:List (Addr×Obj)) (s:Shared) (σ:St) (H:Hp) (D:cP),a7 X pins σ H s->t D σ H->wpAny (model X.prog X.w) X.A (exec st X.env) (SP X pins D) X.xe s
def dY (X:Cx)(st:List Stmt)(t:TS):Prop:=
 ∀(pins:List (Addr×Obj)) (s:Shared) (σ:St) (H:Hp) (D:cP),a7 X pins σ H s->t D σ H->wpAny (model X.prog X.w) X.A (execs st X.env) (SP X pins D) X.xe s
theorem aR {α:Type}{t:Sem α}{Q Q':α->Shared->Prop}{M:Model}{A:Around}{E:Value->Shared->Prop}{s:Shared}(h:wpAny M A t Q E s)(hQ:∀a s,Q a s->Q' a s):wpAny M A t Q' E s:=bJ3 h hQ λ_ _ x=>x
section
variable {X:Cx}
theorem bin {a b:Expr}{ta tb:TE}(ha:PE X a ta)(hb:PE X b tb){pins:List (Addr×Obj)}{s:Shared}{σ:St}{H:Hp}{R:V->V->Hp->Prop}(I:a7 X pins σ H s)(h:ta σ H λx H1=>tb σ H1 λy H2=>R x y H2){α:Type}{Q:α->Shared->Prop}{f:Value->Value->Sem α}(hf:∀v u s2 x y H2,a7 X pins σ H2 s2->b6 x v->b6 y u->R x y H2->wpAny (model X.prog X.w) X.A (f v u) Q X.xe s2) :
  wpAny (model X.prog X.w) X.A (eval a X.env) (λv s₁=>wpAny (model X.prog X.w) X.A (eval b X.env) (λu s₂=>wpAny (model X.prog X.w) X.A (f v u) Q X.xe s₂) X.xe s₁) X.xe s:=by
 refine aR (ha pins s σ H _ I h) λv s1 ⟨x,H1,I1,r1,q1⟩=>?_
 refine aR (hb pins s1 σ H1 _ I1 q1) λu s2 ⟨y,H2,I2,r2,q2⟩=>?_
 exact hf v u s2 x y H2 I2 r1 r2 q2
def hV (i:Nat):TE:=λσ H Q=>∃v,σ[i]? = some (some v)/\Q v H
def tC (v:V):TE:=λ_ H Q=>Q v H
theorem iF {i:Nat}{x:Str}{pos:Pos}(hN:X.N[i]? = some x)(hv:fU X.env.scope x)(hd:(x==("__debug__":Str))=false:=by decide)(hcd:(x==("__classdict__":Str))=false:=by decide):PE X (.Name x pos) (hV i):=by
 intro pins s σ H Q I h
 obtain⟨v,e,h⟩:=h
 obtain⟨m,hn,hl⟩:=I.loc
 obtain⟨u,r,l⟩:=hl i x v hN e hv
 have fin:EP X pins σ Q u s:=⟨v,H,I,r,h⟩
 rcases l with⟨hk,hm⟩|⟨hk,c,hc,hcell⟩
 ·exact wpAny_Name (wpAny_loadName_local I.ok.kind hk hn hm fin) hd
 ·rcases hk with hk|hk
  ·exact wpAny_Name (wpAny_loadName_cell I.ok.kind hk hc hcell fin) hd
  ·exact wpAny_Name (wpAny_loadName_free I.ok.kind hk hc hcell fin hcd) hd
theorem uZ {i j pos}:PE X (.Constant (.int i) j pos) (tC (.int i)):=λ_ _ _ H _ I h=>wpAny_Constant_int ⟨.int i,H,I.tok _,⟨_,rfl⟩,h⟩
theorem E6 {b j pos}:PE X (.Constant (.bool b) j pos) (tC (.bl b)):=λ_ _ _ H _ I h=>Constant_bool ⟨.bl b,H,I,rfl,h⟩
theorem at6 {x j pos}:PE X (.Constant (.str x) j pos) (tC (.str x)):=λ_ _ _ H _ I h=>Calls.Constant_str ⟨.str x,H,I.tok _,⟨_,rfl⟩,h⟩
def Gl (X:Cx)(x:Str):Prop:=X.env.kindOf x=some .globalImplicit
theorem oO {E:Value->Shared->Prop}{pins:List (Addr×Obj)}{s:Shared}{σ:St}{H:Hp}{x:Str}{u:Value}{pos:Pos}{Q:Value->Shared->Prop}(I:a7 X pins σ H s)(hg:Gl X x)(hm:X.mg x=some u)(h:Q u s)(hd:(x==("__debug__":Str))=false:=by decide):wpAny (model X.prog X.w) X.A (eval (.Name x pos) X.env) Q E s:=
 Calls.Name_function_global I.ok.kind hg (Calls.loadGlobal_global (by rw[I.ok.glob];exact I.mod.glob.keeps I.bk) hm h) hd
theorem kU {E:Value->Shared->Prop}{pins:List (Addr×Obj)}{s:Shared}{σ:St}{H:Hp}{x:Str}{u:Value}{pos:Pos}{Q:Value->Shared->Prop}(I:a7 X pins σ H s)(hg:Gl X x)(hm:X.mg x=none)(hv:bootBuiltins x=some u)(h:Q u s)(hn:x≠"__name__":=by decide)(hd:(x==("__debug__":Str))=false:=by decide):wpAny (model X.prog X.w) X.A (eval (.Name x pos) X.env) Q E s:=by
 obtain⟨mb,h1,h2⟩:=I.mod.blt
 exact Calls.Name_function_global I.ok.kind hg (Calls.loadGlobal_builtin (by rw[I.ok.glob];exact I.mod.glob.keeps I.bk) hm (by rw[I.ok.blt];exact h1.keeps I.bk) ((h2 x hn).trans hv) h) hd
theorem E7 {x:Str}{v:V}{u:Value}{pos:Pos}(hg:Gl X x)(hm:X.mg x=some u)(r:b6 v u)(hd:(x==("__debug__":Str))=false:=by decide):PE X (.Name x pos) (tC v):=
 λ_ _ _ H _ I h=>oO I hg hm ⟨v,H,I,r,h⟩ hd
theorem at7 {x:Str}{v:V}{u:Value}{pos:Pos}(hg:Gl X x)(hm:X.mg x=none)(hv:bootBuiltins x=some u)(r:b6 v u)(hn:x≠"__name__":=by decide)(hd:(x==("__debug__":Str))=false:=by decide):PE X (.Name x pos) (tC v):=
 λ_ _ _ H _ I h=>kU I hg hm hv ⟨v,H,I,r,h⟩ hn hd
variable {a b:Expr}{ta tb:TE}{pos:Pos}
def PC (X:Cx)(op:CmpOp)(a b:Expr)(t:TE):Prop:=
 ∀(pins:List (Addr×Obj)) (s:Shared) (σ:St) (H:Hp) (Q:VK),a7 X pins σ H s->t σ H Q->
  wpAny (model X.prog X.w) X.A (eval a X.env) (λv s₁=>wpAny (model X.prog X.w) X.A (eval b X.env) (λu s₂=>wpAny (model X.prog X.w) X.A (compareOp op v u) (EP X pins σ Q) X.xe s₂) X.xe s₁) X.xe s
def tB (t:TE):TT:=λσ H Q=>t σ H λx H1=>∃c,x = .bl c/\Q c H1
theorem at8 {op:CmpOp}{t:TE}(h:PC X op a b t)(h1:behindInMarks op b=false:=by first|exact nobehind _ (by decide) (by decide)|rfl):PE X (.Compare a [op] [b] pos) t:=λpins s σ H Q I hw=>wpAny_Compare1 (h pins s σ H Q I hw) h1
theorem E8 {op:CmpOp}{t:TE}(h:PC X op a b t)(h1:behindInMarks op b=false:=by first|exact nobehind _ (by decide) (by decide)|rfl):PT X (.Compare a [op] [b] pos) (tB t):=by
 intro pins s σ H Q I hw
 refine wpAny_isTrue_Compare1 (aR (h pins s σ H _ I hw) λv s1 h1=>aR h1 λu s2 h2=>aR h2 λc s3 ⟨x,H1,I1,r1,q1⟩=>?_) h1
 obtain⟨d,rfl,q⟩:=q1
 cases r1
 exact bK6 ⟨H1,I1,q⟩
theorem at9 {e:Expr}{t:TE}(h:PE X e t)(he:∀whole,isTrue e X.env whole=(do let v <- whole;standAt e.pos;holding [v] (truthy v)):=by intro _;rfl):PT X e (tB t):=by
 intro pins s σ H Q I hw
 refine isTrue_plain (aR (h pins s σ H _ I hw) λv s1 ⟨x,H1,I1,r1,q1⟩=>?_) (he _)
 obtain⟨d,rfl,q⟩:=q1
 cases r1
 exact bK6 ⟨H1,I1,q⟩
variable {tA tB':TT}{cO:List Expr}
def E9 (t u:TT):TT:=λσ H Q=>t σ H λc H1=>if c=true then u σ H1 Q else Q false H1
def F0 (t u:TT):TT:=λσ H Q=>t σ H λc H1=>if c=true then Q true H1 else u σ H1 Q
def F1 (t:TT):TT:=λσ H Q=>t σ H λc H1=>Q (!c) H1
theorem au0 (ha:PT X a tA):PW X (.BoolOp .And [a] pos) tA:=by
 intro wh pins s σ H Q I h
 refine isTrue_and (aR (ha pins s σ H Q I h) λc s1 e=>?_)
 cases c with
 |true=>exact isTrue_and_nil e
 |false=>exact e
theorem au1 (ha:PT X a tA):PW X (.BoolOp .Or [a] pos) tA:=by
 intro wh pins s σ H Q I h
 refine isTrue_or (aR (ha pins s σ H Q I h) λc s1 e=>?_)
 cases c with
 |false=>exact isTrue_or_nil e
 |true=>exact e
theorem au2 (ha:PT X a tA)(hb:PW X (.BoolOp .And (b::cO) pos) tB'):PW X (.BoolOp .And (a::b::cO) pos) (E9 tA tB'):=by
 intro wh pins s σ H Q I h
 refine isTrue_and (aR (ha pins s σ H _ I h) λc s1 ⟨H1,I1,q1⟩=>?_)
 cases c with
 |true=>exact hb wh pins s1 σ H1 Q I1 q1
 |false=>exact⟨H1,I1,q1⟩
theorem au3 (ha:PT X a tA)(hb:PW X (.BoolOp .Or (b::cO) pos) tB'):PW X (.BoolOp .Or (a::b::cO) pos) (F0 tA tB'):=by
 intro wh pins s σ H Q I h
 refine isTrue_or (aR (ha pins s σ H _ I h) λc s1 ⟨H1,I1,q1⟩=>?_)
 cases c with
 |true=>exact⟨H1,I1,q1⟩
 |false=>exact hb wh pins s1 σ H1 Q I1 q1
theorem au4 (ha:PT X a tA):PT X (.UnaryOp .Not a pos) (F1 tA):=by
 intro pins s σ H Q I h
 exact isTrue_not (ha pins s σ H (λc H1=>Q (!c) H1) I h)
def F3 (ta tb:TE):TE:=λσ H Q=>ta σ H λx H1=>∃c,x = .bl c/\if c=true then tb σ H1 Q else Q (.bl false) H1
def F4 (ta tb:TE):TE:=λσ H Q=>ta σ H λx H1=>∃c,x = .bl c/\if c=true then Q (.bl true) H1 else tb σ H1 Q
def F5 (ta:TE):TE:=λσ H Q=>ta σ H λx H1=>∃c,x = .bl c/\Q (.bl (!c)) H1
theorem au5 {op}{t:TE}(h:PE X a t):PE X (.BoolOp op [a] pos) t:=λpins s σ H Q I hw=>BoolOp_one (h pins s σ H Q I hw)
theorem au6 (ha:PE X a ta)(hb:PE X (.BoolOp .And (b::cO) pos) tb):PE X (.BoolOp .And (a::b::cO) pos) (F3 ta tb):=by
 intro pins s σ H Q I h
 refine BoolOp_and (aR (ha pins s σ H _ I h) λv s1 ⟨x,H1,I1,r1,q1⟩=>?_)
 obtain⟨c,rfl,q1⟩:=q1
 cases r1
 refine bK6 ?_
 cases c with
 |true=>exact hb pins s1 σ H1 Q I1 q1
 |false=>exact⟨.bl false,H1,I1,rfl,q1⟩
theorem au7 (ha:PE X a ta)(hb:PE X (.BoolOp .Or (b::cO) pos) tb):PE X (.BoolOp .Or (a::b::cO) pos) (F4 ta tb):=by
 intro pins s σ H Q I h
 refine BoolOp_or (aR (ha pins s σ H _ I h) λv s1 ⟨x,H1,I1,r1,q1⟩=>?_)
 obtain⟨c,rfl,q1⟩:=q1
 cases r1
 refine bK6 ?_
 cases c with
 |false=>exact hb pins s1 σ H1 Q I1 q1
 |true=>exact⟨.bl true,H1,I1,rfl,q1⟩
theorem au8 (ha:PE X a ta):PE X (.UnaryOp .Not a pos) (F5 ta):=by
 intro pins s σ H Q I h
 refine UnaryOp_ (aR (ha pins s σ H _ I h) λv s1 ⟨x,H1,I1,r1,q1⟩=>?_)
 obtain⟨c,rfl,q1⟩:=q1
 cases r1
 exact not_of (bK6 ⟨.bl (!c),H1,I1,rfl,q1⟩)
end
def aQ (K:ad)(H:Hp)(a:Addr)(xs:List V):Prop:=
 Rd H a (.lst xs) ∨
  ∃(o:Obj) (its:Array Value) (n:Nat),K.lookup a=some o/\o.cls = .type "list"/\o.dict=none/\o.data = .seq its n/\its.size<=sizeLine/\aO xs its.toList
def aH (K:ad)(H:Hp)(a:Addr)(xs:List V):Prop:=
 Rd H a (.tup xs) ∨
  ∃(o:Obj) (its:Array Value) (n:Nat),K.lookup a=some o/\o.cls = .type "tuple"/\o.data = .seq its n/\its.size<=sizeLine/\aO xs its.toList
def au9:Value->Option V
 |.none=>some .non
 |.bool b=>some (.bl b)
 |.int i _=>some (.int i)
 |.str x _=>some (.str x)
 |.bytes b _=>some (.byt b)
 |.float b _=>some (.flt b)
 |.ref a=>some (.ref a)
 |.type n=>some (.ty n)
 |_=>none
theorem b6.abs {x:V}{u:Value}(r:b6 x u):au9 u=some x:=by
 cases x with
 |non=>cases r;rfl
 |bl _=>cases r;rfl
 |int _=>obtain⟨t,rfl⟩:=r;rfl
 |str _=>obtain⟨t,rfl⟩:=r;rfl
 |byt _=>obtain⟨t,rfl⟩:=r;rfl
 |flt _=>obtain⟨t,rfl⟩:=r;rfl
 |ref _=>cases r;rfl
 |ty _=>cases r;rfl
theorem b6.inj {x y:V}{u:Value}(r:b6 x u)(q:b6 y u):x=y:=bE0 (r.abs.symm.trans q.abs)
theorem aO.inj:∀{xs ys:List V}{us:List Value},aO xs us->aO ys us->xs=ys
 |_,_,_,.nil,.nil=>rfl
 |_,_,_,.cons r t,.cons r' t'=>by rw[r.inj r',aO.inj t t']
section
variable {X:Cx}{pins:List (Addr×Obj)}{σ:St}{H:Hp}{s:Shared}{a:Addr}{xs ys:List V}
theorem aQ.of {K:ad}(h:H a=some (.lst xs)):aQ K H a xs:=.inl (.inl h)
theorem aH.of {K:ad}(h:H a=some (.tup xs)):aH K H a xs:=.inl (.inl h)
theorem a7.list (I:a7 X pins σ H s)(h:aQ X.K H a xs):∃its:List Value,aO xs its/\PlainL s.heap a its.toArray/\xs.length<=sizeLine:=by
 rcases h with h|⟨o,its,n,hk,hc,hd,hs,hz,r⟩
 ·obtain⟨z,its,n,r,e⟩:=h.ok I.hok
  exact⟨its,r,⟨_,n,e,rfl,rfl,rfl⟩,z⟩
 ·refine⟨its.toList,r,⟨o,n,I.kIn a o hk,hc,hd,by simpa using hs⟩,?_⟩
  have e:=r.length
  simp only[bO5]at e
  omega
theorem a7.tuple (I:a7 X pins σ H s)(h:aH X.K H a xs):∃its:List Value,aO xs its/\IsTup s.heap a its.toArray/\xs.length<=sizeLine:=by
 rcases h with h|⟨o,its,n,hk,hc,hs,hz,r⟩
 ·obtain⟨z,its,r,p,_⟩:=h.ok I.hok
  exact⟨its,r,p,z⟩
 ·refine⟨its.toList,r,⟨o,I.kIn a o hk,hc,n,by simpa using hs⟩,?_⟩
  have e:=r.length
  simp only[bO5]at e
  omega
theorem a7.list_inj (I:a7 X pins σ H s)(h:aQ X.K H a xs)(h':aQ X.K H a ys):xs=ys:=by
 obtain⟨its,r,⟨o,n,e,_,_,d⟩,_⟩:=I.list h
 obtain⟨its',r',⟨o',n',e',_,_,d'⟩,_⟩:=I.list h'
 rw[e]at e';cases e'
 rw[d]at d'
 injection d' with d1 _
 have:its=its':=by simpa using congrArg Array.toList d1
 subst this
 exact r.inj r'
theorem a7.tuple_inj (I:a7 X pins σ H s)(h:aH X.K H a xs)(h':aH X.K H a ys):xs=ys:=by
 obtain⟨its,r,⟨o,e,_,n,d⟩,_⟩:=I.tuple h
 obtain⟨its',r',⟨o',e',_,n',d'⟩,_⟩:=I.tuple h'
 rw[e]at e';cases e'
 rw[d]at d'
 injection d' with d1 _
 have:its=its':=by simpa using congrArg Array.toList d1
 subst this
 exact r.inj r'
end
abbrev Cx.wish (X:Cx)(E:Value->Shared->Prop):Cx:={ X with xe:=E }
abbrev Cx.nox (X:Cx):Cx:=X.wish λ_ _=>False
theorem Cx.Ok.wish {X:Cx}(ok:X.Ok)(E:Value->Shared->Prop):(X.wish E).Ok:=
 ⟨ok.mod,ok.kind,ok.glob,ok.blt,ok.above,ok.inj,ok.has,ok.cab,ok.hd,ok.frames,ok.stk,ok.exf,ok.bs,ok.bsz,ok.noex,ok.exfs,ok.funs,ok.frf⟩
theorem Cx.Ok.unwish {X:Cx}{E:Value->Shared->Prop}(ok:(X.wish E).Ok):X.Ok:=
 ⟨ok.mod,ok.kind,ok.glob,ok.blt,ok.above,ok.inj,ok.has,ok.cab,ok.hd,ok.frames,ok.stk,ok.exf,ok.bs,ok.bsz,ok.noex,ok.exfs,ok.funs,ok.frf⟩
section
variable {X:Cx}{pins:List (Addr×Obj)}{σ:St}{H:Hp}{s:Shared}{E:Value→Shared→Prop}
theorem a7.wish (I:a7 X pins σ H s)(E:Value->Shared->Prop):a7 (X.wish E) pins σ H s:=⟨I.ok.wish E,I.os,I.bare,I.base,I.loc,I.cell,I.free,I.freeC,I.pin,I.hok,I.len⟩
theorem a7.unwish (I:a7 (X.wish E) pins σ H s):a7 X pins σ H s:=⟨I.ok.unwish,I.os,I.bare,I.base,I.loc,I.cell,I.free,I.freeC,I.pin,I.hok,I.len⟩
theorem SP.unwish {D:cP}{f:Flow}{s':Shared}(h:SP (X.wish E) pins D f s'):SP X pins D f s':=by
 cases f with
 |next=>obtain⟨σ',H',I,q⟩:=h;exact⟨σ',H',I.unwish,q⟩
 |brk=>obtain⟨σ',H',I,q⟩:=h;exact⟨σ',H',I.unwish,q⟩
 |cont=>obtain⟨σ',H',I,q⟩:=h;exact⟨σ',H',I.unwish,q⟩
 |ret u=>obtain⟨v,σ',H',I,r,q⟩:=h;exact⟨v,σ',H',I.unwish,r,q⟩
theorem dY.nox {st:List Stmt}{t:TS}(h:dY X.nox st t):dY X st t:=λpins s σ H D I hw=>
 bJ3 (h pins s σ H D (I.wish _) hw) (λ_ _ q=>q.unwish) λ_ _ z=>False.elim z
end
section
variable {X:Cx}{st:Stmt}{cO:List Stmt}{t u:TS}{e:Expr}{te:TE}{pos:Pos}
def F6:TS:=λD σ H=>D.nx σ H
def F7 (t u:TS):TS:=λD σ H=>t { D with nx:=u D } σ H
theorem av0:dY X [] F6:=λ_ _ σ H _ I h=>bP9 ⟨σ,H,I,h⟩
theorem r6 (h1:PS X st t)(h2:dY X cO u):dY X (st::cO) (F7 t u):=by
 intro pins s σ H D I h
 refine wpAny_execs_cons (aR (h1 pins s σ H { D with nx:=u D } I h) λf s1 q=>?_)
 cases f with
 |next=>
  obtain⟨σ',H',I',q⟩:=q
  exact h2 pins s1 σ' H' D I' q
 |ret v=>exact q
 |brk=>exact q
 |cont=>exact q
theorem v3 (h1:PS X st t):dY X [st] t:=by
 intro pins s σ H D I h
 refine wpAny_execs_cons (aR (h1 pins s σ H D I h) λf s1 q=>?_)
 cases f with
 |next=>exact bP9 q
 |ret v=>exact q
 |brk=>exact q
 |cont=>exact q
theorem a7.quiet {pins:List (Addr×Obj)}{σ:St}{H:Hp}{s:Shared}(I:a7 X pins σ H s):interactive X.env=false:=by simp[interactive,I.ok.kind]
def mR (te:TE):TS:=λD σ H=>te σ H λ_ H1=>D.nx σ H1
theorem lQ (he:PE X e te)(hs:swapsWith e none pos.line X.env=pure false:=by rfl):PS X (.Expr e pos) (mR te):=by
 intro pins s σ H D I h
 exact wpAny_Expr_any (aR (he pins s σ H _ I h) λv s1 ⟨x,H1,I1,r1,q1⟩=>⟨σ,H1,I1,q1⟩) I.quiet hs
def v4 (te:TE):TS:=λD σ H=>te σ H D.rt
theorem v7 (he:PE X e te):PS X (.Return (some e) pos) (v4 te):=by
 intro pins s σ H D I h
 exact wpAny_Return_some (aR (he pins s σ H _ I h) λv s1 ⟨x,H1,I1,r1,q1⟩=>⟨x,σ,H1,I1,r1,q1⟩)
def F8 (c:TT)(t u:TS):TS:=λD σ H=>c σ H λb H1=>if b=true then t D σ H1 else u D σ H1
theorem av1 {c:Expr}{a b:List Stmt}{tc:TT}(hc:PT X c tc)(ha:dY X a t)(hb:dY X b u):PS X (.If c a b pos) (F8 tc t u):=by
 intro pins s σ H D I h
 refine wpAny_If (aR (hc pins s σ H _ I h) λd s1 ⟨H1,I1,q1⟩=>?_)
 cases d with
 |true=>exact ha pins s1 σ H1 D I1 q1
 |false=>exact hb pins s1 σ H1 D I1 q1
def av2:TS:=λ_ _ _=>False
theorem av3:PS X st av2:=λ_ _ _ _ _ _ h=>h.elim
end
abbrev TG:=V->St->Hp->(St->Hp->Prop)->Prop
abbrev lR:=List V->St->Hp->(St->Hp->Prop)->Prop
def PG (X:Cx)(target:Expr)(t:TG):Prop:=
 ∀(pins:List (Addr×Obj)) (s:Shared) (σ:St) (H:Hp) (v:V) (u:Value) (Q:St->Hp->Prop),a7 X pins σ H s->b6 v u->t v σ H Q->
  wpAny (model X.prog X.w) X.A (assign target X.env u) (λ_ s'=>∃σ' H',a7 X pins σ' H' s'/\Q σ' H') X.xe s
def r9 (X:Cx)(ts:List Expr)(t:lR):Prop:=
 ∀(pins:List (Addr×Obj)) (s:Shared) (σ:St) (H:Hp) (vs:List V) (us:List Value) (Q:St->Hp->Prop),a7 X pins σ H s->aO vs us->t vs σ H Q->
  wpAny (model X.prog X.w) X.A (assignInOrder ((assignEach ts X.env).map (·.2)) us) (λ_ s'=>∃σ' H',a7 X pins σ' H' s'/\Q σ' H') X.xe s
section
variable {X:Cx}{pos:Pos}
def dL (i:Nat):TG:=λv σ H Q=>Q (σ.set i (some v)) H
theorem j9 {i:Nat}{x:Str}(hN:X.N.Nodup)(hi:X.N[i]? = some x)(hx:j8 X.env.scope x)(hf:X.fn x=true∨X.env.scope.names.lookup x=some .local:=by first|exact .inl rfl|exact .inr rfl|assumption):PG X (.Name x pos) (dL i):=by
 intro pins s σ H v u Q I r h
 exact wpAny_assign_Name (uY I hN hi hx r (λs' I'=>⟨_,H,I',h⟩) hf)
def oP:lR:=λvs σ H Q=>vs = []/\Q σ H
def jP (t:TG)(u:lR):lR:=λvs σ H Q=>∃v r,vs=v::r/\t v σ H λσ' H'=>u r σ' H' Q
theorem v8:r9 X [] oP:=by
 intro pins s σ H vs us Q I r h
 obtain⟨e,h⟩:=h
 subst e
 cases r
 exact assignInOrder_nil ⟨σ,H,I,h⟩
theorem mS {e:Expr}{es:List Expr}{t:TG}{u:lR}(h1:PG X e t)(h2:r9 X es u)(hs:(assignEach (e::es) X.env).map (·.2)=assign e X.env::(assignEach es X.env).map (·.2):=by rfl):r9 X (e::es) (jP t u):=by
 intro pins s σ H vs us Q I r h
 obtain⟨v,vr,e1,h⟩:=h
 subst e1
 cases r with
 |cons r rr=>
  rw[hs]
  refine assignInOrder_cons (aR (h1 pins s σ H _ _ _ I r h) λ_ s1 ⟨σ1,H1,I1,q1⟩=>?_)
  exact h2 pins s1 σ1 H1 _ _ Q I1 rr q1
def oQ (K:ad)(n:Nat)(t:lR):TG:=λv σ H Q=>∃a xs,v = .ref a/\aH K H a xs/\xs.length=n/\t xs σ H Q
theorem v9 {es:List Expr}{k:Nat}{t:lR}{n:Nat}(hc:X.calm=true)(h:r9 X es t)(hn:(assignEach es X.env).length=n:=by rfl)(hst:(assignEach es X.env).findIdx? (·.1)=none:=by rfl):PG X (.Tuple es k pos) (oQ X.K n t):=by
 intro pins s σ H v u Q I r hw
 obtain⟨a,xs,e1,hq,hl,hw⟩:=hw
 subst e1
 cases r
 obtain⟨its,rv,ht,hz⟩:=I.tuple hq
 refine assign_Tuple_tuple (I.ok.hd hc) ht (by simp[hn,<- hl,rv.length]) hst λh' hx=>?_
 have I1:a7 X pins σ H { s with heap:=h' }:=I.kept (t':=s.toks) λb o e=>hx b o (bD4 (bB2 e)) e
 exact h pins _ σ H xs _ Q I1 (by simpa using rv) hw
def mT (te:TE)(g:TG):TS:=λD σ H=>te σ H λx H1=>g x σ H1 D.nx
theorem vA {i:Nat}{x:Str}{e:Expr}{te:TE}{pos':Pos}(hN:X.N.Nodup)(hi:X.N[i]? = some x)(hx:j8 X.env.scope x)(he:PE X e te)(hs:swapsWith e (some (.Name x pos')) pos.line X.env=pure false:=by rfl)(hf:X.fn x=true∨X.env.scope.names.lookup x=some .local:=by first|exact .inl rfl|exact .inr rfl|assumption) :
  PS X (.Assign [.Name x pos'] e pos) (mT te (dL i)):=by
 intro pins s σ H D I h
 refine wpAny_Assign_Name (aR (he pins s σ H _ I h) λv s1 ⟨y,H1,I1,r1,q1⟩=>?_) hs
 exact uY I1 hN hi hx r1 (λs2 I2=>⟨_,H1,I2,q1⟩) hf
end
section
variable {X:Cx}{pos:Pos}
def F9 (c:TT)(tb:TS):TS:=λD σ H=>∃W:Nat->St->Hp->Prop,(∃m,W m σ H)/\∀m σ H,W m σ H->
 c σ H λb H1=>if b=true then ∃N:St->Hp->Prop,(∀σ' H',N σ' H'->∃m',m'<m/\W m' σ' H')/\tb { D with nx:=N,ct:=N,bk:=D.nx } σ H1 else D.nx σ H1
theorem av4 {c:Expr}{body:List Stmt}{tc:TT}{tb:TS}(hp:PassesOwn (model X.prog X.w) X.A X.env X.xe)(hc:PT X c tc)(hb:dY X body tb):PS X (.While c body [] pos) (F9 tc tb):=by
 intro pins s σ H D I h
 obtain⟨W,⟨m0,w0⟩,turn⟩:=h
 refine wpAny_While (codeAny_whileLoop (λn s'=>∃σ' H',a7 X pins σ' H' s'/\W n σ' H') ?_ m0 ⟨σ,H,I,w0⟩)
 rintro n s1 ⟨σ1,H1,I1,w1⟩
 refine bQ0 hp (aR (hc pins s1 σ1 H1 _ I1 (turn n σ1 H1 w1)) λb s2 ⟨H2,I2,q2⟩=>?_)
 cases b with
 |true=>
  obtain⟨N,hN,q2⟩:=q2
  rw[if_pos rfl]
  refine bQ0 hp (aR (hb pins s2 σ1 H2 _ I2 q2) λf s3 q3=>?_)
  cases f with
  |next=>
   obtain⟨σ3,H3,I3,n3⟩:=q3
   obtain⟨m',hm,w3⟩:=hN σ3 H3 n3
   exact⟨m',hm,σ3,H3,I3,w3⟩
  |cont=>
   obtain⟨σ3,H3,I3,n3⟩:=q3
   obtain⟨m',hm,w3⟩:=hN σ3 H3 n3
   exact⟨m',hm,σ3,H3,I3,w3⟩
  |brk=>exact q3
  |ret v=>exact q3
 |false=>
  rw[if_neg bC1]
  exact bP9 ⟨σ1,H2,I2,q2⟩
end
structure It where
 go:Nat->Hp->Prop
 yld:Nat->Hp->V->Hp->Prop
 stop:Nat->Hp->Prop
def gM (X:Cx)(pins:List (Addr×Obj))(H:Hp)(b:Addr):Prop:=
 H b=none/\b≠X.env.locals/\b∉X.fs/\(b∈X.ex∨X.s₀.heap.objs.size<=b)/\(∀x c,X.env.cells.lookup x=some c->c≠b)/\∀p∈X.pn++pins,p.1≠b
theorem a7.fpOk {X:Cx}{pins:List (Addr×Obj)}{σ:St}{H H':Hp}{s:Shared}{b:Addr}(I:a7 X pins σ H s)(hb:s.heap.objs.size<=b)(hn:H' b=none):gM X pins H' b:=by
 refine⟨hn,bJ4 (bC0 I.lt hb),I.nofs hb,.inr (bE8 I.sz hb),λx c e z=>?_,λp hp z=>?_⟩
 ·obtain⟨v,q⟩:=I.cell x c e
  exact absurd (bC0 q.lt (by rw[z];exact hb)) (bF9 _)
 ·exact absurd (bC0 (bB2 (I.pin p hp).1) (by rw[z];exact hb)) (bF9 _)
structure jA (P:Program)(w:World)(K:ad)(tg:Expr)(J:It)(fp:List Addr)(it:Addr)(tn:Nat->Heap->Prop):Prop where
 mem:it∈fp
 obj:∀i h,tn i h->∀b∈fp,∃o,h.get? b=some o/\∀v,o.data≠.cell v
 keep:∀i h h',tn i h->(∀b∈fp,∀o,h.get? b=some o->h'.get? b=some o)->tn i h'
 item:∀(X:Cx),X.prog=P->X.w=w->X.K=K->X.calm=true->∀(i:Nat) (pins:List (Addr×Obj)) (s:Shared) (σ:St) (H:Hp) (E:Value->Shared->Prop),a7 X pins σ H s->(∀b∈fp,gM X pins H b)->tn i s.heap->J.go i H->
  wpAny (model P w) X.A (pyNext (.ref it)) (λr s1=>∃u,r=some u/\
   wpAny (model P w) X.A (letOwnedTupleGo tg (.ref it) u) (λ_ s2=>∃x H',a7 X pins σ H' s2/\b6 x u/\J.yld i H x H'/\tn (i+1) s2.heap/\∀b∈fp,H' b=none) E s1) E s
 done:∀(X:Cx),X.prog=P->X.w=w->X.K=K->X.calm=true->∀(i:Nat) (pins:List (Addr×Obj)) (s:Shared) (σ:St) (H:Hp) (E:Value->Shared->Prop),a7 X pins σ H s->(∀b∈fp,gM X pins H b)->tn i s.heap->J.stop i H->
  wpAny (model P w) X.A (pyNext (.ref it)) (λr s1=>r=none/\a7 X pins σ H s1) E s
 self:∀(A:Around) (i:Nat) (s:Shared) (Q:Value->Shared->Prop) (E:Value->Shared->Prop),tn i s.heap->Q (.ref it) s->wpAny (model P w) A (pyIter (.ref it)) Q E s
abbrev TI:=St->Hp->(It->Hp->Prop)->Prop
def G0 (X:Cx)(pins:List (Addr×Obj))(σ:St)(tg:Expr)(R:It->Hp->Prop)(itv:Value)(s2:Shared):Prop:=
 ∃(it:Addr) (fp:List Addr) (tn:Nat->Heap->Prop) (J:It) (H':Hp),itv = .ref it/\a7 X pins σ H' s2/\jA X.prog X.w X.K tg J fp it tn/\tn 0 s2.heap/\(∀b∈fp,gM X pins H' b)/\R J H'
def PI (X:Cx)(tg iter:Expr)(wi:TI):Prop:=
 ∀(pins:List (Addr×Obj)) (s:Shared) (σ:St) (H:Hp) (R:It->Hp->Prop),a7 X pins σ H s->wi σ H R->
  wpAny (model X.prog X.w) X.A (eval iter X.env) (λv s1=>wpAny (model X.prog X.w) X.A (pyIter v) (G0 X pins σ tg R) X.xe s1) X.xe s
theorem vB {M:Model}{A:Around}{E:Value->Shared->Prop}{s:Shared}{tg:Expr}{it:Addr}{u:Value}{o:Obj}{n:String}{vs:Array Value}{Q:Unit->Shared->Prop}(ho:s.heap.get? it=some o)(hc:o.cls = .type n)(hd:o.data = .fields vs)(hn:["enumerate","zip","dict_itemiterator","dict_reverseitemiterator","odict_iterator","itertools.zip_longest","itertools.pairwise"].contains n=false)(hQ:Q () s):wpAny M A (letOwnedTupleGo tg (.ref it) u) Q E s:=by
  unfold letOwnedTupleGo
  cases tg<;>first
    |exact bA8 hQ
    |(cases u<;>first
        |exact bA8 hQ
        | (refine bz7 (wpAny_load ho ?_)
           rw[hc,hd]
           show wpAny M A (if (["enumerate","zip","dict_itemiterator","dict_reverseitemiterator","odict_iterator","itertools.zip_longest","itertools.pairwise"].contains n&&vs[0]?==some (rawInt _))=true then _ else _) Q E s
           rw[if_neg (by intro h;rw[hn,bN9]at h;cases h)]
           exact bA8 hQ))
def mU (K:ad)(a:Addr):It:=
 ⟨λi H=>∃xs x,aQ K H a xs/\xs[i]? = some x,λi H x H'=>H'=H/\∀xs,aQ K H a xs->xs[i]? = some x,λi H=>∃xs,aQ K H a xs/\xs.length<=i⟩
def kW (K:ad)(a:Addr):It:=
 ⟨λi H=>∃xs x,aH K H a xs/\xs[i]? = some x,λi H x H'=>H'=H/\∀xs,aH K H a xs->xs[i]? = some x,λi H=>∃xs,aH K H a xs/\xs.length<=i⟩
def oR (lo:Int)(n:Nat):It:=⟨λi _=>i<n,λi H x H'=>H'=H/\x = .int (lo+i),λi _=>n<=i⟩
theorem av5 {P:Program}{w:World}{K:ad}{tg:Expr}(a it:Addr):jA P w K tg (mU K a) [it] it (λi h=>h.IsListIter it a i) where
 mem:=by simp
 obj:=λi h st b hb=>by
  have e:b=it:=by simpa using hb
  subst e
  obtain⟨o,e,c,d⟩:=st
  exact⟨o,e,λv z=>by rw[d]at z;cases z⟩
 keep:=λi h h' st k=>st.at λo e=>k it (by simp) o e
 item:=by
  intro X hP hw hK hc i pins s σ H E I hf st hg
  subst hP hw hK
  obtain⟨xs,x,hq,hx⟩:=hg
  obtain⟨its,rv,p,hz⟩:=I.list hq
  obtain⟨u,hu,ru⟩:=rv.get hx
  obtain⟨f0,f1,f2,f3,f4,f5⟩:=hf it (by simp)
  refine wpAny_pyNext_list_item st p.isList (x:=u) (by simpa using hu) λh' st' sb=>?_
  have I1:a7 X pins σ H { s with heap:=h' }:=I.turned (t':=s.toks) (λb o hb e=>(sb.2 b hb).trans e) f0 f1 f3 f4 f5
  obtain⟨o,e,c,d⟩:=id st'
  exact⟨u,rfl,vB (s:={ s with heap:=h' }) e c d (by decide) ⟨x,H,I1,ru,⟨rfl,λys hy=>by rw[I.list_inj hy hq];exact hx⟩,st',λb hb=>(hf b hb).1⟩⟩
 done:=by
  intro X hP hw hK hc i pins s σ H E I hf st hg
  subst hP hw hK
  obtain⟨xs,hq,hx⟩:=hg
  obtain⟨its,rv,p,hz⟩:=I.list hq
  obtain⟨f0,f1,f2,f3,f4,f5⟩:=hf it (by simp)
  have hl:=rv.length
  exact wpAny_pyNext_list_end (I.ok.hd hc) st p.isList (by simp;omega) λh' eb=>⟨rfl,I.turned (t':=s.toks) (λb o hb e=>eb b o hb e) f0 f1 f3 f4 f5⟩
 self:=λ_ _ _ _ _ st h=>wpAny_pyIter_listiter st h
theorem G1 {P:Program}{w:World}{K:ad}{tg:Expr}(a it:Addr):jA P w K tg (kW K a) [it] it (λi h=>h.IsTupleIter it a i) where
 mem:=by simp
 obj:=λi h st b hb=>by
  have e:b=it:=by simpa using hb
  subst e
  obtain⟨o,e,c,d⟩:=st
  exact⟨o,e,λv z=>by rw[d]at z;cases z⟩
 keep:=λi h h' st k=>st.at λo e=>k it (by simp) o e
 item:=by
  intro X hP hw hK hc i pins s σ H E I hf st hg
  subst hP hw hK
  obtain⟨xs,x,hq,hx⟩:=hg
  obtain⟨its,rv,p,hz⟩:=I.tuple hq
  obtain⟨u,hu,ru⟩:=rv.get hx
  obtain⟨f0,f1,f2,f3,f4,f5⟩:=hf it (by simp)
  refine wpAny_pyNext_tuple_item st (show s.heap.IsTuple a its.toArray from p) (x:=u) (by simpa using hu) λh' st' sb=>?_
  have I1:a7 X pins σ H { s with heap:=h' }:=I.turned (t':=s.toks) (λb o hb e=>(sb.2 b hb).trans e) f0 f1 f3 f4 f5
  obtain⟨o,e,c,d⟩:=id st'
  exact⟨u,rfl,vB (s:={ s with heap:=h' }) e c d (by decide) ⟨x,H,I1,ru,⟨rfl,λys hy=>by rw[I.tuple_inj hy hq];exact hx⟩,st',λb hb=>(hf b hb).1⟩⟩
 done:=by
  intro X hP hw hK hc i pins s σ H E I hf st hg
  subst hP hw hK
  obtain⟨xs,hq,hx⟩:=hg
  obtain⟨its,rv,p,hz⟩:=I.tuple hq
  obtain⟨f0,f1,f2,f3,f4,f5⟩:=hf it (by simp)
  have hl:=rv.length
  exact wpAny_pyNext_tuple_end (I.ok.hd hc) st (show s.heap.IsTuple a its.toArray from p) (by simp;omega) λh' eb=>⟨rfl,I.turned (t':=s.toks) (λb o hb e=>eb b o hb e) f0 f1 f3 f4 f5⟩
 self:=λ_ _ _ _ _ st h=>wpAny_pyIter_tupleiter st h
theorem av6 {P:Program}{w:World}{K:ad}{tg:Expr}(it:Addr)(lo:Int)(n:Nat):jA P w K tg (oR lo n) [it] it (λi h=>IsRangeIter h it (lo+(i:Nat)*1) ((n:Int)-(i:Nat)) 1) where
 mem:=by simp
 obj:=λi h st b hb=>by
  have e:b=it:=by simpa using hb
  subst e
  exact⟨_,st,λv z=>by
   have z':Data.fields _=Data.cell v:=z
   cases z'⟩
 keep:=λi h h' st k=>k it (by simp) _ st
 item:=by
  intro X hP hw hK hc i pins s σ H E I hf st hg
  subst hP hw hK
  obtain⟨f0,f1,f2,f3,f4,f5⟩:=hf it (by simp)
  have W:=Walks.range (prog:=X.prog) (w:=X.w) (I.ok.hd hc) it lo 1 n
  refine W.item i s _ _ hg st λv h' tk hv st' kk=>?_
  obtain⟨t,rfl⟩:=hv
  have I1:a7 X pins σ H { s with heap:=h',toks:=tk }:=I.turned (λb o hb e=>kk b o (by simpa using hb) e) f0 f1 f3 f4 f5
  refine⟨_,rfl,vB (s:={ s with heap:=h',toks:=tk }) (n:="range_iterator") st' rfl rfl (by decide) ⟨.int (lo+i),H,I1,⟨t,?_⟩,⟨rfl,rfl⟩,st',λb hb=>(hf b hb).1⟩⟩
  rw[Int.mul_one]
 done:=by
  intro X hP hw hK hc i pins s σ H E I hf st hg
  subst hP hw hK
  obtain⟨f0,f1,f2,f3,f4,f5⟩:=hf it (by simp)
  exact wpAny_pyNext_range_end (I.ok.hd hc) st (by have:n<=i:=hg;omega) λh' eb=>⟨rfl,I.turned (t':=s.toks) (λb o hb e=>eb b o hb e) f0 f1 f3 f4 f5⟩
 self:=λ_ _ _ _ _ st h=>wpAny_pyIter_rangeiter st h
section
variable {X:Cx}{tg:Expr}
def av7 (K:ad)(tl:TE):TI:=λσ H R=>tl σ H λx H1=>∃a,x = .ref a/\(∃xs,aH K H1 a xs)/\R (kW K a) H1
theorem G2 {l:Expr}{tl:TE}(hl:PE X l tl):PI X tg l (av7 X.K tl):=by
 intro pins s σ H R I h
 refine aR (hl pins s σ H _ I h) λv s1 ⟨x,H1,I1,r1,q1⟩=>?_
 obtain⟨a,e,⟨xs,hq⟩,q⟩:=q1
 subst e
 cases r1
 obtain⟨its,rv,p,hz⟩:=I1.tuple hq
 refine bL7 (show s1.heap.IsTuple a its.toArray from p) ?_
 refine⟨s1.heap.objs.size,[s1.heap.objs.size],_,_,H1,rfl,I1.kept (t':=s1.toks) λb o e=>bz8 _ e,G1 a _,⟨_,bB4 _ rfl,rfl,rfl⟩,λb hb=>?_,q⟩
 have e:b=s1.heap.objs.size:=by simpa using hb
 subst e
 exact I1.fpOk (bA3 _) (I1.hok.fresh (bA3 _))
theorem G3 {pins:List (Addr×Obj)}{σ:St}{H:Hp}{s:Shared}{R:It->Hp->Prop}{E:Value->Shared->Prop}{lo hi:Int}{t u v:Tok}{tk:Nat}(I:a7 X pins σ H s)(h1:-(2^62)<=lo)(h2:lo<2^62)(h3:-(2^62)<=hi)(h4:hi<2^62)(q:R (oR lo (hi-lo).toNat) H):wpAny (model X.prog X.w) X.A (pyIter (.ref s.heap.objs.size)) (G0 X pins σ tg R) E { s with heap:=s.heap.push { cls:=.type "range",data:=.fields #[.int lo t,.int hi u,.int 1 v] },toks:=tk }:=by
 refine wpAny_pyIter_range (IsRange.new ..) (small_one h1 h2 h3 h4) ?_
 have I1:a7 X pins σ H { s with heap:=s.heap.push { cls:=.type "range",data:=.fields #[.int lo t,.int hi u,.int 1 v] },toks:=tk }:=I.kept λb o e=>bz8 _ e
 refine⟨(s.heap.push { cls:=.type "range",data:=.fields #[.int lo t,.int hi u,.int 1 v] }).objs.size,[(s.heap.push { cls:=.type "range",data:=.fields #[.int lo t,.int hi u,.int 1 v] }).objs.size],_,_,H,rfl,
  I1.kept (t':=tk) λb o e=>bz8 _ e,av6 _ lo (hi-lo).toNat,?_,λb hb=>?_,q⟩
 ·have e1:lo+((0:Nat):Int)*1=lo:=by simp
  have e2:(((hi-lo).toNat:Nat):Int)-((0:Nat):Int)=Builtin.Range.rangeSize lo hi 1:=by rw[rangeSize_one];split<;>omega
  show IsRangeIter _ _ (lo+((0:Nat):Int)*1) ((((hi-lo).toNat:Nat):Int)-((0:Nat):Int)) 1
  rw[e1,e2]
  exact bB4 _ rfl
 ·have e:b=(s.heap.push { cls:=.type "range",data:=.fields #[.int lo t,.int hi u,.int 1 v] }).objs.size:=by simpa using hb
  subst e
  exact I1.fpOk (bA3 _) (I1.hok.fresh (bA3 _))
def G4 (ta:TA):TI:=λσ H R=>ta σ H λvs H1=>∃j:Int,vs = [.int j]/\-(2^62)<=j/\j<2^62/\R (oR 0 j.toNat) H1
def G5 (ta:TA):TI:=λσ H R=>ta σ H λvs H1=>∃i j:Int,vs = [.int i,.int j]/\(-(2^62)<=i/\i<2^62/\-(2^62)<=j/\j<2^62)/\R (oR i (j-i).toNat) H1
theorem av8 {a:Expr}{ta:TA}{p pos:Pos}(hg:Gl X "range")(hm:X.mg "range" = none)(ha:PA X [a] ta)(hs:starEach [a] X.env = [(false,eval a X.env)]:=by rfl):PI X tg (.Call (.Name "range" p) [a] [] pos) (G4 ta):=by
 intro pins s σ H R I h
 refine Call_ (kU I hg hm boot_range (bK0 (aR (ha pos pins s σ H _ I h) λus s1 ⟨vs,H1,I1,r1,q1⟩=>?_) hs rfl))
 obtain⟨j,e,q1,q2,q⟩:=q1
 subst e
 cases r1 with
 |cons r rr=>
  cases rr
  obtain⟨t,rfl⟩:=r
  exact call_range_1 (G3 I1 (by omega) (by omega) q1 q2 (by simpa using q))
theorem av9 {a b:Expr}{ta:TA}{p pos:Pos}(hg:Gl X "range")(hm:X.mg "range" = none)(ha:PA X [a,b] ta)(hs:starEach [a,b] X.env = [(false,eval a X.env),(false,eval b X.env)]:=by rfl)(hs2:starEach [b] X.env = [(false,eval b X.env)]:=by rfl) :
  PI X tg (.Call (.Name "range" p) [a,b] [] pos) (G5 ta):=by
 intro pins s σ H R I h
 refine Call_ (kU I hg hm boot_range (bK0 (aR (ha pos pins s σ H _ I h) λus s1 ⟨vs,H1,I1,r1,q1⟩=>?_) (by rw[hs,hs2]) (by rw[hs2];rfl)))
 obtain⟨i,j,e,⟨q1,q2,q3,q4⟩,q⟩:=q1
 subst e
 cases r1 with
 |cons r rr=>
  cases rr with
  |cons r' rr=>
   cases rr
   obtain⟨t,rfl⟩:=r
   obtain⟨t',rfl⟩:=r'
   exact call_range_2 (G3 I1 q1 q2 q3 q4 q)
def G6 (wi:TI)(g:TG)(tb:TS):TS:=λD σ H=>wi σ H λJ H1=>∃W:Nat->Nat->St->Hp->Prop,(∃m,W 0 m σ H1)/\∀i m σ H,W i m σ H->
 (J.stop i H/\D.nx σ H)∨(J.go i H/\∃N:St->Hp->Prop,(∀σ' H',N σ' H'->∃m',m'<m/\W (i+1) m' σ' H')/\∀x H',J.yld i H x H'->g x σ H' λσ2 H2=>tb { D with nx:=N,ct:=N,bk:=D.nx } σ2 H2)
def oS (fp:List Addr)(h:Heap):List (Addr×Obj):=fp.filterMap λb=>(h.get? b).map λo=>(b,o)
theorem rA {fp:List Addr}{h:Heap}{b:Addr}{o:Obj}(hb:b∈fp)(e:h.get? b=some o):(b,o)∈oS fp h:=List.mem_filterMap.mpr ⟨b,hb,by rw[e];rfl⟩
theorem aw0 {fp:List Addr}{h:Heap}{p:Addr×Obj}(hp:p∈oS fp h):p.1∈fp/\h.get? p.1=some p.2:=by
 obtain⟨b,hb,e⟩:=List.mem_filterMap.mp hp
 cases q:h.get? b with
 |none=>rw[q]at e;cases e
 |some o=>
  rw[q]at e
  have e':(b,o)=p:=bE0 e
  subst e'
  exact⟨hb,q⟩
theorem a7.pinned {pins:List (Addr×Obj)}{σ:St}{H:Hp}{s:Shared}{fp:List Addr}(I:a7 X pins σ H s)(hf:∀b∈fp,gM X pins H b)(ho:∀b∈fp,∃o,s.heap.get? b=some o/\∀v,o.data≠.cell v):a7 X (pins++oS fp s.heap) σ H s:=
 I.pins_of λp hp=>(bB8.mp hp).elim (λz=>I.pin p (bD1 _ z)) λz=>by
  obtain⟨hb,e⟩:=aw0 z
  obtain⟨f0,f1,f2,_⟩:=hf p.1 hb
  obtain⟨o,e',d⟩:=ho p.1 hb
  rw[e]at e';cases e'
  exact⟨e,f0,f1,f2,d⟩
theorem a7.unpinned {pins pl:List (Addr×Obj)}{σ:St}{H:Hp}{s:Shared}(I:a7 X (pins++pl) σ H s):a7 X pins σ H s:=I.pins_of λp hp=>I.pin p (bD1 _ (bD2 _ hp))
theorem G7 {iter:Expr}{body:List Stmt}{wi:TI}{g:TG}{tb:TS}{pos:Pos}(hp:PassesOwn (model X.prog X.w) X.A X.env X.xe)(hc:X.calm=true)(hi:PI X tg iter wi)(hg:PG X tg g)(hb:dY X body tb)(hs:∀x,foldedSetIterable iter X.env x=pure x:=by intro _;rfl):PS X (.For tg iter body [] pos) (G6 wi g tb):=by
 intro pins s σ H D I h
 refine wpAny_For (aR (hi pins s σ H _ I h) λv s1 h1=>aR h1 λitv s2 h2=>?_) hs
 obtain⟨it,fp,tn,J,H2,e,I2,T,st2,f2,W,⟨m0,w0⟩,turn⟩:=h2
 subst e
 have stat:∀{H':Hp},(∀b∈fp,H' b=none)->∀b∈fp,gM X pins H' b:=λhn b hb=>⟨hn b hb,(f2 b hb).2⟩
 refine codeAny_forLoop_any (λn s'=>∃i σ' H',a7 X pins σ' H' s'/\tn i s'.heap/\(∀b∈fp,H' b=none)/\W i n σ' H') ?_ m0 ⟨0,σ,H2,I2,st2,λb hb=>(f2 b hb).1,w0⟩
 rintro n s3 ⟨i,σ3,H3,I3,st3,fr3,w3⟩
 rcases turn i n σ3 H3 w3 with⟨stop,qn⟩|⟨go,N,hN,step⟩
 ·refine bQ0 hp (aR (T.done X rfl rfl rfl hc i pins s3 σ3 H3 X.xe I3 (stat fr3) st3 stop) λr s4 ⟨hr,I4⟩=>?_)
  subst hr
  exact bP9 ⟨σ3,H3,I4,qn⟩
 ·refine bQ0 hp (aR (T.item X rfl rfl rfl hc i pins s3 σ3 H3 X.xe I3 (stat fr3) st3 go) λr s4 ⟨u,hr,h4⟩=>?_)
  subst hr
  refine bQ0 hp (aR h4 λ_ s5 ⟨x,H5,I5,r5,y5,st5,fr5⟩=>?_)
  have I5':=I5.pinned (stat fr5) (T.obj _ _ st5)
  refine bQ0 hp (aR (hg _ s5 σ3 H5 x u _ I5' r5 (step x H5 y5)) λ_ s6 ⟨σ6,H6,I6,q6⟩=>?_)
  refine bQ0 hp (aR (hb _ s6 σ6 H6 _ I6 q6) λf s7 q7=>?_)
  have again:∀{σ7:St}{H7:Hp},a7 X (pins++oS fp s5.heap) σ7 H7 s7->N σ7 H7->∃m,m<n/\∃i σ' H',a7 X pins σ' H' s7/\tn i s7.heap/\(∀b∈fp,H' b=none)/\W i m σ' H':=λ{σ7 H7} I7 n7=>by
   obtain⟨m',hm,w7⟩:=hN σ7 H7 n7
   refine⟨m',hm,i+1,σ7,H7,I7.unpinned,T.keep _ _ _ st5 λb hb o e=>(I7.pin (b,o) (bD1 _ (bD1 _ (rA hb e)))).1,λb hb=>?_,w7⟩
   obtain⟨o,e,d⟩:=T.obj _ _ st5 b hb
   exact (I7.pin (b,o) (bD1 _ (bD1 _ (rA hb e)))).2.1
  cases f with
  |next=>obtain⟨σ7,H7,I7,n7⟩:=q7;exact again I7 n7
  |cont=>obtain⟨σ7,H7,I7,n7⟩:=q7;exact again I7 n7
  |brk=>obtain⟨σ7,H7,I7,q7⟩:=q7;exact⟨σ7,H7,I7.unpinned,q7⟩
  |ret v=>obtain⟨x7,σ7,H7,I7,r7,q7⟩:=q7;exact⟨x7,σ7,H7,I7.unpinned,r7,q7⟩
end
theorem bz3 {K:ad}{a:Addr}{xs:List V}{g:TG}{tb:TS}{D:cP}{σ:St}{H:Hp}(Pv:Nat->St->Hp->Prop)(h0:Pv 0 σ H)(hl:∀i σ H,i<=xs.length->Pv i σ H->aQ K H a xs)(hs:∀i x σ H,xs[i]? = some x->Pv i σ H->g x σ H λσ2 H2=>tb { D with nx:=Pv (i+1),ct:=Pv (i+1),bk:=D.nx } σ2 H2)(hd:∀σ H,Pv xs.length σ H->D.nx σ H) :
  ∃W:Nat->Nat->St->Hp->Prop,(∃m,W 0 m σ H)/\∀i m σ H,W i m σ H->
   ((mU K a).stop i H/\D.nx σ H)∨((mU K a).go i H/\∃N:St->Hp->Prop,(∀σ' H',N σ' H'->∃m',m'<m/\W (i+1) m' σ' H')/\∀x H',(mU K a).yld i H x H'->g x σ H' λσ2 H2=>tb { D with nx:=N,ct:=N,bk:=D.nx } σ2 H2):=by
 refine⟨λi m σ H=>m=xs.length-i/\i<=xs.length/\Pv i σ H,⟨xs.length,by simp,bE9 _,h0⟩,?_⟩
 rintro i m σ H ⟨rfl,hi,p⟩
 have q:=hl i σ H hi p
 by_cases hlt:i<xs.length
 ·refine .inr ⟨⟨xs,xs[i],q,by simp[hlt]⟩,Pv (i+1),λσ' H' p'=>⟨xs.length-(i+1),by omega,rfl,hlt,p'⟩,λx H' y=>?_⟩
  obtain⟨e,y⟩:=y
  subst e
  exact hs i x σ _ (y xs q) p
 ·have e:i=xs.length:=by omega
  subst e
  exact .inl ⟨⟨xs,q,bA3 _⟩,hd σ H p⟩
theorem aw1 {K:ad}{a:Addr}{xs:List V}{g:TG}{tb:TS}{D:cP}{σ:St}{H:Hp}(Pv:Nat->St->Hp->Prop)(h0:Pv 0 σ H)(hl:∀i σ H,i<=xs.length->Pv i σ H->aH K H a xs)(hs:∀i x σ H,xs[i]? = some x->Pv i σ H->g x σ H λσ2 H2=>tb { D with nx:=Pv (i+1),ct:=Pv (i+1),bk:=D.nx } σ2 H2)(hd:∀σ H,Pv xs.length σ H->D.nx σ H) :
  ∃W:Nat->Nat->St->Hp->Prop,(∃m,W 0 m σ H)/\∀i m σ H,W i m σ H->
   ((kW K a).stop i H/\D.nx σ H)∨((kW K a).go i H/\∃N:St->Hp->Prop,(∀σ' H',N σ' H'->∃m',m'<m/\W (i+1) m' σ' H')/\∀x H',(kW K a).yld i H x H'->g x σ H' λσ2 H2=>tb { D with nx:=N,ct:=N,bk:=D.nx } σ2 H2):=by
 refine⟨λi m σ H=>m=xs.length-i/\i<=xs.length/\Pv i σ H,⟨xs.length,by simp,bE9 _,h0⟩,?_⟩
 rintro i m σ H ⟨rfl,hi,p⟩
 have q:=hl i σ H hi p
 by_cases hlt:i<xs.length
 ·refine .inr ⟨⟨xs,xs[i],q,by simp[hlt]⟩,Pv (i+1),λσ' H' p'=>⟨xs.length-(i+1),by omega,rfl,hlt,p'⟩,λx H' y=>?_⟩
  obtain⟨e,y⟩:=y
  subst e
  exact hs i x σ _ (y xs q) p
 ·have e:i=xs.length:=by omega
  subst e
  exact .inl ⟨⟨xs,q,bA3 _⟩,hd σ H p⟩
abbrev R2:=V->V->Hp->VK->Prop
def c9 (X:Cx)(f:Value->Value->Sem Value)(r:R2):Prop:=
 ∀(pins:List (Addr×Obj)) (s:Shared) (σ:St) (H:Hp) (x y:V) (v u:Value) (Q:VK),a7 X pins σ H s->b6 x v->b6 y u->r x y H Q->
  wpAny (model X.prog X.w) X.A (f v u) (EP X pins σ Q) X.xe s
def vC (X:Cx)(f:Value->Sem Value)(r:V->Hp->VK->Prop):Prop:=
 ∀(pins:List (Addr×Obj)) (s:Shared) (σ:St) (H:Hp) (x:V) (v:Value) (Q:VK),a7 X pins σ H s->b6 x v->r x H Q->
  wpAny (model X.prog X.w) X.A (f v) (EP X pins σ Q) X.xe s
def cN (X:Cx)(f:Value)(r:List V->Hp->VK->Prop):Prop:=
 ∀(pins:List (Addr×Obj)) (s:Shared) (σ:St) (H:Hp) (xs:List V) (us:List Value) (Q:VK),a7 X pins σ H s->aO xs us->r xs H Q->
  wpAny (model X.prog X.w) X.A (call f us) (EP X pins σ Q) X.xe s
def aw2 (X:Cx)(r:V->Hp->(Bool->Hp->Prop)->Prop):Prop:=
 ∀(pins:List (Addr×Obj)) (s:Shared) (σ:St) (H:Hp) (x:V) (v:Value) (Q:Bool->Hp->Prop),a7 X pins σ H s->b6 x v->r x H Q->
  wpAny (model X.prog X.w) X.A (truthy v) (TP X pins σ Q) X.xe s
def oT (r:R2)(ta tb:TE):TE:=λσ H Q=>ta σ H λx H1=>tb σ H1 λy H2=>r x y H2 Q
def tUn (r:V->Hp->VK->Prop)(ta:TE):TE:=λσ H Q=>ta σ H λx H1=>r x H1 Q
def rI (C:Int->Int->Prop)(g:Int->Int->V):R2:=λx y H Q=>∃i j,x = .int i/\y = .int j/\C i j/\Q (g i j) H
def jB (g:Int->Int->V):R2:=λx y H Q=>∃i j,x = .int i/\y = .int j/\Q (g i j) H
def rU (g:Int->V):V->Hp->VK->Prop:=λx H Q=>∃i,x = .int i/\Q (g i) H
section
variable {X:Cx}{a b c:Expr}{ta tb tc:TE}{pos:Pos}
theorem vD (ha:PE X a ta)(hb:PE X b tb){pins:List (Addr×Obj)}{s:Shared}{σ:St}{H:Hp}{R:V->V->Hp->Prop}(I:a7 X pins σ H s)(h:ta σ H λx H1=>tb σ H1 λy H2=>R x y H2){Q:Value->Shared->Prop}{f:Value->Value->Sem Value}(hf:∀v u s2 x y H2,a7 X pins σ H2 s2->b6 x v->b6 y u->R x y H2->wpAny (model X.prog X.w) X.A (f v u) Q X.xe s2) :
  wpAny (model X.prog X.w) X.A (eval a X.env) (λv s₁=>wpAny (model X.prog X.w) X.A (eval b X.env) (λu s₂=>wpAny (model X.prog X.w) X.A (f v u) Q X.xe s₂) X.xe s₁) X.xe s:=by
 refine aR (ha pins s σ H _ I h) λv s1 ⟨x,H1,I1,r1,q1⟩=>?_
 refine aR (hb pins s1 σ H1 _ I1 q1) λu s2 ⟨y,H2,I2,r2,q2⟩=>?_
 exact hf v u s2 x y H2 I2 r1 r2 q2
theorem aw3 {op:Operator}{r:R2}(ho:c9 X (binaryOp op) r)(ha:PE X a ta)(hb:PE X b tb):PE X (.BinOp a op b pos) (oT r ta tb):=by
 intro pins s σ H Q I h
 exact wpAny_BinOp (vD ha hb I h λv u s2 x y H2 I2 rx ry q=>ho pins s2 σ H2 x y v u Q I2 rx ry q)
theorem aw4 {op:UnaryOp}{r:V->Hp->VK->Prop}(ho:vC X (unaryOp op) r)(ha:PE X a ta):PE X (.UnaryOp op a pos) (tUn r ta):=by
 intro pins s σ H Q I h
 exact UnaryOp_ (aR (ha pins s σ H _ I h) λv s1 ⟨x,H1,I1,r1,q1⟩=>ho pins s1 σ H1 x v Q I1 r1 q1)
theorem mV {f:Value->Value->Sem Value}{C:Int->Int->Prop}{g:Int->Int->Int}(rule:∀(i j:Int) (t u:Tok) (s:Shared) (Q:Value->Shared->Prop) (E:Value->Shared->Prop),C i j->Q (.int (g i j) s.toks) { s with toks:=s.toks+1 }->wpAny (model X.prog X.w) X.A (f (.int i t) (.int j u)) Q E s) :
  c9 X f (rI C λi j=>.int (g i j)):=by
 intro pins s σ H x y v u Q I rx ry h
 obtain⟨i,j,rfl,rfl,hc,q⟩:=h
 obtain⟨t,rfl⟩:=rx
 obtain⟨t',rfl⟩:=ry
 exact rule i j t t' s _ _ hc ⟨.int (g i j),H,I.tok _,⟨_,rfl⟩,q⟩
theorem G8 {f:Value->Value->Sem Value}{g:Int->Int->Int}(rule:∀(i j:Int) (t u:Tok) (s:Shared) (Q:Value->Shared->Prop) (E:Value->Shared->Prop),Q (.int (g i j) s.toks) { s with toks:=s.toks+1 }->wpAny (model X.prog X.w) X.A (f (.int i t) (.int j u)) Q E s) :
  c9 X f (jB λi j=>.int (g i j)):=by
 intro pins s σ H x y v u Q I rx ry h
 obtain⟨i,j,rfl,rfl,q⟩:=h
 obtain⟨t,rfl⟩:=rx
 obtain⟨t',rfl⟩:=ry
 exact rule i j t t' s _ _ ⟨.int (g i j),H,I.tok _,⟨_,rfl⟩,q⟩
theorem vE {f:Value->Value->Sem Value}{g:Int->Int->Bool}(rule:∀(i j:Int) (t u:Tok) (s:Shared) (Q:Value->Shared->Prop) (E:Value->Shared->Prop),Q (.bool (g i j)) s->wpAny (model X.prog X.w) X.A (f (.int i t) (.int j u)) Q E s) :
  c9 X f (jB λi j=>.bl (g i j)):=by
 intro pins s σ H x y v u Q I rx ry h
 obtain⟨i,j,rfl,rfl,q⟩:=h
 obtain⟨t,rfl⟩:=rx
 obtain⟨t',rfl⟩:=ry
 exact rule i j t t' s _ _ ⟨.bl (g i j),H,I,rfl,q⟩
def vF (i j:Int):Prop:=0<j/\j<1073741824
def mW (i j:Int):Prop:=0<=j/\j<=1000000/\i.natAbs<2^64
def oU (i j:Int):Prop:=(-(2^64)<i/\i<2^64)∨(-(2^64)<j/\j<2^64)
theorem oU.ok {i j:Int}(h:oU i j):IntMulOk i j:=by
 rcases h with⟨h1,h2⟩|⟨h1,h2⟩
 ·exact .of_left (intBits_le_64 h1 h2)
 ·exact .of_right (intBits_le_64 h1 h2)
theorem aw5 (k:Nat):(0:Int)<=2^k:=by
 rw[two_pow_cast]
 exact Int.natCast_nonneg _
theorem aw6:c9 X (binaryOp .Add) (jB λi j=>.int (i+j)):=G8 λ_ _ _ _ _ _ _ q=>add_int q
theorem aw7:c9 X (binaryOp .Sub) (jB λi j=>.int (i-j)):=G8 λ_ _ _ _ _ _ _ q=>sub_int q
theorem aw8:c9 X (binaryOp .Mult) (rI oU λi j=>.int (i*j)):=mV λ_ _ _ _ _ _ _ hc q=>mul_int q hc.ok
theorem aw9:c9 X (binaryOp .FloorDiv) (rI vF λi j=>.int (i/j)):=mV λi j _ _ _ _ _ hc q=>by
 have h1:(0:Int)<j:=hc.1
 have h2:j<1073741824:=hc.2
 exact floordiv_int (by omega) (by rw[Int.fdiv_eq_ediv_of_nonneg i (by omega)];exact q) (.inl (PyProof.noPylong_small (by omega)))
theorem ax0:c9 X (binaryOp .Mod) (rI (λ_ j=>0<j) λi j=>.int (i%j)):=mV λi j _ _ _ _ _ hc q=>by
 have h1:(0:Int)<j:=hc
 exact mod_int' (by omega) (by rw[Int.fmod_eq_emod_of_nonneg i (by omega)];exact q)
theorem ax1:c9 X (binaryOp .Pow) (rI mW λi j=>.int (i^j.toNat)):=mV λ_ _ _ _ _ _ _ hc q=>pow_int_small hc.1 hc.2.1 hc.2.2 q
theorem ax2:c9 X (binaryOp .LShift) (rI mW λi j=>.int (i*2^j.toNat)):=mV λ_ _ _ _ _ _ _ hc q=>lshift_int_small hc.1 hc.2.1 hc.2.2 q
theorem ax3:c9 X (binaryOp .RShift) (rI (λ_ j=>0<=j) λi j=>.int (i/2^j.toNat)):=mV λi j _ _ _ _ _ hc q=>
 rshift_int hc (by rw[Int.fdiv_eq_ediv_of_nonneg i (aw5 _)];exact q)
theorem unI {f:Value->Sem Value}{g:Int->Int}(rule:∀(i:Int) (t:Tok) (s:Shared) (Q:Value->Shared->Prop) (E:Value->Shared->Prop),Q (.int (g i) s.toks) { s with toks:=s.toks+1 }->wpAny (model X.prog X.w) X.A (f (.int i t)) Q E s) :
  vC X f (rU λi=>.int (g i)):=by
 intro pins s σ H x v Q I rx h
 obtain⟨i,rfl,q⟩:=h
 obtain⟨t,rfl⟩:=rx
 exact rule i t s _ _ ⟨.int (g i),H,I.tok _,⟨_,rfl⟩,q⟩
theorem ax4:vC X (unaryOp .USub) (rU λi=>.int (-i)):=unI λ_ _ _ _ _ q=>neg_int q
end
def G9:V->V->Bool
 |.non,.non=>true|.non,.int _=>true|.int _,.non=>true|.non,.bl _=>true|.bl _,.non=>true|.non,.str _=>true|.str _,.non=>true
 |.int _,.int _=>true|.bl _,.bl _=>true|.str _,.str _=>true|.byt _,.byt _=>true
 |.int _,.str _=>true|.str _,.int _=>true|.bl _,.str _=>true|.str _,.bl _=>true
 |_,_=>false
def J0:R2:=λx y H Q=>G9 x y=true/\Q (.bl (decide (x=y))) H
def J1:R2:=λx y H Q=>G9 x y=true/\Q (.bl (!decide (x=y))) H
theorem J2 {i j:Int}:decide (V.int i=V.int j)=(i==j):=by
 rw[bF1]
 simp
theorem J3 {i j:Bool}:decide (V.bl i=V.bl j)=(i==j):=by
 rw[bF1]
 simp
theorem J4 {i j:Str}:decide (V.str i=V.str j)=(i==j):=by
 rw[bF1]
 simp
theorem J5 {i j:Array UInt8}:decide (V.byt i=V.byt j)=(i.toList==j.toList):=by
 rw[bF1]
 cases i
 cases j
 simp
section
variable {X:Cx}{a b c:Expr}{ta tb tc:TE}{pos:Pos}
theorem cE {pins:List (Addr×Obj)}{σ:St}{H:Hp}{s:Shared}{Q:VK}{k k':Bool}(I:a7 X pins σ H s)(q:Q (.bl k) H)(e:k=k'):EP X pins σ Q (.bool k') s:=by
 subst e
 exact⟨.bl k,H,I,rfl,q⟩
theorem J6:c9 X (compareOp .Eq) J0:=by
 intro pins s σ H x y v u Q I rx ry h
 obtain⟨hs,q⟩:=h
 cases x with
 |non=>
  cases rx
  cases y with
  |non=>cases ry;exact PySem.EqNone.eq_none_none (cE I q (by simp))
  |bl j=>cases ry;exact PySem.EqNone.eq_none_bool (cE I q (by simp))
  |int j=>obtain⟨t',rfl⟩:=ry;exact PySem.EqNone.eq_none_int (cE I q (by simp))
  |str j=>obtain⟨t',rfl⟩:=ry;exact PySem.EqNone.eq_none_str (cE I q (by simp))
  |_=>exact absurd (show false=true from hs) bC1
 |bl i=>
  cases rx
  cases y with
  |non=>cases ry;exact PySem.EqNone.eq_bool_none (cE I q (by simp))
  |bl j=>cases ry;exact eq_bool (cE I q J3)
  |str j=>obtain⟨t',rfl⟩:=ry;exact PySem.EqMixed.eq_bool_str (cE I q (by simp))
  |_=>exact absurd (show false=true from hs) bC1
 |int i=>
  obtain⟨t,rfl⟩:=rx
  cases y with
  |non=>cases ry;exact PySem.EqNone.eq_int_none (cE I q (by simp))
  |int j=>obtain⟨t',rfl⟩:=ry;exact eq_int (cE I q J2)
  |str j=>obtain⟨t',rfl⟩:=ry;exact PySem.EqMixed.eq_int_str (cE I q (by simp))
  |_=>exact absurd (show false=true from hs) bC1
 |str i=>
  obtain⟨t,rfl⟩:=rx
  cases y with
  |non=>cases ry;exact PySem.EqNone.eq_str_none (cE I q (by simp))
  |bl j=>cases ry;exact PySem.EqMixed.eq_str_bool (cE I q (by simp))
  |int j=>obtain⟨t',rfl⟩:=ry;exact PySem.EqMixed.eq_str_int (cE I q (by simp))
  |str j=>obtain⟨t',rfl⟩:=ry;exact eq_str (cE I q J4)
  |_=>exact absurd (show false=true from hs) bC1
 |byt i=>
  obtain⟨t,rfl⟩:=rx
  cases y with
  |byt j=>obtain⟨t',rfl⟩:=ry;exact PySem.W.eq_bytes (cE I q J5)
  |_=>exact absurd (show false=true from hs) bC1
 |_=>cases y<;>exact absurd (show false=true from hs) bC1
theorem ax5:c9 X (compareOp .NotEq) J1:=by
 intro pins s σ H x y v u Q I rx ry h
 obtain⟨hs,q⟩:=h
 cases x with
 |non=>
  cases rx
  cases y with
  |non=>cases ry;exact PySem.EqNone.ne_none_none (cE I q (by simp))
  |bl j=>cases ry;exact PySem.EqNone.ne_none_bool (cE I q (by simp))
  |int j=>obtain⟨t',rfl⟩:=ry;exact PySem.EqNone.ne_none_int (cE I q (by simp))
  |str j=>obtain⟨t',rfl⟩:=ry;exact PySem.EqNone.ne_none_str (cE I q (by simp))
  |_=>exact absurd (show false=true from hs) bC1
 |bl i=>
  cases rx
  cases y with
  |non=>cases ry;exact PySem.EqNone.ne_bool_none (cE I q (by simp))
  |bl j=>cases ry;exact ne_bool (cE I q (congrArg not J3))
  |str j=>obtain⟨t',rfl⟩:=ry;exact PySem.EqMixed.ne_bool_str (cE I q (by simp))
  |_=>exact absurd (show false=true from hs) bC1
 |int i=>
  obtain⟨t,rfl⟩:=rx
  cases y with
  |non=>cases ry;exact PySem.EqNone.ne_int_none (cE I q (by simp))
  |int j=>obtain⟨t',rfl⟩:=ry;exact ne_int (cE I q (congrArg not J2))
  |str j=>obtain⟨t',rfl⟩:=ry;exact PySem.EqMixed.ne_int_str (cE I q (by simp))
  |_=>exact absurd (show false=true from hs) bC1
 |str i=>
  obtain⟨t,rfl⟩:=rx
  cases y with
  |non=>cases ry;exact PySem.EqNone.ne_str_none (cE I q (by simp))
  |bl j=>cases ry;exact PySem.EqMixed.ne_str_bool (cE I q (by simp))
  |int j=>obtain⟨t',rfl⟩:=ry;exact PySem.EqMixed.ne_str_int (cE I q (by simp))
  |str j=>obtain⟨t',rfl⟩:=ry;exact ne_str (cE I q (congrArg not J4))
  |_=>exact absurd (show false=true from hs) bC1
 |byt i=>
  obtain⟨t,rfl⟩:=rx
  cases y with
  |byt j=>obtain⟨t',rfl⟩:=ry;exact PySem.W.ne_bytes (cE I q (congrArg not J5))
  |_=>exact absurd (show false=true from hs) bC1
 |_=>cases y<;>exact absurd (show false=true from hs) bC1
theorem vG:c9 X (compareOp .Lt) (jB λi j=>.bl (decide (i<j))):=vE λ_ _ _ _ _ _ _ q=>lt_int q
theorem ax6:c9 X (compareOp .Gt) (jB λi j=>.bl (decide (j<i))):=vE λ_ _ _ _ _ _ _ q=>gt_int q
theorem J7:c9 X (compareOp .GtE) (jB λi j=>.bl (decide (j<=i))):=vE λ_ _ _ _ _ _ _ q=>ge_int q
theorem iG (b:Expr){op:CmpOp}(h:op≠.In:=by decide)(h2:op≠.NotIn:=by decide):behindInMarks op b=false:=by
 have e1:(op==CmpOp.In)=false:=by cases op<;>first|rfl|exact absurd rfl h
 have e2:(op==CmpOp.NotIn)=false:=by cases op<;>first|rfl|exact absurd rfl h2
 cases b<;>simp[behindInMarks,e1,e2]
theorem ax7 {op:CmpOp}{r:R2}(ho:c9 X (compareOp op) r)(ha:PE X a ta)(hb:PE X b tb)(hm:behindInMarks op b=false):PE X (.Compare a [op] [b] pos) (oT r ta tb):=by
 intro pins s σ H Q I h
 exact wpAny_Compare1 (vD ha hb I h λv u s2 x y H2 I2 rx ry q=>ho pins s2 σ H2 x y v u Q I2 rx ry q) hm
def ax8 (t:TE):TT:=λσ H Q=>t σ H λx H'=>∃k,x = .bl k/\Q k H'
theorem ax9 {op:CmpOp}{r:R2}(ho:c9 X (compareOp op) r)(ha:PE X a ta)(hb:PE X b tb)(hm:behindInMarks op b=false):PT X (.Compare a [op] [b] pos) (ax8 (oT r ta tb)):=by
 intro pins s σ H Q I h
 refine wpAny_isTrue_Compare1 (aR (ha pins s σ H _ I h) λv s1 ⟨x,H1,I1,r1,q1⟩=>aR (hb pins s1 σ H1 _ I1 q1) λu s2 ⟨y,H2,I2,r2,q2⟩=>
  aR (ho pins s2 σ H2 x y v u _ I2 r1 r2 q2) λc s3 ⟨z,H3,I3,r3,k,e,q3⟩=>?_) hm
 subst e
 cases r3
 exact bK6 ⟨H3,I3,q3⟩
def vH (K:ad)(x:V)(H:Hp)(k:Bool):Prop:=
 match x with
 |.non=>k=false
 |.bl b=>k=b
 |.int i=>k=(i != 0)
 |.str y=>y.length<=sizeLine/\k=((y.length:Int) != 0)
 |.byt y=>y.size<=sizeLine/\k=((y.size:Int) != 0)
 |.ref p=>(∃xs,aQ K H p xs/\k = !xs.isEmpty)∨(∃xs,aH K H p xs/\k = !xs.isEmpty)∨∃kvs,H p=some (.dK kvs)/\k = !kvs.isEmpty
 |_=>False
theorem ay0 {κ:Type}{kvs:List (κ×V)}{vs:List (κ×Value)}(r:KV kvs vs):(!vs.isEmpty) = !kvs.isEmpty:=by
 cases r<;>rfl
theorem J8 {xs:List V}{its:List Value}(r:aO xs its):(!its.toArray.isEmpty) = !xs.isEmpty:=by
 cases r<;>simp
theorem oV:(sizeLine:Nat)<2^63:=by rw[sizeLine_eq];decide
theorem ay1:aw2 X (λx H Q=>∃k,vH X.K x H k/\Q k H):=by
 intro pins s σ H x v Q I rx h
 obtain⟨k,e,q⟩:=h
 have hl:=oV
 have hs:sizeLine=16777216:=sizeLine_eq
 cases x with
 |non=>
  cases rx
  have e':k=false:=e
  subst e'
  exact truthy_none ⟨H,I,q⟩
 |bl b=>
  cases rx
  have e':k=b:=e
  subst e'
  exact bK6 ⟨H,I,q⟩
 |int i=>
  obtain⟨t,rfl⟩:=rx
  have e':k=(i != 0):=e
  subst e'
  exact PySem.P.truthy_int ⟨H,I,q⟩
 |str y=>
  obtain⟨t,rfl⟩:=rx
  obtain⟨hy,e'⟩:y.length<=sizeLine/\k=((y.length:Int) != 0):=e
  subst e'
  exact PySem.P.truthy_str (by omega) ⟨H,I.tok _,q⟩
 |byt y=>
  obtain⟨t,rfl⟩:=rx
  obtain⟨hy,e'⟩:y.size<=sizeLine/\k=((y.size:Int) != 0):=e
  subst e'
  exact PySem.W.truthy_bytes (by omega) ⟨H,I.tok _,q⟩
 |ref p=>
  cases rx
  have e':(∃xs,aQ X.K H p xs/\k = !xs.isEmpty)∨(∃xs,aH X.K H p xs/\k = !xs.isEmpty)∨∃kvs,H p=some (.dK kvs)/\k = !kvs.isEmpty:=e
  rcases e' with⟨xs,hx,e'⟩|⟨xs,hx,e'⟩|⟨kvs,hx,e'⟩
  ·subst e'
   obtain⟨its,r,pl,hz⟩:=I.list hx
   have hlen:=r.length
   exact wpAny_truthy_list pl.isList (by simp only[bA2];omega) ⟨H,I.tok _,by rw[J8 r];exact q⟩
  ·subst e'
   obtain⟨its,r,pl,hz⟩:=I.tuple hx
   have hlen:=r.length
   exact truthy_tuple pl (by simp only[bA2];omega) ⟨H,I.tok _,by rw[J8 r];exact q⟩
  ·subst e'
   obtain⟨hz,hS,vs,r,m⟩:kvs.length<=sizeLine/\(p==sysModules)=false/\∃vs,KV kvs vs/\s.heap.DictOf (eB X.prog X.w) p vs:=I.hok p _ hx
   have hlen:kvs.length=vs.length:=Paired.length r
   exact wpAny_truthy_dict hS m (by omega) ⟨H,I.tok _,by rw[ay0 r];exact q⟩
 |_=>exact (show False from e).elim
theorem ay2 (ha:PE X a ta)(he:∀whole,isTrue a X.env whole=(do let v <- whole;standAt a.pos;holding [v] (truthy v))) :
  PT X a (λσ H Q=>ta σ H λx H'=>∃k,vH X.K x H' k/\Q k H'):=by
 intro pins s σ H Q I h
 exact isTrue_plain (aR (ha pins s σ H _ I h) λv s1 ⟨x,H1,I1,r1,q1⟩=>ay1 pins s1 σ H1 x v Q I1 r1 q1) (he _)
theorem eU {x:V}{us:List Value}(r:aO [x] us):∃u,us = [u]/\b6 x u:=by
 cases r with
 |cons r1 r2=>cases r2;exact⟨_,rfl,r1⟩
theorem oW {x y:V}{us:List Value}(r:aO [x,y] us):∃u w',us = [u,w']/\b6 x u/\b6 y w':=by
 cases r with
 |cons r1 r2=>
  cases r2 with
  |cons r3 r4=>cases r4;exact⟨_,_,rfl,r1,r3⟩
theorem ay3 (hc:X.calm=true):cN X (.builtin "max") (λxs H Q=>∃i j,xs = [.int i,.int j]/\Q (.int (if j>i then j else i)) H):=by
 intro pins s σ H xs us Q I r h
 obtain⟨i,j,rfl,q⟩:=h
 obtain⟨u,w',rfl,⟨t,rfl⟩,⟨t',rfl⟩⟩:=oW r
 refine max_two_ints (I.ok.hd hc) λh' tk k=>⟨_,H,I.kept k,?_,q⟩
 by_cases hj:j>i
 ·rw[if_pos hj,if_pos hj];exact⟨_,rfl⟩
 ·rw[if_neg hj,if_neg hj];exact⟨_,rfl⟩
theorem ay4 (hc:X.calm=true):cN X (.builtin "min") (λxs H Q=>∃i j,xs = [.int i,.int j]/\Q (.int (if j<i then j else i)) H):=by
 intro pins s σ H xs us Q I r h
 obtain⟨i,j,rfl,q⟩:=h
 obtain⟨u,w',rfl,⟨t,rfl⟩,⟨t',rfl⟩⟩:=oW r
 refine min_two_ints (I.ok.hd hc) λh' tk k=>⟨_,H,I.kept k,?_,q⟩
 by_cases hj:j<i
 ·rw[if_pos hj,if_pos hj];exact⟨_,rfl⟩
 ·rw[if_neg hj,if_neg hj];exact⟨_,rfl⟩
end
structure vI (h:Heap)(x dx C:Addr)(mA:Str->Option Value):Prop where
 obj:h.get? x=some (PySem.W.instObj C dx)
 ns:h.Ns1 dx mA
 ne:dx≠x
theorem ay5 {h:Heap}{dx:Addr}{mA:Str->Option Value}(n:h.Ns1 dx mA):∃od,h.get? dx=some od/\∀name,PySem.W.lookIn name od=some (mA name):=by
 obtain⟨o,es,ep,ho,hd,hk,_,hm⟩:=n
 refine⟨o,ho,λname=>?_⟩
 have e:=hm name
 unfold nsFind findBy at e
 rw[<- Array.find?_toList]at e
 unfold PySem.W.lookIn
 rw[hd]
 dsimp only
 split
 ·rename_i y q
  rw[q]at e
  exact congrArg some e
 ·rename_i q
  rw[q]at e
  have a:es.toList.any (·.refKey)=false:=by
   rw[List.any_eq_false]
   intro y hy
   obtain⟨z,t,hkey⟩:=hk y (Array.mem_toList_iff.mp hy)
   simp[DictEntry.refKey,hkey]
  have a':¬es.toList.any (·.refKey)=true:=by rw[a];exact bC1
  rw[if_neg a']
  exact congrArg some e
theorem vI.look {h:Heap}{x dx C:Addr}{mA:Str->Option Value}(I:vI h x dx C mA):∃od,PySem.W.InstAt h x (PySem.W.instObj C dx) C (some od)/\∀name,PySem.W.lookIn name od=some (mA name):=
 let ⟨od,ho,hl⟩:=ay5 I.ns
 ⟨od,⟨I.obj,rfl,rfl,ho⟩,hl⟩
section
variable {P:Program}{w:World}{H H':Hp}{h h':Heap}{a C dx:Addr}{fs fs':List (Str×V)}
theorem ay6 (hok:bY P w H h)(e:H a=some (.ins C dx fs)):∃mA,vI h a dx C mA/\(∀f,lP (fs.lookup f) (mA f))/\PySem.Within mA (fs.map (·.1))/\fs.length<=1000/\H dx=some (.own a):=by
 obtain⟨d,z,ne,ob,mA,n,r,q⟩:=(show bR P w H h a (.ins C dx fs) from hok a _ e)
 exact⟨mA,⟨ob,n,ne⟩,r,q,z,d⟩
end
structure vJ (K:ad)(C:Addr):Prop where
 pg:PySem.W.plainGet K C Str.empty=true
 hd:PySem.W.hasDictIn K C=true
 po:PySem.W.plainOver K C=true
 sa:PySem.W.findIn K (.ref C) "__setattr__" = some (some (.builtin "object.__setattr__"))
theorem vJ.get {K:ad}{C:Addr}(c:vJ K C)(f:Str):PySem.W.plainGet K C f=true:=c.pg
section
variable {X:Cx}{pins:List (Addr×Obj)}{σ:St}{H:Hp}{s:Shared}{A:Around}{E:Value→Shared→Prop}{Q:Value→Shared→Prop}{c:Value}{b:Bool}
inductive fV (K:ad)(H:Hp):V->Value->Prop where
 |non:fV K H .non (.type "NoneType")
 |bl (x:Bool):fV K H (.bl x) (.type "bool")
 |int (i:Int):fV K H (.int i) (.type "int")
 |str (x:Str):fV K H (.str x) (.type "str")
 |flt (x:UInt64):fV K H (.flt x) (.type "float")
 |lst {a:Addr}{xs:List V} (e:H a=some (.lst xs)):fV K H (.ref a) (.type "list")
 |frz {a:Addr}{o:Obj}{xs:List V} (e:H a=some (.frz o (.lst xs))):fV K H (.ref a) (.type "list")
 |tup {a:Addr}{xs:List V} (e:H a=some (.tup xs)):fV K H (.ref a) (.type "tuple")
 |dK {a:Addr}{kvs:List (aC×V)} (e:H a=some (.dK kvs)):fV K H (.ref a) (.type "dict")
 |dT {a:Addr}{kvs:List (List aC×V)} (e:H a=some (.dT kvs)):fV K H (.ref a) (.type "dict")
 |ins {a C dx:Addr}{fs:List (Str×V)} (e:H a=some (.ins C dx fs)) (cl:vJ K C) (ha:PySem.W.findIn K (.ref C) "__class__" = some (some (.builtin "object.__class__")))
   (hn:PySem.W.specialIn K (.builtin "object.__class__") "__get__" = some (some (.builtin "getset_descriptor.__get__"))) (htk:PySem.W.takesIn K (.builtin "object.__class__")=some true)
   (hm:PySem.W.mroIn K C (.type "object")=some true):fV K H (.ref a) (.ref C)
theorem ay7 {x:V}{u t:Value}(I:a7 X pins σ H s)(rx:b6 x u)(ty:fV X.K H x t)(e:PySem.W.kitOne X.K t c=some b)(h:∀tk,Q (.bool b) { s with toks:=tk }) :
  wpAny (model X.prog X.w) A (call (.builtin "isinstance") [u,c]) Q E s:=by
 cases ty with
 |non=>cases (show u=Value.none from rx);exact bH7 PySem.W.kitx_none I.kIn bO3 e (λz=>nomatch z) h
 |bl y=>cases (show u=Value.bool y from rx);exact bH7 PySem.W.kitx_bool I.kIn bO3 e (λz=>nomatch z) h
 |int i=>obtain⟨t,q⟩:=(show ∃t,u=Value.int i t from rx);cases q;exact bH7 PySem.W.kitx_int I.kIn bO3 e (λz=>nomatch z) h
 |str y=>obtain⟨t,q⟩:=(show ∃t,u=Value.str y t from rx);cases q;exact bH7 PySem.W.kitx_str I.kIn bO3 e (λz=>nomatch z) h
 |flt y=>obtain⟨t,q⟩:=(show ∃t,u=Value.float y t from rx);cases q;exact bH7 PySem.W.kitx_float I.kIn bO3 e (λz=>nomatch z) h
 |@lst a xs ea=>
  cases (show u=Value.ref a from rx)
  obtain⟨_,_,n,_,h1⟩:=(show bR X.prog X.w H s.heap a (.lst xs) from I.hok a _ ea)
  exact bH7 PySem.W.kitx_list I.kIn ⟨_,h1,rfl⟩ e (λz=>nomatch z) h
 |@frz a ob xs ea=>
  cases (show u=Value.ref a from rx)
  obtain⟨_,_,_,n,_,h1⟩:=(show bR X.prog X.w H s.heap a (.frz ob (.lst xs)) from I.hok a _ ea)
  exact bH7 PySem.W.kitx_list I.kIn ⟨_,h1,rfl⟩ e (λz=>nomatch z) h
 |@tup a xs ea=>
  cases (show u=Value.ref a from rx)
  obtain⟨_,_,_,p,_⟩:=(show bR X.prog X.w H s.heap a (.tup xs) from I.hok a _ ea)
  obtain⟨o,h1,h2,_⟩:=p
  exact bH7 PySem.W.kitx_tuple I.kIn ⟨o,h1,h2⟩ e (λz=>nomatch z) h
 |@dK a kvs ea=>
  cases (show u=Value.ref a from rx)
  obtain⟨_,_,vs,_,p⟩:=(show bR X.prog X.w H s.heap a (.dK kvs) from I.hok a _ ea)
  obtain⟨o,es,ep,h1,h2,_⟩:=p
  exact bH7 PySem.W.kitx_dict I.kIn ⟨o,h1,h2.1⟩ e (λz=>nomatch z) h
 |@dT a kvs ea=>
  cases (show u=Value.ref a from rx)
  obtain⟨_,_,xs,_,o,es,ep,h1,h2,_⟩:=(show bR X.prog X.w H s.heap a (.dT kvs) from I.hok a _ ea)
  exact bH7 PySem.W.kitx_dict I.kIn ⟨o,h1,h2.1⟩ e (λz=>nomatch z) h
 |@ins a C dx fs ea cl ha hn htk hm=>
  cases (show u=Value.ref a from rx)
  obtain⟨mA,O,_⟩:=ay6 I.hok ea
  obtain⟨od,J,_⟩:=O.look
  exact bH7 (PySem.W.kitx_own (cl.get _) cl.hd ha hn htk hm) I.kIn J e (λz=>nomatch z) h
end
structure cF (k:Nat)(A:Around):Prop where
 hd:A.handled=none
 dp:A.depth+3*k+5<recursionLimit
 un:A.units+16*k+200<cLine
theorem cF.mono {j k:Nat}{A:Around}(r:cF k A)(h:j<=k):cF j A:=⟨r.hd,by have:=r.dp;omega,by have:=r.un;omega⟩
theorem cF.deeper {k:Nat}{A:Around}(r:cF (k+1) A)(env:Env):cF k (A.deeper env):=
 ⟨r.hd,by have:=r.dp;show A.depth+1+3*k+5<_;omega,by have:=r.un;show A.units+3+16*k+200<_;omega⟩
theorem cF.depth {k:Nat}{A:Around}(r:cF k A):A.depth<recursionLimit:=by have:=r.dp;omega
theorem cF.units {k:Nat}{A:Around}(r:cF k A):A.units+64<cLine:=by have:=r.un;omega
def kX:TA:=λ_ H Q=>Q [] H
def iH (ta:TE)(tr:TA):TA:=λσ H Q=>ta σ H λx H1=>tr σ H1 λxs H2=>Q (x::xs) H2
section
variable {X:Cx}{e:Expr}{es:List Expr}{te:TE}{t:TA}{pos:Pos}
theorem fW:PA X [] kX:=λ_ _ _ _ H Q I h=>Calls.spliced_nil ⟨[],H,I,.nil,h⟩
theorem eC (ha:PE X e te)(hr:PA X es t)(hs:starEach (e::es) X.env=(false,eval e X.env)::starEach es X.env:=by rfl):PA X (e::es) (iH te t):=by
 intro pos pins s σ H Q I h
 rw[hs]
 show wpAny _ _ (spliced ((false,eval e X.env)::backTo pos (starEach es X.env))) _ _ s
 refine Calls.spliced_cons (aR (ha pins s σ H _ I h) λu s1 ⟨x,H1,I1,r1,q1⟩=>?_)
 exact aR (hr pos pins s1 σ H1 _ I1 q1) λus s2 ⟨xs,H2,I2,r2,q2⟩=>⟨x::xs,H2,I2,.cons r1 r2,q2⟩
def K0 (t:TA):TE:=λσ H Q=>t σ H λxs H1=>xs.length<=sizeLine/\∀p,H1 p=none->Q (.ref p) (upd H1 p (.tup xs))
def K1 (t:TA):TE:=λσ H Q=>t σ H λxs H1=>xs.length<=sizeLine/\∀p,H1 p=none->Q (.ref p) (upd H1 p (.lst xs))
theorem ay8 {x1}(h:PA X es t):PE X (.Tuple es x1 pos) (K0 t):=by
 intro pins s σ H Q I hq
 refine wpAny_Tuple_spliced (aR (h pos pins s σ H _ I hq) λus s1 ⟨xs,H1,I1,r,z,q⟩=>⟨by rw[<- r.length];exact z,?_⟩)
 have hf:H1 s1.heap.objs.size=none:=I1.hok.fresh (bA3 _)
 refine⟨.ref s1.heap.objs.size,upd H1 s1.heap.objs.size (.tup xs),I1.laid (t':=s1.toks) (λb u e=>bz8 _ e) (bA3 _) ?_,rfl,q _ hf⟩
 exact⟨z,us,r,⟨_,bB4 _ rfl,rfl,_,rfl⟩,j7.new _ _ rfl⟩
theorem K2 (h:PA X es t):PE X (.List es pos) (K1 t):=by
 intro pins s σ H Q I hq
 refine wpAny_List_spliced (aR (h pos pins s σ H _ I hq) λus s1 ⟨xs,H1,I1,r,z,q⟩=>⟨by rw[<- r.length];exact z,?_⟩)
 have hf:H1 s1.heap.objs.size=none:=I1.hok.fresh (bA3 _)
 refine⟨.ref s1.heap.objs.size,upd H1 s1.heap.objs.size (.lst xs),I1.laid (t':=s1.toks) (λb u e=>bz8 _ e) (bA3 _) ?_,rfl,q _ hf⟩
 exact⟨z,us,0,r,bB4 _ rfl⟩
end
abbrev Sp:=List V->Hp->VK->XK->Prop
abbrev hZ:=List Env->Hp->Shared->XK->Value->Shared->Prop
structure rB (P:Program)(w:World)(K:ad)(mg:Str->Option Value)(base:Heap)(A:Around)(outer:List Env)(s:Shared)(H:Hp):Prop where
 frames:A.frames=some outer
 mod:Mod K mg base
 bs:∀b o,base.get? b=some o->s.heap.get? b=some o/\H b=none
 bsz:base.objs.size<=s.heap.objs.size
 funs:s.heap.FunFrames base outer
 frf:∀b∈bV outer,H b=none
 hok:bY P w H s.heap
 bare:AllBare s.gens
def CE (outer:List Env)(P:Program)(w:World)(H:Hp)(s:Shared)(Q:VK)(u:Value)(s':Shared):Prop:=
 ∃v H',s'.os=s.os/\AllBare s'.gens/\Un (bV outer) [] H H' s.heap s'.heap/\bY P w H' s'.heap/\b6 v u/\Q v H'
def CR (CX:hZ)(outer:List Env)(P:Program)(w:World)(H:Hp)(s:Shared)(Q:VK)(E:XK)(r:Result)(s':Shared):Prop:=
 match r with
 |.ok (.ret u)=>CE outer P w H s Q u s'
 |.ok _=>False
 |.error e=>CX outer H s E e s'
structure dQ (P:Program)(w:World)(K:ad)(mg:Str->Option Value)(base:Heap)(CX:hZ)(k:Nat)(f:Addr)(fd:FuncData)(ps:List Str)(sp:Sp):Prop where
 len:∀vs H Q E,sp vs H Q E->vs.length=ps.length
 run:∀(A:Around) (outer:List Env) (s:Shared) (H:Hp) (args:Args) (us:List Value) (vs:List V) (Q:VK) (E:XK),cF k A->rB P w K mg base A outer s H->BindsTo s fd args (ps.zip us)->aO vs us->sp vs H Q E->
  codeAny (model P w) A (.call (.ref f) args) (CR CX outer P w H s Q E) s
theorem dQ.imp {P:Program}{w:World}{K:ad}{mg:Str->Option Value}{base:Heap}{CX:hZ}{k:Nat}{f:Addr}{fd:FuncData}{ps:List Str}{sp sp':Sp}(F:dQ P w K mg base CX k f fd ps sp)(h:∀vs H Q E,sp' vs H Q E->sp vs H Q E):dQ P w K mg base CX k f fd ps sp':=
 ⟨λvs H Q E q=>F.len vs H Q E (h _ _ _ _ q),λA outer s H args us vs Q E hr he hb hv hs=>F.run A outer s H args us vs Q E hr he hb hv (h _ _ _ _ hs)⟩
section
variable {X:Cx}{pins:List (Addr×Obj)}{σ:St}{H:Hp}{s s':Shared}
theorem a7.env0 (I:a7 X pins σ H s):rB X.prog X.w X.K X.mg X.base X.A X.stack s H:=
 ⟨I.ok.frames,I.ok.mod,I.bs,bE8 I.ok.bsz I.sz,I.stack,I.stkFree,I.hok,I.bare⟩
theorem a7.after {Q:VK}{u:Value}(I:a7 X pins σ H s)(h:CE X.stack X.prog X.w H s Q u s'):EP X pins σ Q u s':=by
 obtain⟨v,H',os,bare,un,hok,r,q⟩:=h
 obtain⟨hh,g,d,t,os'⟩:=s'
 obtain rfl:os'=s.os:=os
 exact⟨v,H',I.call (h':=hh) (g':=g) (d':=d) (t':=t) (ch:=[]) un hok bare (λb z=>absurd z (by simp)),r,q⟩
end
def vK (sp:Sp)(dvs:List V)(E:XK)(t:TA):TE:=λσ H Q=>t σ H λvs H1=>sp (vs++dvs) H1 Q E
def jQ (K:ad)(fd:FuncData)(ps:List Str)(ds:List Value):Prop:=
 ∀(s:Shared) (us:List Value),K.In s.heap->(us++ds).length=ps.length->BindsTo s fd ⟨us,[]⟩ (ps.zip (us++ds))
theorem jQ.all {K:ad}{fd:FuncData}{ps:List Str}(h:∀us:List Value,us.length=ps.length->bindArgs fd ⟨us,[]⟩=pure (ps.zip us)):jQ K fd ps []:=λs us _ hl=>by
 rw[bD5]at hl ⊢
 exact .of_eq (h us hl)
def oX (CX:hZ)(X:Cx)(E:XK):Prop:=∀(pins:List (Addr×Obj)) (σ:St) (H:Hp) (s:Shared) (e:Value) (s':Shared),a7 X pins σ H s->CX X.stack H s E e s'->X.xe e s'
section
variable {X:Cx}{CX:hZ}{k:Nat}{f C:Addr}{fd:FuncData}{ps:List Str}{sp:Sp}{dvs:List V}{ds:List Value}{E:XK}{x m:Str}{p pos apos:Pos}{e o:Expr}{es:List Expr}{ta:TE}{t:TA}
theorem ay9 {pins:List (Addr×Obj)}{σ:St}{H:Hp}{s:Shared}{Q:VK}{us:List Value}{vs:List V}(F:dQ X.prog X.w X.K X.mg X.base CX k f fd ps sp)(hr:cF k X.A)(hb:jQ X.K fd ps ds)(hd:aO dvs ds)(hx:oX CX X E)(I:a7 X pins σ H s)(r:aO vs us)(h:sp (vs++dvs) H Q E):wpAny (model X.prog X.w) X.A (call (.ref f) us) (EP X pins σ Q) X.xe s:=by
 have r2:aO (vs++dvs) (us++ds):=r.append hd
 have hl:(us++ds).length=ps.length:=by rw[<- r2.length];exact F.len _ _ _ _ h
 refine wpAny_call (codeAny_mono (F.run X.A X.stack s H ⟨us,[]⟩ (us++ds) (vs++dvs) Q E hr I.env0 (hb s us I.kIn hl) r2 h) λr s' hq=>?_)
 cases r with
 |error e=>exact hx pins σ H s e s' I hq
 |ok fl=>
  cases fl with
  |ret u=>exact I.after hq
  |next=>exact False.elim hq
  |brk=>exact False.elim hq
  |cont=>exact False.elim hq
theorem vL (F:dQ X.prog X.w X.K X.mg X.base CX k f fd ps sp)(hr:cF k X.A)(hg:Gl X x)(hm:X.mg x=some (.ref f))(hk:PySem.W.keepIn X.K (.ref f)=true)(hb:jQ X.K fd ps ds)(hd:aO dvs ds)(hx:oX CX X E)(ha:PA X (e::es) t)(hdb:(x==("__debug__":Str))=false:=by decide)(he:starEach (e::es) X.env=(false,eval e X.env)::starEach es X.env:=by rfl)(hpl:(backTo pos (starEach es X.env)).any (·.1)=false:=by rfl) :
  PE X (.Call (.Name x p) (e::es) [] pos) (vK sp dvs E t):=by
 intro pins s σ H Q I h
 refine wpAny_Call_Name_kw (oO I hg hm ?_ hdb)
 refine PySem.W.callWith_K (h₀:=X.base) I.ok.mod.kin hk (aR (ha pos pins s σ H _ I h) λus s1 ⟨vs,H1,I1,r,q⟩=>⟨I1.kIn,?_⟩) he hpl
 exact ay9 F hr hb hd hx I1 r q
end
def PK (X:Cx)(kws:List Keyword)(t:TA):Prop:=
 ∀(pos:Pos) (pins:List (Addr×Obj)) (s:Shared) (σ:St) (H:Hp) (Q:List V->Hp->Prop),a7 X pins σ H s->t σ H Q->wpAny (model X.prog X.w) X.A (evalAll ((backToKw pos (keywordEach kws X.env)).map (·.2))) (AP X pins σ Q) X.xe s
structure FnScope (N P:List Str)(sc:Scope):Prop where
 kind:sc.kind = .function
 co:sc.isCoroutine=false
 gen:sc.isGenerator=false
 nd:N.Nodup
 pre:N.take P.length=P
 par:∀x∈P,sc.names.lookup x=some .local∨sc.names.lookup x=some .cell
 nofree:∀y∈sc.names,y.2≠.free
theorem K3 {kindOf:Str->Option NameKind}{x:Str}:∀{binds:List (Str×Value)}{m:Str->Option Value},(∀v,(x,v)∉binds)->bindL kindOf binds m x=m x
 |[],_,_=>rfl
 |(n,v)::r,m,h=>by
  unfold bindL
  rw[K3 λw hw=>h w (bA9 _ hw)]
  split
  ·have:x≠n:=by rintro rfl;exact h v bA4
   simp[this]
  ·rfl
theorem K4 {kindOf:Str->Option NameKind}{x:Str}:∀{binds:List (Str×Value)}{m:Str->Option Value},(∀v,(x,v)∉binds)->bindC kindOf binds m x=m x
 |[],_,_=>rfl
 |(n,v)::r,m,h=>by
  unfold bindC
  rw[K4 λw hw=>h w (bA9 _ hw)]
  split
  ·rfl
  ·have:x≠n:=by rintro rfl;exact h v bA4
   simp[this]
theorem K5 {kindOf:Str->Option NameKind}{x:Str}{v:Value}:∀{P:List Str}{vs:List Value}{i:Nat}{m:Str->Option Value},P.Nodup->P[i]? = some x->vs[i]? = some v->kindOf x=some .local->
  bindL kindOf (P.zip vs) m x=some v
 |[],_,_,_,_,h,_,_=>by simp at h
 |_::_,[],_,_,_,_,h,_=>by simp at h
 |p::P,w::vs,0,m,nd,h1,h2,hk=>by
  simp at h1 h2;subst h1;subst h2
  show bindL kindOf ((p,w)::P.zip vs) m p=_
  unfold bindL
  rw[K3 λv hv=>(bJ6.mp nd).1 (List.of_mem_zip hv).1,if_pos hk]
  simp
 |p::P,w::vs,i+1,m,nd,h1,h2,hk=>by
  show bindL kindOf ((p,w)::P.zip vs) m x=_
  unfold bindL
  exact K5 (i:=i) (bJ6.mp nd).2 (by simpa using h1) (by simpa using h2) hk
theorem K6 {kindOf:Str->Option NameKind}{x:Str}{v:Value}:∀{P:List Str}{vs:List Value}{i:Nat}{m:Str->Option Value},P.Nodup->P[i]? = some x->vs[i]? = some v->kindOf x≠some .local->
  bindC kindOf (P.zip vs) m x=some v
 |[],_,_,_,_,h,_,_=>by simp at h
 |_::_,[],_,_,_,_,h,_=>by simp at h
 |p::P,w::vs,0,m,nd,h1,h2,hk=>by
  simp at h1 h2;subst h1;subst h2
  show bindC kindOf ((p,w)::P.zip vs) m p=_
  unfold bindC
  rw[K4 λv hv=>(bJ6.mp nd).1 (List.of_mem_zip hv).1,if_neg hk]
  simp
 |p::P,w::vs,i+1,m,nd,h1,h2,hk=>by
  show bindC kindOf ((p,w)::P.zip vs) m x=_
  unfold bindC
  exact K6 (i:=i) (bJ6.mp nd).2 (by simpa using h1) (by simpa using h2) hk
def i4 (N:List Str)(vs:List V):St:=vs.map some++List.replicate (N.length-vs.length) none
def dR (CX:hZ)(P:Program)(w:World)(K:ad)(mg:Str->Option Value)(base:Heap)(N:List Str)(qual:Str)(scope:Scope)(f:Addr)(cd:Value)(A:Around)(outer:List Env)(s:Shared)(H:Hp)(E:XK):Cx where
 prog:=P
 w:=w
 K:=K
 mg:=mg
 base:=base
 A:=A.deeper (envOfC qual scope s.heap.objs.size f cd)
 N:=N
 s₀:=s
 H₀:=H
 env:=envOfC qual scope s.heap.objs.size f cd
 outer:=outer
 stack:=envOfC qual scope s.heap.objs.size f cd::outer
 ex:=[]
 calm:=true
 fn:=λ_=>true
 pn:=[]
 xe:=λe s'=>wpAny (model P w) (A.deeper (envOfC qual scope s.heap.objs.size f cd)) (leaving (envOfC qual scope s.heap.objs.size f cd) e) (λ_ s''=>CX outer H s E e s'') (λe' s''=>CX outer H s E e' s'') s'
theorem K7 {sc:Scope}{n:Nat}{x:Str}(h:sc.names.lookup x=some .cell):∃c,(cellsFrom n sc.names []).lookup x=some c:=by
 have q:=PySem.W.cellsFrom_some sc.names n [] (.inl h)
 exact Option.isSome_iff_exists.mp q
theorem az0 {CX:hZ}{P:Program}{w:World}{K:ad}{mg:Str->Option Value}{base:Heap}{N ps:List Str}{qual:Str}{scope:Scope}{f:Addr}{cd:Value}{A:Around}{outer:List Env}{s s1:Shared}{H:Hp}{E:XK}{us:List Value}{vs:List V}(S:FnScope N ps scope)(hd:A.handled=none)(e0:rB P w K mg base A outer s H)(hl:vs.length=ps.length)(r:aO vs us)(x:InCallC s s.heap.objs.size (bindL (envOfC qual scope s.heap.objs.size f cd).kindOf (ps.zip us) λ_=>none) (cellsFrom (s.heap.objs.size+1) scope.names []) (bindC (envOfC qual scope s.heap.objs.size f cd).kindOf (ps.zip us) λ_=>none) s1) :
  a7 (dR CX P w K mg base N qual scope f cd A outer s H E) [] (i4 N vs) H s1:=by
 have hpl:ps.length<=N.length:=by have:=congrArg List.length S.pre;rw[bI3]at this;omega
 obtain⟨h1,tk,rfl,hk⟩:=x.done
 have noA:∀b:Addr,b∉(dR CX P w K mg base N qual scope f cd A outer s H E).ex:=λb z=>absurd (show b∈([]:List Addr) from z) (by simp)
 refine⟨⟨e0.mod,S.kind,rfl,rfl,bA3 _,λy z c h1 h2=>?_,λy hy=>?_,λy c _ h=>?_,λ_=>hd,Around.frames_deeper e0.frames,.inr ⟨rfl,rfl⟩,λb z=>absurd z (noA b),e0.bs,e0.bsz,λb _ _=>noA b,λb z=>absurd z (noA b),e0.funs,e0.frf⟩,
  rfl,e0.bare,Un.kept hk,⟨_,x.toInCall.ns,λi y v h1 h2 h3=>?_⟩,λy c h=>⟨_,x.cell y c h⟩,e0.hok.fresh (bA3 _),λy c h=>?_,λp hp=>absurd (show p∈([]:List (Addr×Obj)) from hp) (by simp),e0.hok.kept hk,?_⟩
 ·exact name_of_addr x.apart (bG4 h1) (bG4 h2)
 ·have hy:scope.names.lookup y=some .cell∨scope.names.lookup y=some .free:=hy
  rcases hy with hy|hy
  ·exact K7 hy
  ·exact absurd rfl (S.nofree _ (bG4 hy))
 ·exact bH0 (x.above y c (bG4 h))
 ·have hi:i<vs.length:=by
   unfold i4 at h2
   by_cases hi:i<vs.length
   ·exact hi
   ·rw[bI4 (by simpa using hi)]at h2
    rw[List.getElem?_replicate]at h2
    split at h2<;>cases h2
  have ha:vs[i]? = some v:=by
   unfold i4 at h2
   rw[bF6 (by simpa using hi),bB6]at h2
   cases e:vs[i]? with
   |none=>rw[e]at h2;cases h2
   |some a=>rw[e]at h2;cases h2;rfl
  obtain⟨u,hu,rv⟩:=r.get ha
  have hp:ps[i]? = some y:=by
   rw[<- S.pre,List.getElem?_take_of_lt (by omega)];exact h1
  have ndP:ps.Nodup:=by rw[<- S.pre];exact S.nd.sublist (List.take_sublist _ _)
  refine⟨u,rv,?_⟩
  rcases S.par y (bD7 hp) with k|k
  ·exact .inl ⟨k,K5 ndP hp hu k⟩
  ·obtain⟨c,e⟩:=K7 (n:=s.heap.objs.size+1) k
   refine .inr ⟨.inl k,c,e,?_⟩
   have q:=x.cell y c e
   rw[K6 ndP hp hu (by show scope.names.lookup y≠_;rw[k];decide)]at q
   exact q
 ·exact e0.hok.fresh (bH0 (x.above y c (bG4 h)))
 ·unfold i4
  show _=N.length
  rw[bB1,bA5,bP8]
  omega
theorem K8 {CX:hZ}{P:Program}{w:World}{K:ad}{mg:Str->Option Value}{base:Heap}{k:Nat}{f:Addr}{name qual:Str}{params:Arguments}{body:List Stmt}{scope:Scope}{dV kV doc pm cdv ct oc:Value}{an od:Option Addr}{osl:Array (Option Value)}{N ps:List Str}{sp:Sp}(lk:K.lookup f=some ⟨oc,od,.func (PySem.W.fnOf name qual params body scope dV kV doc pm an cdv ct),osl⟩)(hcd:PySem.W.codeIn K cdv qual=true)(S:FnScope N ps scope)(len:∀vs H Q E,sp vs H Q E->vs.length=ps.length)(hbody:∀(A:Around) (outer:List Env) (s:Shared) (H:Hp) (vs:List V) (Q:VK) (E:XK),cF k (A.deeper (envOfC qual scope s.heap.objs.size f cdv))->sp vs H Q E->
   ∃t,dY (dR CX P w K mg base N qual scope f cdv A outer s H E) body t/\t { nx:=λ_ H'=>Q .non H',rt:=Q } (i4 N vs) H) :
  dQ P w K mg base CX (k+1) f (PySem.W.fnOf name qual params body scope dV kV doc pm an cdv ct) ps sp:=by
 refine⟨len,λA outer s H args us vs Q E hr e0 hb r hsp=>?_⟩
 have hl:=len _ _ _ _ hsp
 have KX:K.In s.heap:=e0.mod.kin.keeps λb o e=>(e0.bs b o e).1
 have lim:s.heap.NoLimit:=e0.mod.nolimit.keeps λb o e=>(e0.bs b o e).1
 have hkind:∀y∈ps.zip us,scope.names.lookup y.1=some .local∨(scope.names.lookup y.1=some .cell/\((cellsFrom (s.heap.objs.size+1) scope.names []).lookup y.1).isSome=true):=λ⟨n,v⟩ hy=>by
  rcases S.par n (List.of_mem_zip hy).1 with q|q
  ·exact .inl q
  ·exact .inr ⟨q,PySem.W.cellsFrom_some _ _ _ (.inl q)⟩
 refine codeAny_call_function hr.depth (KX _ _ lk) rfl S.co S.gen rfl (PySem.W.codeRec_of KX hcd) (hb _ _ _ _ ?_)
 refine wpAny_newFunctionEnv_cells S.kind hkind λenv he s1 x=>?_
 subst he
 refine⟨lim.keeps x.toInCall.keep,codeAny_func ?_⟩
 obtain⟨t,ht,hq⟩:=hbody A outer s H vs Q E (hr.deeper _) hsp
 have I:a7 (dR CX P w K mg base N qual scope f cdv A outer s H E) [] (i4 N vs) H s1:=az0 S hr.hd e0 hl r x
 refine bJ3 (ht [] s1 (i4 N vs) H _ I hq) (λfl s' hs=>?_) λe s' hs=>hs
 have fin:∀{σ':St}{H':Hp}{v:V}{u:Value},a7 (dR CX P w K mg base N qual scope f cdv A outer s H E) [] σ' H' s'->b6 v u->Q v H'->CE outer P w H s Q u s':=
  λ{σ' H' v u} J rv q=>⟨v,H',J.os,J.bare,J.base,J.hok,rv,q⟩
 cases fl with
 |ret u=>
  obtain⟨v,σ',H',J,rv,q⟩:=hs
  exact fin J rv q
 |next=>
  obtain⟨σ',H',J,q⟩:=hs
  exact fin (v:=V.non) (u:=Value.none) J rfl q
 |brk=>
  obtain⟨_,_,_,q⟩:=hs
  exact False.elim q
 |cont=>
  obtain⟨_,_,_,q⟩:=hs
  exact False.elim q
section
variable {X:Cx}{x:Str}{p pos:Pos}{e:Expr}{es:List Expr}{t:TA}{id T:String}{r:List V→Hp→VK→Prop}
def vM (r:List V->Hp->VK->Prop)(t:TA):TE:=λσ H Q=>t σ H λvs H1=>r vs H1 Q
theorem vN (hc:cN X (.builtin id) r)(hg:Gl X x)(hm:X.mg x=none)(hv:bootBuiltins x=some (.builtin id))(ha:PA X (e::es) t)(hn:x≠"__name__":=by decide)(hdb:(x==("__debug__":Str))=false:=by decide)(he:starEach (e::es) X.env=(false,eval e X.env)::starEach es X.env:=by rfl)(hpl:(backTo pos (starEach es X.env)).any (·.1)=false:=by rfl):PE X (.Call (.Name x p) (e::es) [] pos) (vM r t):=by
 intro pins s σ H Q I h
 refine wpAny_Call_Name_kw (kU I hg hm hv ?_ hn hdb)
 exact PyProof.Rows.callWith_builtin1 (aR (ha pos pins s σ H _ I h) λus s1 ⟨vs,H1,I1,r1,q1⟩=>hc pins s1 σ H1 vs us Q I1 r1 q1) he hpl
theorem K9 (hc:cN X (.type T) r)(hg:Gl X x)(hm:X.mg x=none)(hv:bootBuiltins x=some (.type T))(ha:PA X (e::es) t)(hn:x≠"__name__":=by decide)(hdb:(x==("__debug__":Str))=false:=by decide)(he:starEach (e::es) X.env=(false,eval e X.env)::starEach es X.env:=by rfl)(hpl:(backTo pos (starEach es X.env)).any (·.1)=false:=by rfl):PE X (.Call (.Name x p) (e::es) [] pos) (vM r t):=by
 intro pins s σ H Q I h
 refine wpAny_Call_Name_kw (kU I hg hm hv ?_ hn hdb)
 exact bK0 (aR (ha pos pins s σ H _ I h) λus s1 ⟨vs,H1,I1,r1,q1⟩=>hc pins s1 σ H1 vs us Q I1 r1 q1) he hpl
end
end L2
namespace HT
open PySem PyProof.Rows
def bP:af->af->Bool
 |[],[]=>false
 |[],_::_=>true
 |_::_,[]=>false
 |x::xs,y::ys=>if x=y then bP xs ys else decide (x<y)
theorem iI (x y:Int)(xs ys:af):bP (x::xs) (y::ys)=if x=y then bP xs ys else decide (x<y):=rfl
theorem vO:bP [] []=false:=rfl
theorem az1 (y:Int)(ys:af):bP [] (y::ys)=true:=rfl
theorem az2 (x:Int)(xs:af):bP (x::xs) []=false:=rfl
theorem az3 (A:Around)(s:Shared)(a:Int)(t:Tok)(c:Int)(u:Tok):∃e,SeqAt.EqAt A s (.int a t) (.int c u) e/\(e=true↔a=c):=
 ⟨(a==c),SeqAt.EqAt.int_int a t c u,by simp⟩
theorem az4 (A:Around)(s:Shared)(a:Int)(t:Tok)(c:Int)(u:Tok)(prog:Program)(w:World)(E:Value->Shared->Prop)(Q:Value->Shared->Prop)(h:Q (.bool (decide (a<c))) s) :
  wpAny (model prog w) A (richCompare .Lt (.int a t) (.int c u)) Q E s:=
 (PyProof.Rows.lt_int h:wpAny (model prog w) A (compareOp .Lt (.int a t) (.int c u)) Q E s)
section
open PySem.SeqAt
open PySem.AutoSeq1 (wpAny_loadPart')
open PySem.MeetsSeq PySem.MeetsSeq2 PySem.MeetsSeq3
theorem az5 (l b:Addr)(items items2:Array Value)(n n2:Nat)(dd dd2:Option Addr)(sl sl2:Array (Option Value))(ns ms:af)(hi:IntsAre items.toList ns)(hj:IntsAre items2.toList ms) :
  Meets (Builtin.«tuple.__lt__» ⟨[.ref l,.ref b],[]⟩)
   (λ_ R s=>s.heap.get? l=some { cls:=.type "tuple",dict:=dd,data:=.seq items n,slots:=sl }/\s.heap.get? b=some { cls:=.type "tuple",dict:=dd2,data:=.seq items2 n2,slots:=sl2 }/\
    R (.ok (.ret (.bool (bP ns ms)))) s):=
 .of_wp λprog w A R s h=>by
  obtain⟨hp,g,d,tk,os⟩:=s;obtain⟨hl,hb,h⟩:=h
  have f2:=AutoSeq1.sub_tuple_tuple
  have z1:items.size=ns.length:=by rw[<- hi.length];simp
  have z2:items2.size=ms.length:=by rw[<- hj.length];simp
  wp_walk using wpAny_loadPart' hl,wpAny_loadPart' hb,wpAny_forIn_list _ (λcO b s'=>b.1=none/\s'=⟨hp,g,d,tk,os⟩/\∃(vs ws:List Value) (ns' ms':af),cO=vs.zip ws/\
   IntsAre vs ns'/\IntsAre ws ms'/\ns'.length+items2.size=ms'.length+items.size/\R (.ok (.ret (.bool (bP ns' ms')))) ⟨hp,g,d,tk,os⟩) _
  case turn=>
   rintro⟨y,x⟩ cO b s' ⟨hb',rfl,vs,ws,ns',ms',hz,hvi,hwi,hlen,hR⟩
   cases hvi with
   |nil=>rw[List.zip_nil_left]at hz;cases hz
   |cons a t hvi'=>
    cases hwi with
    |nil=>rw[List.zip_nil_right]at hz;cases hz
    |cons c u hwi'=>
     rw[bL8]at hz
     injection hz with hyx hrest
     injection hyx with hy hx
     subst hy hx
     rw[iI]at hR
     simp only[bC7]at hlen
     obtain⟨e,he,hiff⟩:=az3 A.in1 ⟨hp,g,d,tk,os⟩ a t c u
     refine bz7 (he prog w _ _ ?_)
     cases e with
     |true=>
      rw[if_pos (hiff.mp rfl)]at hR
      wp_walk
      exact⟨rfl,rfl,_,_,_,_,hrest,hvi',hwi',by omega,hR⟩
     |false=>
      rw[if_neg (λq=>absurd (hiff.mpr q) bC1)]at hR
      have hri:=az4 A.in1 ⟨hp,g,d,tk,os⟩ a t c u prog w
      wp_walk using hri
      exact⟨_,rfl,by simpa using hR⟩
  case fin=>
   rintro⟨b1,b2⟩ s' ⟨hb',rfl,vs,ws,ns',ms',hz,hvi,hwi,hlen,hR⟩
   simp only at hb'
   subst hb'
   have hv:bP ns' ms'=decide (items.size<items2.size):=by
    cases hvi with
    |nil=>
     cases hwi with
     |nil=>
      simp only[bQ1]at hlen
      rw[vO]
      exact (bA0 (by omega)).symm
     |cons c u hw=>
      simp only[bQ1,bC7]at hlen
      rw[az1]
      exact (bz9 (by omega)).symm
    |cons a t hv=>
     cases hwi with
     |nil=>
      simp only[bQ1,bC7]at hlen
      rw[az2]
      exact (bA0 (by omega)).symm
     |cons c u hw=>
      rw[bL8]at hz
      cases hz
   rw[hv]at hR
   wp_walk
   exact⟨_,rfl,by simpa[Builtin.Tuple.tupleCompareSizes] using hR⟩
  case h=>
   exact⟨rfl,rfl,items.toList,items2.toList,ns,ms,rfl,hi,hj,by omega,h⟩
end
section
variable {prog:Program}{w:World}{A:Around}{E:Value→Shared→Prop}{s:Shared}
theorem az6 {l b:Addr}{items items2:Array Value}{ns ms:af}{Q:Value->Shared->Prop}(hl:IsTup s.heap l items)(hb:IsTup s.heap b items2)(hi:IntsAre items.toList ns)(hj:IntsAre items2.toList ms)(hu:A.units<cLine)(h:Q (.bool (bP ns ms)) s):wpAny (model prog w) A (compareOp .Lt (.ref l) (.ref b)) Q E s:=by
 obtain⟨⟨cls,dd,data,sl⟩,ho,hc,n,hd⟩:=id hl
 obtain⟨⟨cls2,dd2,data2,sl2⟩,ho2,hc2,n2,hd2⟩:=id hb
 simp only at hc hd hc2 hd2
 subst hc hd hc2 hd2
 exact richCompare_meets_room (op:=.Lt) ⟨_,ho,rfl⟩ ⟨_,ho2,rfl⟩ PySem.F.slot_tuple_lt PySem.F.entry_tuple_lt (PySem.F.args_tuple_lt_2 _ _) (az5 l b items items2 n n2 dd dd2 sl sl2 ns ms hi hj)
  ⟨ho,ho2,show Value.bool (bP ns ms)≠Value.notImplemented/\Q (.bool (bP ns ms)) s from ⟨(λx=>nomatch x),h⟩⟩ hu
theorem az7 {t b:Addr}{vs ws:List Value}{Q:Value->Shared->Prop}(ht:IsTup s.heap t vs.toArray)(hb:IsTup s.heap b ws.toArray)(hv:vs≠[])(h1:ws = []->Q (.ref t) s)(h2:ws≠[]->Q (.ref s.heap.objs.size) { s with heap:=s.heap.push { cls:=.type "tuple",data:=.seq (vs++ws).toArray } })(hsz:vs.length+ws.length<=sizeLine):wpAny (model prog w) A (binaryOp .Add (.ref t) (.ref b)) Q E s:=by
 obtain⟨⟨cls,dd,data,sl⟩,ho,hc,n,hd⟩:=id ht
 obtain⟨⟨cls2,dd2,data2,sl2⟩,ho2,hc2,n2,hd2⟩:=id hb
 simp only at hc hd hc2 hd2
 subst hc hd hc2 hd2
 have e:vs.toArray++ws.toArray=(vs++ws).toArray:=by simp
 by_cases hw:ws = []
 ·exact concat_meets ⟨_,ho,rfl⟩ ⟨_,ho2,rfl⟩ noFill_tuple_add seq_tuple_add PySem.F.slot_tuple_add PySem.F.entry_tuple_add (PySem.F.args_tuple_add_2 _ _)
   (tuple_addW1 t b vs.toArray ws.toArray n n2 dd dd2 sl sl2 (by simpa using hv) (by simp[hw])) ⟨ho,ho2,h1 hw⟩
 ·refine concat_meets ⟨_,ho,rfl⟩ ⟨_,ho2,rfl⟩ noFill_tuple_add seq_tuple_add PySem.F.slot_tuple_add PySem.F.entry_tuple_add (PySem.F.args_tuple_add_2 _ _)
   (tuple_addW2 t b vs.toArray ws.toArray n n2 dd dd2 sl sl2 (by simpa using hv) (by simpa using hw) (by rw[bA2,bA2];exact hsz)) ⟨ho,ho2,?_⟩
  rw[e]
  exact h2 hw
def b7 (n d:Nat):Option Int->Nat
 |none=>d
 |some v=>if v<0 then (v+(n:Int)).toNat else min v.toNat n
theorem az8 (n d k:Nat):b7 n d (some (k:Int))=min k n:=by
 show (if (k:Int)<0 then ((k:Int)+(n:Int)).toNat else min (k:Int).toNat n)=min k n
 rw[if_neg (by omega),bK7]
theorem az9 (n d:Nat)(hd:d<=n)(o:Option Int):b7 n d o<=n:=by
 cases o with
 |none=>exact hd
 |some v=>
  show (if v<0 then (v+(n:Int)).toNat else min v.toNat n)<=n
  by_cases hv:v<0
  ·rw[if_pos hv];omega
  ·rw[if_neg hv];exact Nat.min_le_right _ _
theorem L4 (v:Int)(n d:Nat):(if v<0 then max (v+(n:Int)) 0 else min v (n:Int))=((b7 n d (some v):Nat):Int):=by
 show (if v<0 then max (v+(n:Int)) 0 else min v (n:Int))=(((if v<0 then (v+(n:Int)).toNat else min v.toNat n):Nat):Int)
 by_cases hv:v<0
 ·simp only[if_pos hv];omega
 ·simp only[if_neg hv];omega
theorem aA0 (lo hi:Option Int)(n:Nat):Builtin.Slice.sliceAdjust lo hi 1 (n:Int)=(((b7 n 0 lo:Nat):Int),((b7 n n hi:Nat):Int)):=by
 have h1:¬((1:Int)<0):=by omega
 unfold Builtin.Slice.sliceAdjust
 simp only[h1,bG2]
 refine Prod.ext ?_ ?_
 ·cases lo with
  |none=>rfl
  |some v=>exact L4 v n 0
 ·cases hi with
  |none=>rfl
  |some v=>exact L4 v n n
theorem aA1 (i j:Nat):Builtin.Slice.slicePlaces (i:Int) (j:Int) 1=j-i:=by
 unfold Builtin.Slice.slicePlaces
 have h1:(1:Int)>0:=by omega
 simp only[h1,if_true,Int.ediv_one]
 split<;>omega
theorem L5 {v:Value}{o:Option Int}{Q:Option Int->Shared->Prop}(p:IsPart v o)(h:Q o s):wpAny (model prog w) A (Builtin.Slice.slicePartIndex v) Q E s:=by
 cases p with
 |none=>exact slicePart_none h
 |int i t=>exact slicePart_int h
theorem L6 {sl:Addr}{vl vu:Value}{lo hi:Option Int}{n:Nat}{Q:Int×Int×Nat->Shared->Prop}(hs:s.heap.IsSliceOf sl vl vu .none)(pl:IsPart vl lo)(pu:IsPart vu hi)(h:Q (((b7 n 0 lo:Nat):Int),1,b7 n n hi-b7 n 0 lo) s):wpAny (model prog w) A (Builtin.Slice.sliceApplied (.ref sl) (pure (n:Int))) Q E s:=by
 obtain⟨os,hos,hcs,hds⟩:=id hs
 unfold Builtin.Slice.sliceApplied Builtin.Slice.sliceFields
 refine bz7 (bz7 (bH2 hos hds (x:=vl) rfl (bz7 (bH2 hos hds (x:=vu) rfl (bz7 (bH2 hos hds (x:=.none) rfl (bA8 ?_)))))))
 refine bz7 (slicePart_none ?_)
 show wpAny _ _ (if ((1:Int)==0)=true then _ else _) _ _ s
 rw[if_neg (by decide)]
 refine bz7 (L5 pl (bz7 (L5 pu (bz7 (bA8 ?_)))))
 show wpAny _ _ (match Builtin.Slice.sliceAdjust lo hi 1 (n:Int) with|(lo,hi)=>pure (lo,(1:Int),Builtin.Slice.slicePlaces lo hi 1)) _ _ s
 rw[aA0 lo hi n]
 show wpAny _ _ (pure (((b7 n 0 lo:Nat):Int),(1:Int),Builtin.Slice.slicePlaces ((b7 n 0 lo:Nat):Int) ((b7 n n hi:Nat):Int) 1)) _ _ s
 rw[aA1]
 exact bA8 h
theorem aA2 (xs:Array Value)(i k:Nat):((List.range k).filterMap λ(m:Nat)=>xs[((i:Int)+(m:Int)*1).toNat]?).toArray=((xs.toList.drop i).take k).toArray:=by
 have e:(λ(m:Nat)=>xs[((i:Int)+(m:Int)*1).toNat]?)=λm=>xs[i+m]?:=by
  funext m
  have:((i:Int)+(m:Int)*1).toNat=i+m:=by omega
  rw[this]
 rw[e]
 have:=pick_run xs i k
 rw[List.filterMap_map]at this
 have e2:((λx=>xs[x]?) ∘ λx=>i+x)=λm=>xs[i+m]?:=rfl
 rw[e2]at this
 rw[this]
theorem aA3 {t sl:Addr}{items:Array Value}{vl vu:Value}{lo hi:Option Int}{Q:Value->Shared->Prop}(ht:IsTup s.heap t items)(hs:s.heap.IsSliceOf sl vl vu .none)(pl:IsPart vl lo)(pu:IsPart vu hi)(hw:¬(b7 items.size 0 lo=0/\b7 items.size items.size hi=items.size))(h:Q (.ref s.heap.objs.size) { s with heap:=s.heap.push { cls:=.type "tuple",data:=.seq ((items.toList.drop (b7 items.size 0 lo)).take (b7 items.size items.size hi-b7 items.size 0 lo)).toArray } })(hsz:items.size<=sizeLine):wpAny (model prog w) A (getItem (.ref t) (.ref sl)) Q E s:=by
 have htake:sizeOk (.seq ((items.toList.drop (b7 items.size 0 lo)).take (b7 items.size items.size hi-b7 items.size 0 lo)).toArray):=by
  show ((items.toList.drop (b7 items.size 0 lo)).take (b7 items.size items.size hi-b7 items.size 0 lo)).toArray.size<=sizeLine
  rw[bA2,bI3,bI5,bO5]
  omega
 have hj:b7 items.size items.size hi<=items.size:=az9 _ _ (bA3 _) hi
 obtain⟨os,hos,hcs,hds⟩:=id hs
 have hTs:s.TypeIs (.ref sl) "slice":=⟨os,hos,hcs⟩
 unfold getItem
 try with_reducible refine bL1 ?_
 first|refine bz7 (bA8 ?_)|skip
 refine bz7 (wpAny_sequenceKey ht.typeIs (by decide) ?_)
 refine bz7 (bH3 (name:=Str.ofString "__getitem__") ht.typeIs bN0
  (bG7 bN0 ht.typeIs entry_tuple_getitem ?_ (args_tuple_getitem _ _)))
 show wpAny _ _ (Builtin.Tuple.tupleItemsOf (.ref t) >>= _) _ _ s
 refine bz7 (tupleItemsOf_ ht ?_)
 refine bz7 (wpAny_typeOf hTs ?_)
 rw[if_pos (by decide)]
 refine bz7 (L6 hs pl pu ?_)
 have hno:¬((((b7 items.size 0 lo:Nat):Int)==0&&(1:Int)==1&&(b7 items.size items.size hi-b7 items.size 0 lo)==items.size)=true):=by
  intro q
  rw[bE5,bE5]at q
  have q1:((b7 items.size 0 lo:Nat):Int)=0:=eq_of_beq q.1.1
  have q2:b7 items.size items.size hi-b7 items.size 0 lo=items.size:=eq_of_beq q.2
  exact hw ⟨by omega,by omega⟩
 show wpAny _ _ (if (((b7 items.size 0 lo:Nat):Int)==0&&(1:Int)==1&&(b7 items.size items.size hi-b7 items.size 0 lo)==items.size)=true then _ else _) _ _ s
 rw[if_neg hno,aA2]
 first
  |exact bz7 (m:=Builtin.Tuple.tupleExact _) (bI8 (bA8 ⟨_,rfl,bA8 h⟩) htake)
  |exact bz7 (m:=Builtin.Tuple.tupleExact _) (bI8 (bz7 (bA8 (bA8 ⟨_,rfl,bA8 h⟩))) htake)
  |exact bz7 (bz7 (m:=Builtin.Tuple.tupleExact _) (bI8 (bA8 (bA8 ⟨_,rfl,bA8 h⟩)) htake))
  |exact bz7 (bz7 (m:=Builtin.Tuple.tupleExact _) (bI8 (bA8 ⟨_,rfl,bA8 h⟩) htake))
end
end HT
namespace L2
open PySem PySem.Spec PyProof.Rows
abbrev TO:=St->Hp->(Option Int->Hp->Prop)->Prop
def PO (X:Cx)(e:Option Expr)(t:TO):Prop:=
 ∀(pins:List (Addr×Obj)) (s:Shared) (σ:St) (H:Hp) (Q:Option Int->Hp->Prop),a7 X pins σ H s->t σ H Q->
  wpAny (model X.prog X.w) X.A (evalPart e X.env) (λu s'=>∃o H',a7 X pins σ H' s'/\IsPart u o/\Q o H') X.xe s
def aA4:TO:=λ_ H Q=>Q none H
def aA5 (t:TE):TO:=λσ H Q=>t σ H λx H1=>∃i,x = .int i/\Q (some i) H1
theorem jC {ns:af}:∀{us:List Value},aO (ns.map V.int) us->IntsAre us ns:=by
 induction ns with
 |nil=>intro us r;rw[List.map_nil]at r;cases r;exact .nil
 |cons n ns ih=>
  intro us r
  rw[bF4]at r
  cases r with
  |cons r1 r2=>
   obtain⟨t,e⟩:=r1
   subst e
   exact .cons n t (ih r2)
section
variable {X:Cx}{e:Expr}{te:TE}{lo hi:Option Expr}{tl th:TO}{pos p2:Pos}
theorem aA6:PO X none aA4:=by
 intro pins s σ H Q I h
 rw[evalPart_none]
 exact bA8 ⟨none,H,I,.none,h⟩
theorem aA7 (h:PE X e te):PO X (some e) (aA5 te):=by
 intro pins s σ H Q I hw
 rw[evalPart_some]
 refine aR (h pins s σ H _ I hw) λu s1 ⟨x,H1,I1,r1,q1⟩=>?_
 obtain⟨i,rfl,q⟩:=q1
 obtain⟨t,rfl⟩:=r1
 exact⟨some i,H1,I1,.int i t,q⟩
def kY (X:Cx)(r:V->Option Int->Option Int->Hp->VK->Prop):Prop:=
 ∀(pins:List (Addr×Obj)) (s:Shared) (σ:St) (H:Hp) (x:V) (v vl vu:Value) (lo hi:Option Int) (sl:Addr) (Q:VK),a7 X pins σ H s->b6 x v->s.heap.IsSliceOf sl vl vu .none->IsPart vl lo->IsPart vu hi->r x lo hi H Q->
  ∃T id,typeLookup (.type T) "__getitem__" = pure (some (.builtin id))/\s.TypeIs v T/\wpAny (model X.prog X.w) X.A (getItem v (.ref sl)) (EP X pins σ Q) X.xe s
theorem kY.or {r r':V->Option Int->Option Int->Hp->VK->Prop}(h:kY X r)(h':kY X r'):kY X (λx lo hi H Q=>r x lo hi H Q∨r' x lo hi H Q):=by
 intro pins s σ H x v vl vu lo hi sl Q I rx hs pl pu q
 rcases q with q|q
 ·exact h pins s σ H x v vl vu lo hi sl Q I rx hs pl pu q
 ·exact h' pins s σ H x v vl vu lo hi sl Q I rx hs pl pu q
def tSl (r:V->Option Int->Option Int->Hp->VK->Prop)(te:TE)(tl th:TO):TE:=λσ H Q=>te σ H λx H1=>tl σ H1 λl H2=>th σ H2 λu H3=>r x l u H3 Q
theorem aA8 {r:V->Option Int->Option Int->Hp->VK->Prop}(hr:kY X r)(he:PE X e te)(hl:PO X lo tl)(hu:PO X hi th):PE X (.Subscript e (.Slice lo hi none p2) pos) (tSl r te tl th):=by
 intro pins s σ H Q I h
 refine Subscript_ (aR (he pins s σ H _ I h) λv s1 ⟨x,H1,I1,r1,q1⟩=>?_)
 refine wpAny_Slice (aR (hl pins s1 σ H1 _ I1 q1) λvl s2 ⟨l,H2,I2,pl,q2⟩=>aR (hu pins s2 σ H2 _ I2 q2) λvu s3 ⟨u,H3,I3,pu,q3⟩=>?_)
 rw[evalPart_none]
 refine bA8 ?_
 have I4:a7 X pins σ H3 { s3 with heap:=s3.heap.push { cls:=.type "slice",data:=.fields #[vl,vu,.none] } }:=I3.kept (t':=s3.toks) λb ob q=>bz8 _ q
 obtain⟨T,id,hT,ht,hg⟩:=hr pins { s3 with heap:=s3.heap.push { cls:=.type "slice",data:=.fields #[vl,vu,.none] } } σ H3 x v vl vu l u s3.heap.objs.size Q I4 r1 (Heap.IsSliceOf.new ..) pl pu q3
 show wpAny (model X.prog X.w) X.A (subscriptTail e (.Slice lo hi none p2) v (.ref s3.heap.objs.size)) (EP X pins σ Q) X.xe { s3 with heap:=s3.heap.push { cls:=.type "slice",data:=.fields #[vl,vu,.none] } }
 exact tail_any (ops:=[.ref s3.heap.objs.size,v]) ht hT hg (by with_unfolding_all rfl)
def iJ (xs:List V)(lo hi:Option Int):List V:=(xs.drop (HT.b7 xs.length 0 lo)).take (HT.b7 xs.length xs.length hi-HT.b7 xs.length 0 lo)
theorem L7 (xs:List V)(lo hi:Option Int):(iJ xs lo hi).length<=xs.length:=by
 unfold iJ
 rw[bI3,bI5]
 omega
def aA9 (K:ad):V->Option Int->Option Int->Hp->VK->Prop:=λx lo hi H Q=>∃a xs,x = .ref a/\aH K H a xs/\
 ¬(HT.b7 xs.length 0 lo=0/\HT.b7 xs.length xs.length hi=xs.length)/\∀p,H p=none->Q (.ref p) (upd H p (.tup (iJ xs lo hi)))
theorem aB0:kY X (aA9 X.K):=by
 intro pins s σ H x v vl vu lo hi sl Q I rx hs pl pu h
 obtain⟨a,xs,rfl,hx,hw,q⟩:=h
 cases rx
 obtain⟨its,r,ht,hz⟩:=I.tuple hx
 have hlen:its.toArray.size=xs.length:=by rw[bA2];exact r.length.symm
 refine⟨"tuple",_,PyProof.Rows.slot_tuple_getitem.lookup,ht.typeIs,?_⟩
 refine HT.aA3 ht hs pl pu (by rw[hlen];exact hw) ?_ (by rw[hlen];exact hz)
 rw[hlen]
 refine⟨.ref s.heap.objs.size,_,I.laid (t':=s.toks) (o:=.tup (iJ xs lo hi)) (λb ob q=>bz8 _ q) (bA3 _) ?_,rfl,q _ (I.hok.fresh (bA3 _))⟩
 exact⟨bE8 (L7 xs lo hi) hz,_,(r.drop (HT.b7 xs.length 0 lo)).take (HT.b7 xs.length xs.length hi-HT.b7 xs.length 0 lo),IsTup.new _ _,j7.new _ _ rfl⟩
def vP (K:ad):R2:=λx y H Q=>∃a b ns ms,x = .ref a/\y = .ref b/\aH K H a (ns.map V.int)/\aH K H b (ms.map V.int)/\Q (.bl (HT.bP ns ms)) H
theorem aB1 (hu:X.A.units<cLine):c9 X (compareOp .Lt) (vP X.K):=by
 intro pins s σ H x y v u Q I rx ry h
 obtain⟨a,b,ns,ms,rfl,rfl,ha,hb,q⟩:=h
 cases rx
 cases ry
 obtain⟨its,r1,p1,_⟩:=I.tuple ha
 obtain⟨its2,r2,p2,_⟩:=I.tuple hb
 have i1:IntsAre its.toArray.toList ns:=jC r1
 have i2:IntsAre its2.toArray.toList ms:=jC r2
 exact HT.az6 p1 p2 i1 i2 hu ⟨.bl (HT.bP ns ms),H,I,rfl,q⟩
def aB2 (K:ad):R2:=λx y H Q=>∃a b xs ys,x = .ref a/\y = .ref b/\aH K H a xs/\aH K H b ys/\xs≠[]/\xs.length+ys.length<=sizeLine/\
 (ys = []->Q (.ref a) H)/\(ys≠[]->∀p,H p=none->Q (.ref p) (upd H p (.tup (xs++ys))))
theorem aO.nil_iff {xs:List V}{us:List Value}(r:aO xs us):us = []↔xs = []:=by
 cases r with
 |nil=>simp
 |cons _ _=>simp
theorem aB3:c9 X (binaryOp .Add) (aB2 X.K):=by
 intro pins s σ H x y v u Q I rx ry h
 obtain⟨a,b,xs,ys,rfl,rfl,ha,hb,hx,hz,q1,q2⟩:=h
 cases rx
 cases ry
 obtain⟨its,r1,p1,_⟩:=I.tuple ha
 obtain⟨its2,r2,p2,_⟩:=I.tuple hb
 refine HT.az7 p1 p2 (λz=>hx (r1.nil_iff.mp z)) (λz=>⟨.ref a,H,I,rfl,q1 (r2.nil_iff.mp z)⟩) (λz=>?_) (by rw[<- r1.length,<- r2.length];exact hz)
 refine⟨.ref s.heap.objs.size,_,I.laid (t':=s.toks) (o:=.tup (xs++ys)) (λb ob q=>bz8 _ q) (bA3 _) ?_,rfl,q2 (λw=>z (r2.nil_iff.mpr w)) _ (I.hok.fresh (bA3 _))⟩
 exact⟨by rw[bB1];exact hz,_,r1.append r2,IsTup.new _ _,j7.new _ _ rfl⟩
end
def lS (n:Nat)(i:Int):Option Nat:=if 0<=i then (if i<n then some i.toNat else none) else if -(n:Int)<=i then some (i+n).toNat else none
def atI {α:Type}(xs:List α)(i:Int):Option α:=(lS xs.length i).bind λj=>xs[j]?
theorem aB4 {n:Nat}{i:Int}{j:Nat}(h:lS n i=some j):seqIndex? i n=some j/\j<n/\-(n:Int)<=i/\i<n:=by
 unfold lS at h
 by_cases h0:0<=i
 ·rw[if_pos h0]at h
  by_cases h1:i<n
  ·rw[if_pos h1]at h
   have e:i.toNat=j:=bE0 h
   exact⟨by rw[seqIndex_of h0 h1,e],by omega,by omega,h1⟩
  ·rw[if_neg h1]at h;cases h
 ·rw[if_neg h0]at h
  by_cases h1:-(n:Int)<=i
  ·rw[if_pos h1]at h
   have e:(i+n).toNat=j:=bE0 h
   exact⟨by rw[seqIndex_neg (by omega) h1,e],by omega,h1,by omega⟩
  ·rw[if_neg h1]at h;cases h
theorem vQ {α:Type}{xs:List α}{i:Int}{v:α}(h:atI xs i=some v):∃j,seqIndex? i xs.length=some j/\xs[j]? = some v/\j<xs.length/\-(xs.length:Int)<=i/\i<xs.length:=by
 unfold atI at h
 cases e:lS xs.length i with
 |none=>rw[e]at h;cases h
 |some j=>
  rw[e]at h
  obtain⟨h1,h2,h3,h4⟩:=aB4 e
  exact⟨j,h1,h,h2,h3,h4⟩
theorem jD {α:Type}{xs:List α}{j:Nat}{v:α}(h:xs[j]? = some v):atI xs (j:Int)=some v:=by
 have hj:j<xs.length:=(bB0.mp h).1
 have e:lS xs.length (j:Int)=some j:=by
  unfold lS
  rw[if_pos (by omega),if_pos (by omega)];simp
 unfold atI;rw[e];exact h
def L8 (b:Expr):Prop:=∀o i,subscripted b false o i=operate [o,i] (getItem o i)
def jR (X:Cx)(r:R2):Prop:=
 ∀(value slice:Expr) (pins:List (Addr×Obj)) (s:Shared) (σ:St) (H:Hp) (x y:V) (v u:Value) (Q:VK),a7 X pins σ H s->b6 x v->b6 y u->r x y H Q->
  subscripted slice false v u=operate [v,u] (getItem v u)->wpAny (model X.prog X.w) X.A (subscriptTail value slice v u) (EP X pins σ Q) X.xe s
def L9 (X:Cx)(id:String)(r:V->List V->Hp->VK->Prop):Prop:=
 ∀(pins:List (Addr×Obj)) (s:Shared) (σ:St) (H:Hp) (x:V) (xs:List V) (v:Value) (us:List Value) (Q:VK),a7 X pins σ H s->b6 x v->aO xs us->r x xs H Q->
  wpAny (model X.prog X.w) X.A (call (.builtin id) (v::us)) (EP X pins σ Q) X.xe s
section
variable {X:Cx}{a b:Expr}{ta tb:TE}{pos:Pos}
theorem jR.or {r r':R2}(h:jR X r)(h':jR X r'):jR X (λx y H Q=>r x y H Q∨r' x y H Q):=by
 intro value slice pins s σ H x y v u Q I rx ry q hs
 rcases q with q|q
 ·exact h value slice pins s σ H x y v u Q I rx ry q hs
 ·exact h' value slice pins s σ H x y v u Q I rx ry q hs
theorem oY {r:R2}(hr:jR X r)(ha:PE X a ta)(hb:PE X b tb)(hs:L8 b):PE X (.Subscript a b pos) (oT r ta tb):=by
 intro pins s σ H Q I h
 exact Subscript_ (vD ha hb I h λv u s2 x y H2 I2 rx ry q=>hr a b pins s2 σ H2 x y v u Q I2 rx ry q (hs _ _))
def M0 (K:ad):R2:=λx y H Q=>∃p xs i v,x = .ref p/\y = .int i/\aQ K H p xs/\atI xs i=some v/\Q v H
def M3 (K:ad):R2:=λx y H Q=>∃p xs i v,x = .ref p/\y = .int i/\aH K H p xs/\atI xs i=some v/\Q v H
def M4:R2:=λx y H Q=>∃z i c,x = .str z/\y = .int i/\z.length<=sizeLine/\atI z.cps.toList i=some c/\Q (.str ⟨#[c]⟩) H
theorem vR:jR X (M0 X.K):=by
 intro value slice pins s σ H x y v u Q I rx ry h hs
 obtain⟨p,xs,i,z,rfl,rfl,hq,he,q⟩:=h
 cases rx
 obtain⟨t,rfl⟩:=ry
 obtain⟨its,r,pl,hz⟩:=I.list hq
 obtain⟨j,h1,h2,h3,h4,h5⟩:=vQ he
 obtain⟨w,ew,rw'⟩:=r.get h2
 have hl:=r.length
 have hn:=oV
 have fin:EP X pins σ Q w s:=⟨z,H,I,rw',q⟩
 by_cases h0:0<=i
 ·have hj:i.toNat=j:=by
   rw[seqIndex_of h0 h5]at h1
   exact bE0 h1
  exact item_listR pl.isList h0 (by omega) (by rw[hj];simpa using ew) fin hs
 ·have hj:(i+(its.toArray.size:Int)).toNat=j:=by
   rw[seqIndex_neg (by omega) h4]at h1
   rw[bA2,<- hl]
   exact bE0 h1
  exact subscriptTail_builtinR (x:=w) pl.isList.typeIs slot_list_getitem.lookup
   (wpAny_getItem_list_neg (Q:=λr s'=>r=w/\EP X pins σ Q r s') pl.isList (by omega) (by rw[bA2]<;>omega) (by omega) (by rw[hj];simpa using ew) ⟨rfl,fin⟩) hs
theorem vS:jR X (M3 X.K):=by
 intro value slice pins s σ H x y v u Q I rx ry h hs
 obtain⟨p,xs,i,z,rfl,rfl,hq,he,q⟩:=h
 cases rx
 obtain⟨t,rfl⟩:=ry
 obtain⟨its,r,pl,hz⟩:=I.tuple hq
 obtain⟨j,h1,h2,h3,h4,h5⟩:=vQ he
 obtain⟨w,ew,rw'⟩:=r.get h2
 have hl:=r.length
 have hn:=oV
 have fin:EP X pins σ Q w s:=⟨z,H,I,rw',q⟩
 exact subscriptTail_builtinR (x:=w) pl.typeIs slot_tuple_getitem.lookup
  (getItem_tuple (j:=j) (Q:=λr s'=>r=w/\EP X pins σ Q r s') pl (by omega) (by omega) (by rw[bA2,<- hl];exact h1) (by simpa using ew) ⟨rfl,fin⟩) hs
theorem aB5:jR X M4:=by
 intro value slice pins s σ H x y v u Q I rx ry h hs
 obtain⟨z,i,c,rfl,rfl,hz,he,q⟩:=h
 obtain⟨t,rfl⟩:=rx
 obtain⟨t',rfl⟩:=ry
 obtain⟨j,h1,h2,h3,h4,h5⟩:=vQ he
 have hl:z.cps.toList.length=z.length:=by simp[Str.length]
 rw[hl]at h1 h4 h5
 have hn:=oV
 exact tail_any (typeIs_str s z t) slot_str_getitem.lookup (getItem_str (c:=c) (by
  have e1:decide (i < -(2^63:Int))=false:=bA0 (by omega)
  have e2:decide (i >= 2^63)=false:=bA0 (by omega)
  rw[e1,e2,Bool.or_false]) (by rw[h1];simpa using h2) ⟨.str ⟨#[c]⟩,H,I.tok _,⟨_,rfl⟩,q⟩) hs
def M5 (K:ad):R2:=λx y H Q=>M0 K x y H Q∨M3 K x y H Q∨M4 x y H Q
theorem aB6:jR X (M5 X.K):=vR.or (vS.or aB5)
theorem aB7 (lo hi:Option Int)(n:Nat):(sliceBounds lo hi none n).1=((HT.b7 n 0 lo:Nat):Int)/\(sliceBounds lo hi none n).2.1=((HT.b7 n n hi:Nat):Int)/\(sliceBounds lo hi none n).2.2=1:=by
 refine⟨?_,?_,rfl⟩
 ·cases lo with
  |none=>simp[sliceBounds,HT.b7]
  |some i=>
   simp only[sliceBounds,HT.b7,Option.getD_none,show (1:Int)>0 by decide,if_true]
   by_cases h:i<0
   ·simp only[h,if_true]<;>omega
   ·simp only[h,bG2]<;>omega
 ·cases hi with
  |none=>simp[sliceBounds,HT.b7]
  |some i=>
   simp only[sliceBounds,HT.b7,Option.getD_none,show (1:Int)>0 by decide,if_true]
   by_cases h:i<0
   ·simp only[h,if_true]<;>omega
   ·simp only[h,bG2]<;>omega
theorem aB8 (its:List Value)(lo hi:Option Int):slicePick its.toArray lo hi none=((its.drop (HT.b7 its.length 0 lo)).take (HT.b7 its.length its.length hi-HT.b7 its.length 0 lo)).toArray:=by
 obtain⟨h1,h2,h3⟩:=aB7 lo hi its.toArray.size
 unfold slicePick
 rw[h1,h2,h3]
 simp only[sliceRange_one,pick_run,bA2]<;>rfl
def aB9 (K:ad):V->Option Int->Option Int->Hp->VK->Prop:=λx lo hi H Q=>∃a xs,x = .ref a/\aQ K H a xs/\∀p,H p=none->Q (.ref p) (upd H p (.lst (iJ xs lo hi)))
theorem aC0:kY X (aB9 X.K):=by
 intro pins s σ H x v vl vu lo hi sl Q I rx hs pl pu h
 obtain⟨a,xs,rfl,hx,q⟩:=h
 cases rx
 obtain⟨its,r,ht,hz⟩:=I.list hx
 have hlen:=r.length
 refine⟨"list",_,slot_list_getitem.lookup,ht.isList.typeIs,?_⟩
 refine wpAny_getItem_list_slice ht.isList hs pl pu .none (by simp) ?_ (by rw[bA2]<;>omega)
 rw[aB8,<- hlen]
 refine⟨.ref s.heap.objs.size,_,I.laid (t':=s.toks) (o:=.lst (iJ xs lo hi)) (λb ob q=>bz8 _ q) (bA3 _) ?_,rfl,q _ (I.hok.fresh (bA3 _))⟩
 exact⟨bE8 (L7 xs lo hi) hz,_,0,(r.drop (HT.b7 xs.length 0 lo)).take (HT.b7 xs.length xs.length hi-HT.b7 xs.length 0 lo),bB4 _ rfl⟩
def jS:V->Bool
 |.non=>true
 |.bl _=>true
 |.int _=>true
 |.str _=>true
 |_=>false
def iK:V->V->Bool
 |.non,.non=>true
 |.bl a,.bl b=>a==b
 |.bl a,.int b=>(if a then 1 else 0)==b
 |.int a,.bl b=>a==(if b then 1 else 0)
 |.int a,.int b=>a==b
 |.str a,.str b=>a==b
 |_,_=>false
theorem aC1 {A:Around}{s:Shared}{y x:V}{u v:Value}(ry:b6 y u)(rx:b6 x v)(fy:jS y=true)(fx:jS x=true):SeqAt.EqAt A s u v (iK y x):=by
 cases y with
 |non=>
  cases ry
  cases x with
  |non=>cases rx;exact SeqAt.EqAt.same _
  |bl b=>cases rx;exact SeqAt.EqAt.none_bool b
  |int b=>obtain⟨t,rfl⟩:=rx;exact SeqAt.EqAt.none_int b t
  |str b=>obtain⟨t,rfl⟩:=rx;exact SeqAt.EqAt.none_str b t
  |_=>exact absurd (show false=true from fx) bC1
 |bl a=>
  cases ry
  cases x with
  |non=>cases rx;exact SeqAt.EqAt.bool_none a
  |bl b=>cases rx;exact SeqAt.EqAt.bool_bool a b
  |int b=>obtain⟨t,rfl⟩:=rx;exact SeqAt.EqAt.bool_int a b t
  |str b=>obtain⟨t,rfl⟩:=rx;exact SeqAt.EqAt.bool_str a b t
  |_=>exact absurd (show false=true from fx) bC1
 |int a=>
  obtain⟨t',rfl⟩:=ry
  cases x with
  |non=>cases rx;exact SeqAt.EqAt.int_none a t'
  |bl b=>cases rx;exact SeqAt.EqAt.int_bool a t' b
  |int b=>obtain⟨t,rfl⟩:=rx;exact SeqAt.EqAt.int_int a t' b t
  |str b=>obtain⟨t,rfl⟩:=rx;exact SeqAt.EqAt.int_str a t' b t
  |_=>exact absurd (show false=true from fx) bC1
 |str a=>
  obtain⟨t',rfl⟩:=ry
  cases x with
  |non=>cases rx;exact SeqAt.EqAt.str_none a t'
  |bl b=>cases rx;exact SeqAt.EqAt.str_bool a t' b
  |int b=>obtain⟨t,rfl⟩:=rx;exact SeqAt.EqAt.str_int a t' b t
  |str b=>obtain⟨t,rfl⟩:=rx;exact SeqAt.EqAt.str_str a t' b t
  |_=>exact absurd (show false=true from fx) bC1
 |_=>exact absurd (show false=true from fy) bC1
def fD (x:V)(u:Value):Bool:=match u with
 |.none=>iK .non x
 |.bool b=>iK (.bl b) x
 |.int i _=>iK (.int i) x
 |.str z _=>iK (.str z) x
 |_=>false
theorem M6 {x y:V}{u:Value}(r:b6 y u)(f:jS y=true):fD x u=iK y x:=by
 cases y with
 |non=>cases r;rfl
 |bl b=>cases r;rfl
 |int i=>obtain⟨t,rfl⟩:=r;rfl
 |str z=>obtain⟨t,rfl⟩:=r;rfl
 |_=>exact absurd (show false=true from f) bC1
theorem oZ {x:V}:∀{xs:List V}{us:List Value},aO xs us->xs.all jS=true->us.any (fD x)=xs.any λy=>iK y x
 |_,_,.nil,_=>rfl
 |y::xs,u::us,.cons r t,f=>by
  rw[bM4,bE5]at f
  rw[bP0,bP0,M6 r f.1,oZ t f.2]
theorem p5 {A:Around}{s:Shared}{x:V}{v:Value}(rx:b6 x v)(fx:jS x=true):∀{xs:List V}{us:List Value},aO xs us->xs.all jS=true->∀u∈us,SeqAt.EqAt A s u v (fD x u)
 |_,_,.nil,_=>λu hu=>by cases hu
 |y::xs,u::us,.cons r t,f=>λu' hu=>by
  rw[bM4,bE5]at f
  rcases bA7.mp hu with rfl|hu
  ·rw[M6 r f.1];exact aC1 r rx f.1 fx
  ·exact p5 rx fx t f.2 u' hu
def p6 (x:V)(xs:List V):Bool:=xs.any λy=>iK y x
def vT (K:ad)(neg:Bool):R2:=λx y H Q=>∃p xs,y = .ref p/\(aQ K H p xs∨aH K H p xs)/\jS x=true/\xs.all jS=true/\Q (.bl (if neg then !p6 x xs else p6 x xs)) H
theorem aC2:c9 X (compareOp .In) (vT X.K false):=by
 intro pins s σ H x y v u Q I rx ry h
 obtain⟨p,xs,rfl,hq,fx,fs,q⟩:=h
 cases ry
 rcases hq with hq|hq
 ·obtain⟨its,r,pl,hz⟩:=I.list hq
  refine SeqAt.in_listAt (fD x) pl.isList (λw hw=>p5 rx fx r fs w (by simpa using hw)) ⟨.bl _,H,I,rfl,?_⟩
  rw[show its.toArray.any (fD x)=its.any (fD x) by simp,oZ r fs]
  exact q
 ·obtain⟨its,r,pl,hz⟩:=I.tuple hq
  refine SeqAt.in_tupleAt (fD x) pl (λw hw=>p5 rx fx r fs w (by simpa using hw)) ⟨.bl _,H,I,rfl,?_⟩
  rw[show its.toArray.any (fD x)=its.any (fD x) by simp,oZ r fs]
  exact q
theorem aC3:c9 X (compareOp .NotIn) (vT X.K true):=by
 intro pins s σ H x y v u Q I rx ry h
 obtain⟨p,xs,rfl,hq,fx,fs,q⟩:=h
 cases ry
 rcases hq with hq|hq
 ·obtain⟨its,r,pl,hz⟩:=I.list hq
  refine SeqAt.notIn_listAt (fD x) pl.isList (λw hw=>p5 rx fx r fs w (by simpa using hw)) ⟨.bl _,H,I,rfl,?_⟩
  rw[show its.toArray.any (fD x)=its.any (fD x) by simp,oZ r fs]
  exact q
 ·obtain⟨its,r,pl,hz⟩:=I.tuple hq
  refine SeqAt.notIn_tupleAt (fD x) pl (λw hw=>p5 rx fx r fs w (by simpa using hw)) ⟨.bl _,H,I,rfl,?_⟩
  rw[show its.toArray.any (fD x)=its.any (fD x) by simp,oZ r fs]
  exact q
theorem aC4:cN X (.builtin "len") (λxs H Q=>∃p ys,xs = [.ref p]/\(aQ X.K H p ys∨aH X.K H p ys)/\Q (.int ys.length) H):=by
 intro pins s σ H xs us Q I r h
 obtain⟨p,ys,rfl,hq,q⟩:=h
 obtain⟨u,rfl,rx⟩:=eU r
 cases rx
 have hn:=oV
 rcases hq with hq|hq
 ·obtain⟨its,r',pl,hz⟩:=I.list hq
  have hlen:=r'.length
  exact Calls.call_len_list pl.isList (by simp only[bA2]<;>omega) ⟨.int ys.length,H,I.tok _,⟨s.toks+1,by rw[bA2,hlen]⟩,q⟩
 ·obtain⟨its,r',pl,hz⟩:=I.tuple hq
  have hlen:=r'.length
  exact len_tuple pl (by simp only[bA2]<;>omega) ⟨.int ys.length,H,I.tok _,⟨s.toks+1,by rw[bA2,hlen]⟩,q⟩
theorem cN.or {f:Value}{r r':List V->Hp->VK->Prop}(h:cN X f r)(h':cN X f r'):cN X f (λxs H Q=>r xs H Q∨r' xs H Q):=by
 intro pins s σ H xs us Q I rs q
 rcases q with q|q
 ·exact h pins s σ H xs us Q I rs q
 ·exact h' pins s σ H xs us Q I rs q
theorem aC5:cN X (.type "list") (λxs H Q=>∃p ys,xs = [.ref p]/\(aQ X.K H p ys∨aH X.K H p ys)/\∀l,H l=none->Q (.ref l) (upd H l (.lst ys))):=by
 intro pins s σ H xs us Q I r h
 obtain⟨p,ys,rfl,hq,q⟩:=h
 obtain⟨u,rfl,rx⟩:=eU r
 cases rx
 have fin:∀(its:List Value),aO ys its->ys.length<=sizeLine->∀(h':Heap) (c':Nat),(∀b o',s.heap.get? b=some o'->h'.get? b=some o')->
   h'.get? s.heap.objs.size=some { cls:=.type "list",dict:=none,data:=.seq its.toArray c',slots:=#[] }->EP X pins σ Q (.ref s.heap.objs.size) { s with heap:=h' }:=λits r' hz h' c' kp e=>
  ⟨.ref s.heap.objs.size,_,I.laid (t':=s.toks) kp (bA3 _) (show bR X.prog X.w _ h' _ (.lst ys) from ⟨hz,its,c',r',e⟩),rfl,q _ (I.hok.fresh (bA3 _))⟩
 rcases hq with hq|hq
 ·obtain⟨its,r',pl,hz⟩:=I.list hq
  have hlen:=r'.length
  obtain⟨o,ho,hc,n,hd⟩:=pl.isList
  exact call_list_seq p (.inl rfl) ho hc hd (λh' c' kp e=>fin its r' hz h' c' kp e) (by simp only[bA2]<;>omega)
 ·obtain⟨its,r',pl,hz⟩:=I.tuple hq
  have hlen:=r'.length
  obtain⟨o,ho,hc,n,hd⟩:=pl
  exact call_list_seq p (.inr rfl) ho hc hd (λh' c' kp e=>fin its r' hz h' c' kp e) (by simp only[bA2]<;>omega)
theorem aC6:cN X (.type "tuple") (λxs H Q=>∃p ys,xs = [.ref p]/\((aQ X.K H p ys/\∀l,H l=none->Q (.ref l) (upd H l (.tup ys)))∨(aH X.K H p ys/\Q (.ref p) H))):=by
 intro pins s σ H xs us Q I r h
 obtain⟨p,ys,rfl,h⟩:=h
 obtain⟨u,rfl,rx⟩:=eU r
 cases rx
 rcases h with⟨hq,q⟩|⟨hq,q⟩
 ·obtain⟨its,r',pl,hz⟩:=I.list hq
  have hlen:=r'.length
  refine call_tuple_list pl.isList (λh' kp=>?_) (by simp only[bA2]<;>omega)
  have I1:a7 X pins σ H { s with heap:=h' }:=I.kept (t':=s.toks) kp
  have I2:a7 X pins σ (upd H h'.objs.size (.tup ys)) { s with heap:=h'.push { cls:=.type "tuple",data:=.seq its.toArray } }:=
   I1.laid (t':=s.toks) (λb o e=>bz8 _ e) (bA3 _) (show bR X.prog X.w _ _ _ (.tup ys) from ⟨hz,its,r',IsTup.new _ _,j7.new _ _ rfl⟩)
  exact⟨.ref h'.objs.size,_,I2,rfl,q _ (I1.hok.fresh (bA3 _))⟩
 ·obtain⟨its,r',pl,hz⟩:=I.tuple hq
  exact call_tuple_same pl ⟨.ref p,H,I,rfl,q⟩
def i5 (K:ad)(T:String)(x:V)(H:Hp):Prop:=match x with
 |.str _=>T="str"
 |.int _=>T="int"
 |.ref p=>(T="list"/\∃xs,aQ K H p xs)∨(T="tuple"/\∃o,K.lookup p=some o/\o.cls = .type "tuple"/\o.dict=none) ∨
   (T="dict"/\((∃kvs,H p=some (.dK kvs))∨∃kvs,H p=some (.dT kvs)))∨(T="set"/\∃S n,H p=some (.set S n))
 |_=>False
theorem M7 {pins:List (Addr×Obj)}{σ:St}{H:Hp}{s:Shared}{T:String}{x:V}{v:Value}(I:a7 X pins σ H s)(r:b6 x v)(ty:i5 X.K T x H) :
  s.TypeIs v T/\∀a,v = .ref a->∃ob,s.heap.get? a=some ob/\ob.dict=none:=by
 cases x with
 |str z=>
  obtain⟨t,rfl⟩:=r
  cases (show T="str" from ty)
  exact⟨typeIs_str s z t,λ_ e=>nomatch e⟩
 |int i=>
  obtain⟨t,rfl⟩:=r
  cases (show T="int" from ty)
  exact⟨typeIs_int s i t,λ_ e=>nomatch e⟩
 |ref p=>
  cases r
  rcases ty with⟨rfl,xs,hq⟩|⟨rfl,o,hk,hc,hd⟩|⟨rfl,hk⟩|⟨rfl,S,n,hk⟩
  ·obtain⟨its,_,pl,_⟩:=I.list hq
   refine⟨pl.isList.typeIs,λa e=>?_⟩
   cases e
   obtain⟨o,n,e,c,hd,_⟩:=pl
   exact⟨o,e,hd⟩
  ·refine⟨⟨o,I.kIn p o hk,hc⟩,λa e=>?_⟩
   cases e
   exact⟨o,I.kIn _ o hk,hd⟩
  ·have z:∃o,s.heap.get? p=some o/\o.ExactDict:=by
    rcases hk with⟨kvs,hk⟩|⟨kvs,hk⟩
    ·obtain⟨_,_,_,_,o,_,_,e,ex,_⟩:=I.hok p _ hk
     exact⟨o,e,ex⟩
    ·obtain⟨_,_,_,_,o,_,_,e,ex,_⟩:=I.hok p _ hk
     exact⟨o,e,ex⟩
   obtain⟨o,e,ex⟩:=z
   refine⟨⟨o,e,ex.1⟩,λa e2=>?_⟩
   cases e2
   exact⟨o,e,ex.2.1⟩
  ·obtain⟨o,_,_,_,e,ex,_⟩:=I.hok p _ hk
   refine⟨⟨o,e,ex.1⟩,λa e2=>?_⟩
   cases e2
   exact⟨o,e,ex.2.1⟩
 |_=>exact False.elim ty
def vU (K:ad)(T:String)(r:V->List V->Hp->VK->Prop)(to:TE):TE:=λσ H Q=>to σ H λx H1=>i5 K T x H1/\r x [] H1 Q
def vV (K:ad)(T:String)(r:V->List V->Hp->VK->Prop)(to:TE)(t:TA):TE:=λσ H Q=>to σ H λx H1=>i5 K T x H1/\t σ H1 λxs H2=>r x xs H2 Q
variable {o e:Expr}{es:List Expr}{to:TE}{t:TA}{name:Str}{apos cpos:Pos}{T id:String}{r:V→List V→Hp→VK→Prop}
theorem M8 (pa:PlainAttrs T)(slot:Slot T name id)(hty:typeOf (.builtin id)=pure (.type "method_descriptor"))(hm:L9 X id r)(ho:PE X o to)(hbase:attributeBase o name X.env (eval o X.env)=eval o X.env:=by rfl)(hline:(apos.endLine==cpos.line)=true:=by rfl):PE X (.Call (.Attribute o name apos) [] [] cpos) (vU X.K T r to):=by
 intro pins s σ H Q I h
 refine wpAny_Call_method0_late hbase hline (aR (ho pins s σ H _ I h) λv s1 ⟨x,H1,I1,r1,ty,q1⟩=>?_)
 obtain⟨h1,h2⟩:=M7 I1 r1 ty
 exact⟨T,id,pa,slot,hty,h1,h2,Calls.callWith_builtin rfl (PySem.evalArgs_none (hm pins s1 σ H1 x [] v [] Q I1 r1 .nil q1))⟩
theorem rC (pa:PlainAttrs T)(slot:Slot T name id)(hty:typeOf (.builtin id)=pure (.type "method_descriptor"))(hm:L9 X id r)(ho:PE X o to)(ha:PA X (e::es) t)(hbase:attributeBase o name X.env (eval o X.env)=eval o X.env:=by rfl)(hfew:((backTo cpos (starEach (e::es) X.env)).all (λx=>!x.1)&&(backToKw cpos (keywordEach [] X.env)).all (λx=>x.1.isSome)
  &&decide ((e::es).length+([]:List Keyword).length+(if ([]:List Keyword).isEmpty then 0 else 1)<30))=true:=by rfl)(hline:(apos.endLine==cpos.line)=true:=by rfl)(hs:starEach (e::es) X.env=(false,eval e X.env)::starEach es X.env:=by rfl)(hplain:(backTo cpos (starEach es X.env)).any (·.1)=false:=by rfl) :
  PE X (.Call (.Attribute o name apos) (e::es) [] cpos) (vV X.K T r to t):=by
 intro pins s σ H Q I h
 refine wpAny_Call_method_late hbase hfew hline rfl (aR (ho pins s σ H _ I h) λv s1 ⟨x,H1,I1,r1,ty,q1⟩=>?_)
 obtain⟨h1,h2⟩:=M7 I1 r1 ty
 refine⟨T,id,pa,slot,hty,h1,h2,?_⟩
 have hA:=ha cpos pins s1 σ H1 _ I1 q1
 rw[hs]at hA ⊢
 refine Calls.callWith_builtin (by show (false||(backTo cpos (starEach es X.env)).any (·.1))=false;rw[hplain]<;>rfl) (Calls.evalArgs_plain ?_)
 exact aR hA λus s2 ⟨vs,H2,I2,r2,q2⟩=>hm pins s2 σ H2 x vs v us Q I2 r1 r2 q2
end
def p9 (X:Cx)(id:String)(r:V->List V->Hp->VK->Prop):Prop:=
 ∀(pins:List (Addr×Obj)) (s:Shared) (σ:St) (H:Hp) (x:V) (xs:List V) (v:Value) (us:List Value) (Q:VK),a7 X pins σ H s->b6 x v->aO xs us->r x xs H Q->
  wpAny (model X.prog X.w) X.A (call (.builtin id) (v::us)) (EP X pins σ Q) X.xe s
theorem aO.one {x:V}{us:List Value}(h:aO [x] us):∃u,us = [u]/\b6 x u:=by
 cases h with
 |cons r t=>
  cases t
  exact⟨_,rfl,r⟩
theorem aO.two {x y:V}{us:List Value}(h:aO [x,y] us):∃u v,us = [u,v]/\b6 x u/\b6 y v:=by
 cases h with
 |cons r t=>
  cases t with
  |cons q t=>
   cases t
   exact⟨_,_,rfl,r,q⟩
theorem aO.zero:∀{us:List Value},aO [] us->us = []
 |_,.nil=>rfl
theorem aO.dropLast {xs:List V}{us:List Value}(h:aO xs us):aO xs.dropLast us.dropLast:=by
 induction h with
 |nil=>exact .nil
 |cons r t ih=>
  cases t with
  |nil=>exact .nil
  |cons q t'=>exact .cons r ih
theorem aO.reverse {xs:List V}{us:List Value}(h:aO xs us):aO xs.reverse us.reverse:=by
 induction h with
 |nil=>exact .nil
 |cons r t ih=>rw[List.reverse_cons,List.reverse_cons];exact aO.append ih (.cons r .nil)
theorem aO.rep {xs:List V}{us:List Value}(h:aO xs us):∀k:Nat,aO (List.replicate k xs).flatten (List.replicate k us).flatten
 |0=>.nil
 |k+1=>by
  rw[bJ8,bJ8,bK8,bK8]
  exact aO.append h (aO.rep h k)
theorem aC7 {α:Type}(l:List α):l.eraseIdx (l.length-1)=l.dropLast:=by
 induction l with
 |nil=>rfl
 |cons a r ih=>
  cases r with
  |nil=>rfl
  |cons b r=>
   have e:(a::b::r).length-1=((b::r).length-1)+1:=by
    have h1:(a::b::r).length=r.length+2:=rfl
    have h2:(b::r).length=r.length+1:=rfl
    omega
   rw[e,List.eraseIdx_cons_succ,ih]
   all_goals rfl
theorem M9 (its:List Value):∀(k:Nat) (acc:List Value),
  List.foldl (λx1 x2=>x1++x2) acc.toArray (List.replicate k its.toArray)=(acc++(List.replicate k its).flatten).toArray
 |0,acc=>by simp
 |k+1,acc=>by
  have e:acc.toArray++its.toArray=(acc++its).toArray:=by simp
  have e2:(acc++its)++(List.replicate k its).flatten=acc++(List.replicate (k+1) its).flatten:=by
   rw[bJ8,bK8,bC5]
  rw[<- e2,<- M9 its k (acc++its),<- e,bJ8,List.foldl_cons]
section
variable {X:Cx}{pins:List (Addr×Obj)}{σ:St}{H:Hp}{s:Shared}{l b:Addr}{xs ys zs:List V}
theorem a7.lset {its its':List Value}{n:Nat}{f:Array Value->Array Value}{t':Nat}(I:a7 X pins σ H s)(hH:H l=some (.lst xs))(e:s.heap.get? l=some { cls:=.type "list",data:=.seq its.toArray n })(hf:f its.toArray=its'.toArray)(hv:aO ys its')(hz:ys.length<=sizeLine) :
  a7 X pins σ (upd H l (.lst ys)) { s with heap:=s.heap.update l (Obj.mapSeq f),toks:=t' }:=by
 have q:=PySem.IsL.update e f
 rw[hf]at q
 refine I.write (x:=l) (e:=l) (by rw[hH];exact trivial) (.inl rfl) (λb' u hb hu=>(Heap.get?_update_other s.heap (Obj.mapSeq f) (Ne.symm hb)).trans hu) ⟨_,q⟩ ?_
 exact⟨hz,its',_,hv,q⟩
theorem a7.lnew {its:List Value}{t':Nat}(I:a7 X pins σ H s)(hv:aO ys its)(hz:ys.length<=sizeLine) :
  a7 X pins σ (upd H s.heap.objs.size (.lst ys)) { s with heap:=s.heap.push { cls:=.type "list",data:=.seq its.toArray },toks:=t' }:=
 I.laid (λ_ _ q=>bz8 _ q) (bA3 _) ⟨hz,its,0,hv,bB4 _ rfl⟩
theorem a7.fresh (I:a7 X pins σ H s):H s.heap.objs.size=none:=I.hok.fresh (bA3 _)
theorem a7.lstM (I:a7 X pins σ H s)(hH:H l=some (.lst xs)):xs.length<=sizeLine/\∃(its:List Value) (n:Nat),aO xs its/\xs.length=its.length/\s.heap.get? l=some { cls:=.type "list",data:=.seq its.toArray n }:=by
 obtain⟨z,its,n,r,e⟩:=I.hok l _ hH
 exact⟨z,its,n,r,r.length,e⟩
theorem N0 {n:Nat}(h:n<=sizeLine):Builtin.List.listTooLong n=false:=by
 unfold Builtin.List.listTooLong
 exact bA0 (by omega)
end
section
variable {X:Cx}
def N1:V->List V->Hp->VK->Prop:=λx vs H Q=>∃l xs y,x = .ref l/\vs = [y]/\H l=some (.lst xs)/\xs.length<sizeLine/\Q .non (upd H l (.lst (xs++[y])))
theorem rD:p9 X "list.append" N1:=by
 intro pins s σ H x vs v us Q I rx rv h
 obtain⟨l,xs,y,rfl,rfl,hH,hz,q⟩:=h
 cases rx
 obtain⟨u,rfl,ru⟩:=rv.one
 obtain⟨z,its,n,r,hl,e⟩:=I.lstM hH
 refine call_meets F.slot_list_append ⟨_,e,rfl⟩ F.entry_list_append (F.args_list_append_2 _ _) (PySem.list_append l its.toArray n u (by rw[bA2];omega)) ⟨e,?_⟩
 refine⟨.non,_,I.lset (its':=its++[u]) hH e (by simp) (r.append (.cons ru .nil)) ?_,rfl,q⟩
 rw[bB1,bF7]
 omega
def aC8:V->List V->Hp->VK->Prop:=λx vs H Q=>∃l b xs zs,x = .ref l/\vs = [.ref b]/\H l=some (.lst xs)/\H b=some (.lst zs)/\xs.length+zs.length<=sizeLine/\Q .non (upd H l (.lst (xs++zs)))
theorem bz4:p9 X "list.extend" aC8:=by
 intro pins s σ H x vs v us Q I rx rv h
 obtain⟨l,b,xs,zs,rfl,rfl,hH,hB,hz,q⟩:=h
 cases rx
 obtain⟨u,rfl,ru⟩:=rv.one
 cases ru
 obtain⟨z,its,n,r,hl,e⟩:=I.lstM hH
 obtain⟨z2,its2,n2,r2,hl2,e2⟩:=I.lstM hB
 have hsz:its.toArray.size+its2.toArray.size<=sizeLine:=by rw[bA2,bA2];omega
 have hlong:¬(!its.toArray.isEmpty&&Builtin.List.listTooLong (its.toArray.size+its2.toArray.size))=true:=by
  rw[N0 hsz,bK2]
  exact bC1
 refine call_meets F.slot_list_extend ⟨_,e,rfl⟩ F.entry_list_extend (F.args_list_extend_2 _ _)
  (AutoSeq1.list_extend_list_list_0 l its.toArray n b its2.toArray n2 hlong (by rw[bA2];omega) (by omega)) ⟨e,e2,?_⟩
 refine⟨.non,_,I.lset (its':=its++its2) hH e (by simp) (r.append r2) ?_,rfl,q⟩
 rw[bB1]
 omega
def N3:V->List V->Hp->VK->Prop:=λx vs H Q=>∃l xs y,x = .ref l/\vs = []/\H l=some (.lst xs)/\xs[xs.length-1]? = some y/\Q y (upd H l (.lst xs.dropLast))
theorem aC9:p9 X "list.pop" N3:=by
 intro pins s σ H x vs v us Q I rx rv h
 obtain⟨l,xs,y,rfl,rfl,hH,hy,q⟩:=h
 cases rx
 have hus:=rv.zero
 subst hus
 obtain⟨z,its,n,r,hl,e⟩:=I.lstM hH
 obtain⟨u,hu,ru⟩:=r.get hy
 have hy':its.toArray[its.toArray.size-1]? = some u:=by
  show its.toArray[its.length-1]? = some u
  rw[<- bL0,<- hl]
  exact hu
 refine call_meets F.slot_list_pop ⟨_,e,rfl⟩ F.entry_list_pop (F.args_list_pop_1 _) (MeetsSeq.list_pop_last l its.toArray n u hy' (by rw[bA2];omega)) ⟨e,?_⟩
 refine⟨y,_,I.lset (its':=its.dropLast) hH e ?_ r.dropLast ?_,ru,q⟩
 ·show its.toArray.eraseIdxIfInBounds (its.toArray.size-1)=its.dropLast.toArray
  rw[bA2,List.eraseIdxIfInBounds_toArray,aC7]
 ·rw[List.length_dropLast]
  omega
def N4:V->List V->Hp->VK->Prop:=λx vs H Q=>∃l xs,x = .ref l/\vs = []/\H l=some (.lst xs)/\Q .non (upd H l (.lst xs.reverse))
theorem aD0:p9 X "list.reverse" N4:=by
 intro pins s σ H x vs v us Q I rx rv h
 obtain⟨l,xs,rfl,rfl,hH,q⟩:=h
 cases rx
 have hus:=rv.zero
 subst hus
 obtain⟨z,its,n,r,hl,e⟩:=I.lstM hH
 refine call_meets F.slot_list_reverse ⟨_,e,rfl⟩ F.entry_list_reverse (F.args_list_reverse_1 _) (AutoSeq1.list_reverse_list_0 l its.toArray n (by rw[bA2];omega)) ⟨e,?_⟩
 refine⟨.non,_,I.lset (its':=its.reverse) hH e (by simp) r.reverse ?_,rfl,q⟩
 rw[List.length_reverse]
 omega
def N5:R2:=λx y H Q=>∃l b xs zs,x = .ref l/\y = .ref b/\H l=some (.lst xs)/\H b=some (.lst zs)/\xs.length+zs.length<=sizeLine/\∀p,H p=none->Q (.ref p) (upd H p (.lst (xs++zs)))
theorem aD1:c9 X (binaryOp .Add) N5:=by
 intro pins s σ H x y v u Q I rx ry h
 obtain⟨l,b,xs,zs,rfl,rfl,hH,hB,hz,q⟩:=h
 cases rx
 cases ry
 obtain⟨z,its,n,r,hl,e⟩:=I.lstM hH
 obtain⟨z2,its2,n2,r2,hl2,e2⟩:=I.lstM hB
 refine PySem.P.add_list e e2 ?_ (by rw[bA2,bA2];omega)
 have ea:its.toArray++its2.toArray=(its++its2).toArray:=by simp
 rw[ea]
 exact⟨.ref _,_,I.lnew (t':=s.toks) (r.append r2) (by rw[bB1];omega),rfl,q _ I.fresh⟩
def N6:R2:=λx y H Q=>∃l k xs,x = .ref l/\y = .int k/\H l=some (.lst xs)/\-(2^63)<=k/\k<2^63/\xs.length*k.toNat<=sizeLine/\
 ∀p,H p=none->Q (.ref p) (upd H p (.lst (List.replicate k.toNat xs).flatten))
theorem aD2 {α:Type}(xs:List α)(k:Nat):(List.replicate k xs).flatten.length=k*xs.length:=by
 induction k with
 |zero=>simp
 |succ k ih=>rw[bJ8,bK8,bB1,ih,Nat.succ_mul,Nat.add_comm]
theorem aD3:c9 X (binaryOp .Mult) N6:=by
 intro pins s σ H x y v u Q I rx ry h
 obtain⟨l,k,xs,rfl,rfl,hH,h1,h2,hz,q⟩:=h
 cases rx
 obtain⟨t,rfl⟩:=ry
 obtain⟨z,its,n,r,hl,e⟩:=I.lstM hH
 have hlen:its.toArray.size*k.toNat<=sizeLine:=by rw[bA2,<- hl];exact hz
 have hcap:¬its.toArray.size*k.toNat>(2^63-1)/8:=by
  have:(sizeLine:Nat)<=(2^63-1)/8:=by decide
  omega
 have hfit:¬(!Builtin.List.listFitsIndex k)=true:=by
  rw[fitsIndex_both h1 h2]
  exact bC1
 have hlong:¬Builtin.List.listTooLong (its.toArray.size*k.toNat)=true:=by
  rw[N0 hlen]
  exact bC1
 have hnew:List.foldl (λx1 x2=>x1++x2) #[] (List.replicate (if its.toArray.isEmpty=true then 0 else k.toNat) its.toArray)=(List.replicate k.toNat its).flatten.toArray:=by
  have f0:∀m:Nat,List.foldl (λx1 x2=>x1++x2) #[] (List.replicate m its.toArray)=(List.replicate m its).flatten.toArray:=λm=>by
   have:=M9 its m []
   rw[List.nil_append]at this
   exact this
  rw[f0]
  cases its with
  |nil=>simp
  |cons a r'=>rw[if_neg (by simp)]
 refine wpAny_binaryOp_repeat_ref (T:="list") (U:="int") (by decide) ⟨_,e,rfl⟩ (λs'=>typeIs_int s' k t) noFill_list_mul F.fills_int_mul F.slot_int_rmul repeat_list F.slot_int_index.lookup
  (call_meets F.slot_int_rmul (typeIs_int s k t) F.entry_int_rmul (F.args_int_rmul_2 _ _) (int___rmul___int_list k t l its.toArray n)
   ⟨e,rfl,⟨_,e,rfl⟩,call_meets F.slot_list_mul ⟨_,e,rfl⟩ F.entry_list_mul (F.args_list_mul_2 _ _) (AutoListH.list___mul___list_int_3 l its.toArray n k t hfit hcap hlong) ⟨e,?_⟩⟩)
 rw[hnew]
 exact⟨.ref _,_,I.lnew (t':=s.toks) (r.rep k.toNat) (by rw[aD2,Nat.mul_comm];exact hz),rfl,q _ I.fresh⟩
end
section
variable {κ:Type}[DecidableEq κ]
def fE (kvs:List (κ×V))(k:κ):Option V:=(kvs.find? λkv=>decide (kv.1=k)).map (·.2)
def dZ (kvs:List (κ×V))(k:κ)(v:V):List (κ×V):=
 if (kvs.any λkv=>decide (kv.1=k))=true then kvs.map (λkv=>if kv.1=k then (kv.1,v) else kv) else kvs++[(k,v)]
theorem vW {p:κ×V}{r:List (κ×V)}{k:κ}(e:p.1=k):fE (p::r) k=some p.2:=by simp[fE,bL4,e]
theorem vX {p:κ×V}{r:List (κ×V)}{k:κ}(e:¬p.1=k):fE (p::r) k=fE r k:=by simp[fE,bL4,e]
theorem N7 (k:κ):∀kvs:List (κ×V),(kvs.any λkv=>decide (kv.1=k))=(fE kvs k).isSome
 |[]=>rfl
 |p::r=>by
  rw[bP0]
  by_cases e:p.1=k
  ·simp only[vW e,bz9 e,Bool.true_or,Option.isSome_some]
  ·rw[vX e,bA0 e,Bool.false_or];exact N7 k r
theorem vY (kvs:List (κ×V))(k:κ)(v:V):(dZ kvs k v).length<=kvs.length+1:=by
 unfold dZ
 split
 ·rw[bA5];omega
 ·rw[bB1,bC7,bQ1];omega
theorem lP.isSome_eq {o:Option V}{u:Option Value}(r:lP o u):o.isSome=u.isSome:=by
 cases o with
 |none=>cases u with
  |none=>rfl
  |some _=>exact (show False from r).elim
 |some _=>cases u with
  |none=>exact (show False from r).elim
  |some _=>rfl
theorem KV.val {kvs:List (κ×V)}{vs:List (κ×Value)}(r:KV kvs vs)(k:κ):lP (fE kvs k) (valueAt vs k):=by
 unfold KV at r
 induction r with
 |nil=>exact bO3
 |@cons p q ps qs h t ih=>
  obtain⟨h1,h2⟩:=h
  by_cases e:p.1=k
  ·have e':q.1=k:=h1.symm.trans e
   have b:valueAt (q::qs) k=some q.2:=by simp[valueAt,bL4,e']
   rw[vW e,b];exact h2
  ·have e':¬q.1=k:=λz=>e (h1.trans z)
   have b:valueAt (q::qs) k=valueAt qs k:=by simp[valueAt,bL4,e']
   rw[vX e,b];exact ih
theorem KV.any {kvs:List (κ×V)}{vs:List (κ×Value)}(r:KV kvs vs)(k:κ):(kvs.any λkv=>decide (kv.1=k))=vs.any λkv=>decide (kv.1=k):=by
 unfold KV at r
 induction r with
 |nil=>rfl
 |cons h t ih=>rw[bP0,bP0,ih,h.1]
theorem KV.repl {kvs:List (κ×V)}{vs:List (κ×Value)}(r:KV kvs vs)(k:κ){y:V}{u:Value}(ry:b6 y u) :
  KV (kvs.map λkv=>if kv.1=k then (kv.1,y) else kv) (vs.map λkv=>if kv.1=k then (kv.1,u) else kv):=by
 unfold KV at r ⊢
 induction r with
 |nil=>exact .nil
 |@cons p q ps qs h t ih=>
  rw[bF4,bF4]
  refine .cons ?_ ih
  obtain⟨h1,h2⟩:=h
  by_cases e:p.1=k
  ·rw[if_pos e,if_pos (h1.symm.trans e)];exact⟨h1,ry⟩
  ·rw[if_neg e,if_neg (λz=>e (h1.trans z))];exact⟨h1,h2⟩
theorem KV.put {kvs:List (κ×V)}{vs:List (κ×Value)}(r:KV kvs vs)(k:κ){y:V}{u:Value}(ry:b6 y u):KV (dZ kvs k y) (stored vs k u):=by
 unfold dZ stored
 rw[r.any k]
 by_cases e:(vs.any λkv=>decide (kv.1=k))=true
 ·rw[if_pos e,if_pos e];exact r.repl k ry
 ·rw[if_neg e,if_neg e];exact Paired.snoc r ⟨rfl,ry⟩
theorem KV.length {kvs:List (κ×V)}{vs:List (κ×Value)}(r:KV kvs vs):kvs.length=vs.length:=Paired.length r
end
theorem pA {P:Program}{w:World}{k:aC}{u:Value}(r:b6 (kV k) u):(eB P w).is k u=true:=by
 cases k with
 |inl i=>obtain⟨t,e⟩:=(show ∃t,u=Value.int i t from r);subst e;exact as6 P w i t
 |inr x=>obtain⟨t,e⟩:=(show ∃t,u=Value.str x t from r);subst e;exact as7 P w x t
theorem N8 {P:Program}{w:World}:∀{ks:List aC}{us:List Value},aO (ks.map kV) us->ItemsAre (eB P w) ks us
 |[],_,r=>by rw[List.map_nil]at r;cases r;exact .nil
 |k::ks,_,r=>by
  rw[bF4]at r
  cases r with
  |cons h t=>exact .cons (pA h) (N8 t)
abbrev KT (H:Hp):List (List aC×V)->List (List aC×Addr×Value)->Prop:=Paired λp q=>p.1=q.1/\H q.2.1=some (.tup (p.1.map kV))/\b6 p.2 q.2.2
theorem KT.val {H:Hp}{kvs:List (List aC×V)}{xs:List (List aC×Addr×Value)}(r:KT H kvs xs)(k:List aC):lP (fE kvs k) ((atKey xs k).map (·.2)):=by
 induction r with
 |nil=>exact bO3
 |@cons p q ps qs h t ih=>
  obtain⟨h1,_,h2⟩:=h
  by_cases e:p.1=k
  ·have e':q.1=k:=h1.symm.trans e
   have b:atKey (q::qs) k=some q.2:=by simp[atKey,bL4,e']
   rw[vW e,b];exact h2
  ·have e':¬q.1=k:=λz=>e (h1.trans z)
   have b:atKey (q::qs) k=atKey qs k:=by simp[atKey,bL4,e']
   rw[vX e,b];exact ih
theorem KT.repl {H:Hp}{kvs:List (List aC×V)}{xs:List (List aC×Addr×Value)}(r:KT H kvs xs)(k:List aC){y:V}{u:Value}(ry:b6 y u) :
  KT H (kvs.map λkv=>if kv.1=k then (kv.1,y) else kv) (xs.map (putAt k u)):=by
 induction r with
 |nil=>exact .nil
 |@cons p q ps qs h t ih=>
  rw[bF4,bF4]
  refine .cons ?_ ih
  obtain⟨h1,h2,h3⟩:=h
  unfold putAt
  by_cases e:p.1=k
  ·rw[if_pos e,if_pos (h1.symm.trans e)];exact⟨h1,h2,ry⟩
  ·rw[if_neg e,if_neg (λz=>e (h1.trans z))];exact⟨h1,h2,h3⟩
theorem KT.put {H:Hp}{kvs:List (List aC×V)}{xs:List (List aC×Addr×Value)}(r:KT H kvs xs)(k:List aC){b:Addr}{y:V}{u:Value}(hb:H b=some (.tup (k.map kV)))(ry:b6 y u) :
  KT H (dZ kvs k y) (storedH xs k b u):=by
 have e:(kvs.any λkv=>decide (kv.1=k))=(atKey xs k).isSome:=by
  rw[N7,(r.val k).isSome_eq,Option.isSome_map]
 unfold dZ storedH
 rw[e]
 by_cases q:(atKey xs k).isSome=true
 ·rw[if_pos q,if_pos q];exact r.repl k ry
 ·rw[if_neg q,if_neg q];exact Paired.snoc r ⟨rfl,hb,ry⟩
theorem KT.keeps {H H':Hp}{kvs:List (List aC×V)}{xs:List (List aC×Addr×Value)}(r:KT H kvs xs)(ht:∀b ys,H b=some (.tup ys)->H' b=some (.tup ys)):KT H' kvs xs:=
 Paired.mapP r λ_ _ z=>⟨z.1,ht _ _ z.2.1,z.2.2⟩
section
variable {P:Program}{w:World}{H:Hp}{h:Heap}{a:Addr}
theorem N9 {u:HO}(ok:bY P w H h)(e:Rd H a u):bR P w H h a u:=e.ok ok
theorem pC {kvs:List (aC×V)}(ok:bY P w H h)(e:Rd H a (.dK kvs)):kvs.length<=sizeLine/\(a==sysModules)=false/\∃vs,KV kvs vs/\h.DictOf (eB P w) a vs:=
 show bR P w H h a (.dK kvs) from N9 ok e
theorem rE {kvs:List (aC×V)}(ok:bY P w H h)(e:H a=some (.dK kvs)):kvs.length<=sizeLine/\(a==sysModules)=false/\∃vs,KV kvs vs/\h.DictOf (eB P w) a vs:=pC ok (.inl e)
theorem pD {ks:List aC}(ok:bY P w H h)(e:H a=some (.tup (ks.map kV))):(tupleKind (eB P w)).is h ks a:=by
 obtain⟨_,its,r,⟨o,h1,h2,n,h3⟩,_⟩:=(show bR P w H h a (.tup (ks.map kV)) from ok a _ e)
 exact⟨o,its.toArray,n,h1,h2,h3,by simpa using N8 r⟩
theorem rF {kvs:List (List aC×V)}(ok:bY P w H h)(e:Rd H a (.dT kvs)):kvs.length<=sizeLine/\(a==sysModules)=false/\
  ∃xs,KT H kvs xs/\h.DictOfH (tupleKind (eB P w)) a xs:=by
 obtain⟨z,y,xs,r,o,es,ep,h1,h2,h3,h4,h5⟩:=(show bR P w H h a (.dT kvs) from N9 ok e)
 refine⟨z,y,xs,r,o,es,ep,h1,h2,h3,h4,λx hx=>?_,h5⟩
 have all:∀{l:List (List aC×V)}{m:List (List aC×Addr×Value)},KT H l m->∀x∈m,(tupleKind (eB P w)).is h x.1 x.2.1:=by
  intro l m q
  induction q with
  |nil=>intro x hx;exact nomatch hx
  |@cons p q ps qs hq t ih=>
   intro x hx
   rcases bA7.mp hx with e|hx
   ·subst e
    exact pD ok (by rw[<- hq.1];exact hq.2.1)
   ·exact ih x hx
 exact all r x hx
theorem O0 {kvs:List (List aC×V)}(ok:bY P w H h)(e:H a=some (.dT kvs)):kvs.length<=sizeLine/\(a==sysModules)=false/\
  ∃xs,KT H kvs xs/\h.DictOfH (tupleKind (eB P w)) a xs:=rF ok (.inl e)
end
def iL (H:Hp)(a:Addr)(y:V)(r:Option V):Prop:=
 (∃kvs k,Rd H a (.dK kvs)/\y=kV k/\r=fE kvs k)∨∃kvs k b,Rd H a (.dT kvs)/\y = .ref b/\H b=some (.tup (k.map kV))/\r=fE kvs k
def kZ (H:Hp)(a:Addr)(y v:V)(H':Hp):Prop:=
 (∃kvs k,H a=some (.dK kvs)/\y=kV k/\kvs.length<sizeLine/\H'=upd H a (.dK (dZ kvs k v))) ∨
 ∃kvs k b,H a=some (.dT kvs)/\y = .ref b/\H b=some (.tup (k.map kV))/\kvs.length<sizeLine/\H'=upd H a (.dT (dZ kvs k v))
theorem iL.k {H:Hp}{a:Addr}{kvs:List (aC×V)}{k:aC}(e:H a=some (.dK kvs)):iL H a (kV k) (fE kvs k):=.inl ⟨kvs,k,.inl e,rfl,rfl⟩
theorem iL.t {H:Hp}{a b:Addr}{kvs:List (List aC×V)}{k:List aC}(e:H a=some (.dT kvs))(eb:H b=some (.tup (k.map kV))):iL H a (.ref b) (fE kvs k):=.inr ⟨kvs,k,b,.inl e,rfl,eb,rfl⟩
theorem kZ.k {H:Hp}{a:Addr}{kvs:List (aC×V)}{k:aC}{v:V}(e:H a=some (.dK kvs))(hl:kvs.length<sizeLine):kZ H a (kV k) v (upd H a (.dK (dZ kvs k v))):=.inl ⟨kvs,k,e,rfl,hl,rfl⟩
theorem kZ.t {H:Hp}{a b:Addr}{kvs:List (List aC×V)}{k:List aC}{v:V}(e:H a=some (.dT kvs))(eb:H b=some (.tup (k.map kV)))(hl:kvs.length<sizeLine) :
  kZ H a (.ref b) v (upd H a (.dT (dZ kvs k v))):=.inr ⟨kvs,k,b,e,rfl,eb,hl,rfl⟩
section
variable {X:Cx}{pins:List (Addr×Obj)}{σ:St}{H:Hp}{s:Shared}{a:Addr}{y v:V}{u r:Value}{o:Option V}{A:Around}{E:Value→Shared→Prop}
theorem a7.big (I:a7 X pins σ H s):sysModules<s.heap.objs.size:=by
 have h:mainGlobals<s.heap.objs.size:=(I.mod.glob.keeps I.bk).lt
 exact Nat.lt_trans (by decide) h
theorem aD4 {Q:Value->Shared->Prop}(hu:A.units+1<cLine)(I:a7 X pins σ H s)(g:iL H a y o)(ry:b6 y u)(h:∀s',a7 X pins σ H s'->Q (.bool o.isSome) s') :
  wpAny (model X.prog X.w) A (compareOp .In u (.ref a)) Q E s:=by
 rcases g with⟨kvs,k,e,ey,l⟩|⟨kvs,k,b,e,ey,eb,l⟩
 ·subst ey
  obtain⟨z,hd,vs,rel,dd⟩:=pC I.hok e
  refine wpAny_in_of (pA ry) hd dd.mapOf ?_
  rw[<- (rel.val k).isSome_eq,<- l]
  exact h _ (I.tok _)
 ·subst ey
  cases (show u=Value.ref b from ry)
  obtain⟨z,hd,xs,rel,dd⟩:=rF I.hok e
  refine wpAny_in_heap (tupleKind_room_in1 hu) (pD I.hok eb) hd dd ?_
  have q:=(rel.val k).isSome_eq
  rw[Option.isSome_map]at q
  rw[<- q,<- l]
  exact h _ (I.tok _)
theorem aD5 {Q:Value->Shared->Prop}(hu:A.units+1<cLine)(I:a7 X pins σ H s)(g:iL H a y o)(ry:b6 y u)(h:∀s',a7 X pins σ H s'->Q (.bool (!o.isSome)) s') :
  wpAny (model X.prog X.w) A (compareOp .NotIn u (.ref a)) Q E s:=by
 rcases g with⟨kvs,k,e,ey,l⟩|⟨kvs,k,b,e,ey,eb,l⟩
 ·subst ey
  obtain⟨z,hd,vs,rel,dd⟩:=pC I.hok e
  refine wpAny_notIn_of (pA ry) hd dd.mapOf ?_
  rw[<- (rel.val k).isSome_eq,<- l]
  exact h _ (I.tok _)
 ·subst ey
  cases (show u=Value.ref b from ry)
  obtain⟨z,hd,xs,rel,dd⟩:=rF I.hok e
  refine wpAny_notIn_heap (tupleKind_room_in1 hu) (pD I.hok eb) hd dd ?_
  have q:=(rel.val k).isSome_eq
  rw[Option.isSome_map]at q
  rw[<- q,<- l]
  exact h _ (I.tok _)
theorem pE {h':Heap}{t':Nat}{ob:HO}(I:a7 X pins σ H s)(mu:oM (H a))(hs:Heap.SameBut a s.heap h')(he:∃q,h'.get? a=some q)(new:bR X.prog X.w (upd H a ob) h' a ob) :
  a7 X pins σ (upd H a ob) { s with heap:=h',toks:=t' }:=
 I.write (x:=a) (e:=a) mu (.inl rfl) (λb q hb z=>(hs.2 b hb).trans z) he new
theorem vZ {P:Program}{w:World}{H':Hp}{h':Heap}{kvs:List (aC×V)}{vs:List (aC×Value)}(z:kvs.length<=sizeLine)(hd:(a==sysModules)=false)(rel:KV kvs vs)(dd:h'.DictOf (eB P w) a vs) :
  bR P w H' h' a (.dK kvs):=⟨z,hd,vs,rel,dd⟩
theorem aD6 {H':Hp}{Q:Unit->Shared->Prop}(hu:A.units+1<cLine)(I:a7 X pins σ H s)(g:kZ H a y v H')(ry:b6 y u)(rv:b6 v r)(h:∀s',a7 X pins σ H' s'->Q () s') :
  wpAny (model X.prog X.w) A (setItem (.ref a) u r) Q E s:=by
 rcases g with⟨kvs,k,e,ey,l,eH⟩|⟨kvs,k,b,e,ey,eb,l,eH⟩
 ·subst ey eH
  obtain⟨z,hd,vs,rel,dd⟩:=rE I.hok e
  have hz:vs.length<=sizeLine:=by rw[<- rel.length];exact z
  have hl:(dZ kvs k v).length<=sizeLine:=by have:=vY kvs k v;omega
  refine wpAny_setItem_pairs (hsz:=hz) (pA ry) dd λh' dd' hs=>h _ ?_
  have he:∃q,h'.get? a=some q:=let ⟨q,_,_,hq,_⟩:=dd';⟨q,hq⟩
  exact pE I (by rw[e];exact bO3) hs he (vZ hl hd (rel.put k rv) dd')
 ·subst ey eH
  cases (show u=Value.ref b from ry)
  obtain⟨z,hd,xs,rel,dd⟩:=O0 I.hok e
  have hz:xs.length<=sizeLine:=by rw[<- Paired.length rel];exact z
  have hl:(dZ kvs k v).length<=sizeLine:=by have:=vY kvs k v;omega
  refine wpAny_setItem_heap (hsz:=hz) (tupleKind_room_in1 hu) (pD I.hok eb) dd λh' dd' hs=>h _ ?_
  obtain⟨q,es,ep,hq,h2,h3,h4,_,h5⟩:=dd'
  refine pE I (by rw[e];exact bO3) hs ⟨q,hq⟩ ⟨hl,hd,_,(rel.put k eb rv).keeps λc ys ec=>?_,q,es,ep,hq,h2,h3,h4,h5⟩
  rw[aW (E4 ec e (λz=>nomatch z))]
  exact ec
end
section
variable {X:Cx}{pins:List (Addr×Obj)}{σ:St}{H:Hp}{s:Shared}{a:Addr}{kvs:List (aC×V)}{k:aC}{u:Value}{A:Around}{E:Value→Shared→Prop}
theorem aD7 {Q:Value->Shared->Prop}(I:a7 X pins σ H s)(e:Rd H a (.dK kvs))(h:∀t s',a7 X pins σ H s'->Q (.int kvs.length t) s'):wpAny (model X.prog X.w) A (call (.builtin "len") [.ref a]) Q E s:=by
 obtain⟨z,hd,vs,rel,dd⟩:=pC I.hok e
 refine call_len_dict hd dd (by rw[<- rel.length];rw[sizeLine_eq]at z;omega) ?_
 rw[<- rel.length]
 exact h _ _ (I.tok _)
end
def O1 (ty td:TE):TE:=λσ H Q=>ty σ H λy H1=>td σ H1 λx H2=>∃a o,x = .ref a/\iL H2 a y o/\Q (.bl o.isSome) H2
def O2 (ty td:TE):TE:=λσ H Q=>ty σ H λy H1=>td σ H1 λx H2=>∃a o,x = .ref a/\iL H2 a y o/\Q (.bl (!o.isSome)) H2
def w4 (td ty tv:TE):TS:=λD σ H=>tv σ H λv H1=>td σ H1 λx H2=>ty σ H2 λy H3=>∃a H4,x = .ref a/\kZ H3 a y v H4/\D.nx σ H4
section
variable {X:Cx}{o i e value:Expr}{pos pos' tpos:Pos}{td ty tv:TE}
theorem aD8 (hu:X.A.units+1<cLine)(hi:PE X i ty)(ho:PE X o td):PC X .In i o (O1 ty td):=by
 intro pins s σ H Q I h
 refine aR (hi pins s σ H _ I h) λiv s1 ⟨y,H1,I1,ry,q1⟩=>aR (ho pins s1 σ H1 _ I1 q1) λu s2 ⟨x,H2,I2,rx,a,ov,ex,g,q2⟩=>?_
 subst ex
 obtain rfl:u=Value.ref a:=rx
 exact aD4 hu I2 g ry λs3 I3=>⟨.bl ov.isSome,H2,I3,rfl,q2⟩
theorem O3 (hu:X.A.units+1<cLine)(hi:PE X i ty)(ho:PE X o td):PC X .NotIn i o (O2 ty td):=by
 intro pins s σ H Q I h
 refine aR (hi pins s σ H _ I h) λiv s1 ⟨y,H1,I1,ry,q1⟩=>aR (ho pins s1 σ H1 _ I1 q1) λu s2 ⟨x,H2,I2,rx,a,ov,ex,g,q2⟩=>?_
 subst ex
 obtain rfl:u=Value.ref a:=rx
 exact aD5 hu I2 g ry λs3 I3=>⟨.bl (!ov.isSome),H2,I3,rfl,q2⟩
theorem O4 (hu:X.A.units+1<cLine)(ho:PE X o td)(hi:PE X i ty)(hv:PE X value tv)(hs:swapsWith value (some (.Subscript o i pos')) pos.line X.env=pure false) :
  PS X (.Assign [.Subscript o i pos'] value pos) (w4 td ty tv):=by
 intro pins s σ H D I h
 refine wpAny_Assign_Subscript (aR (hv pins s σ H _ I h) λr s1 ⟨v,H1,I1,rv,q1⟩=>aR (ho pins s1 σ H1 _ I1 q1) λu s2 ⟨x,H2,I2,rx,q2⟩=>aR (hi pins s2 σ H2 _ I2 q2) λiv s3 ⟨y,H3,I3,ry,a,H4,ex,g,q3⟩=>?_) hs
 subst ex
 obtain rfl:u=Value.ref a:=rx
 exact aD6 hu I3 g ry rv λs4 I4=>⟨σ,H4,I4,q3⟩
end
theorem O5 {P:Program}{w:World}{H:Hp}(h:Heap)(hb:sysModules<h.objs.size):bR P w H (h.push { cls:=.type "dict",data:=.dict #[] }) h.objs.size (.dK []):=
 ⟨bE9 _,bO4.mpr (Ne.symm (bD4 hb)),[],.nil,Heap.DictOf.new h⟩
theorem aD9 {P:Program}{w:World}{H:Hp}(h:Heap)(hb:sysModules<h.objs.size):bR P w H (h.push { cls:=.type "dict",data:=.dict #[] }) h.objs.size (.dT []):=
 ⟨bE9 _,bO4.mpr (Ne.symm (bD4 hb)),[],.nil,_,#[],0,bB4 _ rfl,⟨rfl,rfl,rfl⟩,rfl,rfl,List.nodup_nil⟩
def O6:TE:=λ_ H Q=>∀p,H p=none->Q (.ref p) (upd H p (.dK []))
def O7:TE:=λ_ H Q=>∀p,H p=none->Q (.ref p) (upd H p (.dT []))
section
variable {X:Cx}{pos:Pos}
theorem aE0:PE X (.Dict [] [] pos) O6:=λpins s σ H Q I h=>
 wpAny_Dict_empty ⟨.ref s.heap.objs.size,_,I.laid (a:=s.heap.objs.size) (o:=.dK []) (t':=s.toks) (λ_ _ q=>bz8 _ q) (bA3 _) (O5 s.heap I.big),rfl,h _ (I.hok.fresh (bA3 _))⟩
theorem aE1:PE X (.Dict [] [] pos) O7:=λpins s σ H Q I h=>
 wpAny_Dict_empty ⟨.ref s.heap.objs.size,_,I.laid (a:=s.heap.objs.size) (o:=.dT []) (t':=s.toks) (λ_ _ q=>bz8 _ q) (bA3 _) (aD9 s.heap I.big),rfl,h _ (I.hok.fresh (bA3 _))⟩
end
def w5:List (TE×TE)->St->Hp->(List (V×V)->Hp->Prop)->Prop
 |[],_,H,Q=>Q [] H
 |(tk,tv)::r,σ,H,Q=>tk σ H λx H1=>tv σ H1 λy H2=>w5 r σ H2 λps H3=>Q ((x,y)::ps) H3
abbrev VV:List (V×V)->List (Value×Value)->Prop:=Paired λp q=>b6 p.1 q.1/\b6 p.2 q.2
def rG (X:Cx)(pos:Pos)(keys:List (Option Expr))(values:List Expr)(trs:List (TE×TE)):Prop:=
 ∀(pins:List (Addr×Obj)) (s:Shared) (σ:St) (H:Hp) (Q:List (V×V)->Hp->Prop),a7 X pins σ H s->w5 trs σ H Q->
  wpAny (model X.prog X.w) X.A (evalPairs (pairTrees keys values X.env pos)) (λvs s'=>∃ps H',a7 X pins σ H' s'/\VV ps vs/\Q ps H') X.xe s
theorem aE2 {X:Cx}{pos:Pos}:rG X pos [] [] []:=λpins s σ H Q I h=>pairTrees_nil_walk ⟨[],H,I,.nil,h⟩
theorem aE3 {X:Cx}{pos:Pos}{k v:Expr}{ks:List (Option Expr)}{vs:List Expr}{tk tv:TE}{trs:List (TE×TE)}(hk:PE X k tk)(hv:PE X v tv)(hr:rG X pos ks vs trs) :
  rG X pos (some k::ks) (v::vs) ((tk,tv)::trs):=λpins s σ H Q I h=>
 pairTrees_cons_walk (aR (hk pins s σ H _ I h) λu s1 ⟨x,H1,I1,rx,q1⟩=>aR (hv pins s1 σ H1 _ I1 q1) λw2 s2 ⟨y,H2,I2,ry,q2⟩=>
  aR (hr pins s2 σ H2 _ I2 q2) λws s3 ⟨ps,H3,I3,rel,q3⟩=>⟨(x,y)::ps,H3,I3,.cons ⟨rx,ry⟩ rel,q3⟩)
def jE (kvs more:List (aC×V)):List (aC×V):=more.foldl (λacc kv=>dZ acc kv.1 kv.2) kvs
theorem KV.merge:∀{more:List (aC×V)}{rs:List (aC×Value)}{kvs:List (aC×V)}{vs:List (aC×Value)},KV more rs->KV kvs vs->KV (jE kvs more) (merged vs rs):=by
 intro more rs kvs vs r
 unfold KV at r
 induction r generalizing kvs vs with
 |nil=>intro q;exact q
 |@cons p q ps qs h t ih=>
  intro r0
  have e:KV (dZ kvs p.1 p.2) (stored vs q.1 q.2):=by
   have:=r0.put p.1 h.2
   rw[<- h.1];exact this
  exact ih e
theorem w6:∀(more kvs:List (aC×V)),(jE kvs more).length<=kvs.length+more.length
 |[],kvs=>by show kvs.length<=kvs.length+0;omega
 |p::r,kvs=>by
  have h1:=w6 r (dZ kvs p.1 p.2)
  have h2:=vY kvs p.1 p.2
  show (jE (dZ kvs p.1 p.2) r).length<=_
  rw[bC7];omega
theorem O8 {P:Program}{w:World}:∀{kvs:List (aC×V)}{ws:List (Value×Value)},VV (kvs.map λkv=>(kV kv.1,kv.2)) ws->∃rs,Carries (eB P w) ws rs/\KV kvs rs
 |[],_,r=>by rw[List.map_nil]at r;cases r;exact⟨[],bO3,.nil⟩
 |p::kvs,_,r=>by
  rw[bF4]at r
  cases r with
  |@cons a b as bs h t=>
   obtain⟨rs,c,q⟩:=O8 (P:=P) (w:=w) t
   obtain⟨b1,b2⟩:=b
   exact⟨(p.1,b2)::rs,⟨pA h.1,rfl,c⟩,.cons ⟨rfl,h.2⟩ q⟩
def O9 (trs:List (TE×TE)):TE:=λσ H Q=>∀p,H p=none->w5 trs σ (upd H p (.dK [])) λps H2=>H2 p=some (.dK [])/\∃kvs:List (aC×V),ps=kvs.map (λkv=>(kV kv.1,kv.2))/\kvs.length<=15/\Q (.ref p) (upd H2 p (.dK (jE [] kvs)))
theorem aE4 {X:Cx}{pos:Pos}{keys:List (Option Expr)}{values:List Expr}{trs:List (TE×TE)}(h:rG X pos keys values trs)(hall:keys.all (·.isSome)=true)(hl:keys.length=values.length)(h0:keys≠[])(h15:keys.length<=15):PE X (.Dict keys values pos) (O9 trs):=by
 intro pins s σ H Q I q
 have hn:=I.hok.fresh (bA3 s.heap.objs.size)
 have I1:=I.laid (a:=s.heap.objs.size) (o:=.dK []) (h':=s.heap.push { cls:=.type "dict",data:=.dict #[] }) (t':=s.toks) (λ_ _ q=>bz8 _ q) (bA3 _) (O5 s.heap I.big)
 refine wpAny_Dict_walk (knd:=eB X.prog X.w) hall hl h0 h15 (aR (h pins _ σ _ _ I1 (q _ hn)) λws s2 ⟨ps,H2,I2,rel,e,kvs,ep,lk,q2⟩=>?_)
 subst ep
 obtain⟨rs,c,rk⟩:=O8 (P:=X.prog) (w:=X.w) rel
 obtain⟨z,hd,vs0,r0,dd⟩:=rE I2.hok e
 cases r0
 refine⟨rs,c,dd,λh' dd' hs=>⟨.ref s.heap.objs.size,_,?_,rfl,q2⟩⟩
 have hz:(jE [] kvs).length<=sizeLine:=by
  have h1:=w6 kvs []
  rw[bQ1]at h1
  rw[sizeLine_eq];omega
 have he:∃q,h'.get? s.heap.objs.size=some q:=let ⟨q,_,_,hq,_⟩:=dd';⟨q,hq⟩
 exact pE I2 (by rw[e];exact bO3) hs he (vZ hz hd (rk.merge .nil) dd')
structure M1 (X:Cx)(o:Expr)(m:Str)(apos:Pos)(e:Expr)(cpos:Pos):Prop where
 base:attributeBase o m X.env (eval o X.env)=eval o X.env
 few:((backTo cpos (starEach [e] X.env)).all (λx=>!x.1)&&(backToKw cpos (keywordEach [] X.env)).all (λx=>x.1.isSome)
 &&decide (([e]:List Expr).length+([]:List Keyword).length+(if ([]:List Keyword).isEmpty then 0 else 1)<30))=true
 line:(apos.endLine==cpos.line)=true
 trees:backTo cpos (starEach [e] X.env) = [(false,eval e X.env)]
structure M2 (X:Cx)(o:Expr)(m:Str)(apos:Pos)(e f:Expr)(cpos:Pos):Prop where
 base:attributeBase o m X.env (eval o X.env)=eval o X.env
 few:((backTo cpos (starEach [e,f] X.env)).all (λx=>!x.1)&&(backToKw cpos (keywordEach [] X.env)).all (λx=>x.1.isSome)
 &&decide (([e,f]:List Expr).length+([]:List Keyword).length+(if ([]:List Keyword).isEmpty then 0 else 1)<30))=true
 line:(apos.endLine==cpos.line)=true
 trees:backTo cpos (starEach [e,f] X.env) = [(false,eval e X.env),(false,eval f X.env)]
def w9 (H:Hp)(a:Addr):Prop:=(∃kvs,Rd H a (.dK kvs))∨∃kvs,Rd H a (.dT kvs)
theorem P0 {X:Cx}{pins:List (Addr×Obj)}{σ:St}{H:Hp}{s:Shared}{a:Addr}(I:a7 X pins σ H s)(d:w9 H a) :
  s.TypeIs (.ref a) "dict"/\(∀b,Value.ref a = .ref b->∃ob,s.heap.get? b=some ob/\ob.dict=none)/\(a==sysModules)=false:=by
 rcases d with⟨kvs,e⟩|⟨kvs,e⟩
 ·obtain⟨_,hd,vs,_,dd⟩:=pC I.hok e
  refine⟨dd.typeIs,λb q=>?_,hd⟩
  cases q
  obtain⟨ob,_,_,h1,h2,_⟩:=dd
  exact⟨ob,h1,h2.2.1⟩
 ·obtain⟨_,hd,xs,_,dd⟩:=rF I.hok e
  refine⟨dd.typeIs,λb q=>?_,hd⟩
  cases q
  obtain⟨ob,_,_,h1,h2,_⟩:=dd
  exact⟨ob,h1,h2.2.1⟩
end L2
namespace Att
open PySem PySem.W PySem.Calls PyProof.Rows
theorem aE5 {P:Params}{h:Heap}:∀(ns:af) (vs:List Value),WellAll P h vs (ns.map WData.int)->IntsAre vs ns:=by
 intro ns
 induction ns with
 |nil=>
  intro vs w
  rw[List.map_nil]at w
  cases w
  exact .nil
 |cons n ns ih=>
  intro vs w
  rw[bF4]at w
  cases w with
  |cons a b=>
   cases a
   exact .cons _ _ (ih _ b)
theorem P3 {l:OpenLaw}{n:Nat}(hn:l.most=some n){P:Params}{h:Heap}{args:List WData}{vals:List Value}(hpre:l.row.toRowW.claim.pre args=true)(hwl:WellAll P h vals args) :
  ∃a vs ns,vals = [Value.ref a]/\args = [WData.list (ns.map WData.int)]/\h.get? a=some { cls:=.type "list",data:=.seq vs.toArray }/\IntsAre vs ns/\ns.length<=n:=by
 have hsh:WShape.hasAll [] args [.list .int]=true:=(pre_splitW hpre).1
 have hc:l.pre.holds [] { args:=args }=true:=(pre_splitW hpre).2
 obtain⟨d,r,rfl,h1,h2⟩:=hasAllW_cons hsh
 obtain rfl:=hasAllW_nil h2
 obtain⟨xs,rfl,h3⟩:=hasW_list h1
 obtain⟨ns,rfl⟩:=items_int h3
 have hlen:ns.length<=n:=by
  unfold OpenLaw.pre at hc
  have h4:(WTm.not (.lt (.lit (.int (n:Int))) (.len (.arg 0)))).holds [] { args:=[.list (ns.map .int)] }=true:=by
   have h4:=(holds_andW hc).1
   rw[hn]at h4
   exact h4
  have h5:=condW_of h4 (w_not (w_lt w_lit (w_len_list (w_arg rfl))))
  rw[bA5]at h5
  refine bP3 λq=>?_
  have q':(n:Int)<((ns.length:Nat):Int):=by omega
  first
   |(rw[bz9 q']at h5;exact absurd h5 (by decide))
   |(simp at h5;omega)
 cases hwl with
 |cons w1 w2=>
  cases w2
  cases w1 with
  |list ho hall=>exact⟨_,_,ns,rfl,rfl,ho,aE5 ns _ hall,hlen⟩
theorem P4 (l:OpenLaw)(args:List WData):l.row.toRowW.claim.post args (.bool true) args=true:=
 postW_of (r:=l.row.toRowW) (X:=(true==true))
  (show WShape.has [] (.bool true) .bool=true by first|rfl|decide|simp[WShape.has,WShape.arms,WShape.armsAll])
  (show (WTm.eq .res (.lit (.bool true))).value [] { args:=args,res:=some (.bool true),after:=args }=some (.bool (true==true)) from w_eq_bool (w_res rfl) w_lit) rfl
theorem bz5 {l:OpenLaw}{n:Nat}{q:Program}{loose:List Str}{XP:(Str->Option Value)->Heap->Prop}{YP:World->Heap->Prop}{d:DefRec}{x:Str}(hn:l.most=some n)(hdf:d.params.defaults = [])(hbind:∀pm cd doc v:Value,bindArgs (docDef d.name d.params d.body d.scope pm cd doc) ⟨[v],[]⟩=pure [(x,v)])(hx:d.scope.names.lookup x=some .local∨d.scope.names.lookup x=some .cell)(hk:d.scope.kind = .function)(hco:d.scope.isCoroutine=false)(hgen:d.scope.isGenerator=false)(body:∀(w:World) (s₀ s₁ s:Shared) (mg mb:Str->Option Value) (fa:Addr) (o:Obj) (pm cd doc:Value) (a:Addr) (vs:List Value) (ns:af),
   Ground q loose [] XP w s₀ mg mb s₁.heap->YP w s₁.heap->
   s₁.heap.get? fa=some o->o.data = .func (docDef d.name d.params d.body d.scope pm cd doc)->s₁.heap.CodeRec cd d.name->mg d.name=some (.ref fa)->
   s₁.heap.get? a=some { cls:=.type "list",data:=.seq vs.toArray }->IntsAre vs ns->ns.length<=n->
   s.gens = #[]->s.os=s₁.os->
   Fr s₁.heap s₁.heap.objs.size s.heap (bindL (envOfC d.name d.scope s₁.heap.objs.size fa cd).kindOf [(x,.ref a)] λ_=>none)->
   Cl s₁.heap.objs.size (cellsFrom (s₁.heap.objs.size+1) d.scope.names []) s.heap (bindC (envOfC d.name d.scope s₁.heap.objs.size fa cd).kindOf [(x,.ref a)] λ_=>none)->
   wpAny (model l.prog w) (callerA.deeper (envOfC d.name d.scope s₁.heap.objs.size fa cd)) (execs d.body (envOfC d.name d.scope s₁.heap.objs.size fa cd))
    (λf s'=>f = .ret (.bool true)/\OldK s₁.heap s'.heap/\s'.os=s₁.os/\AllBare s'.gens) (λ_ _=>False) s) :
  WalkO q loose XP YP l.row.toRowW d [] (λf vs=>PySem.call f vs):=by
 intro w s₀ s₁ mg mb G Y fa o pm cd doc dV kV ho hd hcd hD hmg hg args vals as hpre hlay hrd hwl hlo
 obtain rfl:dV = .none:=Dflts.none hD hdf
 obtain rfl:kV = .none:=Dflts.noKw hD
 obtain⟨a,vs,ns,rfl,rfl,hobj,hints,hlen⟩:=P3 hn hpre hwl
 refine enter_call ?_
 refine call_cells_ret (o:=o) (by rw[depth_caller];decide) ho (fd_plain hd) G.T.nolimit hcd (hbind pm cd doc (.ref a)) (λy hy=>?_) (λh₁ tk F X=>?_) hco hgen hk
 ·obtain rfl:y=(x,Value.ref a):=bA1.mp hy
  rcases hx with e|e
  ·exact .inl e
  ·exact .inr ⟨e,cellsFrom_some _ _ _ (.inl e)⟩
 ·refine bJ3 (body w s₀ s₁ { s₁ with heap:=h₁,toks:=tk } mg mb fa o pm cd doc a vs ns G Y ho (fd_plain hd) hcd hmg hobj hints hlen hg rfl F X) (λf s' hq=>?_) (λ_ _ hq=>hq)
  obtain⟨rfl,h2,h3,h4⟩:=hq
  exact⟨.inl ⟨.bool true,.bool true,[],rfl,λ_=>rfl,.bool true,P4 l _,λ_=>⟨List.Pairwise.nil,λ_ hm=>(nomatch hm)⟩⟩,h2,h3,h4⟩
theorem aE6 {l:OpenLaw}{n:Nat}{q:Program}{loose:List Str}{XP:(Str->Option Value)->Heap->Prop}{YP:World->Heap->Prop}{d:DefRec}(hn:l.most=some n)(hdf:d.params.defaults = [])(call:∀(w:World) (s₀ s₁:Shared) (mg mb:Str->Option Value) (fa:Addr) (o:Obj) (pm cd doc:Value) (a:Addr) (vs:List Value) (ns:af),
   Ground q loose [] XP w s₀ mg mb s₁.heap->YP w s₁.heap->
   s₁.heap.get? fa=some o->o.data = .func (docDef d.name d.params d.body d.scope pm cd doc)->s₁.heap.CodeRec cd d.name->mg d.name=some (.ref fa)->
   s₁.heap.get? a=some { cls:=.type "list",data:=.seq vs.toArray }->IntsAre vs ns->ns.length<=n->s₁.gens = #[]->
   codeAny (model l.prog w) callerA (.call (.ref fa) ⟨[.ref a],[]⟩) (λr s'=>r = .ok (.ret (.bool true))/\OldK s₁.heap s'.heap/\s'.os=s₁.os/\AllBare s'.gens) s₁) :
  WalkO q loose XP YP l.row.toRowW d [] (λf vs=>PySem.call f vs):=by
 intro w s₀ s₁ mg mb G Y fa o pm cd doc dV kV ho hd hcd hD hmg hg args vals as hpre hlay hrd hwl hlo
 obtain rfl:dV = .none:=Dflts.none hD hdf
 obtain rfl:kV = .none:=Dflts.noKw hD
 obtain⟨a,vs,ns,rfl,rfl,hobj,hints,hlen⟩:=P3 hn hpre hwl
 refine enter_call (codeAny_mono (call w s₀ s₁ mg mb fa o pm cd doc a vs ns G Y ho (fd_plain hd) hcd hmg hobj hints hlen hg) λr s' hq=>?_)
 obtain⟨rfl,h2,h3,h4⟩:=hq
 exact⟨.inl ⟨.bool true,.bool true,[],rfl,λ_=>rfl,.bool true,P4 l _,λ_=>⟨List.Pairwise.nil,λ_ hm=>(nomatch hm)⟩⟩,h2,h3,h4⟩
end Att
namespace L2
open PySem PySem.Spec PyProof.Rows
theorem pF:∀{vs:List Value}{ns:af},IntsAre vs ns->aO (ns.map V.int) vs
 |_,_,.nil=>.nil
 |_,_,.cons n t h=>.cons ⟨t,rfl⟩ (pF h)
def rH (H:Hp):Prop:=∀b,H b=none∨∃o xs,H b=some (.frz o (.lst xs))
theorem aE7 {P:Program}{w:World}{K:ad}{mg mb:Str->Option Value}{CX:hZ}{k:Nat}{fa a:Addr}{fd:FuncData}{x:Str}{sp:Sp}{s₁:Shared}{vs:List Value}{ns:af}(KX:K.In s₁.heap)(hns:s₁.heap.Ns mainGlobals mg)(hb:s₁.heap.Ns builtinsNs mb)(hbb:∀x:Str,x≠"__name__"->mb x=bootBuiltins x)(hlim:s₁.heap.NoLimit)(hg:s₁.gens = #[])(ha:s₁.heap.get? a=some { cls:=.type "list",data:=.seq vs.toArray })(hi:IntsAre vs ns)(hl:ns.length<=sizeLine)(hr:cF k callerA)(F:∀base:Heap,K.In base->base.Ns mainGlobals mg->dQ P w K mg base CX k fa fd [x] sp)(hbind:∀(s:Shared) (u:Value),BindsTo s fd ⟨[u],[]⟩ [(x,u)])(hsp:∀H:Hp,rH H->aQ K H a (ns.map V.int)->sp [.ref a] H (λv _=>v = .bl true) λ_ _ _=>False)(hCX:∀H e s',CX [] H s₁ (λ_ _ _=>False) e s'->False) :
  codeAny (model P w) callerA (.call (.ref fa) ⟨[.ref a],[]⟩) (λr s'=>r = .ok (.ret (.bool true))/\OldK s₁.heap s'.heap/\s'.os=s₁.os/\AllBare s'.gens) s₁:=by
 have rv:=pF hi
 have lenV:=hi.length
 have core:∀H:Hp,rH H->aQ K H a (ns.map V.int)->bY P w H s₁.heap->(∀b,H b≠none->b=a)->(H a≠none->K.lookup a=none)->
   codeAny (model P w) callerA (.call (.ref fa) ⟨[.ref a],[]⟩) (λr s'=>r = .ok (.ret (.bool true))/\OldK s₁.heap s'.heap/\s'.os=s₁.os/\AllBare s'.gens) s₁:=by
  intro H hO hS hok hA hK
  have base_of:∀{b:Addr}{o:Obj},s₁.heap.get? b=some o->H b=none->(jO s₁.heap H).get? b=some o:=λe n=>as9 e n
  have noA:∀{b:Addr}{o:Obj}{es:Array DictEntry}{ep:Nat},s₁.heap.get? b=some o->o.data = .dict es ep->H b=none:=λ{b o es ep} e d=>by
   cases q:H b with
   |none=>rfl
   |some u=>
    have e':b=a:=hA b (by rw[q];simp)
    subst e'
    rw[ha]at e;cases e
    have d':Data.seq vs.toArray _=Data.dict es ep:=d
    cases d'
  have nsK:∀{b:Addr}{m:Str->Option Value},s₁.heap.Ns b m->(jO s₁.heap H).Ns b m:=λ{b m} ⟨o,es,ep,e,d,r⟩=>⟨o,es,ep,base_of e (noA e d),d,r⟩
  have hKb:K.In (jO s₁.heap H):=λb o e=>base_of (KX b o e) (by
   cases q:H b with
   |none=>rfl
   |some u=>
    have e':b=a:=hA b (by rw[q];simp)
    subst e'
    rw[hK (by rw[q];simp)]at e;cases e)
  have hM:Mod K mg (jO s₁.heap H):=⟨hKb,nsK hns,⟨mb,nsK hb,hbb⟩,let ⟨mc,h1,h2⟩:=hlim;⟨mc,nsK h1,h2⟩⟩
  have e0:rB P w K mg (jO s₁.heap H) callerA [] s₁ H:=⟨rfl,hM,λb o e=>at0 e,Nat.le_of_eq (as8 _ _),trivial,λb hb=>absurd (show b∈([]:List Addr) from hb) (by simp),hok,.of_eq hg⟩
  refine codeAny_mono ((F _ hKb (nsK hns)).run callerA [] s₁ H ⟨[.ref a],[]⟩ [.ref a] [.ref a] _ _ hr e0 (hbind s₁ (.ref a)) (.cons rfl .nil) (hsp H hO hS)) λr s' h=>?_
  cases r with
  |error e=>exact (hCX H e s' h).elim
  |ok fl=>
   cases fl with
   |next=>exact False.elim h
   |brk=>exact False.elim h
   |cont=>exact False.elim h
   |ret u=>
    obtain⟨v,H',os,bare,un,hok',r',q⟩:=h
    have q':v = .bl true:=q
    subst q'
    obtain rfl:u=Value.bool true:=r'
    refine⟨rfl,OldK.of_keep λb o e=>?_,os,bare⟩
    cases q:H b with
    |none=>exact un.keep b o e q (by intro z;exact absurd (show b∈([]:List Addr) from z) (by simp)) (by simp)
    |some u=>
     rcases hO b with z|⟨ob,xs,z⟩
     ·rw[q]at z;cases z
     ·have z2:=un.frzs b ob _ z
      obtain⟨e1,_⟩:=hok b _ z
      obtain⟨e2,_⟩:=hok' b _ z2
      rw[e]at e1;cases e1
      exact e2
 cases hk:K.lookup a with
 |some o=>
  have e:=KX a o hk
  rw[ha]at e
  cases e
  refine core (λ_=>none) (λ_=>.inl rfl) (.inr ⟨_,vs.toArray,_,hk,rfl,rfl,rfl,by rw[bA2,lenV];exact hl,by simpa using rv⟩) (λb u z=>by have z':(none:Option HO)=some u:=z;cases z') (λb z=>absurd rfl z) λz=>absurd rfl z
 |none=>
  refine core (λb=>if b=a then some (.frz { cls:=.type "list",data:=.seq vs.toArray } (.lst (ns.map V.int))) else none) (λb=>?_) (.inl (.inr ⟨{ cls:=.type "list",data:=.seq vs.toArray },if_pos rfl⟩)) (λb u z=>?_) (λb z=>?_) λ_=>hk
  ·by_cases hb:b=a
   ·exact .inr ⟨_,_,if_pos hb⟩
   ·exact .inl (if_neg hb)
  ·by_cases hb:b=a
   ·have z':=(if_pos hb).symm.trans z
    cases z'
    subst hb
    exact⟨ha,by rw[bA5];exact hl,vs,_,rv,ha⟩
   ·have z':=(if_neg hb).symm.trans z
    cases z'
  ·by_cases hb:b=a
   ·exact hb
   ·exact absurd (if_neg hb) z
theorem aE8 {l:PySem.W.OpenLaw}{n k:Nat}{q:Program}{loose:List Str}{XP:(Str->Option Value)->Heap->Prop}{YP:World->Heap->Prop}{d:DefRec}{K:Params->ad}{CX:World->hZ}{sp:World->Sp}{x:Str}(hn:l.most=some n)(hn2:n<=sizeLine)(hdf:d.params.defaults = [])(hr:cF k callerA)(hY:∀(w:World) (h:Heap),YP w h->(K w.params).In h)(F:∀(w:World) (mg:Str->Option Value) (fa:Addr) (h:Heap),(K w.params).In h->h.Ns mainGlobals mg->mg d.name=some (.ref fa)->
   ∃fd:FuncData,(∀(s:Shared) (u:Value),BindsTo s fd ⟨[u],[]⟩ [(x,u)])/\
    ∀base:Heap,(K w.params).In base->base.Ns mainGlobals mg->dQ l.prog w (K w.params) mg base (CX w) k fa fd [x] (sp w))(hsp:∀(w:World) (H:Hp) (a:Addr) (ns:af),ns.length<=n->rH H->aQ (K w.params) H a (ns.map V.int)->sp w [.ref a] H (λv _=>v = .bl true) λ_ _ _=>False)(hCX:∀(w:World) (H:Hp) (s:Shared) (e:Value) (s':Shared),CX w [] H s (λ_ _ _=>False) e s'->False) :
  PySem.W.WalkO q loose XP YP l.row.toRowW d [] (λf vs=>PySem.call f vs):=by
 refine Att.aE6 hn hdf λw s₀ s₁ mg mb fa o pm cd doc a vs ns G Y ho hd hcd hmg hobj hints hlen hg=>?_
 have KX:=hY w _ Y
 obtain⟨fd,hb,hF⟩:=F w mg fa _ KX G.T.g hmg
 exact aE7 KX G.T.g G.T.b G.T.builtins G.T.nolimit hg hobj hints (bE8 hlen hn2) hr hF hb (λH hO hS=>hsp w H a ns hlen hO hS) λH e s'=>hCX w H s₁ e s'
def jT (s:Stmt):Arguments:=match s with
 |.FunctionDef _ a _ _ _ _ _ _ _ _=>a
 |_=>{ posonlyargs:=[],args:=[],vararg:=none,kwonlyargs:=[],kw_defaults:=[],kwarg:=none,defaults:=[] }
def eV (s:Stmt):List Stmt:=match s with
 |.FunctionDef _ _ b _ _ _ _ _ _ _=>b
 |_=>[]
def aV (s:Stmt):Scope:=match s with
 |.FunctionDef _ _ _ _ _ _ sc _ _ _=>sc
 |_=>{ kind:=.function,names:=[],isGenerator:=false,isCoroutine:=false }
abbrev eW:hZ:=λ_ _ _ _ _ _=>False
abbrev E0:XK:=λ_ _ _=>False
theorem aE9 {X:Cx}:oX eW X E0:=λ_ _ _ _ _ _ _ h=>h.elim
structure fX (K:ad)(x qual:Str)(st:Stmt)(f:Addr)(fd:FuncData):Prop where
 ex:∃(oc:Value) (od:Option Addr) (kV doc pm:Value) (an:Option Addr) (cdv ct:Value) (osl:Array (Option Value)),
  fd=PySem.W.fnOf x qual (jT st) (eV st) (aV st) .none kV doc pm an cdv ct/\K.lookup f=some ⟨oc,od,.func fd,osl⟩/\PySem.W.codeIn K cdv qual=true
 kp:PySem.W.keepIn K (.ref f)=true
section
variable {P:Program}{w:World}{K:ad}{mg:Str→Option Value}{base:Heap}
theorem fX.ok {x qual:Str}{st:Stmt}{f:Addr}{fd:FuncData}{N ps:List Str}{k:Nat}{sp:Sp}(F:fX K x qual st f fd)(S:FnScope N ps (aV st))(len:∀vs H Q E,sp vs H Q E->vs.length=ps.length)(hbody:∀(cdv:Value) (A:Around) (outer:List Env) (s:Shared) (H:Hp) (vs:List V) (Q:VK) (E:XK),cF k (A.deeper (envOfC qual (aV st) s.heap.objs.size f cdv))->sp vs H Q E->
   ∃t,dY (dR eW P w K mg base N qual (aV st) f cdv A outer s H E).nox (eV st) t/\t { nx:=λ_ H'=>Q .non H',rt:=Q } (i4 N vs) H):dQ P w K mg base eW (k+1) f fd ps sp:=by
 obtain⟨oc,od,kV,doc,pm,an,cdv,ct,osl,rfl,lk,hcd⟩:=F.ex
 refine K8 lk hcd S len λA outer s H vs Q E hr hsp=>?_
 obtain⟨t,h,q⟩:=hbody cdv A outer s H vs Q E hr hsp
 exact⟨t,h.nox,q⟩
theorem fX.binds {x qual:Str}{st:Stmt}{f:Addr}{fd:FuncData}{ps:List Str}(F:fX K x qual st f fd)(h:∀(kV doc pm:Value) (an:Option Addr) (cdv ct:Value) (us:List Value),us.length=ps.length->bindArgs (PySem.W.fnOf x qual (jT st) (eV st) (aV st) .none kV doc pm an cdv ct) ⟨us,[]⟩=pure (ps.zip us)):jQ K fd ps []:=by
 obtain⟨oc,od,kV,doc,pm,an,cdv,ct,osl,rfl,lk,hcd⟩:=F.ex
 exact .all (h kV doc pm an cdv ct)
theorem aF0 {x qual:Str}{st:Stmt}{f:Addr}{oc:Value}{od an:Option Addr}{osl:Array (Option Value)}{kV doc pm cdv ct:Value}(l:K.lookup f=some ⟨oc,od,.func (PySem.W.fnOf x qual (jT st) (eV st) (aV st) .none kV doc pm an cdv ct),osl⟩)(c:PySem.W.codeIn K cdv qual=true)(k:PySem.W.keepIn K (.ref f)=true):fX K x qual st f (PySem.W.fnOf x qual (jT st) (eV st) (aV st) .none kV doc pm an cdv ct):=⟨⟨oc,od,kV,doc,pm,an,cdv,ct,osl,rfl,l,c⟩,k⟩
end
theorem l8 {A:Around}{k:Nat}(hr:cF k A):A.units+1<cLine:=Nat.lt_of_le_of_lt (Nat.add_le_add_left (by decide:1<=64) _) hr.units
theorem pG {n:Nat}(h:n<=1000):n<sizeLine:=Nat.lt_of_le_of_lt h (by decide)
section
variable {X:Cx}
theorem pv (i:Nat){x:Str}{pos:Pos}(hN:X.N[i]? = some x:=by rfl)(hv:fU X.env.scope x:=by first|exact Or.inl rfl|exact Or.inr (Or.inl rfl)|exact Or.inr (Or.inr rfl))(hd:(x==("__debug__":Str))=false:=by decide)(hcd:(x==("__classdict__":Str))=false:=by decide):PE X (.Name x pos) (hV i):=iF hN hv hd hcd
theorem aF1:cN X (.builtin "len") (λxs H Q=>∃a kvs,xs = [V.ref a]/\H a=some (.dK kvs)/\Q (.int kvs.length) H):=by
 intro pins s σ H xs us Q I r h
 obtain⟨a,kvs,rfl,ha,q⟩:=h
 obtain⟨u,rfl,ru⟩:=eU r
 cases ru
 exact aD7 I (.inl ha) λt s' I'=>⟨.int kvs.length,H,I',⟨t,rfl⟩,q⟩
end
theorem aT {A B:Prop}(h:B):if false=true then A else B:=by
 rw[if_neg bC1]
 exact h
theorem b9 {A B:Prop}(h:A):if true=true then A else B:=by
 rw[if_pos rfl]
 exact h
def aE (H H':Hp):Prop:=∀b o,H b=some o->H' b=some o
theorem aE.refl (H:Hp):aE H H:=λ_ _ h=>h
theorem aE.trans {H H1 H2:Hp}(a:aE H H1)(b:aE H1 H2):aE H H2:=λc o h=>b c o (a c o h)
theorem aE.free {H H':Hp}(e:aE H H'){l:Addr}(h:H' l=Option.none):H l=Option.none:=by
 cases q:H l with
 |none=>rfl
 |some o=>
  rw[e l o q]at h
  cases h
def eJ (cells:List (Str×Addr)):List (Str×NameKind)->List (Str×Addr)->List (Str×Addr)
 |[],cs=>cs
 |(n,k)::r,cs=>eJ cells r (if k==.free then (n,(cells.lookup n).getD 0)::cs else cs)
theorem wA {env:Env}:∀(ns:List (Str×NameKind)) (cs:List (Str×Addr)),(∀x∈ns,x.2 = .free->∃c,env.cells.lookup x.1=some c)->
  (forIn ns cs (λ(x:Str×NameKind) r=>(match x with
   |(name,kind)=>if (kind==.free)=true then (do let y <- cellOf env name;pure (ForInStep.yield ((name,y)::r))) else pure (ForInStep.yield r)):_->_->Sem _))=(pure (eJ env.cells ns cs):Sem (List (Str×Addr)))
 |[],cs,_=>by rw[List.forIn_nil];rfl
 |(n,k)::r,cs,h=>by
  rw[List.forIn_cons]
  have hr:∀x∈r,x.2 = .free->∃c,env.cells.lookup x.1=some c:=λx hx=>h x (bA9 _ hx)
  cases hk:(k==NameKind.free) with
  |true=>
   have e:k = .free:=by simpa using hk
   obtain⟨c,hc⟩:=h (n,k) bA4 e
   simp only[hk,if_true]
   have e1:cellOf env n=pure c:=by unfold cellOf;rw[hc]
   rw[e1]
   show ((pure c >>= λy=>pure (ForInStep.yield ((n,y)::cs))) >>= _:Sem _)=_
   rw[pure_bind,pure_bind]
   have:=wA (env:=env) r ((n,c)::cs) hr
   refine this.trans ?_
   unfold eJ
   simp only[hk,if_true,hc,Option.getD_some]
   cases r<;>rfl
  |false=>
   simp only[hk,bC6,bG2]
   rw[pure_bind]
   have:=wA (env:=env) r cs hr
   refine this.trans ?_
   conv=>rhs;unfold eJ
   simp only[hk,bC6,bG2]
theorem wB {scope:Scope}{env:Env}(h:∀x∈scope.names,x.2 = .free->∃c,env.cells.lookup x.1=some c):closureFor scope env=pure (eJ env.cells scope.names []):=by
 have e:=wA (env:=env) scope.names [] h
 unfold closureFor
 rw[show (pure (eJ env.cells scope.names []):Sem (List (Str×Addr)))=(pure (eJ env.cells scope.names []) >>= pure) by rw[pure_bind]]
 rw[<- e]
theorem rJ {cells:List (Str×Addr)}:∀(ns:List (Str×NameKind)) (cs:List (Str×Addr)) {x:Str}{c:Addr},(∀y∈ns,y.2 = .free->∃c,cells.lookup y.1=some c)->
  (∀x c,cs.lookup x=some c->cells.lookup x=some c)->(eJ cells ns cs).lookup x=some c->cells.lookup x=some c
 |[],cs,x,c,_,hc,h=>hc x c h
 |(n,k)::r,cs,x,c,hn,hc,h=>by
  unfold eJ at h
  have hr:∀y∈r,y.2 = .free->∃c,cells.lookup y.1=some c:=λy hy=>hn y (bA9 _ hy)
  cases hk:(k==NameKind.free) with
  |false=>
   simp only[hk,bC6,bG2]at h
   exact rJ r cs hr hc h
  |true=>
   simp only[hk,if_true]at h
   refine rJ r _ hr (λy d e=>?_) h
   obtain⟨c0,h0⟩:=hn (n,k) bA4 (by simpa using hk)
   have h0:cells.lookup n=some c0:=h0
   rw[h0]at e
   rw[bH8]at e
   by_cases hyn:y=n
   ·subst hyn
    simp only[bJ7,Option.getD_some]at e
    rw[h0];exact e
   ·have:(y==n)=false:=bO4.mpr hyn
    simp only[this]at e
    exact hc y d e
theorem wC {cells:List (Str×Addr)}:∀(ns:List (Str×NameKind)) (cs:List (Str×Addr)) {x:Str},((x,NameKind.free)∈ns∨∃c,cs.lookup x=some c)->∃c,(eJ cells ns cs).lookup x=some c
 |[],cs,x,h=>by
  rcases h with h|h
  ·simp at h
  ·exact h
 |(n,k)::r,cs,x,h=>by
  unfold eJ
  refine wC r _ ?_
  rcases h with h|⟨c,h⟩
  ·rcases bA7.mp h with e|e
   ·cases e
    exact .inr ⟨_,by simp[bH8];rfl⟩
   ·exact .inl e
  ·right
   cases hk:(k==NameKind.free) with
   |false=>exact⟨c,by simpa[hk] using h⟩
   |true=>
    simp only[if_true]
    rw[bH8]
    by_cases hxn:(x==n)=true
    ·simp only[hxn];exact⟨_,rfl⟩
    ·simp only[bM6.mpr hxn];exact⟨c,h⟩
theorem rK {env:Env}:∀{names:List (Str×NameKind)}{x:Str}{k:NameKind},(names.map λ(n,k)=>if (k==NameKind.free&&env.scope.kind==.function&&env.kindOf n==some .cell) then (n,NameKind.cell) else (n,k)).lookup x=some k->
  names.lookup x=some k∨(names.lookup x=some .free/\k = .cell)
 |[],_,_,h=>by simp at h
 |(n,q)::r,x,k,h=>by
  have ih:=@rK env r x k
  rw[bF4]at h
  by_cases hx:(x==n)=true
  ·have e:x=n:=by simpa using hx
   subst e
   by_cases hc:(q==NameKind.free&&env.scope.kind==.function&&env.kindOf x==some .cell)=true
   ·simp only[hc,if_true,bH8,bJ7]at h
    have hq:q = .free:=by simp at hc;exact hc.1.1
    exact .inr ⟨by simp[bH8,hq],(bE0 h).symm⟩
   ·simp only[hc,bC6,bG2,bH8,bJ7]at h
    exact .inl (by simp[bH8];exact bE0 h)
  ·have hx':(x==n)=false:=bM6.mpr hx
   have h':(r.map λ(n,k)=>if (k==NameKind.free&&env.scope.kind==.function&&env.kindOf n==some .cell) then (n,NameKind.cell) else (n,k)).lookup x=some k:=by
    by_cases hc:(q==NameKind.free&&env.scope.kind==.function&&env.kindOf n==some .cell)=true
    ·simp only[hc,if_true,bH8,hx']at h;exact h
    ·simp only[hc,bC6,bG2,bH8,hx']at h;exact h
   simp only[bH8,hx']
   exact ih h'
def fY (fr:List (Option Nat))(σ:St):St:=fr.map λo=>o.bind λj=>(σ[j]?).join
def Wk (σ₁ σ₂:St):Prop:=σ₁.length=σ₂.length/\∀(i:Nat) v,σ₁[i]? = some (some v)->σ₂[i]? = some (some v)
theorem Wk.refl (σ:St):Wk σ σ:=⟨rfl,λ_ _ h=>h⟩
theorem Wk.set {σ τ:St}{i:Nat}{v:V}(h:Wk σ τ)(hi:σ[i]? = some none):Wk σ (τ.set i (some v)):=by
 refine⟨by rw[bI2];exact h.1,λj w e=>?_⟩
 by_cases hj:j=i
 ·subst hj;rw[hi]at e;cases e
 ·rw[bD6 (Ne.symm hj)];exact h.2 j w e
theorem jU:∀(ns:List (Str×NameKind)) (n:Nat) (cs:List (Str×Addr)),cellsFrom n ns cs=cellsFrom n ns []++cs
 |[],_,_=>rfl
 |(x,k)::r,n,cs=>by
  unfold cellsFrom
  split
  ·rw[jU r (n+1) ((x,n)::cs),jU r (n+1) [(x,n)]];simp
  ·exact jU r n cs
theorem wD:∀(ns:List (Str×NameKind)) (n:Nat) {x:Str}{c:Addr},(x,c)∈cellsFrom n ns []->(x,NameKind.cell)∈ns
 |[],_,_,_,h=>by simp[cellsFrom]at h
 |(y,k)::r,n,x,c,h=>by
  unfold cellsFrom at h
  split at h
  ·rename_i hk
   rw[jU]at h
   rcases bB8.mp h with z|z
   ·exact bA9 _ (wD r _ z)
   ·rw[bA1]at z
    cases z
    have:k = .cell:=by simpa using hk
    rw[this];exact bA4
  ·exact bA9 _ (wD r _ h)
theorem rL:∀(ns:List (Str×NameKind)) (n:Nat) {x:Str},(x,NameKind.cell)∈ns->∃c,(x,c)∈cellsFrom n ns []
 |(y,k)::r,n,x,h=>by
  unfold cellsFrom
  rcases bA7.mp h with z|z
  ·cases z
   rw[if_pos (by rfl),jU]
   exact⟨n,bD1 _ (by simp)⟩
  ·split
   ·obtain⟨c,hc⟩:=rL r (n+1) z
    rw[jU]
    exact⟨c,bD2 _ hc⟩
   ·exact rL r n z
theorem wE {α:Type}:∀{l:List (Str×α)}{x:Str}{c:α},(x,c)∈l->∃d,l.lookup x=some d
 |(y,v)::r,x,c,h=>by
  rw[bH8]
  cases hb:x==y with
  |true=>exact⟨v,rfl⟩
  |false=>
   rcases bA7.mp h with z|z
   ·cases z;simp at hb
   ·exact wE z
theorem rM {α:Type}{x:Str}:∀(l r:List (Str×α)),(l++r).lookup x=(match l.lookup x with|some v=>some v|none=>r.lookup x)
 |[],_=>rfl
 |(y,v)::l,r=>by
  rw[List.cons_append,bH8,bH8]
  cases hb:x==y with
  |true=>rfl
  |false=>exact rM l r
def i6 (X:Cx)(scope:Scope)(C:Addr):List (Str×Addr):=cellsFrom (C+1) scope.names (eJ X.env.cells scope.names [])
theorem lT {X:Cx}{scope:Scope}{C:Addr}{x:Str}{c:Addr}(h:(i6 X scope C).lookup x=some c) :
  (x,c)∈cellsFrom (C+1) scope.names []∨((∀d,(x,d)∉cellsFrom (C+1) scope.names [])/\(eJ X.env.cells scope.names []).lookup x=some c):=by
 unfold i6 at h
 rw[jU,rM]at h
 cases e:(cellsFrom (C+1) scope.names []).lookup x with
 |some v=>rw[e]at h;cases h;exact .inl (bG4 e)
 |none=>
  rw[e]at h
  refine .inr ⟨λd hd=>?_,h⟩
  obtain⟨d',z⟩:=wE hd
  rw[e]at z;cases z
theorem aF2 {X:Cx}{scope:Scope}{C:Addr}{x:Str}{c:Addr}(hn:(x,NameKind.cell)∉scope.names)(h:(eJ X.env.cells scope.names []).lookup x=some c):(i6 X scope C).lookup x=some c:=by
 unfold i6
 rw[jU,rM]
 cases e:(cellsFrom (C+1) scope.names []).lookup x with
 |some v=>exact absurd (wD _ _ (bG4 e)) hn
 |none=>exact h
theorem P5 {X:Cx}{scope:Scope}{C:Addr}{x:Str}(h:(x,NameKind.cell)∈scope.names∨∃c,(eJ X.env.cells scope.names []).lookup x=some c):∃c,(i6 X scope C).lookup x=some c:=by
 unfold i6
 rw[jU,rM]
 cases e:(cellsFrom (C+1) scope.names []).lookup x with
 |some v=>exact⟨v,rfl⟩
 |none=>
  rcases h with h|h
  ·obtain⟨c,hc⟩:=rL scope.names (C+1) h
   obtain⟨d,hd⟩:=wE hc
   rw[e]at hd;cases hd
  ·exact h
def bM (X:Cx)(scope:Scope)(N:List Str)(s:Shared)(H:Hp)(C:Addr)(fp:List Addr)(E:Value->Shared->Prop):Cx:=
 { X with N:=N,s₀:=s,H₀:=H,env:=compEnvC scope (i6 X scope C) C X.env,outer:=X.stack,ex:=fp,fn:=λx=>scope.names.lookup x==some .cell,pn:=[],xe:=E }
structure dM (X:Cx)(scope:Scope)(N:List Str)(fr:List (Option Nat)):Prop where
 kind:scope.kind = .function
 own:∀y∈scope.names,y.2 = .cell->scope.names.lookup y.1=some .cell
 names:∀y∈scope.names,y.2 = .local->scope.names.lookup y.1=some .local
 free:∀y∈scope.names,y.2 = .free->X.env.scope.names.lookup y.1=some .cell∨X.env.scope.names.lookup y.1=some .free
 len:fr.length=N.length
 from_:∀(i j:Nat),fr[i]? = some (some j)->∃x,N[i]? = some x/\X.N[j]? = some x/\scope.names.lookup x=some .free
section
variable {X:Cx}{pins:List (Addr×Obj)}{σ:St}{H:Hp}{s:Shared}{scope:Scope}{N:List Str}{fr:List (Option Nat)}
theorem dM.cells (S:dM X scope N fr)(I:a7 X pins σ H s):∀y∈scope.names,y.2 = .free->∃c,X.env.cells.lookup y.1=some c:=λy hy hk=>I.ok.has y.1 (S.free y hy hk)
theorem aF3 {C D:Addr}{fp:List Addr}{E:Value->Shared->Prop}{h1:Heap}{tk:Nat}{m:Str->Option Value}(S:dM X scope N fr)(I:a7 X pins σ H s)(hf:∀b∈fp,gM X pins H b)(hfl:∀b∈fp,b<s.heap.objs.size)(hD:s.heap.objs.size<=D)(hC:s.heap.objs.size<=C)(hDC:D<C)(old:∀b o,s.heap.get? b=some o->h1.get? b=some o)(hns:h1.Ns C m)(hacc:h1.get? D=some { cls:=.type "list",data:=.seq #[] 0 })(hco:CellsOk h1 (C+1) (cellsFrom (C+1) scope.names [])) :
  a7 (bM X scope N s H C fp E) [] (fY fr σ) (upd H D (.lst [])) { s with heap:=h1,toks:=tk }:=by
 have hHD:H D=none:=I.hok.fresh hD
 have cl:=S.cells I
 have cs:∀{x:Str}{c:Addr},(eJ X.env.cells scope.names []).lookup x=some c->X.env.cells.lookup x=some c:=λ{x c} h=>rJ scope.names [] cl (λ_ _ z=>by simp at z) h
 have clt:∀{x:Str}{c:Addr},X.env.cells.lookup x=some c->c<s.heap.objs.size:=λ{x c} h=>by obtain⟨v,z⟩:=I.cell x c h;exact z.lt
 have nge:∀{x:Str}{c:Addr},(x,c)∈cellsFrom (C+1) scope.names []->C<c:=λ{x c} h=>(hco.empty x c h).2
 refine⟨⟨I.ok.mod,?_,I.ok.glob,I.ok.blt,hC,?_,?_,?_,I.ok.hd,I.ok.frames,.inl rfl,?_,I.bs,bE8 I.ok.bsz I.sz,?_,?_,I.stack,I.stkFree⟩,rfl,I.bare,Un.laid old hD hHD,⟨m,hns,?_⟩,?_,?_,?_,λp hp=>absurd (show p∈([]:List (Addr×Obj)) from hp) (by simp),?_,?_⟩
 ·exact S.kind
 ·intro x y c h1 h2
  rcases lT h1 with a|⟨_,a⟩<;>rcases lT h2 with b|⟨_,b⟩
  ·exact name_of_addr hco.apart a b
  ·exact absurd (bC0 (Nat.lt_trans (nge a) (clt (cs b))) hC) (bF9 _)
  ·exact absurd (bC0 (Nat.lt_trans (nge b) (clt (cs a))) hC) (bF9 _)
  ·exact I.ok.inj x y c (cs a) (cs b)
 ·intro x hx
  have hx:(relabel scope X.env).names.lookup x=some .cell∨(relabel scope X.env).names.lookup x=some .free:=hx
  have fin:(x,NameKind.free)∈scope.names->∃c,(i6 X scope C).lookup x=some c:=λz=>P5 (.inr (wC scope.names [] (.inl z)))
  rcases hx with hx|hx
  ·rcases rK hx with z|z
   ·exact P5 (.inl (bG4 z))
   ·exact fin (bG4 z.1)
  ·rcases rK hx with z|z
   ·exact fin (bG4 z)
   ·exact absurd z.2 (by decide)
 ·intro x c hx h
  have hx:(scope.names.lookup x==some NameKind.cell)=true:=hx
  have hx:scope.names.lookup x=some .cell:=by simpa using hx
  rcases lT h with a|⟨a,_⟩
  ·exact bE8 hC (bH0 (nge a))
  ·obtain⟨d,hd⟩:=rL scope.names (C+1) (bG4 hx)
   exact absurd hd (a d)
 ·intro b hb
  refine⟨bD4 (bC0 (hfl b hb) hC),λx c e=>?_⟩
  rcases lT e with a|⟨_,a⟩
  ·exact bJ4 (Nat.lt_trans (bC0 (hfl b hb) hC) (nge a))
  ·exact (hf b hb).2.2.2.2.1 x c (cs a)
 ·intro b o e hb
  rcases (hf b hb).2.2.2.1 with z|z
  ·exact I.ok.noex b o e z
  ·exact absurd (bC0 (bB2 e) (bE8 I.ok.bsz z)) (bF9 _)
 ·intro b hb z
  rcases bA7.mp (I.stkSub b z) with e|e
  ·exact (hf b hb).2.1 e
  ·exact (hf b hb).2.2.1 e
 ·intro i x v e1 e2 e3
  have e2:(fr.map λo=>o.bind λj=>(σ[j]?).join)[i]? = some (some v):=e2
  rw[bB6]at e2
  cases ef:fr[i]? with
  |none=>rw[ef]at e2;cases e2
  |some o=>
   rw[ef]at e2
   cases o with
   |none=>cases e2
   |some j=>
    have e2:some ((σ[j]?).join)=some (some v):=e2
    have ej:σ[j]? = some (some v):=by
     cases q:σ[j]? with
     |none=>rw[q]at e2;cases e2
     |some w=>rw[q]at e2;cases w with
      |none=>cases e2
      |some w=>cases e2;rfl
    obtain⟨y,a1,a2,a4⟩:=S.from_ i j ef
    have e1:N[i]? = some x:=e1
    rw[e1]at a1
    cases a1
    have a3:(x,NameKind.free)∈scope.names:=bG4 a4
    have vis:fU X.env.scope x:=(S.free _ a3 rfl).elim (λz=>.inr (.inl z)) λz=>.inr (.inr z)
    obtain⟨m0,hn0,hl0⟩:=I.loc
    obtain⟨u,r,l⟩:=hl0 j x v a2 ej vis
    refine⟨u,r,.inr ⟨?_,?_⟩⟩
    ·have e3:(relabel scope X.env).names.lookup x=some .local∨(relabel scope X.env).names.lookup x=some .cell∨(relabel scope X.env).names.lookup x=some .free:=e3
     rcases e3 with z|z|z
     ·rcases rK z with y|y
      ·rw[a4]at y;cases y
      ·exact absurd y.2 (by decide)
     ·exact .inl z
     ·exact .inr z
    ·obtain⟨c,hc⟩:=wC (cells:=X.env.cells) scope.names [] (x:=x) (.inl a3)
     refine⟨c,aF2 (λz=>by have:=S.own _ z rfl;rw[a4]at this;cases this) hc,?_⟩
     have hc':=cs hc
     have S1:=S.free (x,.free) a3 rfl
     rcases l with⟨k,_⟩|⟨_,c2,hc2,z⟩
     ·have k:X.env.scope.names.lookup x=some .local:=k
      rcases S1 with q|q<;>(have q:X.env.scope.names.lookup x=_:=q;rw[k]at q;cases q)
     ·rw[hc']at hc2;cases hc2
      obtain⟨oc,ho,hd⟩:=z
      exact⟨oc,old c oc ho,hd⟩
 ·intro x c e
  rcases lT e with a|⟨_,a⟩
  ·exact⟨_,(hco.empty x c a).1⟩
  ·obtain⟨v,oc,ho,hd⟩:=I.cell x c (cs a)
   exact⟨v,oc,old c oc ho,hd⟩
 ·show upd H D (.lst []) C=none
  rw[aW (bJ4 hDC)];exact I.hok.fresh hC
 ·intro x c e
  show upd H D (.lst []) c=none
  rcases lT e with a|⟨_,a⟩
  ·rw[aW (bJ4 (Nat.lt_trans hDC (nge a)))];exact I.hok.fresh (bE8 hC (bH0 (nge a)))
  ·have q:=cs a
   rw[aW (bD4 (bC0 (clt q) hD))]
   exact I.freeC x c q
 ·exact I.hok.laid old hD ⟨bE9 _,[],0,.nil,hacc⟩
 ·show (fY fr σ).length=N.length
  unfold fY;rw[bA5];exact S.len
end
def jV (X:Cx)(ifs:List Expr)(t:TT):Prop:=
 ∀(pins:List (Addr×Obj)) (s:Shared) (σ:St) (H:Hp) (Q:Bool->Hp->Prop),a7 X pins σ H s->t σ H Q->
  wpAny (model X.prog X.w) X.A (forIn ifs true λc r=>if r=true then do let ok <- isTrue c X.env (eval c X.env);pure (ForInStep.yield ok) else pure (ForInStep.yield r)) (TP X pins σ Q) X.xe s
def wF:TT:=λ_ H Q=>Q true H
theorem P6 {X:Cx}:jV X [] wF:=λ_ _ _ H _ I h=>wpAny_tests_nil ⟨H,I,h⟩
theorem wG {X:Cx}{c:Expr}{t:TT}(h:PT X c t):jV X [c] t:=λpins s σ H Q I hq=>wpAny_tests_one (h pins s σ H Q I hq)
section
variable {prog:Program}{w:World}{A:Around}
def wH (prog:Program)(w:World)(A:Around)(elt tg:Expr)(ifs:List Expr)(it acc:Value)(env:Env)(lost:Value->Shared->Prop)(stop next:Shared->Prop)(s:Shared):Prop:=
 let M:=model prog w
 let tests:Sem Bool:=forIn ifs true λc r=>if r=true then do let ok <- isTrue c env (eval c env);pure (ForInStep.yield ok) else pure (ForInStep.yield r)
 let put:Shared->Prop:=wpAny M A (eval elt env) (λx=>wpAny M A (call (.builtin "list.append") [acc,x]) (λ_=>next) lost) lost
 let taken:Value->Shared->Prop:=λv=>wpAny M A (letOwnedTupleGo tg it v) (λ_=>wpAny M A (assign tg env v) (λ_=>wpAny M A tests (λok s'=>if ok=true then put s' else next s') lost) lost) lost
 wpAny M A (pyNext it) (λr s'=>match r with
  |none=>stop s'
  |some v=>taken v s') lost s
theorem aF4 {R:Result->Shared->Prop}{s:Shared}{elt tg iter:Expr}{ifs:List Expr}{scope:Scope}{pos:Pos}{it acc:Value}{env:Env}(I:Nat->Shared->Prop)(turn:∀n s,I n s->wH prog w A elt tg ifs it acc env (notedBy (model prog w) A env λe=>R (.error e)) (R (.ok .next)) (λs'=>∃m,m<n/\I m s') s)(n:Nat)(h:I n s) :
  codeAny (model prog w) A (.compLoop (.ListComp elt [⟨tg,iter,ifs,0⟩] scope pos) 0 it acc env) R s:=by
 apply codeAny_loop rfl I _ n h
 intro k s1 h1
 change wpAny _ A ((compTurn _ 0 it acc env).onRaise (λx=>do noteFrame x env;theTreesLotGoes x)) _ _ s1
 apply wpAny_noted
 rw[compTurn_list]
 have t:=turn k s1 h1
 unfold wH at t
 apply bz7
 apply wpAny_standAt
 apply bz7
 refine bJ3 t (λr s2 h2=>?_) λ_ _ z=>z
 cases r with
 |none=>exact bA8 h2
 |some v=>
  apply bz7
  refine bJ3 h2 (λ_ s3 h3=>?_) λ_ _ z=>z
  apply bz7
  refine bJ3 h3 (λ_ s4 h4=>?_) λ_ _ z=>z
  apply bz7
  refine bJ3 h4 (λok s5 h5=>?_) λ_ _ z=>z
  cases ok with
  |false=>exact bA8 ⟨rfl,h5⟩
  |true=>
   apply bz7
   apply bz7
   refine bJ3 h5 (λx s6 h6=>?_) λ_ _ z=>z
   apply bz7
   exact bJ3 h6 (λ_ s7 h7=>bA8 (bA8 ⟨rfl,h7⟩)) λ_ _ z=>z
end
def rN (g:TG)(tc:TT)(te:TE)(σ0:St)(J:It)(D:Addr)(Q:VK)(W:Nat->Nat->List V->Hp->Prop):Prop:=
 ∀i m acc H',W i m acc H'->H' D=some (.lst acc)/\((J.stop i H'/\Q (.ref D) H')∨(J.go i H'/\∀x H2,J.yld i H' x H2->g x σ0 H2 λσ2 H3=>Wk σ0 σ2/\tc σ2 H3 λb H4=>
  if b=true then te σ2 H4 λv H5=>H5 D=some (.lst acc)/\acc.length<sizeLine/\∃m',m'<m/\W (i+1) m' (acc++[v]) (upd H5 D (.lst (acc++[v]))) else ∃m',m'<m/\W (i+1) m' acc H4))
def aF5 (wi:TI)(fr:List (Option Nat))(g:TG)(tc:TT)(te:TE):TE:=λσ H Q=>wi σ H λJ H1=>∀D,H1 D=none->
 ∃W:Nat->Nat->List V->Hp->Prop,(∃m,W 0 m [] (upd H1 D (.lst [])))/\rN g tc te (fY fr σ) J D Q W
section
variable {M:Model}{A:Around}{E:Value→Shared→Prop}{s:Shared}
theorem aF6 {scope:Scope}{globals:Addr}{cl:List (Str×Addr)}{qual:Str}{func:Option Addr}{code:Value}{builtins:Addr}{outer:Env}{Q:Env->Shared->Prop}(hQ:∀h',h'.Ns s.heap.objs.size (λ_=>none)->(∀b o,s.heap.get? b=some o->h'.get? b=some o)->CellsOk h' (s.heap.objs.size+1) (cellsFrom (s.heap.objs.size+1) scope.names [])->
   Q (newEnv scope s.heap.objs.size globals (cellsFrom (s.heap.objs.size+1) scope.names cl) qual func code (some outer) builtins) { s with heap:=h' }) :
  wpAny M A (newFunctionEnv scope globals cl [] qual func code (some outer) builtins) Q E s:=by
 simp only[newFunctionEnv,Option.isSome_some,if_true]
 refine bz7 (wpAny_alloc ?_)
 refine bz7 (wpAny_layCells _ (λname kind cells=>by cases hkc:kind==NameKind.cell<;>simp[hkc]) _ _ _ _ ?_)
 have ok:=cellsFrom_ok scope.names (s.heap.push { cls:=.type "dict",data:=.dict #[] }) (s.heap.objs.size+1) [] ⟨λ_ _ hm=>(nomatch hm),List.Pairwise.nil⟩ (by rw[bL2];exact bA3 _)
 rw[bL2]at ok
 rw[show ({ s with heap:=s.heap.push { cls:=.type "dict",data:=.dict #[] } }:Shared).heap.objs.size=s.heap.objs.size+1 from bL2 ..]
 rw[List.forIn_nil]
 refine bz7 (bA8 (bA8 (hQ _ ((Heap.Ns.new s.heap (.type "dict")).keeps (pushCells_keeps _ _)) (λb o e=>pushCells_keeps _ _ b o (bz8 _ e)) ok)))
end
section
variable {X:Cx}{pins:List (Addr×Obj)}{σ:St}{H:Hp}{s:Shared}{scope:Scope}{N:List Str}{fr:List (Option Nat)}{tg iter elt:Expr}{ifs:List Expr}{pos:Pos}{wi:TI}{g:TG}{tc:TT}{te:TE}
structure lU (X:Cx)(scope:Scope)(N:List Str)(tg:Expr)(ifs:List Expr)(elt:Expr)(s:Shared)(H:Hp)(g:TG)(tc:TT)(te:TE):Prop where
 tg:∀(C:Addr) (fp:List Addr),PG (bM X scope N s H C fp λ_ _=>False) tg g
 ifs:∀(C:Addr) (fp:List Addr),jV (bM X scope N s H C fp λ_ _=>False) ifs tc
 elt:∀(C:Addr) (fp:List Addr),PE (bM X scope N s H C fp λ_ _=>False) elt te
structure wI (X:Cx)(scope:Scope)(N:List Str)(tg:Expr)(ifs:List Expr)(elt:Expr)(g:TG)(tc:TT)(te:TE):Prop where
 tg:∀(s:Shared) (H:Hp) (C:Addr) (fp:List Addr),PG (bM X scope N s H C fp λ_ _=>False) tg g
 ifs:∀(s:Shared) (H:Hp) (C:Addr) (fp:List Addr),jV (bM X scope N s H C fp λ_ _=>False) ifs tc
 elt:∀(s:Shared) (H:Hp) (C:Addr) (fp:List Addr),PE (bM X scope N s H C fp λ_ _=>False) elt te
theorem wI.at (B:wI X scope N tg ifs elt g tc te)(s:Shared)(H:Hp):lU X scope N tg ifs elt s H g tc te:=⟨B.tg s H,B.ifs s H,B.elt s H⟩
theorem aF7 {C:Addr}{fp:List Addr}{E:Value->Shared->Prop}{pins':List (Addr×Obj)}{σ':St}{H':Hp}{s':Shared}(I:a7 X pins σ H s)(hf:∀b∈fp,gM X pins H b)(I':a7 (bM X scope N s H C fp E) pins' σ' H' s'):a7 X pins σ H' s':=
 I.call' (ch:=fp) I'.os I'.base I'.hok I'.bare λb hb=>⟨(hf b hb).2.2.2.1,(hf b hb).2.1,(hf b hb).2.2.2.2.1,(hf b hb).2.2.2.2.2⟩
theorem wJ {Rr:Value->Addr->Result->Shared->Prop}{J:It}{fp:List Addr}{it:Addr}{tn:Nat->Heap->Prop}{Q:VK}(hc:X.calm=true)(S:dM X scope N fr)(B:lU X scope N tg ifs elt s H g tc te)(I:a7 X pins σ H s)(T:jA X.prog X.w X.K tg J fp it tn)(hst:tn 0 s.heap)(hf:∀b∈fp,gM X pins H b)(h:∀D,H D=none->∃W:Nat->Nat->List V->Hp->Prop,(∃m,W 0 m [] (upd H D (.lst [])))/\rN g tc te (fY fr σ) J D Q W)(hend:∀(D C:Addr) (s':Shared) (H':Hp) (m:Str->Option Value),s.heap.objs.size<=C->s.heap.objs.size<=D->a7 X pins σ H' s'->s'.heap.Ns C m->H' C=none->Q (.ref D) H'->Rr (.ref D) C (.ok .next) s') :
  wpAny (model X.prog X.w) X.A (newList []) (λacc s₃=>wpAny (model X.prog X.w) X.A (newFunctionEnv scope X.env.globals (eJ X.env.cells scope.names []) [] X.env.qual none .none (some X.env)) (λcenv s₄=>
   codeAny (model X.prog X.w) X.A (.compStart (.ListComp elt [⟨tg,iter,ifs,0⟩] scope pos) 0 (.ref it) acc { cenv with scope:=relabel scope X.env }) (Rr acc cenv.locals) s₄) X.xe s₃) X.xe s:=by
 refine bI8 (aF6 (λh₁ hns₁ keep₁ hco₁=>?_))
 dsimp only at hns₁ keep₁ hco₁ ⊢
 generalize hH2:s.heap.push { cls:=.type "list",dict:=none,data:=.seq ([]:List Value).toArray }=H2 at hns₁ keep₁ hco₁ ⊢
 have hC:H2.objs.size=s.heap.objs.size+1:=by rw[<- hH2,bL2]
 have hDC:s.heap.objs.size<H2.objs.size:=by rw[hC];exact Nat.lt_succ_self _
 have hCle:s.heap.objs.size<=H2.objs.size:=by rw[hC];exact Nat.le_succ _
 have old:∀b o,s.heap.get? b=some o->h₁.get? b=some o:=λb o e=>keep₁ b o (hH2▸bz8 _ e)
 have hacc:h₁.get? s.heap.objs.size=some { cls:=.type "list",data:=.seq #[] 0 }:=keep₁ _ _ (hH2▸bB4 _ rfl)
 have hfl:∀b∈fp,b<s.heap.objs.size:=λb hb=>by obtain⟨o,e,_⟩:=T.obj _ _ hst b hb;exact bB2 e
 obtain⟨W,⟨m0,w0⟩,turn⟩:=h s.heap.objs.size (I.hok.fresh (bA3 _))
 have st1:tn 0 h₁:=T.keep _ _ _ hst λb _ o e=>old b o e
 have fr0:∀b∈fp,upd H s.heap.objs.size (.lst []) b=none:=λb hb=>by rw[aW (bD4 (hfl b hb))];exact (hf b hb).1
 have stat:∀{H':Hp},(∀b∈fp,H' b=none)->∀b∈fp,gM (bM X scope N s H H2.objs.size fp λ_ _=>False) [] H' b:=λ{H'} hn b hb=>by
  have f:=hf b hb
  refine⟨hn b hb,bD4 (bC0 (hfl b hb) hCle),λz=>?_,.inl hb,λx c e=>(lT e).elim (λz=>bJ4 (Nat.lt_trans (bC0 (hfl b hb) hCle) (hco₁.empty x c z).2)) λz=>f.2.2.2.2.1 x c (rJ scope.names [] (S.cells I) (λ_ _ z=>by simp at z) z.2),λp hp=>absurd (show p∈([]:List (Addr×Obj)) from hp) (by simp)⟩
  rcases bA7.mp (I.stkSub b z) with e|e
  ·exact f.2.1 e
  ·exact f.2.2.1 e
 generalize hX:bM X scope N s H H2.objs.size fp (λ_ _=>False)=Y at stat
 have I0:a7 Y [] (fY fr σ) (upd H s.heap.objs.size (.lst [])) { s with heap:=h₁ }:=hX▸aF3 S I hf hfl (bA3 _) hCle hDC old hns₁ hacc hco₁
 have bt:PG Y tg g:=hX▸B.tg H2.objs.size fp
 have bi:jV Y ifs tc:=hX▸B.ifs H2.objs.size fp
 have be:PE Y elt te:=hX▸B.elt H2.objs.size fp
 have eP:Y.prog=X.prog:=by rw[<- hX];rfl
 have ew:Y.w=X.w:=by rw[<- hX];rfl
 have eK:Y.K=X.K:=by rw[<- hX];rfl
 have eA:Y.A=X.A:=by rw[<- hX];rfl
 have eE:Y.env=compEnvC scope (i6 X scope H2.objs.size) H2.objs.size X.env:=by rw[<- hX];rfl
 have eX:Y.xe=λ_ _=>False:=by rw[<- hX];rfl
 have ec:Y.calm=true:=by rw[<- hX];exact hc
 have never:∀{E:Value->Shared->Prop} (e:Value) (s':Shared),Y.xe e s'->E e s':=λ{E} e s' z=>by rw[eX]at z;exact z.elim
 have out:∀{pins' σ' H' s'},a7 Y pins' σ' H' s'->a7 X pins σ H' s':=λ{_ _ _ _} I'=>aF7 (C:=H2.objs.size) (E:=λ_ _=>False) (scope:=scope) (N:=N) I hf (hX▸I')
 have loop:codeAny (model X.prog X.w) X.A (.compLoop (.ListComp elt [⟨tg,iter,ifs,0⟩] scope pos) 0 (.ref it) (.ref s.heap.objs.size) (compEnvC scope (i6 X scope H2.objs.size) H2.objs.size X.env))
   (Rr (.ref s.heap.objs.size) H2.objs.size) { s with heap:=h₁ }:=by
  refine aF4 (λn s'=>∃i acc H',a7 Y [] (fY fr σ) H' s'/\tn i s'.heap/\(∀b∈fp,H' b=none)/\W i n acc H') ?_ m0 ⟨0,[],_,I0,st1,fr0,w0⟩
  rintro n s3 ⟨i,acc,H3,I3,st3,fr3,w3⟩
  unfold wH
  dsimp only
  obtain⟨hD3,step⟩:=turn i n acc H3 w3
  rcases step with⟨stop,qn⟩|⟨go,step⟩
  ·have z:=T.done Y eP ew eK ec i [] s3 _ H3 (notedBy (model X.prog X.w) X.A (compEnvC scope (i6 X scope H2.objs.size) H2.objs.size X.env) λe s'=>Rr (.ref s.heap.objs.size) H2.objs.size (.error e) s') I3 (stat fr3) st3 stop
   rw[eA]at z
   refine aR z λr s4 ⟨hr,I4⟩=>?_
   subst hr
   obtain⟨m4,hn4,_⟩:=I4.loc
   rw[eE]at hn4
   have f4:=I4.free
   rw[eE]at f4
   exact hend _ _ s4 H3 m4 hCle (bA3 _) (out I4) hn4 f4 qn
  ·have z:=T.item Y eP ew eK ec i [] s3 _ H3 (notedBy (model X.prog X.w) X.A (compEnvC scope (i6 X scope H2.objs.size) H2.objs.size X.env) λe s'=>Rr (.ref s.heap.objs.size) H2.objs.size (.error e) s') I3 (stat fr3) st3 go
   rw[eA]at z
   refine aR z λr s4 ⟨u,hr,h4⟩=>?_
   subst hr
   refine aR h4 λ_ s5 ⟨x,H5,I5,r5,y5,st5,fr5⟩=>?_
   have I5':=I5.pinned (stat fr5) (T.obj _ _ st5)
   have q1:=bt _ s5 _ H5 x u _ I5' r5 (step x H5 y5)
   rw[eP,ew,eA,eE]at q1
   refine bJ3 q1 (λ_ s6 ⟨σ6,H6,I6,wk,q6⟩=>?_) never
   have q2:=bi _ s6 σ6 H6 _ I6 q6
   rw[eP,ew,eA,eE]at q2
   refine bJ3 q2 (λb s7 ⟨H7,I7,q7⟩=>?_) never
   have again:∀{H8:Hp}{s8:Shared}{acc':List V},a7 Y ([]++oS fp s5.heap) σ6 H8 s8->(∃m',m'<n/\W (i+1) m' acc' H8)->∃m,m<n/\∃i acc H',a7 Y [] (fY fr σ) H' s8/\tn i s8.heap/\(∀b∈fp,H' b=none)/\W i m acc H':=λ{H8 s8 acc'} I8 n8=>by
    obtain⟨m',hm,w8⟩:=n8
    refine⟨m',hm,i+1,acc',H8,(I8.unpinned).weak wk.1 wk.2,T.keep _ _ _ st5 λb hb o e=>(I8.pin (b,o) (bD1 _ (bD1 _ (rA hb e)))).1,λb hb=>?_,w8⟩
    obtain⟨o,e,d⟩:=T.obj _ _ st5 b hb
    exact (I8.pin (b,o) (bD1 _ (bD1 _ (rA hb e)))).2.1
   cases b with
   |false=>
    rw[if_neg bC1]at q7 ⊢
    exact again I7 q7
   |true=>
    rw[if_pos rfl]at q7 ⊢
    have q3:=be _ s7 σ6 H7 _ I7 q7
    rw[eP,ew,eA,eE]at q3
    refine bJ3 q3 (λv s8 ⟨y,H8,I8,r8,hD8,hz8,q8⟩=>?_) never
    have q4:=rD _ s8 σ6 H8 (.ref s.heap.objs.size) [y] (.ref s.heap.objs.size) [v] (λ_ H9=>∃m',m'<n/\W (i+1) m' (acc++[y]) H9) I8 rfl (.cons r8 .nil) ⟨_,_,_,rfl,rfl,hD8,hz8,q8⟩
    rw[eP,ew,eA]at q4
    exact bJ3 q4 (λ_ s9 ⟨_,H9,I9,_,q9⟩=>again I9 q9) never
 exact codeAny_compStart_list loop (T.self _ 0 _ _ _ st1 loop)
end
section
variable {X:Cx}{scope:Scope}{N:List Str}{fr:List (Option Nat)}{tg iter elt:Expr}{ifs:List Expr}{pos:Pos}{wi:TI}{g:TG}{tc:TT}{te:TE}
theorem a7.drop {pins:List (Addr×Obj)}{σ:St}{H H':Hp}{s s':Shared}{C:Addr}{h':Heap}(I0:a7 X pins σ H s)(hC:s.heap.objs.size<=C){σ':St}(I:a7 X pins σ' H' s')(hn:H' C=none)(sb:Heap.SameBut C s'.heap h'):a7 X pins σ' H' { s' with heap:=h' }:=by
 refine I.turned (t':=s'.toks) (it:=C) (λb o hb e=>(sb.2 b hb).trans e) hn (bJ4 (bC0 I0.lt hC)) (.inr (bE8 I0.sz hC)) (λx c e z=>?_) λp hp z=>?_
 ·obtain⟨v,q⟩:=I0.cell x c e
  exact absurd (bC0 q.lt (by rw[z];exact hC)) (bF9 _)
 ·exact absurd (bC0 (bB2 (I0.pin p hp).1) (by rw[z];exact hC)) (bF9 _)
theorem aF8 {i:Nat}{x:Str}{px spos:Pos}(hc:X.calm=true)(S:dM X scope N fr)(hi:PI X tg iter wi)(B:wI X scope N tg ifs elt g tc te)(hN:X.N.Nodup)(hix:X.N[i]? = some x)(hx:X.env.scope.names.lookup x=some .local)(hsw:swapsWith (.ListComp elt [⟨tg,iter,ifs,0⟩] scope pos) (some (.Name x px)) spos.line X.env=pure true)(hs:∀x,foldedSetIterable iter X.env x=pure x:=by intro _;rfl) :
  PS X (.Assign [.Name x px] (.ListComp elt [⟨tg,iter,ifs,0⟩] scope pos) spos) (mT (aF5 wi fr g tc te) (dL i)):=by
 intro pins s σ H D I h
 rw[exec_Assign_Name_used _ _ _ _ hsw]
 refine bz7 (wpAny_standAt (bz7 ?_))
 show wpAny _ _ (do let _ <- comprehension (.ListComp elt [⟨tg,iter,ifs,0⟩] scope pos) scope X.env _ (newList []) false (eval iter X.env) (some (assign (.Name x px) X.env))) _ _ s
 refine bz7 (bJ3 (wpAny_comprehension_free (Q:=λ_ s'=>SP X pins D .next s') (use:=some (assign (.Name x px) X.env)) rfl hs (wB (S.cells I)) S.kind S.names (aR (hi pins s σ H _ I h) λv s1 h1=>aR h1 λitv s2 h2=>?_))
  (λ_ s' hq=>bA8 (bA8 hq)) λ_ _ e=>e)
 obtain⟨it,fp,tn,J,H2,e,I2,T,st2,f2,hW⟩:=h2
 subst e
 refine wJ (Rr:=λacc C=>compPost (model X.prog X.w) X.A X.xe (some (assign (.Name x px) X.env)) (λ_ s'=>SP X pins D .next s') acc C) hc S (B.at _ _) I2 T st2 f2 hW ?_
 intro D' C s' H' m hC hD I' hns hHC q
 refine wpAny_assign_Name (uX I' hN hix (.inl hx) (v:=.ref D') rfl (λs'' I'' sb=>?_) (.inr hx))
 obtain⟨a,sb,ha⟩:=sb
 have hCa:C≠a:=by
  rcases ha with z|z
  ·rw[z];exact bJ4 (bC0 I2.lt hC)
  ·intro e;subst e
   obtain⟨v,q⟩:=I2.cell x _ z
   exact absurd (bC0 q.lt hC) (bF9 _)
 exact⟨m,hns.sameBut sb hCa,λh' sb'=>⟨_,H',I2.drop hC I'' hHC sb',q⟩⟩
variable {gh:Hp→TG}{tch:Hp→TT}{teh:Hp→TE}
def wK (wi:TI)(fr:List (Option Nat))(gh:Hp->TG)(tch:Hp->TT)(teh:Hp->TE):TE:=λσ H Q=>wi σ H λJ H1=>∀D,H1 D=none->
 ∃W:Nat->Nat->List V->Hp->Prop,(∃m,W 0 m [] (upd H1 D (.lst [])))/\rN (gh H1) (tch H1) (teh H1) (fY fr σ) J D Q W
theorem wL (hc:X.calm=true)(S:dM X scope N fr)(hi:PI X tg iter wi)(B:∀(s:Shared) (H:Hp),lU X scope N tg ifs elt s H (gh H) (tch H) (teh H))(hs:∀x,foldedSetIterable iter X.env x=pure x:=by intro _;rfl):PE X (.ListComp elt [⟨tg,iter,ifs,0⟩] scope pos) (wK wi fr gh tch teh):=by
 intro pins s σ H Q I h
 rw[eval_ListComp]
 refine wpAny_comprehension_free (use:=none) rfl hs (wB (S.cells I)) S.kind S.names (aR (hi pins s σ H _ I h) λv s1 h1=>aR h1 λitv s2 h2=>?_)
 obtain⟨it,fp,tn,J,H2,e,I2,T,st2,f2,hW⟩:=h2
 subst e
 refine wJ (Rr:=λacc C=>compPost (model X.prog X.w) X.A X.xe none (EP X pins σ Q) acc C) hc S (B _ _) I2 T st2 f2 hW ?_
 intro D C s' H' m hC hD I' hns hHC q
 exact⟨m,hns,λh' sb=>⟨.ref D,H',I2.drop hC I' hHC sb,rfl,q⟩⟩
theorem wM {i:Nat}{x:Str}{px spos:Pos}(hc:X.calm=true)(S:dM X scope N fr)(hi:PI X tg iter wi)(B:∀(s:Shared) (H:Hp),lU X scope N tg ifs elt s H (gh H) (tch H) (teh H))(hN:X.N.Nodup)(hix:X.N[i]? = some x)(hx:X.env.scope.names.lookup x=some .local)(hsw:swapsWith (.ListComp elt [⟨tg,iter,ifs,0⟩] scope pos) (some (.Name x px)) spos.line X.env=pure true)(hs:∀x,foldedSetIterable iter X.env x=pure x:=by intro _;rfl) :
  PS X (.Assign [.Name x px] (.ListComp elt [⟨tg,iter,ifs,0⟩] scope pos) spos) (mT (wK wi fr gh tch teh) (dL i)):=by
 intro pins s σ H D I h
 rw[exec_Assign_Name_used _ _ _ _ hsw]
 refine bz7 (wpAny_standAt (bz7 ?_))
 show wpAny _ _ (do let _ <- comprehension (.ListComp elt [⟨tg,iter,ifs,0⟩] scope pos) scope X.env _ (newList []) false (eval iter X.env) (some (assign (.Name x px) X.env))) _ _ s
 refine bz7 (bJ3 (wpAny_comprehension_free (Q:=λ_ s'=>SP X pins D .next s') (use:=some (assign (.Name x px) X.env)) rfl hs (wB (S.cells I)) S.kind S.names (aR (hi pins s σ H _ I h) λv s1 h1=>aR h1 λitv s2 h2=>?_))
  (λ_ s' hq=>bA8 (bA8 hq)) λ_ _ e=>e)
 obtain⟨it,fp,tn,J,H2,e,I2,T,st2,f2,hW⟩:=h2
 subst e
 refine wJ (Rr:=λacc C=>compPost (model X.prog X.w) X.A X.xe (some (assign (.Name x px) X.env)) (λ_ s'=>SP X pins D .next s') acc C) hc S (B _ _) I2 T st2 f2 hW ?_
 intro D' C s' H' m hC hD I' hns hHC q
 refine wpAny_assign_Name (uX I' hN hix (.inl hx) (v:=.ref D') rfl (λs'' I'' sb=>?_) (.inr hx))
 obtain⟨a,sb,ha⟩:=sb
 have hCa:C≠a:=by
  rcases ha with z|z
  ·rw[z];exact bJ4 (bC0 I2.lt hC)
  ·intro e;subst e
   obtain⟨v,q⟩:=I2.cell x _ z
   exact absurd (bC0 q.lt hC) (bF9 _)
 exact⟨m,hns.sameBut sb hCa,λh' sb'=>⟨_,H',I2.drop hC I'' hHC sb',q⟩⟩
end
theorem bK {H:Hp}{p:Addr}(h:H p=none)(o:HO):aE H (upd H p o):=λb u q=>by rw[aW (cM q h)];exact q
theorem aE.tup {K:ad}{H H':Hp}{a:Addr}{xs:List V}(e:aE H H')(h:aH K H a xs):aH K H' a xs:=by
 rcases h with (h|⟨o,h⟩)|h
 ·exact .inl (.inl (e _ _ h))
 ·exact .inl (.inr ⟨o,e _ _ h⟩)
 ·exact .inr h
structure P7 (H:Hp)(J:It)(xs:List V):Prop where
 go:∀i H',aE H H'->i<xs.length->J.go i H'
 yld:∀i H' x H2,aE H H'->J.yld i H' x H2->i<xs.length->xs[i]? = some x/\H2=H'
 stop:∀H',aE H H'->J.stop xs.length H'
theorem aF9 {K:ad}{H:Hp}{a:Addr}{xs:List V}(h:aH K H a xs):P7 H (kW K a) xs:=
 ⟨λi H' e hi=>⟨xs,xs[i],e.tup h,by simp[hi]⟩,λi H' x H2 e y hi=>⟨y.2 xs (e.tup h),y.1⟩,λH' e=>⟨xs,e.tup h,bA3 _⟩⟩
def jW (lo:Int)(n:Nat):List V:=(List.range n).map λ(i:Nat)=>V.int (lo+(i:Int))
theorem wN (lo:Int)(n:Nat):(jW lo n).length=n:=by unfold jW;rw[bA5,bI9]
def CW (H1:Hp)(D:Addr)(n:Nat)(Pv:Nat->List V->Hp->Prop):Nat->Nat->List V->Hp->Prop:=λi m acc H'=>m=n-i/\i<=n/\acc.length<=i/\aE H1 H'/\H' D=some (.lst acc)/\Pv i acc H'
def P8 (H1:Hp)(D:Addr)(n:Nat)(Pv:Nat->List V->Hp->Prop)(i:Nat)(acc:List V)(v:V)(H5:Hp):Prop:=H5 D=some (.lst acc)/\acc.length<sizeLine/\∃m',m'<n-i/\CW H1 D n Pv (i+1) m' (acc++[v]) (upd H5 D (.lst (acc++[v])))
def CNo (H1:Hp)(D:Addr)(n:Nat)(Pv:Nat->List V->Hp->Prop)(i:Nat)(acc:List V)(H4:Hp):Prop:=∃m',m'<n-i/\CW H1 D n Pv (i+1) m' acc H4
structure wO (H1:Hp)(D:Addr)(n i:Nat)(acc:List V)(H':Hp):Prop where
 lt:i<n
 few:acc.length<=i
 sz:n<=sizeLine
 same:aE H1 H'
 new:H1 D=none
 acc:H' D=some (.lst acc)
theorem wO.yes {H1:Hp}{D:Addr}{n i:Nat}{acc:List V}{H' H5:Hp}{Pv:Nat->List V->Hp->Prop}{v:V}(c:wO H1 D n i acc H')(s:aE H' H5)(p:Pv (i+1) (acc++[v]) (upd H5 D (.lst (acc++[v])))):P8 H1 D n Pv i acc v H5:=by
 refine⟨s _ _ c.acc,Nat.lt_of_le_of_lt c.few (bC0 c.lt c.sz),_,?_,rfl,c.lt,?_,λb o e=>?_,bJ,p⟩
 ·have:=c.lt;omega
 ·rw[bB1,bF7];exact Nat.succ_le_succ c.few
 ·rw[aW (cM e c.new)];exact s _ _ (c.same _ _ e)
theorem aG0 {H1:Hp}{J:It}{xs:List V}{g:TG}{tc:TT}{te:TE}{σ0:St}{Q:VK}(O:P7 H1 J xs)(Pv:Nat->List V->Hp->Prop)(hn:xs.length<=sizeLine)(h0:∀D,H1 D=none->Pv 0 [] (upd H1 D (.lst [])))(hs:∀i x acc D H',xs[i]? = some x->wO H1 D xs.length i acc H'->Pv i acc H'->g x σ0 H' λσ2 H3=>Wk σ0 σ2/\tc σ2 H3 λb H4=>
   if b=true then te σ2 H4 λv H5=>P8 H1 D xs.length Pv i acc v H5 else CNo H1 D xs.length Pv i acc H4)(hd:∀D acc H',H1 D=none->aE H1 H'->H' D=some (.lst acc)->acc.length<=xs.length->Pv xs.length acc H'->Q (.ref D) H') :
  ∀D,H1 D=none->∃W:Nat->Nat->List V->Hp->Prop,(∃m,W 0 m [] (upd H1 D (.lst [])))/\rN g tc te σ0 J D Q W:=by
 intro D hD
 refine⟨CW H1 D xs.length Pv,⟨xs.length,rfl,bE9 _,bA3 _,bK hD _,bJ,h0 D hD⟩,?_⟩
 rintro i m acc H' ⟨rfl,hi,ha,sm,hDa,p⟩
 refine⟨hDa,?_⟩
 by_cases hlt:i<xs.length
 ·refine .inr ⟨O.go i H' sm hlt,λx H2 y=>?_⟩
  obtain⟨hx,e⟩:=O.yld i H' x H2 sm y hlt
  subst e
  exact hs i x acc D H2 hx ⟨hlt,ha,hn,sm,hD,hDa⟩ p
 ·have e:i=xs.length:=by omega
  subst e
  exact .inl ⟨O.stop H' sm,hd D acc H' hD sm hDa ha p⟩
end L2
namespace Srt
open PySem PySem.W PyProof.Rows
abbrev G (p:Array Nat)(i:Nat):Nat:=p.getD i 0
theorem pH {p q:Array Nat}{i j:Nat}(h:p[i]? = q[j]?):G p i=G q j:=by
 unfold G;rw[bO7,bO7,h]
theorem wP {p:Array Nat}{i j:Nat}(hj:j<=p.size)(k:Nat):G (kas_rev p i j) k=if i<=k/\k<j then G p (i+j-1-k) else G p k:=by
 have e:=getElem?_mirror_all (i:=i) hj k
 unfold kas_rev
 by_cases h1:i<=k/\k<j
 ·rw[if_pos h1]at e ⊢;exact pH e
 ·rw[if_neg h1]at e ⊢;exact pH e
theorem aG1 {p:Array Nat}{src d:Nat}(hs:src<p.size)(hd:d<=src)(k:Nat):G (bubble p src d) k=if k=src-d then G p src else if src-d<k/\k<=src then G p (k-1) else G p k:=by
 have e:=getElem?_bubble hs d hd k
 by_cases h1:k=src-d
 ·rw[if_pos h1]at e ⊢;exact pH e
 ·rw[if_neg h1]at e ⊢
  by_cases h2:src-d<k/\k<=src
  ·rw[if_pos h2]at e ⊢;exact pH e
  ·rw[if_neg h2]at e ⊢;exact pH e
def PP (n:Nat)(p:Array Nat):Prop:=p.toList.Perm (List.range n)
theorem PP.size {n:Nat}{p:Array Nat}(h:PP n p):p.size=n:=by
 have:=h.length_eq
 rw[bI9]at this
 simpa using this
theorem PP.lt {n:Nat}{p:Array Nat}(h:PP n p){k:Nat}(hk:k<n):G p k<n:=by
 have hs:=h.size
 have hk':k<p.toList.length:=by simpa[hs] using hk
 have e:G p k=p.toList[k]:=by
  unfold G;rw[bO7];simp[hs,hk]
 have m:p.toList[k]∈p.toList:=bM2 hk'
 rw[e]
 exact bP4.mp (h.mem_iff.mp m)
theorem PP.of {n:Nat}{p q:Array Nat}(h:PP n p)(e:q.Perm p):PP n q:=(Array.perm_iff_toList_perm.mp e).trans h
theorem PP.rev {n:Nat}{p:Array Nat}(h:PP n p)(i j:Nat):PP n (kas_rev p i j):=h.of (mirror_perm _ _ _ _)
theorem PP.bub {n:Nat}{p:Array Nat}(h:PP n p)(i j:Nat):PP n (bubble p i j):=h.of (bubble_perm _ _ _)
structure wQ (c:Nat->Nat->Bool):Prop where
 asym:∀{i j},c i j=true->c j i=false
 ntr:∀{i j k},c i j=false->c j k=false->c i k=false
section
variable {c:Nat→Nat→Bool}(O:wQ c)
def Le (c:Nat->Nat->Bool)(i j:Nat):Prop:=c j i=false
include O
theorem le_refl (i:Nat):Le c i i:=by
 unfold Le
 cases h:c i i with
 |false=>rfl
 |true=>have:=O.asym h;rw[h]at this;exact this
theorem le_trans {i j k:Nat}(h1:Le c i j)(h2:Le c j k):Le c i k:=O.ntr h2 h1
theorem rO {i j:Nat}(h:c i j=true):Le c i j:=O.asym h
omit O
def fZ (c:Nat->Nat->Bool)(p:Array Nat)(n:Nat):Prop:=∀a b,a<=b->b<n->Le c (G p a) (G p b)
def l9 (c:Nat->Nat->Bool)(p:Array Nat)(n:Nat):Prop:=∀a b,a<=b->b<n->Le c (G p b) (G p a)
include O
theorem aG2 {p:Array Nat}{n:Nat}(h:fZ c p n)(h1:1<=n)(hl:Le c (G p (n-1)) (G p n)):fZ c p (n+1):=λa b hab hb=>by
 by_cases hbn:b<n
 ·exact h a b hab hbn
 ·have e:b=n:=by omega
  subst e
  by_cases han:a=b
  ·subst han;exact le_refl O _
  ·exact le_trans O (h a (b-1) (by omega) (by omega)) hl
theorem rP {p:Array Nat}{n:Nat}(h:l9 c p n)(h1:1<=n)(hl:Le c (G p n) (G p (n-1))):l9 c p (n+1):=λa b hab hb=>by
 by_cases hbn:b<n
 ·exact h a b hab hbn
 ·have e:b=n:=by omega
  subst e
  by_cases han:a=b
  ·subst han;exact le_refl O _
  ·exact le_trans O hl (h a (b-1) (by omega) (by omega))
omit O
def cG {α:Type}(n:Nat)(c:Nat->Nat->Bool)(R:α->Prop):KasT α->Prop
 |.ret a=>R a
 |.ask i j k=>i<n/\j<n/\cG n c R (k (c i j))
theorem cG.mono {α:Type}{n:Nat}{R R':α->Prop}(h:∀a,R a->R' a):∀(t:KasT α),cG n c R t->cG n c R' t
 |.ret a,q=>h a q
 |.ask i j k,q=>⟨q.1,q.2.1,cG.mono h (k (c i j)) q.2.2⟩
theorem cG.bind {α β:Type}{n:Nat}{R:α->Prop}{R':β->Prop}{f:α->KasT β}(h:∀a,R a->cG n c R' (f a)):∀(t:KasT α),cG n c R t->cG n c R' (t.bind f)
 |.ret a,q=>h a q
 |.ask i j k,q=>⟨q.1,q.2.1,cG.bind h (k (c i j)) q.2.2⟩
theorem cG.run {α:Type}{n:Nat}{R:α->Prop}{I:Shared->Prop}{cmp:Nat->Nat->(Bool->Shared->Prop)->Shared->Prop}{Q:α->Shared->Prop}(hc:∀i j C s,i<n->j<n->I s->(∀s',I s'->C (c i j) s')->cmp i j C s)(hQ:∀a s,R a->I s->Q a s):∀(t:KasT α) (s:Shared),I s->cG n c R t->t.kasWp cmp Q s
 |.ret a,s,hI,q=>hQ a s q hI
 |.ask i j k,s,hI,q=>hc i j _ s q.1 q.2.1 hI λs' hI'=>cG.run hc hQ (k (c i j)) s' hI' q.2.2
include O
theorem wR {n:Nat}{p:Array Nat}(hp:PP n p):∀(f m:Nat),1<=m->m+f<=n->fZ c p m->cG n c (λr=>m<=r/\r<=m+f/\fZ c p r/\(r<m+f->c (G p r) (G p (r-1))=true)) (kas_asc p f m)
 |0,m,_,_,h=>⟨bA3 _,bA3 _,h,λz=>absurd z (bF9 _)⟩
 |f+1,m,h1,h2,h=>by
  refine⟨hp.lt (by omega),hp.lt (by omega),?_⟩
  by_cases hc:c (p.getD m 0) (p.getD (m-1) 0)=true
  ·simp only[hc,if_true]
   exact⟨bA3 _,by omega,h,λ_=>hc⟩
  ·have hc':c (p.getD m 0) (p.getD (m-1) 0)=false:=bM6.mpr hc
   simp only[hc',bC6,bG2]
   refine cG.mono (λr q=>⟨by omega,by omega,q.2.2.1,λz=>q.2.2.2 (by omega)⟩) _ (wR hp f (m+1) (by omega) (by omega) (aG2 O h h1 hc'))
omit O
def lV (c:Nat->Nat->Bool)(i j:Nat):Prop:=Le c i j/\Le c j i
include O
theorem wS {p q:Array Nat}{n:Nat}(h:l9 c p n)(e:∀k,k<n->lV c (G q k) (G p k)):l9 c q n:=λa b hab hb=>
 le_trans O (e b hb).1 (le_trans O (h a b hab hb) (e a (by omega)).2)
theorem P9 {n m i:Nat}{p:Array Nat}(hp:PP n p)(hm:m<=n)(h:∀a,i<=a->a<m->lV c (G p a) (G p (m-1))):∀k,lV c (G (kas_rev p i m) k) (G p k):=λk=>by
 rw[wP (by rw[hp.size];exact hm)]
 by_cases hk:i<=k/\k<m
 ·rw[if_pos hk]
  have h1:=h (i+m-1-k) (by omega) (by omega)
  have h2:=h k hk.1 hk.2
  exact⟨le_trans O h1.1 h2.2,le_trans O h2.1 h1.2⟩
 ·rw[if_neg hk];exact⟨le_refl O _,le_refl O _⟩
omit O
def DI (c:Nat->Nat->Bool)(n:Nat)(p:Array Nat)(m q:Nat):Prop:=PP n p/\1<=m/\m<=n/\l9 c p m/\q+1<=m/\∀a,m-(q+1)<=a->a<m->lV c (G p a) (G p (m-1))
include O
theorem Q0 {n m q:Nat}{p:Array Nat}(h:DI c n p m q):PP n (kas_rev p (m-(q+1)) m)/\∀k,lV c (G (kas_rev p (m-(q+1)) m) k) (G p k):=
 ⟨h.1.rev _ _,P9 O h.1 h.2.2.1 h.2.2.2.2.2⟩
theorem rQ {n:Nat}:∀(f:Nat) (p:Array Nat) (m q:Nat),m+f<=n->DI c n p m q->cG n c (λr=>DI c n r.1 r.2.1 r.2.2) (kas_desc f p m q)
 |0,p,m,q,_,h=>h
 |f+1,p,m,q,hf,h=>by
  have hp:=h.1
  have h1:=h.2.1
  refine⟨hp.lt (by omega),hp.lt (by omega),?_⟩
  by_cases hc:c (p.getD m 0) (p.getD (m-1) 0)=true
  ·simp only[hc,if_true]
   have dn:l9 c p (m+1):=rP O h.2.2.2.1 h1 (rO O hc)
   by_cases hq:q>0
   ·simp only[hq,if_true]
    obtain⟨pr,er⟩:=Q0 O h
    refine rQ f _ (m+1) 0 (by omega) ⟨pr,by omega,by omega,wS O dn λk _=>er k,by omega,λa h1 h2=>?_⟩
    have e:a=m+1-1:=by omega
    rw[e];exact⟨le_refl O _,le_refl O _⟩
   ·simp only[hq,bG2]
    refine rQ f p (m+1) 0 (by omega) ⟨hp,by omega,by omega,dn,by omega,λa h1 h2=>?_⟩
    have e:a=m+1-1:=by omega
    rw[e];exact⟨le_refl O _,le_refl O _⟩
  ·have hc':c (p.getD m 0) (p.getD (m-1) 0)=false:=bM6.mpr hc
   simp only[hc',bC6,bG2]
   refine⟨hp.lt (by omega),hp.lt (by omega),?_⟩
   by_cases hd:c (p.getD (m-1) 0) (p.getD m 0)=true
   ·simp only[hd,if_true]
    exact h
   ·have hd':c (p.getD (m-1) 0) (p.getD m 0)=false:=bM6.mpr hd
    simp only[hd',bC6,bG2]
    have ee:lV c (G p (m-1)) (G p m):=⟨hc',hd'⟩
    refine rQ f p (m+1) (q+1) (by omega) ⟨hp,by omega,by omega,rP O h.2.2.2.1 h1 ee.2,by have:=h.2.2.2.2.1;omega,λa h1 h2=>?_⟩
    rw[Nat.add_sub_cancel]
    by_cases ha:a=m
    ·rw[ha];exact⟨le_refl O _,le_refl O _⟩
    ·have z:=h.2.2.2.2.2 a (by omega) (by omega)
     exact⟨le_trans O z.1 ee.1,le_trans O ee.2 z.2⟩
omit O
def CI (c:Nat->Nat->Bool)(n:Nat)(r:Nat×Array Nat):Prop:=PP n r.2/\1<=r.1/\r.1<=n/\fZ c r.2 r.1
include O
theorem Q2 {n m:Nat}{p:Array Nat}(hp:PP n p)(h1:1<=m)(hm:m<=n)(h:l9 c p m):cG n c (CI c n) (kas_tail3 m n p):=by
 have ha:fZ c (kas_rev p 0 m) m:=λa b hab hb=>by
  rw[wP (by rw[hp.size];exact hm),wP (by rw[hp.size];exact hm),if_pos ⟨bE9 _,by omega⟩,if_pos ⟨bE9 _,hb⟩]
  exact h _ _ (by omega) (by omega)
 refine cG.bind (R:=λr=>m<=r/\r<=m+(n-m)/\fZ c (kas_rev p 0 m) r/\_) (λr q=>?_) _ (wR O (hp.rev 0 m) (n-m) m h1 (by omega) ha)
 exact⟨hp.rev _ _,by have:=q.1;omega,by have:=q.2.1;omega,q.2.2.1⟩
theorem Q3 {n m:Nat}{p:Array Nat}(hp:PP n p)(h1:1<=m)(hm:m+1<=n)(h:l9 c p (m+1)):cG n c (CI c n) (kas_descPart m n p):=by
 refine cG.bind (R:=λr=>DI c n r.1 r.2.1 r.2.2) (λr q=>?_) _ (rQ O (n-(m+1)) p (m+1) 0 (by omega) ⟨hp,by omega,hm,h,by omega,λa h1 h2=>?_⟩)
 ·by_cases hq:r.2.2>0
  ·rw[if_pos hq]
   obtain⟨pr,er⟩:=Q0 O q
   exact Q2 O pr q.2.1 q.2.2.1 (wS O q.2.2.2.1 λk _=>er k)
  ·rw[if_neg hq]
   exact Q2 O q.1 q.2.1 q.2.2.1 q.2.2.2.1
 ·have e:a=m+1-1:=by omega
  rw[e];exact⟨le_refl O _,le_refl O _⟩
theorem aG3 {n:Nat}{p:Array Nat}(hp:PP n p)(hn:1<=n):cG n c (CI c n) (kas_count n p):=by
 have a1:fZ c p 1:=λa b hab hb=>by
  have e1:a=0:=by omega
  have e2:b=0:=by omega
  rw[e1,e2];exact le_refl O _
 refine cG.bind (R:=λr=>1<=r/\r<=1+(n-1)/\fZ c p r/\(r<1+(n-1)->c (G p r) (G p (r-1))=true)) (λm q=>?_) _ (wR O hp (n-1) 1 (bA3 _) (by omega) a1)
 obtain⟨q1,q2,q3,q4⟩:=q
 by_cases hm:(m==n)=true
 ·rw[if_pos hm]
  exact⟨hp,q1,by omega,q3⟩
 ·rw[if_neg hm]
  have hne:m≠n:=by simpa using hm
  have hc:=q4 (by omega)
  by_cases h1:m>1
  ·rw[if_pos h1]
   refine⟨hp.lt (by omega),hp.lt (by omega),?_⟩
   by_cases hd:c (p.getD 0 0) (p.getD (m-1) 0)=true
   ·simp only[hd,if_true]
    exact⟨hp,q1,by omega,q3⟩
   ·have hd':c (p.getD 0 0) (p.getD (m-1) 0)=false:=bM6.mpr hd
    simp only[hd',bC6,bG2]
    have eq:∀a,0<=a->a<m->lV c (G p a) (G p (m-1)):=λa _ ha=>⟨q3 a (m-1) (by omega) (by omega),le_trans O hd' (q3 0 a (bE9 _) ha)⟩
    have er:=P9 O hp (by omega:m<=n) eq
    refine Q3 O (hp.rev 0 m) q1 (by omega) (wS O (p:=p) ?_ λk _=>er k)
    refine rP O (λa b hab hb=>?_) q1 (rO O hc)
    exact le_trans O (eq b (bE9 _) hb).1 (eq a (bE9 _) (by omega)).2
  ·rw[if_neg h1]
   have e:m=1:=by omega
   subst e
   refine Q3 O hp (bA3 _) (by omega) (rP O (λa b hab hb=>?_) (bA3 _) (rO O hc))
   have e1:a=0:=by omega
   have e2:b=0:=by omega
   rw[e1,e2];exact le_refl O _
theorem wT {n k:Nat}{p:Array Nat}(hp:PP n p)(hk:k<n)(ha:fZ c p k):∀(f l r:Nat),l<=r->r<=k->r-l<=f->(∀a,a<l->Le c (G p a) (G p k))->(∀a,r<=a->a<k->Le c (G p k) (G p a))->
  cG n c (λl=>l<=k/\(∀a,a<l->Le c (G p a) (G p k))/\∀a,l<=a->a<k->Le c (G p k) (G p a)) (kas_place p k f l r)
 |0,l,r,h1,h2,h3,hl,hr=>⟨by omega,hl,λa h4 h5=>hr a (by omega) h5⟩
 |f+1,l,r,h1,h2,h3,hl,hr=>by
  unfold kas_place
  by_cases hlr:l >= r
  ·rw[if_pos hlr]
   exact⟨by omega,hl,λa h4 h5=>hr a (by omega) h5⟩
  ·rw[if_neg hlr]
   refine⟨hp.lt hk,hp.lt (by omega),?_⟩
   by_cases hc:c (p.getD k 0) (p.getD ((l+r)/2) 0)=true
   ·simp only[hc,if_true]
    exact wT hp hk ha f l ((l+r)/2) (by omega) (by omega) (by omega) hl λa h4 h5=>le_trans O (rO O hc) (ha _ _ h4 h5)
   ·have hc':c (p.getD k 0) (p.getD ((l+r)/2) 0)=false:=bM6.mpr hc
    simp only[hc',bC6,bG2]
    exact wT hp hk ha f ((l+r)/2+1) r (by omega) h2 (by omega) (λa h4=>le_trans O (ha a ((l+r)/2) (by omega) (by omega)) hc') hr
theorem Q4 {n:Nat}:∀(f:Nat) (p:Array Nat) (k:Nat),PP n p->k+f<=n->fZ c p k->cG n c (λq=>PP n q/\fZ c q (k+f)) (kas_bin f p k)
 |0,p,k,hp,_,h=>⟨hp,h⟩
 |f+1,p,k,hp,hk,h=>by
  refine cG.bind (R:=λl=>l<=k/\(∀a,a<l->Le c (G p a) (G p k))/\∀a,l<=a->a<k->Le c (G p k) (G p a)) (λl q=>?_) _ (wT O hp (by omega) h k 0 k (bE9 _) (bA3 _) (by omega) (λa z=>absurd z (Nat.not_lt_zero _)) λa h1 h2=>absurd h2 (by omega))
  obtain⟨q1,q2,q3⟩:=q
  have e:∀a,G (bubble p k (k-l)) a=if a=l then G p k else if l<a/\a<=k then G p (a-1) else G p a:=λa=>by
   rw[aG1 (by rw[hp.size];omega) (by omega),show k-(k-l)=l by omega]
  refine cG.mono (λr z=>⟨z.1,by rw[show k+(f+1)=k+1+f by omega];exact z.2⟩) _ (Q4 f _ (k+1) (hp.bub _ _) (by omega) λa b hab hb=>?_)
  rw[e,e]
  by_cases ha:a=l
  ·rw[if_pos ha]
   by_cases hb':b=l
   ·rw[if_pos hb'];exact le_refl O _
   ·rw[if_neg hb',if_pos (by omega)];exact q3 _ (by omega) (by omega)
  ·rw[if_neg ha]
   by_cases ha2:l<a/\a<=k
   ·rw[if_pos ha2,if_neg (by omega),if_pos (by omega)]
    exact h _ _ (by omega) (by omega)
   ·rw[if_neg ha2]
    by_cases hb':b=l
    ·rw[if_pos hb'];exact q2 a (by omega)
    ·rw[if_neg hb']
     by_cases hb2:l<b/\b<=k
     ·rw[if_pos hb2];exact h _ _ (by omega) (by omega)
     ·rw[if_neg hb2];exact h _ _ hab (by omega)
theorem aG4 {n:Nat}(hn:1<=n):cG n c (λq=>PP n q/\fZ c q n) (kas_sort n):=by
 have hp:PP n (List.toArray (List.range n)):=by unfold PP;simp
 refine cG.bind (R:=CI c n) (λr q=>?_) _ (aG3 O hp hn)
 obtain⟨q1,q2,q3,q4⟩:=q
 by_cases h:r.1<n
 ·rw[if_pos h]
  have e:max r.1 1=r.1:=by omega
  rw[e]
  exact cG.mono (λp z=>⟨z.1,by rw[show r.1+(n-r.1)=n by omega]at z;exact z.2⟩) _ (Q4 O (n-r.1) r.2 r.1 q1 (by omega) q4)
 ·rw[if_neg h]
  have e:r.1=n:=by omega
  exact⟨q1,by rw[e]at q4;exact q4⟩
end
end Srt
namespace L2
open PySem PySem.Spec PyProof.Rows
theorem bR.there {P:Program}{w:World}{H:Hp}{h:Heap}{a:Addr}{o:HO}(x:bR P w H h a o):∃u,h.get? a=some u:=by
 cases o with
 |lst xs=>obtain⟨_,_,_,_,e⟩:=x;exact⟨_,e⟩
 |tup xs=>obtain⟨_,_,_,⟨o,e,_⟩,_⟩:=x;exact⟨_,e⟩
 |dK kvs=>obtain⟨_,_,_,_,o,_,_,e,_⟩:=x;exact⟨_,e⟩
 |dT kvs=>obtain⟨_,_,_,_,o,_,_,e,_⟩:=x;exact⟨_,e⟩
 |set S n=>obtain⟨o,_,_,_,e,_⟩:=x;exact⟨_,e⟩
 |ins C dx fs=>obtain⟨_,_,_,e,_⟩:=x;exact⟨_,e⟩
 |own y=>exact x
 |xd fs=>obtain⟨_,⟨_,_,_,e,_⟩,_⟩:=x;exact⟨_,e⟩
 |rng lo hi=>obtain⟨_,_,_,e⟩:=x;exact⟨_,e⟩
 |frz ob u=>obtain⟨e,_⟩:=x;exact⟨_,e⟩
 |tbl ps=>exact⟨_,(show h.get? a=some _ from x)⟩
 |met f y=>exact⟨_,(show h.get? a=some _ from x)⟩
 |ext φ=>obtain⟨_,z,_⟩:=x;exact z
section
variable {X:Cx}{pins:List (Addr×Obj)}{σ:St}{H:Hp}{s:Shared}{h':Heap}{a:Addr}{o:HO}{t':Nat}
theorem a7.laidF (I:a7 X pins σ H s)(hn:s.heap.get? a=none)(k:∀b u,b≠X.env.locals->s.heap.get? b=some u->h'.get? b=some u)(ns:∀m,s.heap.Ns X.env.locals m->h'.Ns X.env.locals m)(new:bR X.prog X.w (upd H a o) h' a o):H a=none/\a7 X pins σ (upd H a o) { s with heap:=h',toks:=t' }:=by
 have hHn:H a=none:=by
  cases q:H a with
  |none=>rfl
  |some u=>obtain⟨z,e⟩:=(I.hok a u q).there;rw[hn]at e;cases e
 have ne:∀b u,s.heap.get? b=some u->b≠a:=λb u e z=>by rw[z,hn]at e;cases e
 have hL:=I.free
 refine⟨hHn,I.step (g':=s.gens) (d':=s.drawn) (ch:=[]) (λ_ z=>nomatch z) (λb o' h1 _ _ e _=>k b o' h1 e) (λb o' h1 _ _ e _=>⟨o'.slots,k b o' h1 e⟩) (λb o' _ e n=>by rw[aW (ne b o' e)];exact n) (λb o' _ e=>?_)
  (λb xs q=>by rw[aW (cM q hHn)];exact q) (λb u xs q=>by rw[aW (cM q hHn)];exact q) (λb ps q=>⟨#[],by rw[aW (cM q hHn),q];simp⟩) ns (λb u q=>?_) I.bare⟩
 ·by_cases hb:b=X.env.locals
  ·obtain⟨m,hm,_⟩:=I.loc
   obtain⟨o2,_,_,e2,_⟩:=ns m hm
   exact⟨o2,by rw[hb];exact e2⟩
  ·exact⟨o',k b o' hb e⟩
 ·by_cases hb:b=a
  ·subst hb;rw[bJ]at q;cases q;exact new
  ·rw[aW hb]at q
   refine (I.hok b u q).stay (λc v hc e=>k c v ?_ e) (λc e=>by rw[aW (cM e hHn)];exact e) λc xs e=>by rw[aW (cM e hHn)];exact e
   rcases hc with z|z
   ·rw[z];intro y;rw[y,hL]at q;cases q
   ·intro y;rw[y,hL]at z;cases z
theorem a7.newsAll (I:a7 X pins σ H s){news:List (Addr×Obj)}{m:Str->Option Value}(hs:∀p∈oN X.base s.heap X.env.locals,p∈news)(F:Fr X.base X.env.locals h' m)(N:News X.base X.env.locals h' news) :
  ∀b o,b≠X.env.locals->s.heap.get? b=some o->h'.get? b=some o:=λb o h1 e=>by
 cases q:X.base.get? b with
 |some u=>
  have:=I.bk b u q
  rw[e]at this;cases this
  exact F.keep b _ q
 |none=>exact (N (b,o) (hs _ (E5 h1 q e))).1
end
theorem aG5 {α:Type}{d:α}(l:List α){p:List Nat}(h:p.Perm (List.range l.length)):(p.map λi=>l.getD i d).Perm l:=by
 have e:(List.range l.length).map (λi=>l.getD i d)=l:=by
  apply List.ext_getElem
  ·simp
  ·intro i h1 h2
   simp at h1
   simp[h1]
 have:=h.map λi=>l.getD i d
 rw[e]at this
 exact this
theorem pI:∀{xs:List V}{us:List Value} (i:Nat),i<xs.length->aO xs us->b6 (xs.getD i .non) (us.getD i Value.none)
 |_,_,_,h,.nil=>by simp at h
 |_,_,0,_,.cons r _=>by simpa using r
 |_,_,i+1,h,.cons _ t=>by
  have:=pI i (by simpa using h) t
  simpa using this
theorem Q5 {xs:List V}{us:List Value}(r:aO xs us):∀{p:List Nat},(∀i∈p,i<xs.length)->aO (p.map λi=>xs.getD i .non) (p.map λi=>us.getD i Value.none)
 |[],_=>.nil
 |i::p,h=>.cons (pI i (h i bA4) r) (Q5 r λj hj=>h j (bA9 _ hj))
theorem wU {α:Type}:∀l:List α,(l.zip l).map (·.2)=l
 |[]=>rfl
 |a::l=>by
  show a::((l.zip l).map (·.2))=a::l
  rw[wU l]
theorem aG6 {prog:Program}{w:World}{A:Around}{E:Value->Shared->Prop}{s:Shared}{a:Addr}{vs:List Value}{n:Nat}{P:PySem.Fin->Shared->Prop}(e:s.heap.get? a=some (seqObj "list" vs.toArray n))(few:vs.length<2)(q:P (.done (.ret .none)) { s with heap:=sortedHeap s.heap a vs vs.toArray }):wpAny (model prog w) A (Builtin.«list.sort» ⟨[.ref a],[]⟩) P E s:=by
 have big:vs.length<=sizeLine:=bE8 (bH0 few) (by decide)
 have la:=bB2 e
 have c:vs.toArray.size<2:=by simpa using few
 have same:(arrOf (SortSt.mk' general' (vs.toArray.zip vs.toArray) #[] 7 none)).map (·.2)=vs.toArray:=by
  change (vs.toArray.zip vs.toArray).map (·.2)=vs.toArray
  apply Array.ext'
  simpa using wU vs
 obtain⟨k,ek⟩:∃k,(s.heap.update a (Obj.mapSeq λ_=>#[])).get? a=some (seqObj "list" #[] k):=⟨_,get?_update_seq e λ_=>#[]⟩
 have there:(((s.heap.update a (Obj.mapSeq λ_=>#[])).push (seqObj "tuple" vs.toArray 0)).push (seqObj "list" #[] 0)).get? a=some (seqObj "list" #[] k):=
  bz8 _ (bz8 _ ek)
 rw[list_sort_plain]
 apply bz7
 apply listItems_at e rfl
 apply bz7
 refine listUpdate_at e rfl ?_ (by simpa using big) (bE9 _)
 apply bz7
 apply seqEpoch_at ek rfl
 apply bz7
 refine wpAny_newTuple ?_ big
 apply bz7
 refine wpAny_newList ?_ (bE9 _)
 apply bL1
 simp only[c,if_true,StateT.run_pure]
 apply bz7
 apply bA8
 apply bz7
 apply bA8
 apply bz7
 apply seqEpoch_at there rfl
 apply bz7
 refine listUpdate_at there rfl ?_ (bE9 _) (by rw[same,bA2];exact Nat.le_succ_of_le big)
 rw[same]
 simp only[bne_self_eq_false,bC6,bG2]
 exact bA8 q
theorem Q6 {prog:Program}{w:World}{A:Around}{E:Value->Shared->Prop}{s:Shared}{l:Addr}{vs:List Value}{Q:Value->Shared->Prop}(hl:s.heap.IsList l vs.toArray)(few:vs.length<2)(q:Q (.ref (s.heap.objs.size+1)) { s with heap:=sortedAll s.heap vs vs.toArray }):wpAny (model prog w) A (call (.builtin "sorted") [.ref l]) Q E s:=by
 have big:vs.length<=sizeLine:=bE8 (bH0 few) (by decide)
 apply Calls.call_function_entry kind_sorted plain_sorted entry_sorted (args_sorted1 _)
 simp only[Builtin.«sorted»]
 apply bz7 (m:=checkCount "sorted" 1 1 _)
 apply bA8
 apply bz7
 refine collect_list hl ?_ big
 apply bz7
 refine wpAny_newList ?_ big
 have one:((s.heap.push (seqObj "list" #[] 0)).update s.heap.objs.size (Obj.mapSeq (·++vs.toArray))).objs.size=s.heap.objs.size+1:=(Heap.size_update _ _ _).trans (size_push' _ _)
 have at1:(((s.heap.push (seqObj "list" #[] 0)).update s.heap.objs.size (Obj.mapSeq (·++vs.toArray))).push (seqObj "list" vs.toArray 0)).get? (s.heap.objs.size+1)=some (seqObj "list" vs.toArray 0):=one▸bB4 _ rfl
 change wpAny _ _ _ _ _ { s with heap:=((s.heap.push (seqObj "list" #[] 0)).update s.heap.objs.size (Obj.mapSeq (·++vs.toArray))).push (seqObj "list" vs.toArray 0) }
 rw[one]
 apply bz7
 apply bL1
 refine bG7 slot_list_sort ⟨_,at1,rfl⟩ entry_list_sort ?_ (args_list_sort _)
 refine aG6 at1 few ⟨_,rfl,?_⟩
 exact bA8 ⟨_,rfl,q⟩
def Q7 (K:ad):List V->Hp->VK->Prop:=λxs H Q=>∃a ns,xs = [.ref a]/\aQ K H a (ns.map V.int)/\ns.length<64/\∀l (ms:af),H l=none->ms.Perm ns->ms.Pairwise (· <= ·)->Q (.ref l) (upd H l (.lst (ms.map V.int)))
theorem Q8 {X:Cx}:cN X (.builtin "sorted") (Q7 X.K):=by
 intro pins s σ H xs us Q I r h
 obtain⟨a,ns,rfl,hs,h64,q⟩:=h
 obtain⟨u,rfl,ru⟩:=eU r
 cases ru
 obtain⟨its,rv,p,hz⟩:=I.list hs
 have hl:=rv.length
 rw[bA5]at hl
 refine sorted_ints p.isList (jC rv) (by omega) λout ns' a1 a2 a3=>?_
 obtain⟨e,he⟩:=sortedAll_at s.heap its out
 have hn:s.heap.objs.size<=s.heap.objs.size+1:=Nat.le_succ _
 have hlen:ns'.length=ns.length:=a2.length_eq
 refine⟨.ref (s.heap.objs.size+1),upd H (s.heap.objs.size+1) (.lst (ns'.map V.int)),I.laid (t':=s.toks) (λ_ _=>sortedAll_old) hn ⟨?_,out.toList,e,pF a1,by simpa using he⟩,rfl,q _ ns' (I.hok.fresh hn) a2 a3⟩
 rw[bA5,hlen]
 exact bH0 (pG (by omega))
theorem Q9:∀{a b:af},HT.bP a b=true->HT.bP b a=false
 |[],[],h=>by cases h
 |[],_::_,_=>rfl
 |_::_,[],h=>by cases h
 |x::xs,y::ys,h=>by
  rw[HT.iI]at h ⊢
  by_cases e:x=y
  ·rw[if_pos e]at h;rw[if_pos e.symm];exact Q9 h
  ·rw[if_neg e]at h;rw[if_neg (Ne.symm e)]
   have:=bE6 h
   exact bA0 (by omega)
theorem R3:∀{a b c:af},HT.bP a b=false->HT.bP b c=false->HT.bP a c=false
 |[],[],c,_,h=>h
 |[],_::_,_,h,_=>by cases h
 |_::_,[],[],_,_=>rfl
 |_::_,[],_::_,_,h=>by cases h
 |_::_,_::_,[],_,_=>rfl
 |x::xs,y::ys,z::zs,h1,h2=>by
  rw[HT.iI]at h1 h2 ⊢
  by_cases e1:x=y
  ·rw[if_pos e1]at h1
   by_cases e2:y=z
   ·rw[if_pos e2]at h2;rw[if_pos (e1.trans e2)];exact R3 h1 h2
   ·rw[if_neg e2]at h2;rw[if_neg (by rw[e1];exact e2)];rw[e1];exact h2
  ·rw[if_neg e1]at h1
   have k1:=bM0 h1
   by_cases e2:y=z
   ·rw[<- e2,if_neg e1];exact h1
   ·rw[if_neg e2]at h2
    have k2:=bM0 h2
    rw[if_neg (by omega)]
    exact bA0 (by omega)
theorem R4:∀{a b:af},HT.bP a b=false->HT.bP b a=false->a=b
 |[],[],_,_=>rfl
 |[],_::_,h,_=>by cases h
 |_::_,[],_,h=>by cases h
 |x::xs,y::ys,h1,h2=>by
  rw[HT.iI]at h1 h2
  by_cases e:x=y
  ·rw[if_pos e]at h1;rw[if_pos e.symm]at h2;rw[e,R4 h1 h2]
  ·rw[if_neg e]at h1;rw[if_neg (Ne.symm e)]at h2
   have:=bM0 h1
   have:=bM0 h2
   omega
section
variable {prog:Program}{w:World}{A:Around}{s:Shared}{Q:Bool→Shared→Prop}
theorem wV:∀{us ws:List Value}{xs ys:af} (i:Nat),IntsAre us xs->IntsAre ws ys->Q (HT.bP xs ys) s->PySem.W.KatLex prog w A true (decide (us.length<ws.length)) Q (us.zip ws) i s
 |_,_,_,_,_,.nil,.nil,h=>h
 |_,_,_,_,_,.nil,.cons _ _ _,h=>h
 |_,_,_,_,_,.cons _ _ _,.nil,h=>h
 |_,_,_,_,i,.cons (vs:=us) x t hx,.cons (vs:=ws) y u hy,h=>by
  refine PySem.W.kat_cons (wpAny_eqBool_int ?_)
  rw[HT.iI]at h
  by_cases e:x=y
  ·rw[if_pos e]at h
   have eb:(x==y)=true:=by simpa using e
   rw[eb]
   refine PySem.W.kat_yes ?_
   have e2:decide ((Value.int x t::us).length<(Value.int y u::ws).length)=decide (us.length<ws.length):=by simp
   rw[e2]
   exact wV (i+1) hx hy h
  ·rw[if_neg e]at h
   have eb:(x==y)=false:=by simpa using e
   rw[eb]
   refine PySem.W.kat_no ?_
   cases hi:(true&&i==0) with
   |true=>exact PySem.W.kat_lt_int h
   |false=>exact PySem.W.kat_one _ _ (lt_int h)
end
def R5 (K:ad):List V->Hp->VK->Prop:=λxs H Q=>∃(a:Addr) (ys:List V) (key:V->af),xs = [.ref a]/\aQ K H a ys/\ys.length<64/\(∀y∈ys,∃b,y = .ref b/\aH K H b ((key y).map V.int)/\key y≠[])/\
 ∀l (zs:List V),H l=none->zs.Perm ys->zs.Pairwise (λu v=>HT.bP (key v) (key u)=false)->Q (.ref l) (upd H l (.lst zs))
theorem aG7 {c:Nat->Nat->Bool}{R:V->V->Prop}{ys:List V}{p:Array Nat}{n:Nat}(hp:Srt.PP n p)(ha:Srt.fZ c p n)(hR:∀i j,Srt.Le c i j->R (ys.getD i .non) (ys.getD j .non)) :
  (p.toList.map λi=>ys.getD i .non).Pairwise R:=by
 rw[bG8,bH5]
 intro i j hi hj hij
 have hs:=hp.size
 have h1:i<n:=by rw[<- hs];simpa using hi
 have h2:j<n:=by rw[<- hs];simpa using hj
 have q:=ha i j (bH0 hij) h2
 have e:∀k (hk:k<p.toList.length),Srt.G p k=p.toList[k]:=λk hk=>by
  have hk':k<p.size:=by simpa using hk
  unfold Srt.G;rw[bO7];simp[hk']
 rw[e i hi,e j hj]at q
 exact hR _ _ q
theorem aG8 {X:Cx}:cN X (.builtin "sorted") (R5 X.K):=by
 intro pins s σ H xs us Q I r h
 obtain⟨a,ys,key,rfl,hs,h64,hk,q⟩:=h
 obtain⟨u,rfl,ru⟩:=eU r
 cases ru
 obtain⟨its,rv,p,hz⟩:=I.list hs
 have hl:=rv.length
 by_cases h2:its.length<2
 ·
  refine Q6 p.isList h2 ?_
  obtain⟨e,he⟩:=sortedAll_at s.heap its its.toArray
  have hn:s.heap.objs.size<=s.heap.objs.size+1:=Nat.le_succ _
  refine⟨.ref (s.heap.objs.size+1),upd H (s.heap.objs.size+1) (.lst ys),I.laid (t':=s.toks) (λ_ _=>sortedAll_old) hn ⟨hz,its,e,rv,he⟩,rfl,q _ ys (I.hok.fresh hn) (List.Perm.refl _) ?_⟩
  match ys,hl with
  |[],_=>exact List.Pairwise.nil
  |[_],_=>exact bC9 _ _
  |_::_::_,hl=>simp at hl;omega
 ·obtain⟨m,F⟩:=I.fr
  have hL:∀{b:Addr}{k:af},aH X.K H b (k.map V.int)->b≠X.env.locals:=λ{b k} z e=>by
   obtain⟨its',_,⟨ob,e1,c1,_⟩,_⟩:=I.tuple z
   obtain⟨m',⟨o',es',ep',e2,d2,_⟩,_⟩:=I.loc
   rcases z with (z|⟨_,z⟩)|⟨o3,its3,n3,z3,zc,zd,_⟩
   ·rw[e,I.free]at z;cases z
   ·rw[e,I.free]at z;cases z
   ·have:=I.kIn b o3 z3
    rw[e,e2]at this
    cases this
    rw[d2]at zd;cases zd
  refine PySem.W.kat_sorted F (at3 (g:=X.base) (h:=s.heap) (L:=X.env.locals)) p.isList (by omega) (by omega) λD e1 h' F' N' hD=>?_
  have keep:=I.newsAll (λp hp=>bA9 _ hp) F' N'
  have look:∀i,i<ys.length->∃(b:Addr) (ob:Obj) (us:List Value) (n:Nat),its.getD i Value.none = .ref b/\h'.get? b=some ob/\ob.cls = .type "tuple"/\ob.data = .seq us.toArray n/\IntsAre us (key (ys.getD i .non))/\key (ys.getD i .non)≠[]:=λi hi=>by
   have hy:ys.getD i .non∈ys:=by
    rw[bB9,bA6 hi];exact bM2 hi
   obtain⟨b,eb,sq,ne⟩:=hk _ hy
   have rr:=pI i hi rv
   rw[eb]at rr
   have rr:its.getD i Value.none = .ref b:=rr
   obtain⟨us,ru,⟨ob,e1,c1,n1,d1⟩,_⟩:=I.tuple sq
   exact⟨b,ob,us,n1,rr,keep b ob (hL sq) e1,c1,d1,jC ru,ne⟩
  have firsts:∀{xs:List V}{vs:List Value},aO xs vs->(∀y∈xs,∃b,y = .ref b/\aH X.K H b ((key y).map V.int)/\key y≠[])->∃fs:List Value,PySem.W.KatTups h' vs fs/\fs.length=vs.length/\∀v∈fs,∃i t,v=Value.int i t:=by
   intro xs vs r
   induction r with
   |nil=>intro _;exact⟨[],PySem.W.KatTups.nil,rfl,λ_ z=>nomatch z⟩
   |@cons x v xs vs rx rt ih=>
    intro hh
    obtain⟨fs,t1,t2,t3⟩:=ih λy hy=>hh y (bA9 _ hy)
    obtain⟨b,eb,sq,ne⟩:=hh x bA4
    subst eb
    cases rx
    obtain⟨us,ru,⟨ob,e1,c1,n1,d1⟩,_⟩:=I.tuple sq
    have ia:=jC ru
    generalize key (V.ref b)=kk at ia ne
    cases ia with
    |nil=>exact absurd rfl ne
    |@cons n t vs0 ns0 ht=>
     exact⟨Value.int n t::fs,PySem.W.KatTups.cons (keep b ob (hL sq) e1) c1 d1 (by simp) t1,by simp[t2],λv hv=>(bA7.mp hv).elim (λz=>⟨n,t,z⟩) (t3 v)⟩
  obtain⟨fs,t1,t2,t3⟩:=firsts rv hk
  refine PySem.W.kat_kind (T:=.type "int") t1 (by omega) (λv hv=>?_) (by decide) ?_
  ·obtain⟨i,t,rfl⟩:=t3 v hv
   exact PySem.W.Looks.now
  let c:Nat->Nat->Bool:=λi j=>HT.bP (key (ys.getD i .non)) (key (ys.getD j .non))
  have O:Srt.wQ c:=⟨λh=>Q9 h,λh1 h2=>R3 h1 h2⟩
  have ok:=Srt.aG4 (n:=its.length) O (by omega)
  refine Srt.cG.run (I:=λs'=>s'={ s with heap:=h' }) (λi j C s' hi hj hI hC=>?_) (λpa s' hR hI=>?_) _ _ rfl ok
  ·subst hI
   obtain⟨b1,o1,u1,n1,g1,g2,_,g4,g5,_⟩:=look i (by omega)
   obtain⟨b2,o2,u2,n2,k1,k2,_,k4,k5,_⟩:=look j (by omega)
   show wpAny _ _ (keyLt' (tuples' (Value.type "int" != Value.type "tuple")) (its.getD i Value.none) (its.getD j Value.none)) _ _ _
   rw[g1,k1]
   have eT:(Value.type "int" != Value.type "tuple")=true:=by decide
   rw[eT]
   refine PySem.W.kat_lt g2 g4 k2 k4 ?_
   have:=wV (prog:=X.prog) (w:=X.w) (A:=X.A.in1.in1) (s:={ s with heap:=h' }) (Q:=C) 0 g5 k5 (hC _ rfl)
   simpa using this
  ·subst hI
   obtain⟨hp,hasc⟩:=hR
   refine PySem.W.KasFin.intro F' N' (PySem.W.UpdF.head λp hp=>bD4 (hD p hp)) λh2 cc F2 N2=>?_
   have keep2:=I.newsAll (λp hp=>bA9 _ hp) F2 N2
   have hDn:s.heap.get? D=none:=by
    cases z:s.heap.get? D with
    |none=>rfl
    |some o=>
     obtain⟨_,n1,n2⟩:=N2 (D,_) bA4
     exact absurd (hD _ (E5 n1 n2 z)) (bF9 _)
   have hpl:∀i∈pa.toList,i<ys.length:=λi hi=>by
    have:=bP4.mp (hp.mem_iff.mp hi);omega
   have hp':pa.toList.Perm (List.range ys.length):=by rw[hl];exact hp
   have pm:=aG5 (d:=V.non) ys hp'
   obtain⟨hDo,hDL,hDb⟩:=N2 (D,_) bA4
   obtain⟨hHD,I2⟩:=I.laidF (t':=s.toks) (a:=D) (o:=.lst (pa.toList.map λi=>ys.getD i .non)) hDn keep2 (λm' hm'=>by
     have e:m'=m:=funext λnm=>Heap.Ns.agree hm' F.ns nm
     rw[e];exact F2.ns) ⟨by rw[pm.length_eq];exact hz,_,cc,Q5 rv hpl,hDo⟩
   exact⟨.ref D,_,I2,rfl,q D _ hHD pm (aG7 hp hasc λi j hle=>hle)⟩
end L2
namespace Raw
open PySem PySem.W PySem.Calls PyProof.Rows
def gN (h:Heap)(d:Addr)(es:Array DictEntry)(ep:Nat):Prop:=∃o,h.get? d=some o/\o.ExactDict/\o.data = .dict es ep
theorem gN.ty {s:Shared}{d:Addr}{es:Array DictEntry}{ep:Nat}(x:gN s.heap d es ep):s.TypeIs (.ref d) "dict":=x.elim λo y=>⟨o,y.1,y.2.1.1⟩
theorem gN.lt {h:Heap}{d:Addr}{es:Array DictEntry}{ep:Nat}(x:gN h d es ep):d<h.objs.size:=x.elim λ_ y=>bB2 y.1
theorem gN.keep {h h':Heap}{d:Addr}{es:Array DictEntry}{ep:Nat}(x:gN h d es ep)(k:∀o,h.get? d=some o->h'.get? d=some o):gN h' d es ep:=x.elim λo y=>⟨o,k o y.1,y.2⟩
section
variable {prog:Program}{w:World}{A:Around}{E:Value→Shared→Prop}{s:Shared}{d it:Addr}{es:Array DictEntry}{ep i:Nat}
theorem made (far:(d==sysModules)=false)(x:gN s.heap d es ep){Q:Value->Shared->Prop}(q:Q (.ref s.heap.objs.size) { s with heap:=s.heap.push { cls:=.type "dict_keyiterator",data:=.fields #[.ref d,.int 0 0,.int es.size 0,.int ep 0] } }):wpAny (model prog w) A (pyIter (.ref d)) Q E s:=by
 have T:=x.ty
 obtain⟨o,e1,e2,e3⟩:=x
 apply wpAny_pyIter_slot T PySem.F.slot_dict_iter
 apply bG7 PySem.F.slot_dict_iter T PySem.F.entry_dict_iter _ (PySem.F.args_dict_iter_1 _)
 simp only[Builtin.«dict.__iter__»,Builtin.Dict.dictSlotNone]
 apply bz7
 apply bz7
 apply wpAny_notOrdered_dict T
 apply bA8
 change wpAny _ _ (Builtin.Dict.showsAll d >>= _) _ _ s
 have far':Builtin.Dict.showsAll d=pure ():=by
  unfold Builtin.Dict.showsAll
  simp only[far,bC6,bG2]
 rw[far',pure_bind]
 apply bz7
 apply wpAny_dictEntries e1 e3
 apply bz7
 apply wpAny_dictEpoch e1 e3
 apply bz7
 refine bI8 (bA8 ?_)
 refine⟨.ref s.heap.objs.size,rfl,"dict_keyiterator",_,⟨_,bB4 _ rfl,rfl⟩,PySem.F.slot_dict_keyiterator_next.lookup,?_⟩
 simpa only[rawInt] using q
theorem turn (hh:A.handled=none)(hi:s.heap.IsKeyIter it d i es.size ep)(x:gN s.heap d es ep){Q:Option Value->Shared->Prop}(yes:∀(lt:i<es.size) h',h'.IsKeyIter it d (i+1) es.size ep->Heap.SameBut it s.heap h'->Q (some es[i].key) { s with heap:=h' })(no:es.size<=i->∀h',Heap.ExtBut it s.heap h'->Q none { s with heap:=h' }):wpAny (model prog w) A (pyNext (.ref it)) Q E s:=by
 have T:=hi.typeIs
 obtain⟨oi,f1,f2,f3⟩:=hi
 obtain⟨o,e1,e2,e3⟩:=x
 have slot:=PySem.F.slot_dict_keyiterator_next
 have plain:Builtin.Dict_items.ownsTuple "dict_keyiterator" = false:=by decide
 have isref:(Value.ref d==Value.none)=false:=rfl
 have nn:¬(i:Int)<0:=by omega
 unfold pyNext
 apply bz7
 apply wpAny_attempt
 apply bH3 (name:=Str.ofString "__next__") T slot
 apply bG7 slot T PySem.F.entry_dict_keyiterator_next _ (PySem.F.args_dict_keyiterator_next_1 _)
 apply bz7
 apply bA8
 apply bz7
 apply bz7
 apply bz7
 first
  |apply wpAny_typeNameOfWhole_keyiter T
  |apply wpAny_typeNameOf_keyiter T
 apply bA8
 apply bz7
 apply wpAny_fieldsOf f1 f3
 simp only[plain,bC6,bG2]
 change wpAny _ _ (if (Value.ref d==Value.none)=true then _ else _) _ _ s
 have adr:Builtin.Dict_items.addrOf (Value.ref d)=pure d:=rfl
 simp only[isref,bC6,bG2,adr,pure_bind]
 apply bz7
 apply wpAny_dictEntries e1 e3
 simp only[bne_self_eq_false,bC6,bG2]
 apply bz7
 apply wpAny_dictEpoch e1 e3
 simp only[bne_self_eq_false,bC6,bG2]
 apply bA8
 simp only[nn,bG2,bK7]
 by_cases lt:i<es.size
 ·simp only[Array.getElem?_eq_getElem lt]
  apply bz7
  apply bz7
  first
   |apply wpAny_typeNameOfWhole_keyiter T
   |apply wpAny_typeNameOf_keyiter T
  apply bA8
  apply bz7
  apply wpAny_isOneOf_keyiter T
  change wpAny _ _ (setField (.ref it) 1 (rawInt ((i:Int)+1)) >>= _) _ _ s
  apply bz7
  refine wpAny_setField f1 f3 (by simp) ?_
  have again:(s.heap.update it (Obj.mapFields (·.setIfInBounds 1 (rawInt ((i:Int)+1))))).IsKeyIter it d (i+1) es.size ep:=by
   refine⟨_,Heap.get?_update_self _ f1 (Obj.isFreed_of_fields (Obj.data_mapFields f3 _)),?_,?_⟩
   ·rw[Obj.cls_mapFields];exact f2
   ·rw[Obj.data_mapFields f3];simp[rawInt]
  apply bz7
  apply bL1
  apply bz7
  refine wpAny_isOneOf_keyiter (s:={ s with heap:=s.heap.update it (Obj.mapFields (·.setIfInBounds 1 (rawInt ((i:Int)+1)))) }) again.typeIs ?_
  change wpAny _ _ (pure es[i].key) _ _ _
  apply bA8
  apply bA8
  exact⟨es[i].key,rfl,bA8 (yes lt _ again (Heap.SameBut.update ..))⟩
 ·have ge:es.size<=i:=bP3 lt
  simp only[Array.getElem?_eq_none ge]
  apply bz7
  apply bz7
  first
   |apply wpAny_typeNameOfWhole_keyiter T
   |apply wpAny_typeNameOf_keyiter T
  apply bA8
  change wpAny _ _ (setField (.ref it) 0 .none >>= _) _ _ s
  apply bz7
  refine wpAny_setField f1 f3 (by simp) ?_
  apply bz7
  simp only[newExc,newTuple]
  apply bz7
  refine bI8 ?_ (by size_fits)
  apply bz7
  refine wpAny_of_eq (a:=Value.none) (by first|rfl|(simp only[firstArgMember];rfl)) ?_
  refine bI8 ?_ (by size_fits)
  unfold raiseNew
  apply bz7
  apply wpAny_handled
  have quiet:A.in1.handled=none:=hh
  rw[quiet]
  refine wpAny_throw ?_
  apply bz7
  refine wpAny_isInstance (T:="StopIteration") (b:=true) ⟨_,bB4 _ rfl,rfl⟩ isSubtype_stop ?_
  exact bA8 (no ge _ (((Heap.SameBut.update ..).extBut.push _).push _))
theorem aG9 (hh:A.handled=none)(ne:d≠it):Walks prog w A it [it,d] [it] es.size (λi v=>∃lt:i<es.size,es[i].key=v) (λi h=>h.IsKeyIter it d i es.size ep/\gN h d es ep) where
 sub:=by intro b hb;rw[bA1.mp hb];exact bA4
 frame:=by
  intro i h h' st hk
  exact⟨st.1.at (hk it bA4),st.2.keep (hk d (bA9 _ bA4))⟩
 item:=by
  intro i s Q E lt st hQ
  refine turn hh st.1 st.2 (λlt' h' again sb=>?_) λge=>absurd lt (Nat.not_lt.mpr ge)
  exact hQ _ h' s.toks ⟨lt',rfl⟩ ⟨again,st.2.keep λo e=>sb.extBut d o ne e⟩ λb o hb e=>sb.extBut b o (λz=>hb (bA1.mpr z)) e
 done:=by
  intro s Q E st hQ
  refine turn hh st.1 st.2 (λlt=>absurd lt (bF9 _)) λ_ h' eb=>?_
  exact hQ h' s.toks λb o hb e=>eb b o (λz=>hb (bA1.mpr z)) e
 self:=by intro i s Q E st hQ;exact wpAny_pyIter_keyiter st.1 hQ
theorem R6 (far:(d==sysModules)=false):KdlSrc prog w "dict" d d es.size (λi v=>∃lt:i<es.size,es[i].key=v) (λh=>gN h d es ep) where
 type:=λ_ x=>x.ty
 there:=λ_ x=>⟨x.lt,x.lt⟩
 keep:=λ_ _ x k=>x.keep (k d (.inl rfl))
 notList:=by decide
 notTuple:=by decide
 hint:=λ_ _ _ _ x q=>kdl_hint_dict x.ty q
 iter:=λ_ _ hh x=>⟨_,_,λ_ _ q=>made far x q,aG9 hh (bD4 x.lt),⟨_,bB4 _ rfl,rfl,rfl⟩,x.keep λo e=>bz8 _ e⟩
end
end Raw
namespace L2
open PySem PySem.Spec PyProof.Rows
section
variable {X:Cx}{pins:List (Addr×Obj)}{σ:St}{H:Hp}{s:Shared}{a:Addr}
def rR (H:Hp)(y:V)(k:List aC):Prop:=∃q,y = .ref q/\H q=some (.tup (k.map kV))
theorem aH0 {kvs:List (aC×V)}(I:a7 X pins σ H s)(h:H a=some (.dK kvs)):∃es ep,Raw.gN s.heap a es ep/\(a==sysModules)=false/\aO (kvs.map λp=>kV p.1) (es.toList.map (·.key))/\kvs.length<=sizeLine:=by
 obtain⟨z,far,vs,rel,o,es,ep,e1,e2,e3,kk,pr,nd⟩:=(show bR X.prog X.w H s.heap a (.dK kvs) from I.hok a _ h)
 refine⟨es,ep,⟨o,e1,e2,e3⟩,far,?_,z⟩
 clear z far e1 e2 e3 kk nd h
 generalize es.toList=l at pr
 induction pr generalizing kvs with
 |nil=>cases rel;exact .nil
 |@cons e k es' kvs' h1 h2 _ ih=>
  cases rel with
  |@cons p q ps qs r rs=>
   refine .cons ?_ (ih rs)
   obtain⟨r1,_⟩:=r
   show b6 (kV p.1) e.key
   rw[r1]
   rcases j6 h1 with⟨n,t,e4,e5⟩|⟨x,t,e4,e5⟩
   ·rw[e4,e5];exact⟨t,rfl⟩
   ·rw[e4,e5];exact⟨t,rfl⟩
theorem aH1 {kvs:List (List aC×V)}(I:a7 X pins σ H s)(h:H a=some (.dT kvs)):∃es ep ys,Raw.gN s.heap a es ep/\(a==sysModules)=false/\Paired (rR H) ys (kvs.map (·.1))/\aO ys (es.toList.map (·.key))/\kvs.length<=sizeLine:=by
 obtain⟨z,far,xs,rel,o,es,ep,e1,e2,e3,e4,nd⟩:=(show bR X.prog X.w H s.heap a (.dT kvs) from I.hok a _ h)
 refine⟨es,ep,xs.map λq=>V.ref q.2.1,⟨o,e1,e2,e3⟩,far,?_,?_,z⟩
 ·clear e4 nd h z
  induction rel with
  |nil=>exact .nil
  |cons r rs ih=>exact .cons ⟨_,rfl,r.2.1⟩ ih
 ·rw[e4]
  clear rel e4 nd
  induction xs with
  |nil=>exact .nil
  |cons q qs ih=>exact .cons rfl ih
theorem R7 {es:Array DictEntry}{acc:Array Value}(h:ItemsOf (λi v=>∃lt:i<es.size,es[i].key=v) acc es.size):acc.toList=es.toList.map (·.key):=by
 apply List.ext_getElem?
 intro j
 have h1:=h.1
 by_cases hj:j<es.size
 ·have hj':j<acc.size:=by rw[h1];exact hj
  obtain⟨_,e⟩:=h.2 j acc[j] (by simp[hj'])
  rw[bB6]
  simp[hj,hj',e]
 ·have hj':¬j<acc.size:=by rw[h1];exact hj
  rw[bB6]
  simp[bP3 hj,bP3 hj']
theorem aH2 (hc:X.calm=true):cN X (.type "list") (λxs H Q=>∃a kvs,xs = [.ref a]/\H a=some (.dT kvs)/\∀l ys,H l=none->Paired (rR H) ys (kvs.map (·.1))->Q (.ref l) (upd H l (.lst ys))):=by
 intro pins s σ H xs us Q I r h
 obtain⟨a,kvs,rfl,ha,q⟩:=h
 obtain⟨u,rfl,ru⟩:=eU r
 cases ru
 obtain⟨es,ep,ys,rd,far,pk,vk,z⟩:=aH1 I ha
 have hl:=vk.length
 have hl2:=pk.length
 rw[bA5]at hl hl2
 have hsz:es.toList.length=es.size:=bO5
 refine PySem.W.kdl_call (Raw.R6 far) (I.ok.hd hc) rd (by omega) λh' tk acc c kp e it=>?_
 refine⟨.ref s.heap.objs.size,_,I.laid (t':=tk) kp (bA3 _) (show bR X.prog X.w _ h' _ (.lst ys) from ⟨by omega,acc.toList,c,by rw[R7 it];exact vk,by simpa using e⟩),rfl,q _ ys (I.hok.fresh (bA3 _)) pk⟩
end
section
variable {X:Cx}
theorem aH3:cN X (.builtin "isinstance") (λxs H Q=>∃x t n b,xs = [x,.ty n]/\fV X.K H x t/\PySem.W.kitOne X.K t (.type n)=some b/\Q (.bl b) H):=by
 intro pins s σ H xs us Q I r h
 obtain⟨x,t,n,b,rfl,ty,e,q⟩:=h
 obtain⟨u,u',rfl,ru,ru'⟩:=oW r
 cases ru'
 exact ay7 I ru ty e λtk=>⟨.bl b,H,I.tok tk,rfl,q⟩
end
def R8 (outer:List (Str×NameKind))(XN:List Str)(names:List (Str×NameKind))(N:List Str)(fr:List (Option Nat)):Bool:=
 names.all (λy=>!(y.2==.cell)||names.lookup y.1==some .cell)&&names.all (λy=>!(y.2==.local)||names.lookup y.1==some .local) &&
 names.all (λy=>!(y.2==.free)||(outer.lookup y.1==some .cell||outer.lookup y.1==some .free))&&fr.length==N.length &&
 (fr.zip N).all (λp=>match p.1 with
  |none=>true
  |some j=>XN[j]?==some p.2&&names.lookup p.2==some .free)
theorem dM.of {X:Cx}{scope:Scope}{N:List Str}{fr:List (Option Nat)}(hk:scope.kind = .function)(h:R8 X.env.scope.names X.N scope.names N fr=true):dM X scope N fr:=by
 unfold R8 at h
 simp only[bE5]at h
 obtain⟨⟨⟨⟨h1,h2⟩,h3⟩,h4⟩,h5⟩:=h
 refine⟨hk,λy hy e=>?_,λy hy e=>?_,λy hy e=>?_,by simpa using h4,λi j e=>?_⟩
 ·have:=bH9.mp h1 y hy
  rw[e]at this;simpa using this
 ·have:=bH9.mp h2 y hy
  rw[e]at this;simpa using this
 ·have:=bH9.mp h3 y hy
  rw[e]at this;simpa using this
 ·have hl:fr.length=N.length:=by simpa using h4
  have hi:i<fr.length:=(bB0.mp e).1
  have m:(some j,N[i]'(by omega))∈fr.zip N:=by
   have:(fr.zip N)[i]? = some (some j,N[i]'(by omega)):=by
    rw[List.getElem?_zip_eq_some]
    exact⟨e,by simp⟩
   exact bD7 this
  have:=bH9.mp h5 _ m
  simp only[bE5,beq_iff_eq]at this
  exact⟨N[i]'(by omega),by simp,this.1,this.2⟩
theorem wk0 {n:Option V}{r:St}{v:V}:Wk (none::r) (some v::r):=(Wk.refl (none::r)).set (i:=0) rfl
def pJ (H:Hp)(ys:List V)(ls:aa):Prop:=Paired (λy l=>∃b,y = .ref b/\H b=some (.tup [.int l.1,.int l.2])) ys ls
structure R9 (H:Hp)(v:V)(ws:af)(ls:aa):Prop where
 at_:∃a p q ys,v = .ref a/\H a=some (.tup [.ref p,.ref q])/\H p=some (.tup (ws.map V.int))/\H q=some (.tup ys)/\pJ H ys ls
theorem pJ.get {H:Hp}:∀{ys:List V}{ls:aa}{i:Nat}{y:V},pJ H ys ls->ys[i]? = some y->∃l b,ls[i]? = some l/\y = .ref b/\H b=some (.tup [.int l.1,.int l.2])
 |_,_,_,_,.nil,e=>by simp at e
 |_,_,0,_,.cons (b:=l) ⟨b,h1,h2⟩ _,e=>by simp at e;subst e;exact⟨l,b,rfl,h1,h2⟩
 |_,_,i+1,_,.cons _ t,e=>by
  obtain⟨l,b,h1,h2⟩:=pJ.get (i:=i) t (by simpa using e)
  exact⟨l,b,by simpa using h1,h2⟩
def aM (ls:aa)(k:Int):af:=ls.flatMap λl=>(if l.1=k then [l.2] else [])++(if l.2=k then [l.1] else [])
theorem aH4 (ls:aa)(l:Int×Int)(k:Int):aM (ls++[l]) k=aM ls k++((if l.1=k then [l.2] else [])++(if l.2=k then [l.1] else [])):=by
 unfold aM;rw[List.flatMap_append];simp
theorem aH5 {ls:aa}{i:Nat}{l:Int×Int}(h:ls[i]? = some l)(k:Int):aM (ls.take (i+1)) k=aM (ls.take i) k++((if l.1=k then [l.2] else [])++(if l.2=k then [l.1] else [])):=by
 rw[bD9,h];exact aH4 _ _ _
structure jX (H H':Hp)(r:Addr)(bs:List Addr)(f:Nat->af):Prop where
 new:H r=none
 news:∀b∈bs,H b=none/\b≠r
 nd:bs.Nodup
 row:H' r=some (.lst (bs.map V.ref))
 rows:∀(k:Nat) (b:Addr),bs[k]? = some b->H' b=some (.lst ((f k).map V.int))
 same:aE H H'
theorem jX.congr {H H':Hp}{r:Addr}{bs:List Addr}{f g:Nat->af}(h:jX H H' r bs f)(e:∀k,k<bs.length->f k=g k):jX H H' r bs g:=
 ⟨h.new,h.news,h.nd,h.row,λk b hb=>by rw[<- e k (bB0.mp hb).1];exact h.rows k b hb,h.same⟩
theorem jX.app {H H':Hp}{r:Addr}{bs:List Addr}{f:Nat->af}(h:jX H H' r bs f){k:Nat}{b:Addr}(hb:bs[k]? = some b)(x:Int) :
  jX H (upd H' b (.lst ((f k).map V.int++[V.int x]))) r bs (λj=>if j=k then f j++[x] else f j):=by
 have hm:b∈bs:=bD7 hb
 refine⟨h.new,h.news,h.nd,by rw[aW (Ne.symm (h.news b hm).2)];exact h.row,λj c hc=>?_,λc o e=>by rw[aW (cM e (h.news b hm).1)];exact h.same c o e⟩
 by_cases hj:j=k
 ·subst hj
  rw[hb]at hc;cases hc
  rw[bJ,if_pos rfl];simp
 ·rw[if_neg hj]
  have ne:c≠b:=λz=>by
   subst z
   obtain⟨i1,e1⟩:=bB0.mp hb
   obtain⟨i2,e2⟩:=bB0.mp hc
   refine hj (Nat.le_antisymm (bP3 λz=>?_) (bP3 λz=>?_))
   ·exact bH5.mp h.nd _ _ i1 i2 z (e1.trans e2.symm)
   ·exact bH5.mp h.nd _ _ i2 i1 z (e2.trans e1.symm)
  rw[aW ne];exact h.rows j c hc
theorem rS (ls:aa)(k:Int):(aM ls k).length<=2*ls.length:=by
 induction ls with
 |nil=>exact bA3 _
 |cons l r ih=>
  have e:aM (l::r) k=((if l.1=k then [l.2] else [])++(if l.2=k then [l.1] else []))++aM r k:=rfl
  rw[e,bB1,bB1,bC7]
  have h1:(if l.1=k then [l.2] else []).length<=1:=by split<;>simp
  have h2:(if l.2=k then [l.1] else []).length<=1:=by split<;>simp
  omega
theorem rT {α:Type}{xs:List α}{i:Int}{v:α}(h0:0<=i)(h:xs[i.toNat]? = some v):atI xs i=some v:=by
 have:=jD h
 rwa [show ((i.toNat:Nat):Int)=i by omega]at this
theorem jY {n:Nat}(h:n<=16000000):n<sizeLine:=by rw[sizeLine_eq];omega
theorem aH6 {σ:St}{H:Hp}{A B:Hp->Prop}(h:A H):wF σ H λb H4=>if b=true then A H4 else B H4:=by
 show if true=true then A H else B H
 rw[if_pos rfl];exact h
theorem mX {K:ad}{H:Hp}{p:Addr}{xs:List V}(h:aQ K H p xs):i5 K "list" (.ref p) H:=.inl ⟨rfl,xs,h⟩
theorem wW {l:Int×Int}{k x:Int}:x∈(if l.1=k then [l.2] else [])++(if l.2=k then [l.1] else [])↔(l.1=k/\x=l.2)∨(l.2=k/\x=l.1):=by
 rw[bB8]
 by_cases h1:l.1=k<;>by_cases h2:l.2=k<;>simp[h1,h2]
theorem lW {ls:aa}{k x:Int}:x∈aM ls k↔(k,x)∈ls∨(x,k)∈ls:=by
 unfold aM
 rw[List.mem_flatMap]
 constructor
 ·rintro⟨l,hl,hx⟩
  rcases wW.mp hx with⟨h1,h2⟩|⟨h1,h2⟩
  ·left;rw[<- h1,h2];exact hl
  ·right;rw[<- h1,h2];exact hl
 ·rintro (h|h)
  ·exact⟨_,h,wW.mpr (.inl ⟨rfl,rfl⟩)⟩
  ·exact⟨_,h,wW.mpr (.inr ⟨rfl,rfl⟩)⟩
theorem mY {ls:aa}{k x:Int}(h:x∈aM ls k):k∈aM ls x:=lW.mpr (lW.mp h).symm
end L2
namespace Zp
open PySem PyProof.Rows
section
variable {prog:Program}{w:World}{A:Around}{E:Value→Shared→Prop}{s:Shared}
theorem S0 {it t:Addr}{i:Nat}{items:Array Value}{x:Value}{Q:Value->Shared->Prop}(hi:s.heap.IsTupleIter it t i)(ht:s.heap.IsTuple t items)(hx:items[i]? = some x)(q:∀h',h'.IsTupleIter it t (i+1)->Heap.SameBut it s.heap h'->Q x { s with heap:=h' }):wpAny (model prog w) A (Builtin.SmallTypes.nextOf (.ref it)) Q E s:=by
 have T:=hi.typeIs
 obtain⟨o,e1,e2,e3⟩:=hi
 obtain⟨u,f1,_,k,f3⟩:=ht
 have slot:=PySem.F.slot_tuple_iterator_next
 have isref:(Value.ref t==Value.none)=false:=rfl
 unfold Builtin.SmallTypes.nextOf
 apply bz7
 apply bH3 (name:=Str.ofString "__next__") T slot
 apply bG7 slot T PySem.F.entry_tuple_iterator_next _ (PySem.F.args_tuple_iterator_next_1 _)
 change wpAny _ _ (field (.ref it) 0 >>= _) _ _ s
 apply bz7
 refine bH2 e1 e3 (x:=.ref t) rfl ?_
 change wpAny _ _ (if (Value.ref t==Value.none)=true then _ else _) _ _ s
 simp only[isref,bC6,bG2]
 change wpAny _ _ (field (.ref it) 1 >>= _) _ _ s
 apply bz7
 refine bH2 e1 e3 (x:=.int i 0) rfl ?_
 change wpAny _ _ (seqItems? (.ref t) >>= _) _ _ s
 apply bz7
 apply bP6 f1 f3
 simp only[bK7,hx]
 apply bz7
 refine wpAny_setField e1 e3 (by simp) ?_
 apply bA8
 refine⟨x,rfl,bA8 (q _ ⟨_,Heap.get?_update_self _ e1 (Obj.isFreed_of_fields (Obj.data_mapFields e3 _)),?_,?_⟩ (Heap.SameBut.update ..))⟩
 ·rw[Obj.cls_mapFields];exact e2
 ·rw[Obj.data_mapFields e3];simp[rawInt]
theorem S2 {it t:Addr}{i:Nat}{items:Array Value}{Q:Value->Shared->Prop}(hh:A.handled=none)(hi:s.heap.IsTupleIter it t i)(ht:s.heap.IsTuple t items)(hx:items[i]? = none)(q:∀h' e,Heap.ExtBut it s.heap h'->(∃o,h'.get? e=some o/\o.cls = .type "StopIteration")->E (.ref e) { s with heap:=h' }):wpAny (model prog w) A (Builtin.SmallTypes.nextOf (.ref it)) Q E s:=by
 have T:=hi.typeIs
 obtain⟨o,e1,e2,e3⟩:=hi
 obtain⟨u,f1,_,k,f3⟩:=ht
 have slot:=PySem.F.slot_tuple_iterator_next
 have isref:(Value.ref t==Value.none)=false:=rfl
 unfold Builtin.SmallTypes.nextOf
 apply bz7
 apply bH3 (name:=Str.ofString "__next__") T slot
 apply bG7 slot T PySem.F.entry_tuple_iterator_next _ (PySem.F.args_tuple_iterator_next_1 _)
 change wpAny _ _ (field (.ref it) 0 >>= _) _ _ s
 apply bz7
 refine bH2 e1 e3 (x:=.ref t) rfl ?_
 change wpAny _ _ (if (Value.ref t==Value.none)=true then _ else _) _ _ s
 simp only[isref,bC6,bG2]
 change wpAny _ _ (field (.ref it) 1 >>= _) _ _ s
 apply bz7
 refine bH2 e1 e3 (x:=.int i 0) rfl ?_
 change wpAny _ _ (seqItems? (.ref t) >>= _) _ _ s
 apply bz7
 apply bP6 f1 f3
 simp only[bK7,hx]
 apply bz7
 apply bQ9
 apply bz7
 refine wpAny_setField e1 e3 (by simp) ?_
 apply bz7
 simp only[newExc,newTuple]
 apply bz7
 refine bI8 ?_ (by size_fits)
 apply bz7
 refine wpAny_of_eq (a:=Value.none) (by first|rfl|(simp only[firstArgMember];rfl)) ?_
 refine bI8 ?_ (by size_fits)
 unfold raiseNew
 apply bz7
 apply wpAny_handled
 have quiet:A.in1.handled=none:=hh
 rw[quiet]
 refine wpAny_throw ?_
 exact q _ _ (((Heap.SameBut.update ..).extBut.push _).push _) ⟨_,bB4 _ rfl,rfl⟩
theorem aH7 (hh:A.handled=none)(it t:Addr)(ne:t≠it)(items:Array Value):Draws prog w A it [it,t] items.size (λi v=>items[i]? = some v) (λi h=>h.IsTupleIter it t i/\h.IsTuple t items) where
 live:=λ_ _ st=>st.1.elim λo y=>⟨o,y.1⟩
 frame:=λ_ _ _ st k=>⟨st.1.at λo e=>k it bA4 o e,st.2.elim λo y=>⟨o,k t (bA9 _ bA4) o y.1,y.2⟩⟩
 item:=λi s Q E lt st q=>S0 st.1 st.2 (Array.getElem?_eq_getElem lt) λh' again sb=>q _ h' s.toks (Array.getElem?_eq_getElem lt) ⟨again,st.2.elim λo y=>⟨o,sb.extBut t o ne y.1,y.2⟩⟩ sb
 done:=λs Q E st q=>S2 hh st.1 st.2 (Array.getElem?_eq_none (bA3 _)) q
end
structure Ap (z TI TO i1 i2:Addr)(fp1 fp2:List Addr):Prop where
 TIz:TI≠z
 TOz:TO≠z
 TITO:TI≠TO
 z1:z∉fp1
 z2:z∉fp2
 o1:TO∉fp1
 o2:TO∉fp2
 t1:TI∉fp1
 t2:TI∉fp2
 m1:i1∈fp1
 m2:i2∈fp2
 n1:i1∉fp2
 n2:i2∉fp1
structure wX (z TI TO i1 i2:Addr)(St1 St2:Nat->Heap->Prop)(f0:Value)(i j:Nat)(h:Heap):Prop where
 zz:IsZip h z TI TO f0
 ti:IsPair h TI (.ref i1) (.ref i2)
 to_:∃a b,IsPair h TO a b
 s1:St1 i h
 s2:St2 j h
section
variable {prog:Program}{w:World}{A:Around}{E:Value→Shared→Prop}{s:Shared}{z TI TO i1 i2:Addr}{fp1 fp2:List Addr}{n1 n2:Nat}{P1 P2:Nat→Value→Prop}{St1 St2:Nat→Heap→Prop}
theorem mZ (ap:Ap z TI TO i1 i2 fp1 fp2){b:Addr}(h:b∉fp1):b≠i1:=λe=>h (e▸ap.m1)
theorem rV (ap:Ap z TI TO i1 i2 fp1 fp2){b:Addr}(h:b∉fp2):b≠i2:=λe=>h (e▸ap.m2)
theorem item (D1:Draws prog w A.in1 i1 fp1 n1 P1 St1)(D2:Draws prog w A.in1 i2 fp2 n2 P2 St2)(ap:Ap z TI TO i1 i2 fp1 fp2){i:Nat}(l1:i<n1)(l2:i<n2)(st:wX z TI TO i1 i2 St1 St2 .none i i s.heap){Q:Option Value->Shared->Prop}(q:∀x y h' tk,P1 i x->P2 i y->wX z TI TO i1 i2 St1 St2 (rawInt s.heap.objs.size) (i+1) (i+1) h'->IsPair h' s.heap.objs.size x y->(∀c o,c≠z->c≠TO->c≠i1->c≠i2->s.heap.get? c=some o->h'.get? c=some o)->
   h'.objs.size=s.heap.objs.size+1->Q (some (.ref s.heap.objs.size)) { s with heap:=h',toks:=tk }):wpAny (model prog w) A (pyNext (.ref z)) Q E s:=by
 obtain⟨hz,hti,⟨a,b,hto⟩,h1,h2⟩:=st
 have T:s.TypeIs (.ref z) "zip":=⟨_,hz,rfl⟩
 have slot:=PySem.F.slot_zip_next
 unfold pyNext
 apply bz7
 apply wpAny_attempt
 apply bH3 (name:=Str.ofString "__next__") T slot
 apply bG7 slot T PySem.F.entry_zip_next _ (PySem.F.args_zip_next_1 _)
 change wpAny _ _ (field (.ref z) 2 >>= _) _ _ _
 apply bz7
 refine bH2 hz rfl (x:=.bool false) rfl ?_
 change wpAny _ _ (field (.ref z) 3 >>= _) _ _ _
 apply bz7
 refine bH2 hz rfl (x:=.ref TI) rfl ?_
 apply bz7
 apply bP6 hti rfl
 change wpAny _ _ (Builtin.SmallTypes.ownedTupleIsFree (.ref z) >>= _) _ _ _
 apply bz7
 unfold Builtin.SmallTypes.ownedTupleIsFree
 apply bz7
 refine bH2 hz rfl (x:=.none) rfl (bA8 ?_)
 simp only[if_true]
 apply bz7
 apply bQ9
 apply bz7
 refine bH2 hz rfl (x:=.ref TO) rfl ?_
 apply bz7
 refine bI0 hz (by simp) λg1 hz1 sb1=>?_
 have k1:∀c o,c≠z->s.heap.get? c=some o->g1.get? c=some o:=λc o c1 e=>sb1.extBut c o c1 e
 apply bz7
 simp only[List.zipIdx_cons,List.zipIdx_nil,List.forIn_cons,List.forIn_nil]
 apply bz7
 apply bz7
 apply wpAny_onRaise
 change wpAny _ _ (Builtin.SmallTypes.nextOf (.ref i1) >>= _) _ _ _
 apply bz7
 refine D1.item i { s with heap:=g1 } _ _ l1 (D1.frame _ _ _ h1 λc hc o e=>k1 c o (λy=>ap.z1 (y▸hc)) e) λx g2 tk2 px st1 sb2=>bA8 ?_
 have k2:∀c o,c≠z->c≠i1->s.heap.get? c=some o->g2.get? c=some o:=λc o c1 c2 e=>sb2.extBut c o c2 (k1 c o c1 e)
 have to2:IsPair g2 TO a b:=k2 _ _ ap.TOz (mZ ap ap.o1) hto
 apply bz7
 apply bP6 to2 rfl
 apply bz7
 refine wpAny_updateSeq_pair to2 λg3 to3 sb3=>?_
 have to3:IsPair g3 TO x b:=to3
 apply bz7
 apply wpAny_letGo
 apply bA8
 apply bz7
 apply bz7
 apply wpAny_onRaise
 change wpAny _ _ (Builtin.SmallTypes.nextOf (.ref i2) >>= _) _ _ _
 apply bz7
 have k3:∀c o,c≠z->c≠i1->c≠TO->s.heap.get? c=some o->g3.get? c=some o:=λc o c1 c2 c3 e=>sb3.extBut c o c3 (k2 c o c1 c2 e)
 refine D2.item i { s with heap:=g3,toks:=tk2 } _ _ l2 (D2.frame _ _ _ h2 λc hc o e=>k3 c o (λy=>ap.z2 (y▸hc)) (λy=>ap.n1 (y▸hc)) (λy=>ap.o2 (y▸hc)) e) λy g4 tk4 py st2 sb4=>bA8 ?_
 have to4:IsPair g4 TO x b:=sb4.extBut _ _ (rV ap ap.o2) to3
 apply bz7
 apply bP6 to4 rfl
 apply bz7
 refine wpAny_updateSeq_pair to4 λg5 to5 sb5=>?_
 have to5:IsPair g5 TO x y:=to5
 apply bz7
 apply wpAny_letGo
 apply bA8
 apply bA8
 apply bz7
 apply bP6 to5 rfl
 apply bz7
 refine wpAny_newTuple ?_ (by show 2<=sizeLine;decide)
 have size:g5.objs.size=s.heap.objs.size:=by rw[sb5.1,sb4.1,sb3.1,sb2.1,sb1.1]
 have k5:∀c o,c≠z->c≠TO->c≠i1->c≠i2->s.heap.get? c=some o->g5.get? c=some o:=λc o c1 c2 c3 c4 e=>sb5.extBut c o c2 (sb4.extBut c o c4 (k3 c o c1 c3 c2 e))
 have z5:IsZip g5 z TI TO .ellipsis:=sb5.extBut _ _ (Ne.symm ap.TOz) (sb4.extBut _ _ (rV ap ap.z2) (sb3.extBut _ _ (Ne.symm ap.TOz) (sb2.extBut _ _ (mZ ap ap.z1) hz1)))
 change wpAny _ _ (Builtin.SmallTypes.ownedTupleHandOut (.ref z) (.ref g5.objs.size) >>= _) _ _ _
 apply bz7
 unfold Builtin.SmallTypes.ownedTupleHandOut
 apply bz7
 have z6:IsZip (g5.push { cls:=.type "tuple",data:=.seq #[x,y] }) z TI TO .ellipsis:=bz8 _ z5
 refine bI0 z6 (by simp) λg7 z7 sb7=>?_
 have z7:IsZip g7 z TI TO (rawInt g5.objs.size):=z7
 refine bI0 z7 (by simp) λg8 z8 sb8=>?_
 have z8:IsZip g8 z TI TO (rawInt g5.objs.size):=z8
 have zlt:z<g5.objs.size:=bB2 z5
 have up:∀c o,c≠z->g5.get? c=some o->g8.get? c=some o:=λc o c1 e=>sb8.extBut c o c1 (sb7.extBut c o c1 (bz8 _ e))
 have p8:IsPair g8 g5.objs.size x y:=sb8.extBut _ _ (bJ4 zlt) (sb7.extBut _ _ (bJ4 zlt) (bB4 _ rfl))
 have s8:g8.objs.size=g5.objs.size+1:=by rw[sb8.1,sb7.1,bL2]
 have f1:St1 (i+1) g8:=D1.frame _ _ _ st1 λc hc o e=>up c o (λy=>ap.z1 (y▸hc)) (sb5.extBut c o (λy=>ap.o1 (y▸hc)) (sb4.extBut c o (λy=>ap.n2 (y▸hc)) (sb3.extBut c o (λy=>ap.o1 (y▸hc)) e)))
 have f2:St2 (i+1) g8:=D2.frame _ _ _ st2 λc hc o e=>up c o (λy=>ap.z2 (y▸hc)) (sb5.extBut c o (λy=>ap.o2 (y▸hc)) e)
 have ti8:IsPair g8 TI (.ref i1) (.ref i2):=up _ _ ap.TIz (k5 _ _ ap.TIz ap.TITO (mZ ap ap.t1) (rV ap ap.t2) hti)
 rw[size]at z8 p8 s8
 apply bA8
 refine⟨_,rfl,bA8 ?_⟩
 change Q (some (.ref g5.objs.size)) _
 rw[size]
 exact q x y g8 tk4 px py ⟨z8,ti8,⟨x,y,up _ _ ap.TOz to5⟩,f1,f2⟩ p8 (λc o c1 c2 c3 c4 e=>up c o c1 (k5 c o c1 c2 c3 c4 e)) s8
theorem fin (D1:Draws prog w A.in1 i1 fp1 n1 P1 St1)(D2:Draws prog w A.in1 i2 fp2 n2 P2 St2)(ap:Ap z TI TO i1 i2 fp1 fp2){i:Nat}(le:i=n1∨(i<n1/\i=n2))(st:wX z TI TO i1 i2 St1 St2 .none i i s.heap){Q:Option Value->Shared->Prop}(q:∀h' tk,(∀c o,c≠z->c≠TO->c≠i1->c≠i2->s.heap.get? c=some o->h'.get? c=some o)->Q none { s with heap:=h',toks:=tk }):wpAny (model prog w) A (pyNext (.ref z)) Q E s:=by
 obtain⟨hz,hti,⟨a,b,hto⟩,h1,h2⟩:=st
 have T:s.TypeIs (.ref z) "zip":=⟨_,hz,rfl⟩
 have slot:=PySem.F.slot_zip_next
 unfold pyNext
 apply bz7
 apply wpAny_attempt
 apply bH3 (name:=Str.ofString "__next__") T slot
 apply bG7 slot T PySem.F.entry_zip_next _ (PySem.F.args_zip_next_1 _)
 change wpAny _ _ (field (.ref z) 2 >>= _) _ _ _
 apply bz7
 refine bH2 hz rfl (x:=.bool false) rfl ?_
 change wpAny _ _ (field (.ref z) 3 >>= _) _ _ _
 apply bz7
 refine bH2 hz rfl (x:=.ref TI) rfl ?_
 apply bz7
 apply bP6 hti rfl
 change wpAny _ _ (Builtin.SmallTypes.ownedTupleIsFree (.ref z) >>= _) _ _ _
 apply bz7
 unfold Builtin.SmallTypes.ownedTupleIsFree
 apply bz7
 refine bH2 hz rfl (x:=.none) rfl (bA8 ?_)
 simp only[if_true]
 apply bz7
 apply bQ9
 apply bz7
 refine bH2 hz rfl (x:=.ref TO) rfl ?_
 apply bz7
 refine bI0 hz (by simp) λg1 hz1 sb1=>?_
 have k1:∀c o,c≠z->s.heap.get? c=some o->g1.get? c=some o:=λc o c1 e=>sb1.extBut c o c1 e
 apply bz7
 simp only[List.zipIdx_cons,List.zipIdx_nil,List.forIn_cons,List.forIn_nil]
 apply bz7
 apply bz7
 apply wpAny_onRaise
 change wpAny _ _ (Builtin.SmallTypes.nextOf (.ref i1) >>= _) _ _ _
 apply bz7
 have z1:IsZip g1 z TI TO .ellipsis:=hz1
 rcases le with rfl|⟨lt,rfl⟩
 ·refine D1.done { s with heap:=g1 } _ _ (D1.frame _ _ _ h1 λc hc o e=>k1 c o (λy=>ap.z1 (y▸hc)) e) λg2 e eb ex=>?_
  have z2:IsZip g2 z TI TO .ellipsis:=eb _ _ (mZ ap ap.z1) z1
  refine bI0 z2 (by simp) λg3 z3 sb3=>?_
  obtain⟨oe,eo,co⟩:=ex
  have ne:e≠z:=λy=>by
   rw[y,z2]at eo
   have:=bE0 eo
   rw[<- this]at co;exact absurd (show Value.type "zip" = Value.type "StopIteration" from co) (by decide)
  apply bz7
  refine wpAny_isInstance (T:="StopIteration") (b:=true) ⟨oe,sb3.extBut _ _ ne eo,co⟩ isSubtype_stop ?_
  exact bA8 (q g3 s.toks λc o c1 _ c3 _ e=>sb3.extBut c o c1 (eb c o c3 (k1 c o c1 e)))
 ·refine D1.item i { s with heap:=g1 } _ _ lt (D1.frame _ _ _ h1 λc hc o e=>k1 c o (λy=>ap.z1 (y▸hc)) e) λx g2 tk2 px st1 sb2=>bA8 ?_
  have k2:∀c o,c≠z->c≠i1->s.heap.get? c=some o->g2.get? c=some o:=λc o c1 c2 e=>sb2.extBut c o c2 (k1 c o c1 e)
  have to2:IsPair g2 TO a b:=k2 _ _ ap.TOz (mZ ap ap.o1) hto
  apply bz7
  apply bP6 to2 rfl
  apply bz7
  refine wpAny_updateSeq_pair to2 λg3 to3 sb3=>?_
  apply bz7
  apply wpAny_letGo
  apply bA8
  apply bz7
  apply bz7
  apply wpAny_onRaise
  change wpAny _ _ (Builtin.SmallTypes.nextOf (.ref i2) >>= _) _ _ _
  apply bz7
  have k3:∀c o,c≠z->c≠i1->c≠TO->s.heap.get? c=some o->g3.get? c=some o:=λc o c1 c2 c3 e=>sb3.extBut c o c3 (k2 c o c1 c2 e)
  refine D2.done { s with heap:=g3,toks:=tk2 } _ _ (D2.frame _ _ _ h2 λc hc o e=>k3 c o (λy=>ap.z2 (y▸hc)) (λy=>ap.n1 (y▸hc)) (λy=>ap.o2 (y▸hc)) e) λg4 e eb ex=>?_
  have z4:IsZip g4 z TI TO .ellipsis:=eb _ _ (rV ap ap.z2) (sb3.extBut _ _ (Ne.symm ap.TOz) (sb2.extBut _ _ (mZ ap ap.z1) z1))
  refine bI0 z4 (by simp) λg5 z5 sb5=>?_
  obtain⟨oe,eo,co⟩:=ex
  have ne:e≠z:=λy=>by
   rw[y,z4]at eo
   have:=bE0 eo
   rw[<- this]at co;exact absurd (show Value.type "zip" = Value.type "StopIteration" from co) (by decide)
  apply bz7
  refine wpAny_isInstance (T:="StopIteration") (b:=true) ⟨oe,sb5.extBut _ _ ne eo,co⟩ isSubtype_stop ?_
  exact bA8 (q g5 tk2 λc o c1 c2 c3 c4 e=>sb5.extBut c o c1 (eb c o c4 (k3 c o c1 c3 c2 e)))
end
def gO (h:Heap)(t u:Addr):Heap:=
 ((((h.push { cls:=.type "tuple_iterator",data:=.fields #[.ref t,.int 0 0] }).push { cls:=.type "tuple_iterator",data:=.fields #[.ref u,.int 0 0] }).push { cls:=.type "tuple",data:=.seq #[.ref h.objs.size,.ref (h.objs.size+1)] }).push
  { cls:=.type "tuple",data:=.seq #[.none,.none] }).push { cls:=.type "zip",data:=.fields #[.none,.bool false,.bool false,.ref (h.objs.size+2),.ref (h.objs.size+3)] }
theorem aH8 (t u:Addr)(xs ys:Array Value):Meets (Builtin.«zip.__new__» ⟨[.type "zip",.ref t,.ref u],[]⟩) (λ_ R s=>s.heap.IsTuple t xs/\s.heap.IsTuple u ys/\R (.ok (.ret (.ref (s.heap.objs.size+4)))) { s with heap:=gO s.heap t u }):=
 .of_wp λprog w A R s h=>by
  obtain⟨hp,g,d,tk,os⟩:=s
  obtain⟨ht,hu,h⟩:=h
  have sub:=sub_zip
  have a1:Heap.IsTuple (Shared.heap ⟨hp,g,d,tk,os⟩) t xs:=ht
  have a2:Heap.IsTuple (Shared.heap ⟨hp.push { cls:=.type "tuple_iterator",data:=.fields #[.ref t,.int 0 0] },g,d,tk,os⟩) u ys:=hu.elim λo y=>⟨o,bz8 _ y.1,y.2⟩
  wp_walk using bL7 a1,bL7 a2
  have e:∀(o:Obj) (k:Heap),(k.push o).objs.size=k.objs.size+1:=λo k=>bL2 ..
  refine⟨_,rfl,?_⟩
  simp only[gO,e]at h ⊢
  exact h
section
variable {prog:Program}{w:World}{A:Around}{E:Value→Shared→Prop}{s:Shared}
theorem aH9 {t u:Addr}{xs ys:Array Value}{Q:Value->Shared->Prop}(ht:s.heap.IsTuple t xs)(hu:s.heap.IsTuple u ys)(q:∀h',IsZip h' (s.heap.objs.size+4) (s.heap.objs.size+2) (s.heap.objs.size+3) .none->IsPair h' (s.heap.objs.size+2) (.ref s.heap.objs.size) (.ref (s.heap.objs.size+1))->
   IsPair h' (s.heap.objs.size+3) .none .none->h'.IsTupleIter s.heap.objs.size t 0->h'.IsTupleIter (s.heap.objs.size+1) u 0->(∀c o,s.heap.get? c=some o->h'.get? c=some o)->Q (.ref (s.heap.objs.size+4)) { s with heap:=h' }) :
  wpAny (model prog w) A (call (.type "zip") [.ref t,.ref u]) Q E s:=by
 refine callType_new PySem.F.called_zip (by decide) (PySem.F.typeCall_zip_2 _ _) (PySem.F.newCall_zip_2 _ _) (λobj=>PySem.F.args_object_init_3 obj _ _) PySem.F.entry_zip_new (aH8 t u xs ys) ⟨ht,hu,?_⟩
 have e:∀(o:Obj) (k:Heap),(k.push o).objs.size=k.objs.size+1:=λo k=>bL2 ..
 have p0:∀(k:Heap) (o:Obj) (m:Nat),o.isFreed=false->m=k.objs.size->(k.push o).get? m=some o:=λk o m f z=>by rw[z];exact bB4 _ f
 have g0:(gO s.heap t u).get? s.heap.objs.size=some { cls:=.type "tuple_iterator",data:=.fields #[.ref t,.int 0 0] }:=by
  unfold gO
  exact bz8 _ (bz8 _ (bz8 _ (bz8 _ (p0 _ _ _ rfl rfl))))
 have g1:(gO s.heap t u).get? (s.heap.objs.size+1)=some { cls:=.type "tuple_iterator",data:=.fields #[.ref u,.int 0 0] }:=by
  unfold gO
  exact bz8 _ (bz8 _ (bz8 _ (p0 _ _ _ rfl (by simp only[e]))))
 have g2:(gO s.heap t u).get? (s.heap.objs.size+2)=some { cls:=.type "tuple",data:=.seq #[.ref s.heap.objs.size,.ref (s.heap.objs.size+1)] }:=by
  unfold gO
  exact bz8 _ (bz8 _ (p0 _ _ _ rfl (by simp only[e])))
 have g3:(gO s.heap t u).get? (s.heap.objs.size+3)=some { cls:=.type "tuple",data:=.seq #[.none,.none] }:=by
  unfold gO
  exact bz8 _ (p0 _ _ _ rfl (by simp only[e]))
 have g4:(gO s.heap t u).get? (s.heap.objs.size+4)=some { cls:=.type "zip",data:=.fields #[.none,.bool false,.bool false,.ref (s.heap.objs.size+2),.ref (s.heap.objs.size+3)] }:=by
  unfold gO
  exact p0 _ _ _ rfl (by simp only[e])
 refine⟨⟨_,g4,rfl⟩,q _ g4 g2 g3 ⟨_,g0,rfl,rfl⟩ ⟨_,g1,rfl,rfl⟩ λc o z=>?_⟩
 unfold gO
 exact bz8 _ (bz8 _ (bz8 _ (bz8 _ (bz8 _ z))))
end
end Zp
namespace L2
open PySem PySem.Spec PyProof.Rows
def wY (K:ad)(a b:Addr):It:=
  ⟨λi H=>∃xs ys x y,aH K H a xs/\aH K H b ys/\xs[i]? = some x/\ys[i]? = some y,
   λi H v H'=>∃T x y,H T=none/\v = .ref T/\H'=upd H T (.tup [x,y])/\∀xs ys,aH K H a xs->aH K H b ys->xs[i]? = some x/\ys[i]? = some y,
   λi H=>∃xs ys,aH K H a xs/\aH K H b ys/\(i=xs.length∨(i<xs.length/\i=ys.length))⟩
def Sq (t:Bool)(K:ad)(H:Hp)(a:Addr)(xs:List V):Prop:=match t with
 |true=>aH K H a xs
 |false=>aQ K H a xs
def gP (t:Bool)(h:Heap)(i a:Addr)(n:Nat):Prop:=match t with
 |true=>h.IsTupleIter i a n
 |false=>h.IsListIter i a n
def S3 (t:Bool)(h:Heap)(a:Addr)(xs:Array Value):Prop:=match t with
 |true=>h.IsTuple a xs
 |false=>h.IsList a xs
theorem gP.at {h h':Heap}{i a:Addr}{n:Nat}:∀{t:Bool},gP t h i a n->(∀o,h.get? i=some o->h'.get? i=some o)->gP t h' i a n
 |true,x,k=>Heap.IsTupleIter.at x k
 |false,x,k=>Heap.IsListIter.at x k
theorem gP.ob {h:Heap}{i a:Addr}{n:Nat}:∀{t:Bool},gP t h i a n->∃o,h.get? i=some o/\∀v,o.data≠.cell v
 |true,⟨o,f,_,d⟩=>⟨o,f,λv q=>by rw[d]at q;cases q⟩
 |false,⟨o,f,_,d⟩=>⟨o,f,λv q=>by rw[d]at q;cases q⟩
theorem gP.draws {prog:Program}{w:World}{A:Around}:∀(t:Bool) (hh:A.handled=none) (it a:Addr) (ne:a≠it) (items:Array Value),Draws prog w A it [it,a] items.size (λi v=>items[i]? = some v) (λi h=>gP t h it a i/\S3 t h a items)
 |true,hh,it,a,ne,items=>Zp.aH7 hh it a ne items
 |false,hh,it,a,ne,items=>Draws.list hh it a ne items
section
variable {X:Cx}{pins:List (Addr×Obj)}{σ:St}{H:Hp}{s:Shared}{a:Addr}{xs ys:List V}
theorem Sq.get (I:a7 X pins σ H s):∀{t:Bool},Sq t X.K H a xs->∃us,aO xs us/\S3 t s.heap a us.toArray
 |true,h=>by obtain⟨us,r,p,_⟩:=I.tuple h;exact⟨us,r,p⟩
 |false,h=>by obtain⟨us,r,p,_⟩:=I.list h;exact⟨us,r,p.isList⟩
theorem Sq.inj (I:a7 X pins σ H s):∀{t:Bool},Sq t X.K H a xs->Sq t X.K H a ys->xs=ys
 |true,h,g=>I.tuple_inj h g
 |false,h,g=>I.list_inj h g
theorem Sq.off (I:a7 X pins σ H s)(he:H a=none)(hb:X.base.get? a=none):∀{t:Bool},Sq t X.K H a xs->False
 |true,h=>by
  rcases h with (h|⟨_,h⟩)|⟨o,_,_,h,_⟩
  ·rw[he]at h;cases h
  ·rw[he]at h;cases h
  ·have:=I.ok.mod.kin a o h
   rw[hb]at this;cases this
 |false,h=>by
  rcases h with (h|⟨_,h⟩)|⟨o,_,_,h,_⟩
  ·rw[he]at h;cases h
  ·rw[he]at h;cases h
  ·have:=I.ok.mod.kin a o h
   rw[hb]at this;cases this
end
def aI0 (t1 t2:Bool)(K:ad)(a b:Addr):It:=
  ⟨λi H=>∃xs ys x y,Sq t1 K H a xs/\Sq t2 K H b ys/\xs[i]? = some x/\ys[i]? = some y,
   λi H v H'=>∃T x y,H T=none/\v = .ref T/\H'=upd H T (.tup [x,y])/\∀xs ys,Sq t1 K H a xs->Sq t2 K H b ys->xs[i]? = some x/\ys[i]? = some y,
   λi H=>∃xs ys,Sq t1 K H a xs/\Sq t2 K H b ys/\(i=xs.length∨(i<xs.length/\i=ys.length))⟩
structure wZ (t1 t2:Bool)(z TI TO i1 i2 a b:Addr)(i:Nat)(h:Heap):Prop where
 zz:IsZip h z TI TO .none
 ti:IsPair h TI (.ref i1) (.ref i2)
 to_:∃x y,IsPair h TO x y
 s1:gP t1 h i1 a i
 s2:gP t2 h i2 b i
theorem S4 (t1 t2:Bool){P:Program}{w:World}{K:ad}{elts:List Expr}{k:Nat}{pos:Pos}(a b z TI TO i1 i2:Addr)(d:[z,TI,TO,i1,i2].Nodup) :
  jA P w K (.Tuple elts k pos) (aI0 t1 t2 K a b) [z,TI,TO,i1,i2] z (wZ t1 t2 z TI TO i1 i2 a b):=by
 have nd:z≠TI/\z≠TO/\z≠i1/\z≠i2/\TI≠TO/\TI≠i1/\TI≠i2/\TO≠i1/\TO≠i2/\i1≠i2:=by
  simp only[bJ6,bA7,bB7,bF2,not_or]at d
  obtain⟨⟨a1,a2,a3,a4⟩,⟨b1,b2,b3⟩,⟨c1,c2⟩,e1,_⟩:=d
  exact⟨a1,a2,a3,a4,b1,b2,b3,c1,c2,e1⟩
 obtain⟨n1,n2,n3,n4,n5,n6,n7,n8,n9,n10⟩:=nd
 have offBase:∀{X:Cx}{pins:List (Addr×Obj)}{σ:St}{H:Hp}{s:Shared},a7 X pins σ H s->(∀c∈[z,TI,TO,i1,i2],gM X pins H c)->∀c∈[z,TI,TO,i1,i2],X.base.get? c=none:=by
  intro X pins σ H s I hf c hc
  cases q:X.base.get? c with
  |none=>rfl
  |some o=>
   rcases (hf c hc).2.2.2.1 with h|h
   ·exact absurd h (I.ok.noex c o q)
   ·exact absurd (bC0 (bB2 q) (bE8 I.ok.bsz h)) (bF9 _)
 have off:∀{t:Bool}{X:Cx}{pins:List (Addr×Obj)}{σ:St}{H:Hp}{s:Shared}{c:Addr}{zs:List V},a7 X pins σ H s->(∀c∈[z,TI,TO,i1,i2],gM X pins H c)->Sq t X.K H c zs->c∉[z,TI,TO,i1,i2]:=by
  intro t X pins σ H s c zs I hf hc hm
  exact Sq.off I (hf c hm).1 (offBase I hf c hm) hc
 have ap:∀{c e:Addr},c∉[z,TI,TO,i1,i2]->e∉[z,TI,TO,i1,i2]->Zp.Ap z TI TO i1 i2 [i1,c] [i2,e]:=λ{c e} hc he=>by
  simp only[bA7,bB7,bF2,not_or]at hc he
  obtain⟨c1,c2,c3,c4,c5⟩:=hc
  obtain⟨e1,e2,e3,e4,e5⟩:=he
  have two:∀{q u v:Addr},q≠u->q≠v->q∉[u,v]:=λ{q u v} h1 h2 hm=>by
   simp only[bA7,bB7,bF2]at hm
   exact hm.elim h1 h2
  exact⟨n1.symm,n2.symm,n5,two n3 (Ne.symm c1),two n4 (Ne.symm e1),two n8 (Ne.symm c3),two n9 (Ne.symm e3),two n6 (Ne.symm c2),two n7 (Ne.symm e2),bA4,bA4,two n10 (Ne.symm e4),two n10.symm (Ne.symm c5)⟩
 refine⟨by simp,λi h st c hc=>?_,λi h h' st kp=>?_,?_,?_,λA i s Q E st q=>wpAny_pyIter_zip st.zz q⟩
 ·simp only[bA7,bB7,bF2]at hc
  obtain⟨x,y,to⟩:=st.to_
  rcases hc with rfl|rfl|rfl|rfl|rfl
  ·exact⟨_,st.zz,λv q=>by cases q⟩
  ·exact⟨_,st.ti,λv q=>by cases q⟩
  ·exact⟨_,to,λv q=>by cases q⟩
  ·exact st.s1.ob
  ·exact st.s2.ob
 ·obtain⟨x,y,to⟩:=st.to_
  exact⟨kp z (by simp) _ st.zz,kp TI (by simp) _ st.ti,⟨x,y,kp TO (by simp) _ to⟩,st.s1.at λo e=>kp i1 (by simp) o e,st.s2.at λo e=>kp i2 (by simp) o e⟩
 ·
  intro X hP hw hK hc i pins s σ H E I hf st hg
  subst hP hw hK
  obtain⟨xs,ys,x,y,ha,hb,hx,hy⟩:=hg
  obtain⟨us,ru,pu⟩:=Sq.get I ha
  obtain⟨vs,rv,pv'⟩:=Sq.get I hb
  obtain⟨ux,eux,rux⟩:=ru.get hx
  obtain⟨vy,evy,rvy⟩:=rv.get hy
  have fa:=off I hf ha
  have fb:=off I hf hb
  have hh:X.A.in1.handled=none:=I.ok.hd hc
  have l1:i<us.toArray.size:=by simpa using (bB0.mp eux).1
  have l2:i<vs.toArray.size:=by simpa using (bB0.mp evy).1
  have fa':a≠i1:=λq=>fa (by rw[q];simp)
  have fb':b≠i2:=λq=>fb (by rw[q];simp)
  have D1:=gP.draws t1 (prog:=X.prog) (w:=X.w) hh i1 a fa' us.toArray
  have D2:=gP.draws t2 (prog:=X.prog) (w:=X.w) hh i2 b fb' vs.toArray
  refine Zp.item D1 D2 (ap fa fb) l1 l2 ⟨st.zz,st.ti,st.to_,⟨st.s1,pu⟩,⟨st.s2,pv'⟩⟩ λp q h' tk hp hq st' pr kp sz=>⟨_,rfl,?_⟩
  obtain rfl:p=ux:=by
   have:us.toArray[i]? = some ux:=by simpa using eux
   rw[this]at hp;exact (bE0 hp).symm
  obtain rfl:q=vy:=by
   have:vs.toArray[i]? = some vy:=by simpa using evy
   rw[this]at hq;exact (bE0 hq).symm
  refine wpAny_letOwnedTupleGo_zip (s:={ s with heap:=h',toks:=tk }) st'.zz λg zz sb=>?_
  have hzl:z<s.heap.objs.size:=bB2 st.zz
  have up:∀c o,c≠z->c≠TO->c≠i1->c≠i2->s.heap.get? c=some o->g.get? c=some o:=λc o c1 c2 c3 c4 e=>sb.extBut c o c1 (kp c o c1 c2 c3 c4 e)
  have hT:H s.heap.objs.size=none:=I.hok.fresh (bA3 _)
  have prG:IsPair g s.heap.objs.size p q:=sb.extBut _ _ (bJ4 hzl) pr
  have fpn:∀c u,H c=some u->c∉[z,TI,TO,i1,i2]:=λc u e hm=>by rw[(hf c hm).1]at e;cases e
  have upH:∀c o u,H c=some u->s.heap.get? c=some o->g.get? c=some o:=λc o u e z=>by
   have:=fpn c u e
   simp only[bA7,bB7,bF2,not_or]at this
   exact up c o this.1 this.2.2.1 this.2.2.2.1 this.2.2.2.2 z
  have ns:∀m,s.heap.Ns X.env.locals m->g.Ns X.env.locals m:=λm hm=>by
   obtain⟨o,es,ep,e1,e2⟩:=hm
   exact⟨o,es,ep,up _ o (Ne.symm (hf z (by simp)).2.1) (Ne.symm (hf TO (by simp)).2.1) (Ne.symm (hf i1 (by simp)).2.1) (Ne.symm (hf i2 (by simp)).2.1) e1,e2⟩
  have I2:a7 X pins σ (upd H s.heap.objs.size (.tup [x,y])) { s with heap:=g,toks:=tk }:=by
   refine I.step (g':=s.gens) (d':=s.drawn) (ch:=[z,TO,i1,i2]) (λc hc'=>?_) (λc o _ _ hc' e _=>?_) (λc o _ _ hc' e _=>⟨o.slots,?_⟩) (λc o _ e n=>?_) (λc o hc' e=>⟨o,?_⟩)
    (λc zs e=>by rw[aW (cM e hT)];exact e) (λc u zs e=>by rw[aW (cM e hT)];exact e) (λc ps e=>⟨#[],by rw[aW (cM e hT),e];simp⟩) ns (λc u e=>?_) I.bare
   ·have hm:c∈[z,TI,TO,i1,i2]:=by
     simp only[bA7,bB7,bF2]at hc' ⊢
     rcases hc' with h|h|h|h<;>simp[h]
    exact⟨(hf c hm).2.2.2.1,(hf c hm).2.1,(hf c hm).2.2.2.2.1,(hf c hm).2.2.2.2.2⟩
   ·simp only[bA7,bB7,bF2,not_or]at hc'
    exact up c o hc'.1 hc'.2.1 hc'.2.2.1 hc'.2.2.2 e
   ·simp only[bA7,bB7,bF2,not_or]at hc'
    exact up c o hc'.1 hc'.2.1 hc'.2.2.1 hc'.2.2.2 e
   ·rw[aW (bD4 (bB2 e))];exact n
   ·simp only[bA7,bB7,bF2,not_or]at hc'
    exact up c o hc'.1 hc'.2.1 hc'.2.2.1 hc'.2.2.2 e
   ·by_cases hcT:c=s.heap.objs.size
    ·subst hcT
     rw[bJ]at e;cases e
     exact⟨by show 2<=sizeLine;decide,[p,q],.cons rux (.cons rvy .nil),⟨_,prG,rfl,_,rfl⟩,λu e=>by rw[prG]at e;cases e;rfl⟩
    ·rw[aW hcT]at e
     refine (I.hok c u e).stay (λc' o' hc2 q'=>?_) (λc' q'=>by rw[aW (cM q' hT)];exact q') λc' zs q'=>by rw[aW (cM q' hT)];exact q'
     rcases hc2 with rfl|hc2
     ·exact upH _ _ _ e q'
     ·exact upH _ _ _ hc2 q'
  obtain⟨x',y',to'⟩:=st'.to_
  refine⟨.ref s.heap.objs.size,_,I2,rfl,⟨_,x,y,hT,rfl,rfl,λxs' ys' ha' hb'=>?_⟩,⟨zz,sb.extBut _ _ n1.symm st'.ti,⟨x',y',sb.extBut _ _ n2.symm to'⟩,st'.s1.1.at λo e=>sb.extBut _ o n3.symm e,st'.s2.1.at λo e=>sb.extBut _ o n4.symm e⟩,λc hc'=>?_⟩
  ·rw[Sq.inj I ha' ha,Sq.inj I hb' hb];exact⟨hx,hy⟩
  ·obtain⟨o,e,_⟩:∃o,s.heap.get? c=some o/\True:=by
    simp only[bA7,bB7,bF2]at hc'
    obtain⟨x2,y2,to2⟩:=st.to_
    obtain⟨o1,f1,_⟩:=st.s1.ob
    obtain⟨o2,f2,_⟩:=st.s2.ob
    rcases hc' with rfl|rfl|rfl|rfl|rfl
    ·exact⟨_,st.zz,trivial⟩
    ·exact⟨_,st.ti,trivial⟩
    ·exact⟨_,to2,trivial⟩
    ·exact⟨_,f1,trivial⟩
    ·exact⟨_,f2,trivial⟩
   rw[aW (bD4 (bB2 e))];exact (hf c hc').1
 ·
  intro X hP hw hK hc i pins s σ H E I hf st hg
  subst hP hw hK
  obtain⟨xs,ys,ha,hb,hi⟩:=hg
  obtain⟨us,ru,pu⟩:=Sq.get I ha
  obtain⟨vs,rv,pv'⟩:=Sq.get I hb
  have fa:=off I hf ha
  have fb:=off I hf hb
  have hh:X.A.in1.handled=none:=I.ok.hd hc
  have fa':a≠i1:=λq=>fa (by rw[q];simp)
  have fb':b≠i2:=λq=>fb (by rw[q];simp)
  have D1:=gP.draws t1 (prog:=X.prog) (w:=X.w) hh i1 a fa' us.toArray
  have D2:=gP.draws t2 (prog:=X.prog) (w:=X.w) hh i2 b fb' vs.toArray
  have e1:=ru.length
  have e2:=rv.length
  refine Zp.fin D1 D2 (ap fa fb) (by simp only[bA2];omega) ⟨st.zz,st.ti,st.to_,⟨st.s1,pu⟩,⟨st.s2,pv'⟩⟩ λg tk kp=>⟨rfl,?_⟩
  have fpn:∀c u,H c=some u->c∉[z,TI,TO,i1,i2]:=λc u e hm=>by rw[(hf c hm).1]at e;cases e
  have upH:∀c o u,H c=some u->s.heap.get? c=some o->g.get? c=some o:=λc o u e z=>by
   have:=fpn c u e
   simp only[bA7,bB7,bF2,not_or]at this
   exact kp c o this.1 this.2.2.1 this.2.2.2.1 this.2.2.2.2 z
  have ns:∀m,s.heap.Ns X.env.locals m->g.Ns X.env.locals m:=λm hm=>by
   obtain⟨o,es,ep,e1,e2⟩:=hm
   exact⟨o,es,ep,kp _ o (Ne.symm (hf z (by simp)).2.1) (Ne.symm (hf TO (by simp)).2.1) (Ne.symm (hf i1 (by simp)).2.1) (Ne.symm (hf i2 (by simp)).2.1) e1,e2⟩
  refine I.step (g':=s.gens) (d':=s.drawn) (ch:=[z,TO,i1,i2]) (λc hc'=>?_) (λc o _ _ hc' e _=>?_) (λc o _ _ hc' e _=>⟨o.slots,?_⟩) (λc o _ e n=>n) (λc o hc' e=>⟨o,?_⟩)
   (λc zs e=>e) (λc u zs e=>e) (λc ps e=>⟨#[],by rw[e];simp⟩) ns (λc u e=>?_) I.bare
  ·have hm:c∈[z,TI,TO,i1,i2]:=by
    simp only[bA7,bB7,bF2]at hc' ⊢
    rcases hc' with h|h|h|h<;>simp[h]
   exact⟨(hf c hm).2.2.2.1,(hf c hm).2.1,(hf c hm).2.2.2.2.1,(hf c hm).2.2.2.2.2⟩
  ·simp only[bA7,bB7,bF2,not_or]at hc'
   exact kp c o hc'.1 hc'.2.1 hc'.2.2.1 hc'.2.2.2 e
  ·simp only[bA7,bB7,bF2,not_or]at hc'
   exact kp c o hc'.1 hc'.2.1 hc'.2.2.1 hc'.2.2.2 e
  ·simp only[bA7,bB7,bF2,not_or]at hc'
   exact kp c o hc'.1 hc'.2.1 hc'.2.2.1 hc'.2.2.2 e
  ·refine (I.hok c u e).stay (λc' o' hc2 q'=>?_) (λ_ q'=>q') λ_ _ q'=>q'
   rcases hc2 with rfl|hc2
   ·exact upH _ _ _ e q'
   ·exact upH _ _ _ hc2 q'
abbrev aI1:=wZ true true
theorem aI2 {P:Program}{w:World}{K:ad}{elts:List Expr}{k:Nat}{pos:Pos}(a b z TI TO i1 i2:Addr)(d:[z,TI,TO,i1,i2].Nodup) :
  jA P w K (.Tuple elts k pos) (wY K a b) [z,TI,TO,i1,i2] z (aI1 z TI TO i1 i2 a b):=S4 true true a b z TI TO i1 i2 d
section
variable {X:Cx}
theorem aI3 (hc:X.calm=true):cN X (.builtin "all") (λxs H Q=>∃(a:Addr) (bs:List Bool),xs = [.ref a]/\aQ X.K H a (bs.map V.bl)/\Q (.bl (bs.all id)) H):=by
 intro pins s σ H xs us Q I r h
 obtain⟨a,bs,rfl,hq,q⟩:=h
 obtain⟨u,rfl,ru⟩:=eU r
 cases ru
 obtain⟨its,rv,p,hz⟩:=I.list hq
 have hl:=rv.length
 rw[bA5]at hl
 have hlt:a<s.heap.objs.size:=by obtain⟨o,e,_⟩:=p.isList;exact bB2 e
 refine call_all_walk (wpAny_pyIter_list p.isList ?_)
 have hh:X.A.in1.handled=none:=I.ok.hd hc
 refine⟨s.heap.objs.size,_,_,_,_,_,λi=>bs.getD i false,rfl,Walks.list hh s.heap.objs.size a (bD4 hlt) its.toArray,⟨⟨_,bB4 _ rfl,rfl,rfl⟩,p.isList.push _⟩,?_,λh' tk kp=>?_⟩
 ·intro i v s' Q' E' hP hQ'
  have hi:its[i]? = some v:=by simpa using hP
  have hil:i<bs.length:=by rw[hl];exact (bB0.mp hi).1
  obtain⟨u,e1,e2⟩:=rv.get (i:=i) (x:=.bl bs[i]) (by simp[hil])
  rw[hi]at e1;cases e1
  cases e2
  have:bs.getD i false=bs[i]:=by rw[bB9,bA6 hil];rfl
  have hQ2:Q' (bs.getD i false) s':=hQ'
  rw[this]at hQ2
  exact bK6 hQ2
 ·have all_eq:(List.range its.toArray.size).all (λi=>bs.getD i false)=bs.all id:=by
   rw[bA2,<- hl]
   clear q rv hz hl hq hlt p hh kp
   induction bs with
   |nil=>rfl
   |cons b r ih=>
    rw[bC7,List.range_succ_eq_map,bM4,List.all_map,bM4,<- ih]
    rfl
  rw[all_eq]
  refine⟨.bl (bs.all id),H,I.kept (t':=tk) (h':=h') λb o e=>kp b o (λz=>?_) (bz8 _ e),rfl,q⟩
  rw[bA1.mp z]at e
  exact absurd (bB2 e) (bF9 _)
end
end L2
namespace HT
open PySem PyProof.Rows
section
variable {prog:Program}{w:World}{A:Around}{E:Value→Shared→Prop}{s:Shared}
theorem aI4 {t sl:Addr}{items:Array Value}{vl vu:Value}{lo hi:Option Int}{Q:Value->Shared->Prop}(ht:IsTup s.heap t items)(hs:s.heap.IsSliceOf sl vl vu .none)(pl:IsPart vl lo)(pu:IsPart vu hi)(h1:b7 items.size 0 lo=0)(h2:b7 items.size items.size hi=items.size)(h:Q (.ref t) s):wpAny (model prog w) A (getItem (.ref t) (.ref sl)) Q E s:=by
 obtain⟨o,e1,e2,e3⟩:=id hs
 have T:s.TypeIs (.ref sl) "slice":=⟨o,e1,e2⟩
 unfold getItem
 try with_reducible refine bL1 ?_
 first|refine bz7 (bA8 ?_)|skip
 apply bz7
 apply wpAny_sequenceKey ht.typeIs (by decide)
 apply bz7
 apply bH3 (name:=Str.ofString "__getitem__") ht.typeIs bN0
 apply bG7 bN0 ht.typeIs entry_tuple_getitem _ (args_tuple_getitem _ _)
 change wpAny _ _ (Builtin.Tuple.tupleItemsOf (.ref t) >>= _) _ _ s
 apply bz7
 apply tupleItemsOf_ ht
 apply bz7
 apply wpAny_typeOf T
 rw[if_pos (by decide)]
 apply bz7
 apply L6 hs pl pu
 rw[h1,h2]
 have yes:((((0:Nat):Int)==0&&(1:Int)==1&&(items.size-0)==items.size)=true):=by simp
 change wpAny _ _ (if ((((0:Nat):Int)==0&&(1:Int)==1&&(items.size-0)==items.size)=true) then _ else _) _ _ s
 rw[if_pos yes]
 apply bz7
 unfold Builtin.Tuple.tupleIsExact
 apply bz7
 apply wpAny_typeOf ht.typeIs
 apply bA8
 change wpAny _ _ (rule "tuple.getitem.whole" >>= λ_=>ret (Value.ref t)) _ _ s
 apply bz7
 apply bQ9
 exact bA8 ⟨_,rfl,bA8 h⟩
end
end HT
namespace L2
open PySem PySem.Spec PyProof.Rows
section
variable {X:Cx}
def aI5 (K:ad):V->Option Int->Option Int->Hp->VK->Prop:=λx lo hi H Q=>∃a xs,x = .ref a/\aH K H a xs/\(∀p,H p=none->Q (.ref p) (upd H p (.tup (iJ xs lo hi))))/\(iJ xs lo hi=xs->Q (.ref a) H)
theorem aI6:kY X (aI5 X.K):=by
 intro pins s σ H x v vl vu lo hi sl Q I rx hs pl pu h
 obtain⟨a,xs,ex,hx,q1,q2⟩:=h
 by_cases hw:HT.b7 xs.length 0 lo=0/\HT.b7 xs.length xs.length hi=xs.length
 ·subst ex
  cases rx
  obtain⟨its,r,ht,hz⟩:=I.tuple hx
  have hlen:its.toArray.size=xs.length:=by rw[bA2];exact r.length.symm
  refine⟨"tuple",_,PyProof.Rows.slot_tuple_getitem.lookup,ht.typeIs,?_⟩
  refine HT.aI4 ht hs pl pu (by rw[hlen];exact hw.1) (by rw[hlen];exact hw.2) ⟨.ref a,H,I,rfl,q2 ?_⟩
  unfold iJ
  rw[hw.1,hw.2]
  simp
 ·exact aB0 pins s σ H x v vl vu lo hi sl Q I rx hs pl pu ⟨a,xs,ex,hx,hw,q1⟩
end
def x3 (K:ad)(a b:Addr):It:=
  ⟨λi H=>∃xs ys x y,aQ K H a xs/\aQ K H b ys/\xs[i]? = some x/\ys[i]? = some y,
   λi H v H'=>∃T x y,H T=none/\v = .ref T/\H'=upd H T (.tup [x,y])/\∀xs ys,aQ K H a xs->aQ K H b ys->xs[i]? = some x/\ys[i]? = some y,
   λi H=>∃xs ys,aQ K H a xs/\aQ K H b ys/\(i=xs.length∨(i<xs.length/\i=ys.length))⟩
abbrev aI7:=wZ false false
theorem aI8 {P:Program}{w:World}{K:ad}{elts:List Expr}{k:Nat}{pos:Pos}(a b z TI TO i1 i2:Addr)(d:[z,TI,TO,i1,i2].Nodup) :
  jA P w K (.Tuple elts k pos) (x3 K a b) [z,TI,TO,i1,i2] z (aI7 z TI TO i1 i2 a b):=S4 false false a b z TI TO i1 i2 d
section
variable {X:Cx}{pins:List (Addr×Obj)}{σ:St}{H:Hp}{s:Shared}{a b:Addr}{A:Around}{E:Value→Shared→Prop}
theorem aI9 {kvs more:List (aC×V)}{Q:Value->Shared->Prop}(I:a7 X pins σ H s)(ea:H a=some (.dK kvs))(eb:H b=some (.dK more))(hne:a≠b)(hl:kvs.length+more.length<=sizeLine)(h:∀s',a7 X pins σ (upd H a (.dK (jE kvs more))) s'->Q .none s'):wpAny (model X.prog X.w) A (call (.builtin "dict.update") [.ref a,.ref b]) Q E s:=by
 obtain⟨z,hd,vs,rel,dd⟩:=rE I.hok ea
 obtain⟨z2,hd2,rs,rel2,dd2⟩:=rE I.hok eb
 have l1:=rel.length
 have l2:=rel2.length
 refine call_meetsIn PySem.F.slot_dict_update dd.typeIs PySem.F.entry_dict_update (PySem.F.args_dict_update_2 _ _) (meets_dict_update (eB X.prog X.w) a b hne hd2) ⟨vs,rs,dd,dd2,by omega,λh' dd' _ hs=>h _ ?_⟩
 have he:∃q,h'.get? a=some q:=let ⟨q,_,_,hq,_⟩:=dd';⟨q,hq⟩
 refine pE I (by rw[ea];exact bO3) hs he (vZ ?_ hd (rel2.merge rel) dd')
 have:=w6 more kvs
 omega
end
def S5 (td ty:TE):TE:=λσ H Q=>td σ H λx H1=>∃a,x = .ref a/\w9 H1 a/\ty σ H1 λy H2=>∃(b:Addr) (kvs more:List (aC×V)),y = .ref b/\a≠b/\H2 a=some (.dK kvs)/\H2 b=some (.dK more)/\kvs.length+more.length<=sizeLine/\Q .non (upd H2 a (.dK (jE kvs more)))
section
variable {X:Cx}{o e:Expr}{apos cpos:Pos}{td ty:TE}
theorem aJ0 (ho:PE X o td)(he:PE X e ty)(m:M1 X o "update" apos e cpos):PE X (.Call (.Attribute o "update" apos) [e] [] cpos) (S5 td ty):=by
 intro pins s σ H Q I h
 refine wpAny_Call_method m.base m.few m.line PySem.F.plainAttrs_dict PySem.F.slot_dict_update PySem.F.type_dict_update (aR (ho pins s σ H _ I h) λu s1 ⟨x,H1,I1,rx,a,ex,d,q1⟩=>?_)
 subst ex
 obtain rfl:u=Value.ref a:=rx
 obtain⟨t1,t2,_⟩:=P0 I1 d
 refine⟨t1,t2,?_⟩
 rw[m.trees]
 refine Calls.callWith_builtin rfl (Calls.evalArgs_plain (Calls.spliced_cons (aR (he pins s1 σ H1 _ I1 q1) λiv s2 ⟨y,H2,I2,ry,b,kvs,more,ey,ne,ea,eb,l,q2⟩=>Calls.spliced_nil ?_)))
 subst ey
 obtain rfl:iv=Value.ref b:=ry
 exact aI9 I2 ea eb ne l λs3 I3=>⟨.non,_,I3,rfl,q2⟩
end
end L2
namespace PP
open PySem L2
inductive PV where
 |non|bl (b:Bool)|int (i:Int)|str (x:Str)|tup (xs:List PV)|lst (xs:List PV)
 |dK (kvs:List (aC×PV))|dT (kvs:List (List aC×PV))|scr (ns:af)|kt (xs:List PV)|exc (c:Str)|fK (kvs:List (aC×PV))|fT (kvs:List (List aC×PV))
mutual
def flat:PV->Bool
 |.tup xs=>flats xs
 |.lst _=>false
 |.dK _=>false
 |.dT _=>false
 |.non=>true
 |.bl _=>true
 |.int _=>true
 |.str _=>true
 |.scr _=>true
 |.kt xs=>flats xs
 |.exc _=>true
 |.fK _=>false
 |.fT _=>false
def flats:List PV->Bool
 |[]=>true
 |x::r=>flat x&&flats r
end
def jZ (K:ad)(H:Hp)(a:Addr)(ns:af):Prop:=(∃o,H a=some (.frz o (.lst (ns.map V.int)))) ∨
  ∃(o:Obj) (its:Array Value) (n:Nat),K.lookup a=some o/\o.cls = .type "list"/\o.dict=none/\o.data = .seq its n/\its.size<=sizeLine/\aO (ns.map V.int) its.toList
def nA (K:ad)(a:Addr)(us:List V):Prop:=∃(o:Obj) (its:Array Value) (n:Nat),K.lookup a=some o/\o.cls = .type "tuple"/\o.data = .seq its n/\its.size<=sizeLine/\aO us its.toList
mutual
inductive aJ (K:ad)(M:Addr->Prop)(H:Hp):V->PV->Prop
 |non:aJ K M H .non .non
 |bl (b:Bool):aJ K M H (.bl b) (.bl b)
 |int (i:Int):aJ K M H (.int i) (.int i)
 |str (x:Str):aJ K M H (.str x) (.str x)
 |tup {a:Addr}{us:List V}{xs:List PV}:H a=some (.tup us)->Reps K M H us xs->aJ K M H (.ref a) (.tup xs)
 |lst {a:Addr}{us:List V}{xs:List PV}:M a->H a=some (.lst us)->Reps K M H us xs->aJ K M H (.ref a) (.lst xs)
 |dK {a:Addr}{kvs:List (aC×V)}{ps:List (aC×PV)}:M a->H a=some (.dK kvs)->kvs.map (·.1)=ps.map (·.1)->Reps K M H (kvs.map (·.2)) (ps.map (·.2))->aJ K M H (.ref a) (.dK ps)
 |dT {a:Addr}{kvs:List (List aC×V)}{ps:List (List aC×PV)}:M a->H a=some (.dT kvs)->kvs.map (·.1)=ps.map (·.1)->Reps K M H (kvs.map (·.2)) (ps.map (·.2))->aJ K M H (.ref a) (.dT ps)
 |scr {a:Addr}{ns:af}:jZ K H a ns->aJ K M H (.ref a) (.scr ns)
 |kt {a:Addr}{us:List V}{xs:List PV}:nA K a us->Reps K M H us xs->aJ K M H (.ref a) (.kt xs)
 |exc {a C:Addr}{o:Obj}{c:Str}:H a=some (.frz o (.own a))->PySem.W.nsIn K mainGlobals c=some (some (.ref C))->o.cls = .ref C->aJ K M H (.ref a) (.exc c)
 |fK {a:Addr}{o:Obj}{kvs:List (aC×V)}{ps:List (aC×PV)}:H a=some (.frz o (.dK kvs))->kvs.map (·.1)=ps.map (·.1)->Reps K M H (kvs.map (·.2)) (ps.map (·.2))->aJ K M H (.ref a) (.fK ps)
 |fT {a:Addr}{o:Obj}{kvs:List (List aC×V)}{ps:List (List aC×PV)}:H a=some (.frz o (.dT kvs))->kvs.map (·.1)=ps.map (·.1)->Reps K M H (kvs.map (·.2)) (ps.map (·.2))->aJ K M H (.ref a) (.fT ps)
inductive Reps (K:ad)(M:Addr->Prop)(H:Hp):List V->List PV->Prop
 |nil:Reps K M H [] []
 |cons {v:V}{x:PV}{vs:List V}{xs:List PV}:aJ K M H v x->Reps K M H vs xs->Reps K M H (v::vs) (x::xs)
end
structure iM (M M':Addr->Prop)(H H':Hp):Prop where
 lst:∀a us,M a->H a=some (.lst us)->M' a/\H' a=some (.lst us)
 dK:∀a kvs,M a->H a=some (.dK kvs)->M' a/\H' a=some (.dK kvs)
 dT:∀a kvs,M a->H a=some (.dT kvs)->M' a/\H' a=some (.dT kvs)
 tup:∀a us,H a=some (.tup us)->H' a=some (.tup us)
 frz:∀a o u,H a=some (.frz o u)->H' a=some (.frz o u)
theorem jZ.keep {K:ad}{H H':Hp}{a:Addr}{ns:af}(k:∀a o u,H a=some (.frz o u)->H' a=some (.frz o u))(h:jZ K H a ns):jZ K H' a ns:=
 h.elim (λ⟨o,e⟩=>.inl ⟨o,k _ _ _ e⟩) .inr
mutual
theorem aJ.keep {K:ad}{M M':Addr->Prop}{H H':Hp}(k:iM M M' H H'):∀{v:V}{x:PV},aJ K M H v x->aJ K M' H' v x
 |_,_,.non=>.non
 |_,_,.bl b=>.bl b
 |_,_,.int i=>.int i
 |_,_,.str x=>.str x
 |_,_,.tup h r=>.tup (k.tup _ _ h) (Reps.keep k r)
 |_,_,.lst m h r=>.lst (k.lst _ _ m h).1 (k.lst _ _ m h).2 (Reps.keep k r)
 |_,_,.dK m h e r=>.dK (k.dK _ _ m h).1 (k.dK _ _ m h).2 e (Reps.keep k r)
 |_,_,.dT m h e r=>.dT (k.dT _ _ m h).1 (k.dT _ _ m h).2 e (Reps.keep k r)
 |_,_,.scr h=>.scr (h.keep k.frz)
 |_,_,.kt h r=>.kt h (Reps.keep k r)
 |_,_,.exc h e c=>.exc (k.frz _ _ _ h) e c
 |_,_,.fK h e r=>.fK (k.frz _ _ _ h) e (Reps.keep k r)
 |_,_,.fT h e r=>.fT (k.frz _ _ _ h) e (Reps.keep k r)
theorem Reps.keep {K:ad}{M M':Addr->Prop}{H H':Hp}(k:iM M M' H H'):∀{vs:List V}{xs:List PV},Reps K M H vs xs->Reps K M' H' vs xs
 |_,_,.nil=>.nil
 |_,_,.cons r t=>.cons (aJ.keep k r) (Reps.keep k t)
end
mutual
theorem aJ.flat {K:ad}{M M':Addr->Prop}{H:Hp}{v:V}{x:PV}(f:flat x=true)(r:aJ K M H v x):aJ K M' H v x:=by
 cases r with
 |non=>exact .non
 |bl b=>exact .bl b
 |int i=>exact .int i
 |str x=>exact .str x
 |tup h r=>exact .tup h (Reps.flat (by unfold PP.flat at f;exact f) r)
 |lst m h r=>unfold PP.flat at f;cases f
 |dK m h e r=>unfold PP.flat at f;cases f
 |dT m h e r=>unfold PP.flat at f;cases f
 |scr h=>exact .scr h
 |kt h r=>exact .kt h (Reps.flat (by unfold PP.flat at f;exact f) r)
 |exc h e c=>exact .exc h e c
 |fK h e r=>unfold PP.flat at f;cases f
 |fT h e r=>unfold PP.flat at f;cases f
theorem Reps.flat {K:ad}{M M':Addr->Prop}{H:Hp}{vs:List V}{xs:List PV}(f:flats xs=true)(r:Reps K M H vs xs):Reps K M' H vs xs:=by
 cases r with
 |nil=>exact .nil
 |cons r t=>
  unfold PP.flats at f
  rw[bE5]at f
  exact .cons (aJ.flat f.1 r) (Reps.flat f.2 t)
end
theorem iM.same {M M':Addr->Prop}{H H':Hp}(s:aE H H')(m:∀a,M a->M' a):iM M M' H H':=
 ⟨λa _ h e=>⟨m a h,s _ _ e⟩,λa _ h e=>⟨m a h,s _ _ e⟩,λa _ h e=>⟨m a h,s _ _ e⟩,λ_ _ e=>s _ _ e,λ_ _ _ e=>s _ _ e⟩
theorem aJ.same {K:ad}{M M':Addr->Prop}{H H':Hp}{v:V}{x:PV}(r:aJ K M H v x)(s:aE H H')(m:∀a,M a->M' a):aJ K M' H' v x:=r.keep (.same s m)
theorem Reps.same {K:ad}{M M':Addr->Prop}{H H':Hp}{v:List V}{x:List PV}(r:Reps K M H v x)(s:aE H H')(m:∀a,M a->M' a):Reps K M' H' v x:=r.keep (.same s m)
def g9:HO->Bool
 |.lst _=>true
 |.dK _=>true
 |.dT _=>true
 |_=>false
theorem iM.upd {M M':Addr->Prop}{H:Hp}{a:Addr}{o o':HO}(h:H a=some o')(mu:g9 o'=true)(m:∀b,M b->b≠a/\M' b):iM M M' H (upd H a o):=
 ⟨λb _ hb e=>⟨(m b hb).2,by rw[aW (m b hb).1];exact e⟩,λb _ hb e=>⟨(m b hb).2,by rw[aW (m b hb).1];exact e⟩,λb _ hb e=>⟨(m b hb).2,by rw[aW (m b hb).1];exact e⟩,
  λb _ e=>by rw[aW (λz=>by rw[z,h]at e;cases e;cases mu)];exact e,
  λb _ _ e=>by rw[aW (λz=>by rw[z,h]at e;cases e;cases mu)];exact e⟩
theorem Reps.length {K:ad}{M:Addr->Prop}{H:Hp}:∀{vs:List V}{xs:List PV},Reps K M H vs xs->vs.length=xs.length
 |_,_,.nil=>rfl
 |_,_,.cons _ t=>congrArg (·+1) t.length
theorem Reps.get {K:ad}{M:Addr->Prop}{H:Hp}:∀{vs:List V}{xs:List PV}{i:Nat}{v:V},Reps K M H vs xs->vs[i]? = some v->∃x,xs[i]? = some x/\aJ K M H v x
 |_,_,_,_,.nil,e=>by simp at e
 |_,_,0,_,.cons r _,e=>by simp at e;subst e;exact⟨_,rfl,r⟩
 |_,_,i+1,v,.cons _ t,e=>by
  rw[bF5]at e
  obtain⟨x,h1,h2⟩:=t.get e
  exact⟨x,by rw[bF5];exact h1,h2⟩
theorem Reps.at {K:ad}{M:Addr->Prop}{H:Hp}:∀{vs:List V}{xs:List PV}{i:Nat}{x:PV},Reps K M H vs xs->xs[i]? = some x->∃v,vs[i]? = some v/\aJ K M H v x
 |_,_,_,_,.nil,e=>by simp at e
 |_,_,0,_,.cons r _,e=>by simp at e;subst e;exact⟨_,rfl,r⟩
 |_,_,i+1,v,.cons _ t,e=>by
  rw[bF5]at e
  obtain⟨x,h1,h2⟩:=t.at e
  exact⟨x,by rw[bF5];exact h1,h2⟩
theorem Reps.append {K:ad}{M:Addr->Prop}{H:Hp}:∀{vs:List V}{xs:List PV}{us:List V}{ys:List PV},Reps K M H vs xs->Reps K M H us ys->Reps K M H (vs++us) (xs++ys)
 |_,_,_,_,.nil,s=>s
 |_,_,_,_,.cons r t,s=>.cons r (t.append s)
theorem Reps.set {K:ad}{M:Addr->Prop}{H:Hp}{v:V}{x:PV}(q:aJ K M H v x):∀(i:Nat) {vs:List V}{xs:List PV},Reps K M H vs xs->Reps K M H (vs.set i v) (xs.set i x)
 |_,_,_,.nil=>.nil
 |0,_,_,.cons r t=>.cons q t
 |i+1,_,_,.cons r t=>.cons r (Reps.set q i t)
theorem Reps.take {K:ad}{M:Addr->Prop}{H:Hp}:∀(n:Nat) {vs:List V}{xs:List PV},Reps K M H vs xs->Reps K M H (vs.take n) (xs.take n)
 |0,_,_,_=>by simp;exact .nil
 |_+1,_,_,.nil=>.nil
 |n+1,_,_,.cons r t=>.cons r (Reps.take n t)
theorem Reps.drop {K:ad}{M:Addr->Prop}{H:Hp}:∀(n:Nat) {vs:List V}{xs:List PV},Reps K M H vs xs->Reps K M H (vs.drop n) (xs.drop n)
 |0,_,_,r=>r
 |_+1,_,_,.nil=>.nil
 |n+1,_,_,.cons _ t=>Reps.drop n t
theorem Reps.eraseIdx {K:ad}{M:Addr->Prop}{H:Hp}:∀(n:Nat) {vs:List V}{xs:List PV},Reps K M H vs xs->Reps K M H (vs.eraseIdx n) (xs.eraseIdx n)
 |_,_,_,.nil=>.nil
 |0,_,_,.cons _ t=>t
 |n+1,_,_,.cons r t=>.cons r (Reps.eraseIdx n t)
abbrev intz (ns:af):List PV:=ns.map PV.int
theorem Reps.intz {K:ad}{M:Addr->Prop}{H:Hp}:∀(ns:af),Reps K M H (ns.map V.int) (intz ns)
 |[]=>.nil
 |n::r=>.cons (.int n) (Reps.intz r)
theorem Reps.ofInts {K:ad}{M:Addr->Prop}{H:Hp}:∀{ns:af}{us:List V},Reps K M H us (PP.intz ns)->us=ns.map V.int
 |[],_,.nil=>rfl
 |n::r,_,.cons q t=>by
  cases q
  rw[Reps.ofInts t];rfl
theorem cS:∀(ns:af),flats (intz ns)=true
 |[]=>rfl
 |n::r=>by show (flat (.int n)&&flats (intz r))=true;rw[cS r];rfl
inductive Tg|rd|sh|nw|fr
inductive Slot|sh (g:Bool) (x:PV)|own (x:PV)
def Slot.val:Slot->PV
 |.sh _ x=>x
 |.own x=>x
def Slot.tag:Slot->Tg
 |.sh true _=>.nw
 |.sh false _=>.sh
 |.own _=>.rd
abbrev bN:=List (Option Slot)
def Ms (H0:Hp)(W:Addr->Prop):Bool->Addr->Prop
 |false,a=>¬W a
 |true,a=>¬W a/\H0 a=none
def Mg (H0:Hp)(W:Addr->Prop)(Hs:Hp):Tg->Addr->Prop
 |.rd,_=>True
 |.sh,a=>¬W a
 |.nw,a=>¬W a/\H0 a=none
 |.fr,a=>Hs a=none
def iN (K:ad)(M:Addr->Prop)(H:Hp)(a:Addr):PV->Prop
 |.lst xs=>∃us,H a=some (.lst us)/\Reps K M H us xs
 |.dK ps=>∃kvs,H a=some (.dK kvs)/\kvs.map (·.1)=ps.map (·.1)/\Reps K M H (kvs.map (·.2)) (ps.map (·.2))
 |.dT ps=>∃kvs,H a=some (.dT kvs)/\kvs.map (·.1)=ps.map (·.1)/\Reps K M H (kvs.map (·.2)) (ps.map (·.2))
 |_=>False
def S6 (K:ad)(H0:Hp)(W:Addr->Prop)(H:Hp)(v:V):Slot->Prop
 |.sh g x=>aJ K (Ms H0 W g) H v x
 |.own x=>∃a,v = .ref a/\W a/\iN K (Ms H0 W true) H a x
structure PX (K:ad)(H0:Hp)(W:Addr->Prop)(σ:St)(ρ:bN)(H:Hp):Prop where
 len:ρ.length=σ.length
 same:aE H0 H
 wm:∀a,W a->H0 a=none/\∃o,H a=some o/\g9 o=true
 sl:∀(i:Nat) (m:Slot),ρ[i]? = some (some m)->∃v,σ[i]? = some (some v)/\S6 K H0 W H v m
 dis:∀(i j:Nat) (x y:PV) (a:Addr),ρ[i]? = some (some (.own x))->ρ[j]? = some (some (.own y))->σ[i]? = some (some (.ref a))->σ[j]? = some (some (.ref a))->i=j
theorem iN.keep {K:ad}{M M':Addr->Prop}{H H':Hp}{a:Addr}(k:iM M M' H H')(ha:∀o,H a=some o->H' a=some o):∀{x:PV},iN K M H a x->iN K M' H' a x
 |.lst _,⟨us,e,r⟩=>⟨us,ha _ e,r.keep k⟩
 |.dK _,⟨us,e,q,r⟩=>⟨us,ha _ e,q,r.keep k⟩
 |.dT _,⟨us,e,q,r⟩=>⟨us,ha _ e,q,r.keep k⟩
theorem iN.at {K:ad}{M:Addr->Prop}{H:Hp}{a:Addr}:∀{x:PV},iN K M H a x->∃o,H a=some o/\g9 o=true
 |.lst _,⟨us,e,r⟩=>⟨_,e,rfl⟩
 |.dK _,⟨us,e,q,r⟩=>⟨_,e,rfl⟩
 |.dT _,⟨us,e,q,r⟩=>⟨_,e,rfl⟩
theorem iN.rep {K:ad}{M M':Addr->Prop}{H:Hp}{a:Addr}(m:∀b,M b->M' b)(ha:M' a):∀{x:PV},iN K M H a x->aJ K M' H (.ref a) x
 |.lst _,⟨us,e,r⟩=>.lst ha e (r.same (aE.refl _) m)
 |.dK _,⟨us,e,q,r⟩=>.dK ha e q (r.same (aE.refl _) m)
 |.dT _,⟨us,e,q,r⟩=>.dT ha e q (r.same (aE.refl _) m)
section
variable {K:ad}{H0:Hp}{W W':Addr→Prop}{σ:St}{ρ:bN}{H H':Hp}
theorem PX.mono (p:PX K H0 W σ ρ H)(s:aE H H'):PX K H0 W σ ρ H':=by
 refine⟨p.len,p.same.trans s,λa h=>⟨(p.wm a h).1,let ⟨o,e,m⟩:=(p.wm a h).2;⟨o,s _ _ e,m⟩⟩,λi m h=>?_,p.dis⟩
 obtain⟨v,e,r⟩:=p.sl i m h
 refine⟨v,e,?_⟩
 cases m with
 |sh g x=>exact aJ.same r s λ_ z=>z
 |own x=>
  obtain⟨a,e1,e2,r⟩:=r
  exact⟨a,e1,e2,r.keep (.same s λ_ z=>z) λ_ z=>s _ _ z⟩
theorem PX.new (p:PX K H0 W σ ρ H){a:Addr}(h:H a=none):¬W a/\H0 a=none:=
 ⟨λz=>(by obtain⟨_,o,e,_⟩:=p.wm a z;rw[h]at e;cases e),p.same.free h⟩
theorem Mg.back {g:Tg}{H1:Hp}(s:aE H H1){a:Addr}(h:Mg H0 W H1 g a):Mg H0 W H g a:=by
 cases g with
 |fr=>exact s.free h
 |rd=>exact h
 |sh=>exact h
 |nw=>exact h
end
abbrev PK:=PV->Tg->Prop
abbrev aD:=bN->PK->Prop
abbrev cH:=bN->(Bool->Prop)->Prop
abbrev dB:=bN->(List (PV×Tg)->Prop)->Prop
inductive iO (K:ad)(H0:Hp)(W:Addr->Prop)(Hs H:Hp):List V->List (PV×Tg)->Prop
 |nil:iO K H0 W Hs H [] []
 |cons {v:V}{x:PV}{g:Tg}{vs:List V}{xs:List (PV×Tg)}:aJ K (Mg H0 W Hs g) H v x->iO K H0 W Hs H vs xs->iO K H0 W Hs H (v::vs) ((x,g)::xs)
def rW (K:ad)(H0:Hp)(W:Addr->Prop)(H:Hp)(Q:PK)(Q':VK):Prop:=∀v H' x g,aE H H'->aJ K (Mg H0 W H g) H' v x->Q x g->Q' v H'
def LE (X:Cx)(t:aD):TE:=λσ H Q'=>∃(W:Addr->Prop) (ρ:bN) (Q:PK),PX X.K X.H₀ W σ ρ H/\t ρ Q/\rW X.K X.H₀ W H Q Q'
def LT (X:Cx)(t:cH):TT:=λσ H Q'=>∃(W:Addr->Prop) (ρ:bN) (Q:Bool->Prop),PX X.K X.H₀ W σ ρ H/\t ρ Q/\∀b H',aE H H'->Q b->Q' b H'
def LA (X:Cx)(t:dB):TA:=λσ H Q'=>∃(W:Addr->Prop) (ρ:bN) (Q:List (PV×Tg)->Prop),PX X.K X.H₀ W σ ρ H/\t ρ Q/\∀vs H' xs,aE H H'->iO X.K X.H₀ W H H' vs xs->Q xs->Q' vs H'
theorem iO.same {K:ad}{H0:Hp}{W:Addr->Prop}{Hs Hs' H H':Hp}(s:aE H H')(b:aE Hs' Hs):∀{vs:List V}{xs:List (PV×Tg)},iO K H0 W Hs H vs xs->iO K H0 W Hs' H' vs xs
 |_,_,.nil=>.nil
 |_,_,.cons r t=>.cons (r.same s λ_ z=>Mg.back b z) (t.same s b)
theorem iO.any {K:ad}{H0:Hp}{W:Addr->Prop}{Hs H:Hp}:∀{vs:List V}{xs:List (PV×Tg)},iO K H0 W Hs H vs xs->Reps K (λ_=>True) H vs (xs.map (·.1))
 |_,_,.nil=>.nil
 |_,_,.cons r t=>.cons (r.same (aE.refl _) λ_ _=>trivial) t.any
def Nw:Tg->PV->Prop
 |.fr,_=>True
 |.nw,_=>True
 |_,x=>flat x=true
section
variable {K:ad}{H0 Hs H:Hp}{W:Addr→Prop}{σ:St}{ρ:bN}
theorem Nw.rep {g:Tg}{x:PV}{v:V}(px:PX K H0 W σ ρ Hs)(n:Nw g x)(r:aJ K (Mg H0 W Hs g) H v x):aJ K (Ms H0 W true) H v x:=by
 cases g with
 |fr=>exact r.same (aE.refl _) λa z=>px.new z
 |nw=>exact r.same (aE.refl _) λa z=>z
 |sh=>exact r.flat n
 |rd=>exact r.flat n
theorem S7 {v:V}{m:Slot}(r:S6 K H0 W H v m):aJ K (Mg H0 W Hs m.tag) H v m.val:=by
 cases m with
 |sh g x=>
  cases g with
  |true=>exact aJ.same r (aE.refl _) λ_ z=>z
  |false=>exact aJ.same r (aE.refl _) λ_ z=>z
 |own x=>
  obtain⟨a,rfl,_,r⟩:=r
  exact r.rep (λ_ _=>trivial) trivial
end
section
variable {X:Cx}{σ:St}{H:Hp}{Q':VK}{ta tb:aD}
def a5 (i:Nat):aD:=λρ Q=>∃m,ρ[i]? = some (some m)/\Q m.val m.tag
def qC (x:PV):aD:=λ_ Q=>Q x .fr
theorem aJ1 {i:Nat}(h:LE X (a5 i) σ H Q'):hV i σ H Q':=by
 obtain⟨W,ρ,Q,px,⟨m,e,q⟩,k⟩:=h
 obtain⟨v,ev,r⟩:=px.sl i m e
 exact⟨v,ev,k v H _ _ (aE.refl _) (S7 r) q⟩
theorem rX {x:PV}{v:V}(hr:∀M,aJ X.K M H v x)(h:LE X (qC x) σ H Q'):tC v σ H Q':=by
 obtain⟨W,ρ,Q,px,q,k⟩:=h
 exact k v H _ _ (aE.refl _) (hr _) q
def eL (X:Cx)(R:PV->Tg->PV->Tg->PK->Prop)(r:R2):Prop:=∀(W:Addr->Prop) (Hs H:Hp) (u v:V) (x y:PV) (g g':Tg) (Q:PK) (Q':VK),aE Hs H->
 (∀a,Hs a=none->¬W a/\X.H₀ a=none)->aJ X.K (Mg X.H₀ W Hs g) H u x->aJ X.K (Mg X.H₀ W Hs g') H v y->R x g y g' Q->(∀w H' z gz,aE H H'->aJ X.K (Mg X.H₀ W Hs gz) H' w z->Q z gz->Q' w H')->r u v H Q'
def q2 (R:PV->Tg->PV->Tg->PK->Prop)(ta tb:aD):aD:=λρ Q=>ta ρ λx g=>tb ρ λy g'=>R x g y g' Q
theorem rY {R:PV->Tg->PV->Tg->PK->Prop}{r:R2}(c:eL X R r)(h:LE X (q2 R ta tb) σ H Q'):oT r (LE X ta) (LE X tb) σ H Q':=by
 obtain⟨W,ρ,Q,px,q,k⟩:=h
 refine⟨W,ρ,_,px,q,λu H1 x g s1 r1 q1=>⟨W,ρ,_,px.mono s1,q1,λv H2 y g' s2 r2 q2=>?_⟩⟩
 exact c W H H2 u v x y g g' Q Q' (s1.trans s2) (λa z=>px.new z) (r1.same s2 λ_ z=>z) (r2.same (aE.refl _) λ_ z=>Mg.back s1 z) q2 λw H' z gz s3 r3 q3=>k w H' z gz ((s1.trans s2).trans s3) r3 q3
def RI (C:Int->Int->Prop)(f:Int->Int->PV):PV->Tg->PV->Tg->PK->Prop:=λx _ y _ Q=>∃i j,x = .int i/\y = .int j/\C i j/\Q (f i j) .fr
def fG (f:Int->Int->PV):PV->Tg->PV->Tg->PK->Prop:=λx _ y _ Q=>∃i j,x = .int i/\y = .int j/\Q (f i j) .fr
theorem nB {C:Int->Int->Prop}{f:Int->Int->Int}:eL X (RI C λi j=>.int (f i j)) (rI C λi j=>.int (f i j)):=by
 rintro W Hs H u v x y g g' Q Q' s n r1 r2 ⟨i,j,rfl,rfl,c,q⟩ k
 cases r1;cases r2
 exact⟨i,j,rfl,rfl,c,k _ _ _ _ (aE.refl _) (.int _) q⟩
theorem S8 {f:Int->Int->Int}:eL X (fG λi j=>.int (f i j)) (jB λi j=>.int (f i j)):=by
 rintro W Hs H u v x y g g' Q Q' s n r1 r2 ⟨i,j,rfl,rfl,q⟩ k
 cases r1;cases r2
 exact⟨i,j,rfl,rfl,k _ _ _ _ (aE.refl _) (.int _) q⟩
theorem nC {f:Int->Int->Bool}:eL X (fG λi j=>.bl (f i j)) (jB λi j=>.bl (f i j)):=by
 rintro W Hs H u v x y g g' Q Q' s n r1 r2 ⟨i,j,rfl,rfl,q⟩ k
 cases r1;cases r2
 exact⟨i,j,rfl,rfl,k _ _ _ _ (aE.refl _) (.bl _) q⟩
def lX (neg:Bool):PV->Tg->PV->Tg->PK->Prop:=λx _ y _ Q=>(∃i j,x = .int i/\y = .int j/\Q (.bl (if neg=true then !decide (i=j) else decide (i=j))) .fr)∨(∃i j,x = .bl i/\y = .bl j/\Q (.bl (if neg=true then !decide (i=j) else decide (i=j))) .fr)
theorem S9 (i j:Int):decide (V.int i=V.int j)=decide (i=j):=by
 rw[bF1,bC2,bC2];exact⟨λz=>V.int.inj z,λz=>congrArg V.int z⟩
theorem T0 (i j:Bool):decide (V.bl i=V.bl j)=decide (i=j):=by
 rw[bF1,bC2,bC2];exact⟨λz=>V.bl.inj z,λz=>congrArg V.bl z⟩
theorem T1:eL X (lX false) J0:=by
 rintro W Hs H u v x y g g' Q Q' s n r1 r2 (⟨i,j,rfl,rfl,q⟩|⟨i,j,rfl,rfl,q⟩) k
 ·cases r1;cases r2
  exact⟨rfl,by rw[S9];exact k _ _ _ _ (aE.refl _) (.bl _) q⟩
 ·cases r1;cases r2
  exact⟨rfl,by rw[T0];exact k _ _ _ _ (aE.refl _) (.bl _) q⟩
theorem aJ2:eL X (lX true) J1:=by
 rintro W Hs H u v x y g g' Q Q' s n r1 r2 (⟨i,j,rfl,rfl,q⟩|⟨i,j,rfl,rfl,q⟩) k
 ·cases r1;cases r2
  exact⟨rfl,by rw[S9];exact k _ _ _ _ (aE.refl _) (.bl _) q⟩
 ·cases r1;cases r2
  exact⟨rfl,by rw[T0];exact k _ _ _ _ (aE.refl _) (.bl _) q⟩
def aY (t:aD):cH:=λρ Q=>t ρ λx _=>∃b,x = .bl b/\Q b
theorem rZ {t:aD}{Q':Bool->Hp->Prop}(h:LT X (aY t) σ H Q'):LE X t σ H λx H'=>∃k,x = .bl k/\Q' k H':=by
 obtain⟨W,ρ,Q,px,q,k⟩:=h
 refine⟨W,ρ,_,px,q,?_⟩
 rintro v H1 x g s r ⟨b,rfl,q⟩
 cases r
 exact⟨b,rfl,k _ _ s q⟩
def gA (t u:cH):cH:=λρ Q=>t ρ λc=>if c=true then u ρ Q else Q false
def lA (t u:cH):cH:=λρ Q=>t ρ λc=>if c=true then Q true else u ρ Q
def k6 (t:cH):cH:=λρ Q=>t ρ λc=>Q (!c)
variable {t u:cH}{Qb:Bool→Hp→Prop}
theorem aJ3 (h:LT X (gA t u) σ H Qb):E9 (LT X t) (LT X u) σ H Qb:=by
 obtain⟨W,ρ,Q,px,q,k⟩:=h
 refine⟨W,ρ,_,px,q,λb H1 s1 q1=>?_⟩
 cases b with
 |true=>exact b9 ⟨W,ρ,Q,px.mono s1,by simpa using q1,λb H2 s2 q2=>k _ _ (s1.trans s2) q2⟩
 |false=>exact aT (k _ _ s1 (by simpa using q1))
theorem aJ4 (h:LT X (lA t u) σ H Qb):F0 (LT X t) (LT X u) σ H Qb:=by
 obtain⟨W,ρ,Q,px,q,k⟩:=h
 refine⟨W,ρ,_,px,q,λb H1 s1 q1=>?_⟩
 cases b with
 |false=>exact aT ⟨W,ρ,Q,px.mono s1,by simpa using q1,λb H2 s2 q2=>k _ _ (s1.trans s2) q2⟩
 |true=>exact b9 (k _ _ s1 (by simpa using q1))
theorem aJ5 (h:LT X (k6 t) σ H Qb):F1 (LT X t) σ H Qb:=by
 obtain⟨W,ρ,Q,px,q,k⟩:=h
 exact⟨W,ρ,_,px,q,λb H1 s1 q1=>k _ _ s1 q1⟩
def lY (ta tb:aD):aD:=λρ Q=>ta ρ λx _=>∃c,x = .bl c/\if c=true then tb ρ Q else Q (.bl false) .fr
def x4 (ta tb:aD):aD:=λρ Q=>ta ρ λx _=>∃c,x = .bl c/\if c=true then Q (.bl true) .fr else tb ρ Q
def x5 (ta:aD):aD:=λρ Q=>ta ρ λx _=>∃c,x = .bl c/\Q (.bl (!c)) .fr
theorem rW.back {K:ad}{H0:Hp}{W:Addr->Prop}{H H1:Hp}{Q:PK}(k:rW K H0 W H Q Q')(s:aE H H1):rW K H0 W H1 Q Q':=λv H' x g s' r q=>k v H' x g (s.trans s') (r.same (aE.refl _) λ_ z=>Mg.back s z) q
theorem aJ6 (h:LE X (lY ta tb) σ H Q'):F3 (LE X ta) (LE X tb) σ H Q':=by
 obtain⟨W,ρ,Q,px,q,k⟩:=h
 refine⟨W,ρ,_,px,q,?_⟩
 rintro v H1 x g s1 r ⟨c,rfl,q⟩
 cases r
 refine⟨c,rfl,?_⟩
 cases c with
 |true=>exact b9 ⟨W,ρ,Q,px.mono s1,by simpa using q,k.back s1⟩
 |false=>exact aT (k _ _ _ _ s1 (.bl _) (by simpa using q))
theorem aJ7 (h:LE X (x4 ta tb) σ H Q'):F4 (LE X ta) (LE X tb) σ H Q':=by
 obtain⟨W,ρ,Q,px,q,k⟩:=h
 refine⟨W,ρ,_,px,q,?_⟩
 rintro v H1 x g s1 r ⟨c,rfl,q⟩
 cases r
 refine⟨c,rfl,?_⟩
 cases c with
 |false=>exact aT ⟨W,ρ,Q,px.mono s1,by simpa using q,k.back s1⟩
 |true=>exact b9 (k _ _ _ _ s1 (.bl _) (by simpa using q))
theorem aJ8 (h:LE X (x5 ta) σ H Q'):F5 (LE X ta) σ H Q':=by
 obtain⟨W,ρ,Q,px,q,k⟩:=h
 refine⟨W,ρ,_,px,q,?_⟩
 rintro v H1 x g s1 r ⟨c,rfl,q⟩
 cases r
 exact⟨c,rfl,k _ _ _ _ s1 (.bl _) q⟩
def a9:dB:=λ_ Q=>Q []
def a6 (te:aD)(tr:dB):dB:=λρ Q=>te ρ λx g=>tr ρ λxs=>Q ((x,g)::xs)
variable {Qa:List V→Hp→Prop}{tr:dB}
theorem aJ9 (h:LA X a9 σ H Qa):kX σ H Qa:=by
 obtain⟨W,ρ,Q,px,q,k⟩:=h
 exact k _ _ _ (aE.refl _) .nil q
theorem aK0 (h:LA X (a6 ta tr) σ H Qa):iH (LE X ta) (LA X tr) σ H Qa:=by
 obtain⟨W,ρ,Q,px,q,k⟩:=h
 refine⟨W,ρ,_,px,q,λv H1 x g s1 r1 q1=>⟨W,ρ,_,px.mono s1,q1,λvs H2 xs s2 r2 q2=>?_⟩⟩
 exact k _ _ _ (s1.trans s2) (.cons (r1.same s2 λ_ z=>z) (r2.same (aE.refl _) s1)) q2
def iP (t:dB):aD:=λρ Q=>t ρ λxs=>xs.length<=1000/\flats (xs.map (·.1))=true/\Q (.tup (xs.map (·.1))) .fr
def i7 (t:dB):aD:=λρ Q=>t ρ λxs=>xs.length<=1000/\flats (xs.map (·.1))=true/\Q (.lst (xs.map (·.1))) .fr
theorem iO.length {K:ad}{H0:Hp}{W:Addr->Prop}{Hs H:Hp}:∀{vs:List V}{xs:List (PV×Tg)},iO K H0 W Hs H vs xs->vs.length=xs.length
 |_,_,.nil=>rfl
 |_,_,.cons _ t=>congrArg (·+1) t.length
theorem x6 {n:Nat}(h:n<=1000):n<=sizeLine:=bH0 (pG h)
theorem aK1 (h:LE X (iP tr) σ H Q'):K0 (LA X tr) σ H Q':=by
 obtain⟨W,ρ,Q,px,q,k⟩:=h
 refine⟨W,ρ,_,px,q,?_⟩
 rintro vs H1 xs s1 r ⟨hl,n,q⟩
 refine⟨by rw[r.length];exact x6 hl,λp hp=>k _ _ _ .fr (s1.trans (bK hp _)) (.tup bJ ?_) q⟩
 exact (r.any.flat n).same (bK hp _) λ_ z=>z
theorem aK2 (h:LE X (i7 tr) σ H Q'):K1 (LA X tr) σ H Q':=by
 obtain⟨W,ρ,Q,px,q,k⟩:=h
 refine⟨W,ρ,_,px,q,?_⟩
 rintro vs H1 xs s1 r ⟨hl,n,q⟩
 refine⟨by rw[r.length];exact x6 hl,λp hp=>k _ _ _ .fr (s1.trans (bK hp _)) (.lst (s1.free hp) bJ ?_) q⟩
 exact (r.any.flat n).same (bK hp _) λ_ z=>z
def e8 (X:Cx)(R:List PV->(PV->Prop)->Prop)(r:List V->Hp->VK->Prop):Prop:=∀(H:Hp) (vs:List V) (xs:List PV) (Q:PV->Prop) (Q':VK),Reps X.K (λ_=>True) H vs xs->R xs Q->
 (∀w H' z,aE H H'->aJ X.K (λa=>H a=none) H' w z->Q z->Q' w H')->r vs H Q'
def aB (R:List PV->(PV->Prop)->Prop)(t:dB):aD:=λρ Q=>t ρ λxs=>R (xs.map (·.1)) λz=>Q z .fr
theorem T2 {R:List PV->(PV->Prop)->Prop}{r:List V->Hp->VK->Prop}(c:e8 X R r)(h:LE X (aB R tr) σ H Q'):vM r (LA X tr) σ H Q':=by
 obtain⟨W,ρ,Q,px,q,k⟩:=h
 refine⟨W,ρ,_,px,q,λvs H1 xs s1 r1 q1=>c H1 vs _ _ Q' r1.any q1 λw H' z s2 r2 q2=>k w H' z .fr (s1.trans s2) (r2.same (aE.refl _) λ_ z=>s1.free z) q2⟩
end
structure jF where
 nx:bN->Prop
 rt:PV->Prop
 bk:bN->Prop:=λ_=>False
 ct:bN->Prop:=λ_=>False
abbrev aI:=jF->bN->Prop
def Ev (W:Addr->Prop)(H:Hp)(W':Addr->Prop)(H':Hp):Prop:=∀b o,H b=some o->¬W b->H' b=some o/\¬W' b
theorem Ev.trans {W W1 W2:Addr->Prop}{H H1 H2:Hp}(a:Ev W H W1 H1)(b:Ev W1 H1 W2 H2):Ev W H W2 H2:=λc o h n=>let ⟨h1,n1⟩:=a c o h n;b c o h1 n1
theorem Ev.same {W:Addr->Prop}{H H':Hp}(s:aE H H'):Ev W H W H':=λc o h n=>⟨s _ _ h,n⟩
theorem Ev.refl (W:Addr->Prop)(H:Hp):Ev W H W H:=Ev.same (aE.refl _)
structure pK (X:Cx)(W:Addr->Prop)(H:Hp)(D':jF)(D:cP):Prop where
 nx:∀W' σ' H' ρ',Ev W H W' H'->PX X.K X.H₀ W' σ' ρ' H'->D'.nx ρ'->D.nx σ' H'
 rt:∀v H' x,aE X.H₀ H'->aJ X.K (λa=>X.H₀ a=none) H' v x->D'.rt x->D.rt v H'
 bk:∀W' σ' H' ρ',Ev W H W' H'->PX X.K X.H₀ W' σ' ρ' H'->D'.bk ρ'->D.bk σ' H'
 ct:∀W' σ' H' ρ',Ev W H W' H'->PX X.K X.H₀ W' σ' ρ' H'->D'.ct ρ'->D.ct σ' H'
theorem pK.step {X:Cx}{W W1:Addr->Prop}{H H1:Hp}{D':jF}{D:cP}(k:pK X W H D' D)(e:Ev W H W1 H1):pK X W1 H1 D' D:=
 ⟨λW' σ' H' ρ' e'=>k.nx W' σ' H' ρ' (e.trans e'),k.rt,λW' σ' H' ρ' e'=>k.bk W' σ' H' ρ' (e.trans e'),λW' σ' H' ρ' e'=>k.ct W' σ' H' ρ' (e.trans e')⟩
def LS (X:Cx)(t:aI):TS:=λD σ H=>∃(W:Addr->Prop) (ρ:bN) (D':jF),PX X.K X.H₀ W σ ρ H/\t D' ρ/\pK X W H D' D
theorem eY {α:Type}{l:List α}{i j:Nat}{a b:α}(h:(l.set i a)[j]? = some b):(j=i/\i<l.length/\b=a)∨(j≠i/\l[j]? = some b):=by
 by_cases e:j=i
 ·subst e
  have hl:j<(l.set j a).length:=(bB0.mp h).1
  rw[bI2]at hl
  rw[bJ2 hl]at h
  exact .inl ⟨rfl,hl,(bE0 h).symm⟩
 ·rw[bD6 (Ne.symm e)]at h
  exact .inr ⟨e,h⟩
section
variable {K:ad}{H0:Hp}{W W':Addr→Prop}{σ:St}{ρ:bN}{H H' Hs:Hp}
theorem PX.setSh {i:Nat}{v:V}{g:Bool}{x:PV}(p:PX K H0 W σ ρ H)(r:aJ K (Ms H0 W g) H v x):PX K H0 W (σ.set i (some v)) (ρ.set i (some (.sh g x))) H:=by
 refine⟨by rw[bI2,bI2];exact p.len,p.same,p.wm,λj m h=>?_,λj k y z a h1 h2 h3 h4=>?_⟩
 ·rcases eY h with⟨rfl,hl,e⟩|⟨hne,h⟩
  ·cases e
   rw[p.len]at hl
   exact⟨v,bJ2 hl,r⟩
  ·obtain⟨u,e,q⟩:=p.sl j m h
   exact⟨u,by rw[bD6 (Ne.symm hne)];exact e,q⟩
 ·rcases eY h1 with⟨_,_,e⟩|⟨n1,h1⟩
  ·cases e
  ·rcases eY h2 with⟨_,_,e⟩|⟨n2,h2⟩
   ·cases e
   ·rw[bD6 (Ne.symm n1)]at h3
    rw[bD6 (Ne.symm n2)]at h4
    exact p.dis j k y z a h1 h2 h3 h4
theorem PX.setNone {i:Nat}{o:Option V}(p:PX K H0 W σ ρ H):PX K H0 W (σ.set i o) (ρ.set i none) H:=by
 refine⟨by rw[bI2,bI2];exact p.len,p.same,p.wm,λj m h=>?_,λj k y z a h1 h2 h3 h4=>?_⟩
 ·rcases eY h with⟨rfl,hl,e⟩|⟨hne,h⟩
  ·cases e
  ·obtain⟨u,e,q⟩:=p.sl j m h
   exact⟨u,by rw[bD6 (Ne.symm hne)];exact e,q⟩
 ·rcases eY h1 with⟨_,_,e⟩|⟨n1,h1⟩
  ·cases e
  ·rcases eY h2 with⟨_,_,e⟩|⟨n2,h2⟩
   ·cases e
   ·rw[bD6 (Ne.symm n1)]at h3
    rw[bD6 (Ne.symm n2)]at h4
    exact p.dis j k y z a h1 h2 h3 h4
def nD (W:Addr->Prop)(a:Addr):Addr->Prop:=λb=>W b∨b=a
theorem x8 {g:Bool}{a b:Addr}(n:b≠a)(h:Ms H0 W g b):Ms H0 (nD W a) g b:=by
 cases g with
 |true=>exact⟨λz=>z.elim h.1 n,h.2⟩
 |false=>exact λz=>z.elim h n
theorem PX.setOwn {i:Nat}{a:Addr}{x:PV}(p:PX K H0 W σ ρ Hs)(s:aE Hs H)(ha:Hs a=none)(r:iN K (Ms H0 (nD W a) true) H a x):PX K H0 (nD W a) (σ.set i (some (.ref a))) (ρ.set i (some (.own x))) H:=by
 have old:∀b o,Hs b=some o->b≠a:=λb o e z=>by rw[z,ha]at e;cases e
 have kp:∀g,iM (Ms H0 W g) (Ms H0 (nD W a) g) Hs H:=λg=>⟨λb _ m e=>⟨x8 (old _ _ e) m,s _ _ e⟩,λb _ m e=>⟨x8 (old _ _ e) m,s _ _ e⟩,λb _ m e=>⟨x8 (old _ _ e) m,s _ _ e⟩,λ_ _ e=>s _ _ e,λ_ _ _ e=>s _ _ e⟩
 have wa:¬W a:=(p.new ha).1
 refine⟨by rw[bI2,bI2];exact p.len,p.same.trans s,λb z=>?_,λj m h=>?_,λj k y z b h1 h2 h3 h4=>?_⟩
 ·rcases z with z|rfl
  ·obtain⟨h1,o,h2,h3⟩:=p.wm b z
   exact⟨h1,o,s _ _ h2,h3⟩
  ·exact⟨(p.new ha).2,r.at⟩
 ·rcases eY h with⟨rfl,hl,e⟩|⟨hne,h⟩
  ·cases e
   rw[p.len]at hl
   exact⟨_,bJ2 hl,a,rfl,.inr rfl,r⟩
  ·obtain⟨u,e,q⟩:=p.sl j m h
   refine⟨u,by rw[bD6 (Ne.symm hne)];exact e,?_⟩
   cases m with
   |sh g y=>exact aJ.keep (kp g) q
   |own y=>
    obtain⟨b,e1,e2,q⟩:=q
    exact⟨b,e1,.inl e2,q.keep (kp true) λo z=>s _ _ z⟩
 ·have ne:∀{j:Nat}{y:PV},ρ[j]? = some (some (.own y))->σ[j]?≠some (some (.ref a)):=λ{j y} h1 h2=>by
   obtain⟨u,e,c,e1,e2,_⟩:=p.sl j _ h1
   rw[h2]at e
   cases e
   cases e1
   exact wa e2
  rcases eY h1 with⟨e1,l1,_⟩|⟨n1,h1⟩
  ·rcases eY h2 with⟨e2,_,_⟩|⟨n2,h2⟩
   ·rw[e1,e2]
   ·rw[e1,bJ2 (by rw[<- p.len];exact l1)]at h3
    rw[bD6 (Ne.symm n2)]at h4
    cases h3
    exact absurd h4 (ne h2)
  ·rw[bD6 (Ne.symm n1)]at h3
   rcases eY h2 with⟨e2,l2,_⟩|⟨n2,h2⟩
   ·rw[e2,bJ2 (by rw[<- p.len];exact l2)]at h4
    cases h4
    exact absurd h3 (ne h1)
   ·rw[bD6 (Ne.symm n2)]at h4
    exact p.dis j k y z b h1 h2 h3 h4
theorem Ev.own {a:Addr}(s:aE Hs H)(ha:Hs a=none):Ev W Hs (nD W a) H:=λb o e n=>⟨s _ _ e,λz=>z.elim n λz=>by rw[z,ha]at e;cases e⟩
theorem k7 {g:Bool}{a b:Addr}(wa:W a)(h:Ms H0 W g b):b≠a:=by
 cases g with
 |true=>exact λz=>h.1 (by rw[z];exact wa)
 |false=>exact λz=>h (by rw[z];exact wa)
theorem PX.updOwn {i:Nat}{a:Addr}{x y:PV}{o:HO}(p:PX K H0 W σ ρ H)(hi:ρ[i]? = some (some (.own x)))(ha:σ[i]? = some (some (.ref a)))(wa:W a)(mu:g9 o=true)(r:iN K (Ms H0 W true) (upd H a o) a y) :
  PX K H0 W σ (ρ.set i (some (.own y))) (upd H a o):=by
 obtain⟨w0,o',e',mu'⟩:=p.wm a wa
 have kp:∀g,iM (Ms H0 W g) (Ms H0 W g) H (upd H a o):=λg=>.upd e' mu' λb m=>⟨k7 wa m,m⟩
 refine⟨by rw[bI2];exact p.len,λb u e=>by rw[aW (λz=>by rw[z,w0]at e;cases e)];exact p.same _ _ e,λb z=>?_,λj m h=>?_,λj k y' z b h1 h2 h3 h4=>?_⟩
 ·by_cases e:b=a
  ·subst e;exact⟨w0,o,bJ,mu⟩
  ·obtain⟨h1,o2,h2,h3⟩:=p.wm b z
   exact⟨h1,o2,by rw[aW e];exact h2,h3⟩
 ·rcases eY h with⟨rfl,hl,e⟩|⟨hne,h⟩
  ·cases e
   exact⟨_,ha,a,rfl,wa,r⟩
  ·obtain⟨u,e,q⟩:=p.sl j m h
   refine⟨u,e,?_⟩
   cases m with
   |sh g y=>exact aJ.keep (kp g) q
   |own y=>
    obtain⟨b,e1,e2,q⟩:=q
    have hb:b≠a:=λz=>by
     subst e1
     rw[z]at e
     exact hne (p.dis j i _ _ a h hi e ha)
    exact⟨b,e1,e2,q.keep (kp true) λo z=>by rw[aW hb];exact z⟩
 ·have g1:∃y,ρ[j]? = some (some (.own y)):=by
   rcases eY h1 with⟨e,_,_⟩|⟨_,h⟩
   ·exact⟨x,by rw[e];exact hi⟩
   ·exact⟨_,h⟩
  have g2:∃y,ρ[k]? = some (some (.own y)):=by
   rcases eY h2 with⟨e,_,_⟩|⟨_,h⟩
   ·exact⟨x,by rw[e];exact hi⟩
   ·exact⟨_,h⟩
  obtain⟨y1,g1⟩:=g1
  obtain⟨y2,g2⟩:=g2
  exact p.dis j k y1 y2 b g1 g2 h3 h4
theorem Ev.upd {a:Addr}{o:HO}(wa:W a):Ev W H W (upd H a o):=λb u e n=>⟨by rw[aW (λz=>n (by rw[z];exact wa))];exact e,n⟩
def pL (W:Addr->Prop)(a:Addr):Addr->Prop:=λb=>W b/\b≠a
theorem x9 {g:Bool}{a b:Addr}(h:Ms H0 W g b):Ms H0 (pL W a) g b:=by
 cases g with
 |true=>exact⟨λz=>h.1 z.1,h.2⟩
 |false=>exact λz=>h z.1
theorem PX.freeze {i:Nat}{a:Addr}{x:PV}(p:PX K H0 W σ ρ H)(hi:ρ[i]? = some (some (.own x)))(ha:σ[i]? = some (some (.ref a))):PX K H0 (pL W a) σ (ρ.set i (some (.sh true x))) H:=by
 obtain⟨v,ev,a',e1,wa,r⟩:=p.sl i _ hi
 rw[ha]at ev
 cases ev
 cases e1
 refine⟨by rw[bI2];exact p.len,p.same,λb z=>p.wm b z.1,λj m h=>?_,λj k y' z b h1 h2 h3 h4=>?_⟩
 ·rcases eY h with⟨rfl,hl,e⟩|⟨hne,h⟩
  ·cases e
   exact⟨_,ha,r.rep (M':=Ms H0 (pL W a) true) (λb m=>x9 (g:=true) m) (show Ms H0 (pL W a) true a from ⟨λz=>z.2 rfl,(p.wm a wa).1⟩)⟩
  ·obtain⟨u,e,q⟩:=p.sl j m h
   refine⟨u,e,?_⟩
   cases m with
   |sh g y=>exact aJ.same q (aE.refl _) λ_ m=>x9 m
   |own y=>
    obtain⟨b,e1,e2,q⟩:=q
    have hb:b≠a:=λz=>by
     subst e1
     rw[z]at e
     exact hne (p.dis j i _ _ a h hi e ha)
    exact⟨b,e1,⟨e2,hb⟩,q.keep (.same (aE.refl _) λ_ m=>x9 m) λ_ z=>z⟩
 ·rcases eY h1 with⟨_,_,e⟩|⟨_,h1⟩
  ·cases e
  ·rcases eY h2 with⟨_,_,e⟩|⟨_,h2⟩
   ·cases e
   ·exact p.dis j k _ _ b h1 h2 h3 h4
theorem Ev.off {a:Addr}:Ev W H (pL W a) H:=λb u e n=>⟨e,λz=>n z.1⟩
end
section
variable {X:Cx}{σ:St}{H:Hp}{D:cP}{te:aD}{t u:aI}
def cY:aI:=λD ρ=>D.nx ρ
def aF (t u:aI):aI:=λD ρ=>t { D with nx:=u D } ρ
theorem aK3 (h:LS X cY D σ H):F6 D σ H:=by
 obtain⟨W,ρ,D',px,q,k⟩:=h
 exact k.nx W σ H ρ (Ev.refl _ _) px q
theorem aK4 (h:LS X (aF t u) D σ H):F7 (LS X t) (LS X u) D σ H:=by
 obtain⟨W,ρ,D',px,q,k⟩:=h
 exact⟨W,ρ,_,px,q,λW' σ' H' ρ' e px' q'=>⟨W',ρ',D',px',q',k.step e⟩,k.rt,k.bk,k.ct⟩
def T3:Tg->PV->Bool
 |.fr,_=>true
 |.nw,_=>true
 |_,x=>flat x
def T4:Tg->PV->Prop
 |.rd,x=>flat x=true
 |_,_=>True
theorem aK5 {K:ad}{H0 Hs H:Hp}{W:Addr->Prop}{σ:St}{ρ:bN}{g:Tg}{x:PV}{v:V}(px:PX K H0 W σ ρ Hs)(n:T4 g x)(r:aJ K (Mg H0 W Hs g) H v x):aJ K (Ms H0 W (T3 g x)) H v x:=by
 cases g with
 |fr=>exact Nw.rep (g:=.fr) px trivial r
 |nw=>exact Nw.rep (g:=.nw) px trivial r
 |sh=>
  show aJ K (Ms H0 W (flat x)) H v x
  cases e:flat x with
  |true=>exact r.flat e
  |false=>exact r.same (aE.refl _) λ_ z=>z
 |rd=>exact r.flat n
def bE (i:Nat)(te:aD):aI:=λD ρ=>te ρ λx g=>T4 g x/\D.nx (ρ.set i (some (.sh (T3 g x) x)))
theorem sA {i:Nat}(h:LS X (bE i te) D σ H):mT (LE X te) (dL i) D σ H:=by
 obtain⟨W,ρ,D',px,q,k⟩:=h
 refine⟨W,ρ,_,px,q,?_⟩
 rintro v H1 x g s r ⟨n,q⟩
 exact k.nx W _ H1 _ (Ev.same s) ((px.mono s).setSh (aK5 px n r)) q
def T5:PV->Bool
 |.lst xs=>flats xs
 |.dK ps=>flats (ps.map (·.2))
 |.dT ps=>flats (ps.map (·.2))
 |_=>false
theorem aK6 {K:ad}{M:Addr->Prop}{H:Hp}{v:V}{x:PV}(r:aJ K M H v x)(o:T5 x=true):∃a,v = .ref a/\M a/\∀M',iN K M' H a x:=by
 cases r with
 |lst m e r=>exact⟨_,rfl,m,λ_=>⟨_,e,r.flat o⟩⟩
 |dK m e q r=>exact⟨_,rfl,m,λ_=>⟨_,e,q,r.flat o⟩⟩
 |dT m e q r=>exact⟨_,rfl,m,λ_=>⟨_,e,q,r.flat o⟩⟩
 |_=>cases o
def gB (i:Nat)(te:aD):aI:=λD ρ=>te ρ λx g=>g = .fr/\T5 x=true/\D.nx (ρ.set i (some (.own x)))
theorem aK7 {i:Nat}(h:LS X (gB i te) D σ H):mT (LE X te) (dL i) D σ H:=by
 obtain⟨W,ρ,D',px,q,k⟩:=h
 refine⟨W,ρ,_,px,q,?_⟩
 rintro v H1 x g s r ⟨rfl,o,q⟩
 obtain⟨a,rfl,m,w⟩:=aK6 r o
 exact k.nx _ _ H1 _ (Ev.own s m) (px.setOwn s m (w _)) q
def xA (i:Nat)(t:aI):aI:=λD ρ=>∃x,ρ[i]? = some (some (.own x))/\t D (ρ.set i (some (.sh true x)))
theorem aK8 {i:Nat}(h:LS X (xA i t) D σ H):LS X t D σ H:=by
 obtain⟨W,ρ,D',px,⟨x,hi,q⟩,k⟩:=h
 obtain⟨v,ev,a,rfl,wa,r⟩:=px.sl i _ hi
 exact⟨_,_,D',px.freeze hi ev,q,k.step Ev.off⟩
def bC (te:aD):aI:=λD ρ=>te ρ λx g=>Nw g x/\D.rt x
theorem aK9 (h:LS X (bC te) D σ H):v4 (LE X te) D σ H:=by
 obtain⟨W,ρ,D',px,q,k⟩:=h
 refine⟨W,ρ,_,px,q,?_⟩
 rintro v H1 x g s r ⟨n,q⟩
 exact k.rt v H1 x (px.same.trans s) ((Nw.rep px n r).same (aE.refl _) λ_ z=>z.2) q
def Slot.nw:Slot->Prop
 |.own _=>True
 |.sh true _=>True
 |.sh false x=>flat x=true
def k8 (i:Nat):aI:=λD ρ=>∃m,ρ[i]? = some (some m)/\m.nw/\D.rt m.val
theorem aL0 {i:Nat}(h:LS X (k8 i) D σ H):v4 (hV i) D σ H:=by
 obtain⟨W,ρ,D',px,⟨m,hi,n,q⟩,k⟩:=h
 obtain⟨v,ev,r⟩:=px.sl i _ hi
 refine⟨v,ev,k.rt v H _ px.same ?_ q⟩
 cases m with
 |own x=>
  obtain⟨a,rfl,wa,r⟩:=r
  exact r.rep (λ_ z=>z.2) (px.wm a wa).1
 |sh g x=>
  cases g with
  |true=>exact aJ.same r (aE.refl _) λ_ z=>z.2
  |false=>exact aJ.flat n r
def cI (c:cH)(t u:aI):aI:=λD ρ=>c ρ λb=>if b=true then t D ρ else u D ρ
theorem aL1 {c:cH}(h:LS X (cI c t u) D σ H):F8 (LT X c) (LS X t) (LS X u) D σ H:=by
 obtain⟨W,ρ,D',px,q,k⟩:=h
 refine⟨W,ρ,_,px,q,λb H1 s q1=>?_⟩
 cases b with
 |true=>exact b9 ⟨W,ρ,D',px.mono s,by simpa using q1,k.step (Ev.same s)⟩
 |false=>exact aT ⟨W,ρ,D',px.mono s,by simpa using q1,k.step (Ev.same s)⟩
def nE (c:cH)(tb:aI):aI:=λD ρ=>∃I:Nat->bN->Prop,(∃m,I m ρ)/\∀m ρ',I m ρ'->c ρ' λb=>if b=true then tb { D with nx:=λρ2=>∃m',m'<m/\I m' ρ2,ct:=λρ2=>∃m',m'<m/\I m' ρ2,bk:=D.nx } ρ' else D.nx ρ'
theorem aL2 {c:cH}{tb:aI}(h:LS X (nE c tb) D σ H):F9 (LT X c) (LS X tb) D σ H:=by
 obtain⟨W,ρ,D',px,⟨I,⟨m0,i0⟩,turn⟩,k⟩:=h
 refine⟨λm σ2 H2=>∃W2 ρ2,PX X.K X.H₀ W2 σ2 ρ2 H2/\Ev W H W2 H2/\I m ρ2,⟨m0,W,ρ,px,Ev.refl _ _,i0⟩,?_⟩
 rintro m σ2 H2 ⟨W2,ρ2,px2,e2,i2⟩
 refine⟨W2,ρ2,_,px2,turn m ρ2 i2,λb H3 s3 q3=>?_⟩
 cases b with
 |true=>
  refine b9 ⟨λσ4 H4=>∃W4 ρ4,PX X.K X.H₀ W4 σ4 ρ4 H4/\Ev W H W4 H4/\∃m',m'<m/\I m' ρ4,λσ4 H4 ⟨W4,ρ4,a,b,m',c,d⟩=>⟨m',c,W4,ρ4,a,b,d⟩,W2,ρ2,_,px2.mono s3,by simpa using q3,?_⟩
  have e3:Ev W H W2 H3:=e2.trans (Ev.same s3)
  exact⟨λW' σ' H' ρ' e p q=>⟨W',ρ',p,e3.trans e,q⟩,k.rt,λW' σ' H' ρ' e p q=>k.nx W' σ' H' ρ' (e3.trans e) p q,λW' σ' H' ρ' e p q=>⟨W',ρ',p,e3.trans e,q⟩⟩
 |false=>exact aT (k.nx W2 σ2 H3 ρ2 (e2.trans (Ev.same s3)) (px2.mono s3) (by simpa using q3))
end
theorem lim {n:Nat}(h:n<=16000000):n<=sizeLine:=bH0 (jY h)
theorem aJ.sqT {K:ad}{M:Addr->Prop}{H:Hp}{v:V}{xs:List PV}(r:aJ K M H v (.tup xs)):∃a us,v = .ref a/\H a=some (.tup us)/\Reps K M H us xs:=by
 cases r with
 |tup e r=>exact⟨_,_,rfl,e,r⟩
theorem aJ.sqL {K:ad}{M:Addr->Prop}{H:Hp}{v:V}{xs:List PV}(r:aJ K M H v (.lst xs)):∃a us,v = .ref a/\M a/\H a=some (.lst us)/\Reps K M H us xs:=by
 cases r with
 |lst m e r=>exact⟨_,_,rfl,m,e,r⟩
theorem jZ.sqL {K:ad}{H:Hp}{a:Addr}{ns:af}(h:jZ K H a ns):aQ K H a (ns.map V.int):=h.elim (λz=>.inl (.inr z)) .inr
def iQ:PV->Option (List PV)
 |.tup xs=>some xs
 |.lst xs=>some xs
 |.scr ns=>some (intz ns)
 |.kt xs=>some xs
 |_=>none
theorem aJ.seq {K:ad}{M:Addr->Prop}{H:Hp}{v:V}{x:PV}{xs:List PV}(r:aJ K M H v x)(e:iQ x=some xs):∃a us,v = .ref a/\(aQ K H a us∨aH K H a us)/\Reps K M H us xs:=by
 cases r with
 |tup h r=>cases e;exact⟨_,_,rfl,.inr (aH.of h),r⟩
 |lst m h r=>cases e;exact⟨_,_,rfl,.inl (aQ.of h),r⟩
 |scr h=>cases e;exact⟨_,_,rfl,.inl h.sqL,Reps.intz _⟩
 |kt h r=>cases e;exact⟨_,_,rfl,.inr (.inr h),r⟩
 |_=>cases e
section
variable {X:Cx}{σ:St}{H:Hp}{D:cP}{te ti to:aD}{t u:aI}{Q':VK}
theorem _root_.PP.PX.updL {K:ad}{H0:Hp}{W:Addr->Prop}{σ:St}{ρ:bN}{H:Hp}{i:Nat}{a:Addr}{x:PV}{us:List V}{ys:List PV}(p:PX K H0 W σ ρ H)(hi:ρ[i]? = some (some (.own x)))(ha:σ[i]? = some (some (.ref a)))(wa:W a)(r:Reps K (Ms H0 W true) (upd H a (.lst us)) us ys) :
  PX K H0 W σ (ρ.set i (some (.own (.lst ys)))) (upd H a (.lst us)):=p.updOwn hi ha wa rfl (y:=.lst ys) ⟨us,bJ,r⟩
def lB (i:Nat)(te:aD):aI:=λD ρ=>∃xs,ρ[i]? = some (some (.own (.lst xs)))/\te ρ λx g=>Nw g x/\xs.length<16000000/\D.nx (ρ.set i (some (.own (.lst (xs++[x])))))
theorem aL3 {i:Nat}(h:LS X (lB i te) D σ H):mR (vV X.K "list" N1 (hV i) (iH (LE X te) kX)) D σ H:=by
 obtain⟨W,ρ,D',px,⟨xs,hi,q⟩,k⟩:=h
 obtain⟨v,ev,a,rfl,wa,us,ea,r⟩:=px.sl i _ hi
 refine⟨_,ev,mX (aQ.of ea),W,ρ,_,px,q,?_⟩
 rintro w H1 x g s rx ⟨n,hl,q⟩
 have ea1:=s _ _ ea
 refine⟨a,us,w,rfl,rfl,ea1,jY (by rw[r.length];omega),?_⟩
 refine k.nx W σ _ _ ((Ev.same s).trans (Ev.upd wa)) ((px.mono s).updL hi ev wa ?_) q
 exact ((r.same s λ_ z=>z).append (.cons (Nw.rep px n rx) .nil)).keep (.upd ea1 rfl λb m=>⟨k7 wa m,m⟩)
def xB (i j:Nat):aI:=λD ρ=>∃xs y,ρ[i]? = some (some (.own (.lst (xs++[y]))))/\D.nx ((ρ.set i (some (.own (.lst xs)))).set j (some (.sh true y)))
theorem Reps.snoc_inv {K:ad}{M:Addr->Prop}{H:Hp}{us:List V}{xs:List PV}{y:PV}(r:Reps K M H us (xs++[y])):∃vs v,us=vs++[v]/\Reps K M H vs xs/\aJ K M H v y:=by
 have l:=r.length
 have h1:=r.take xs.length
 have h2:=r.drop xs.length
 rw[List.take_left]at h1
 rw[List.drop_left]at h2
 generalize hd:us.drop xs.length=ds at h2
 cases h2 with
 |cons q t=>
  cases t
  exact⟨_,_,by rw[<- hd,bE3],h1,q⟩
theorem aL4 {i j:Nat}(h:LS X (xB i j) D σ H):mT (vU X.K "list" N3 (hV i)) (dL j) D σ H:=by
 obtain⟨W,ρ,D',px,⟨xs,y,hi,q⟩,k⟩:=h
 obtain⟨v,ev,a,rfl,wa,us,ea,r⟩:=px.sl i _ hi
 obtain⟨vs,w,rfl,r1,ry⟩:=r.snoc_inv
 refine⟨_,ev,mX (aQ.of ea),a,_,w,rfl,rfl,ea,by simp,?_⟩
 rw[List.dropLast_concat]
 have kp:iM (Ms X.H₀ W true) (Ms X.H₀ W true) H (upd H a (.lst vs)):=.upd ea rfl λb m=>⟨k7 wa m,m⟩
 exact k.nx W _ _ _ (Ev.upd wa) ((px.updL hi ev wa (r1.keep kp)).setSh (ry.keep kp)) q
end
theorem Reps.atI {K:ad}{M:Addr->Prop}{H:Hp}{us:List V}{xs:List PV}{i:Int}{z:PV}(r:Reps K M H us xs)(h:L2.atI xs i=some z):∃v,L2.atI us i=some v/\aJ K M H v z:=by
 unfold L2.atI at h ⊢
 rw[r.length]
 cases e:lS xs.length i with
 |none=>rw[e]at h;cases h
 |some j=>rw[e]at h;exact r.at h
section
variable {X:Cx}{σ:St}{H:Hp}{Q':VK}{ta tb te:aD}{tr:dB}
def xC:PV->Tg->PV->Tg->PK->Prop:=λx g y _ Q=>∃xs i z,iQ x=some xs/\y = .int i/\L2.atI xs i=some z/\Q z g
theorem aL5:eL X xC (M5 X.K):=by
 rintro W Hs H u v x y g g' Q Q' s n r1 r2 ⟨xs,i,z,e,rfl,hz,q⟩ k
 cases r2
 obtain⟨a,us,rfl,hs,r⟩:=r1.seq e
 obtain⟨v,hv,rv⟩:=r.atI hz
 rcases hs with hs|hs
 ·exact .inl ⟨a,us,i,v,rfl,rfl,hs,hv,k v H z g (aE.refl _) rv q⟩
 ·exact .inr (.inl ⟨a,us,i,v,rfl,rfl,hs,hv,k v H z g (aE.refl _) rv q⟩)
def xD:PV->Option Nat
 |.tup xs=>some xs.length
 |.lst xs=>some xs.length
 |.scr ns=>some ns.length
 |.dK ps=>some ps.length
 |.kt xs=>some xs.length
 |_=>none
def dC:List PV->(PV->Prop)->Prop:=λxs Q=>∃x n,xs = [x]/\xD x=some n/\Q (.int n)
theorem Reps.one {K:ad}{M:Addr->Prop}{H:Hp}{vs:List V}{x:PV}(r:Reps K M H vs [x]):∃v,vs = [v]/\aJ K M H v x:=by
 cases r with
 |cons r t=>cases t;exact⟨_,rfl,r⟩
theorem Reps.two {K:ad}{M:Addr->Prop}{H:Hp}{vs:List V}{x y:PV}(r:Reps K M H vs [x,y]):∃v w,vs = [v,w]/\aJ K M H v x/\aJ K M H w y:=by
 cases r with
 |cons r t=>
  obtain⟨w,rfl,q⟩:=t.one
  exact⟨_,_,rfl,r,q⟩
theorem aL6:e8 X dC (λxs H Q=>(∃p ys,xs = [.ref p]/\(aQ X.K H p ys∨aH X.K H p ys)/\Q (.int ys.length) H)∨∃a kvs,xs = [V.ref a]/\H a=some (.dK kvs)/\Q (.int kvs.length) H):=by
 rintro H vs xs Q Q' r ⟨x,n,rfl,e,q⟩ k
 obtain⟨v,rfl,r1⟩:=r.one
 have fin:∀{m:Nat},m=n->Q' (.int m) H:=λ{m} z=>by rw[z];exact k _ _ _ (aE.refl _) (.int _) q
 cases r1 with
 |tup h r2=>cases e;exact .inl ⟨_,_,rfl,.inr (aH.of h),fin r2.length⟩
 |lst m h r2=>cases e;exact .inl ⟨_,_,rfl,.inl (aQ.of h),fin r2.length⟩
 |scr h=>cases e;exact .inl ⟨_,_,rfl,.inl h.sqL,fin (by rw[bA5])⟩
 |kt h r2=>cases e;exact .inl ⟨_,_,rfl,.inr (.inr h),fin r2.length⟩
 |dK m h e' r=>
  cases e
  refine .inr ⟨_,_,rfl,h,fin ?_⟩
  have:=congrArg List.length e'
  rw[bA5,bA5]at this
  exact this
 |_=>cases e
def seqT:PV->Option (List PV)
 |.kt _=>none
 |x=>iQ x
def T6:List PV->(PV->Prop)->Prop:=λxs Q=>∃x ys,xs = [x]/\seqT x=some ys/\flats ys=true/\Q (.tup ys)
def pM:List PV->(PV->Prop)->Prop:=λxs Q=>∃x ys,xs = [x]/\iQ x=some ys/\flats ys=true/\Q (.lst ys)
theorem aL7:e8 X (λxs Q=>T6 xs Q/\∀ns,xs≠[.scr ns]) (λxs H Q=>∃p ys,xs = [.ref p]/\((aQ X.K H p ys/\∀l,H l=none->Q (.ref l) (upd H l (.tup ys)))∨(aH X.K H p ys/\Q (.ref p) H))):=by
 rintro H vs xs Q Q' r ⟨⟨x,ys,rfl,e,f,q⟩,nsc⟩ k
 obtain⟨v,rfl,r1⟩:=r.one
 cases r1 with
 |tup h r2=>cases e;exact⟨_,_,rfl,.inr ⟨aH.of h,k _ _ _ (aE.refl _) (.tup h (r2.flat f)) q⟩⟩
 |lst m h r2=>cases e;exact⟨_,_,rfl,.inl ⟨aQ.of h,λl hl=>k _ _ _ (bK hl _) (.tup bJ ((r2.flat f).same (bK hl _) λ_ z=>z)) q⟩⟩
 |scr h=>exact absurd rfl (nsc _)
 |_=>cases e
theorem aL8:e8 X pM (λxs H Q=>∃p ys,xs = [.ref p]/\(aQ X.K H p ys∨aH X.K H p ys)/\∀l,H l=none->Q (.ref l) (upd H l (.lst ys))):=by
 rintro H vs xs Q Q' r ⟨x,ys,rfl,e,f,q⟩ k
 obtain⟨v,rfl,r1⟩:=r.one
 obtain⟨a,us,rfl,hs,r2⟩:=r1.seq e
 exact⟨_,_,rfl,hs,λl hl=>k _ _ _ (bK hl _) (.lst hl bJ ((r2.flat f).same (bK hl _) λ_ z=>z)) q⟩
def xE:List PV->(PV->Prop)->Prop:=λxs Q=>∃ns,xs = [.lst (intz ns)]/\ns.length<64/\∀ms:af,ms.Perm ns->ms.Pairwise (· <= ·)->Q (.lst (intz ms))
theorem aL9:e8 X xE (Q7 X.K):=by
 rintro H vs xs Q Q' r ⟨ns,rfl,hl,q⟩ k
 obtain⟨v,rfl,r1⟩:=r.one
 obtain⟨a,us,rfl,_,h,r2⟩:=r1.sqL
 obtain rfl:=r2.ofInts
 exact⟨a,ns,rfl,aQ.of h,hl,λl ms hl' p o=>k _ _ _ (bK hl' _) (.lst hl' bJ (Reps.intz ms)) (q ms p o)⟩
def pN:List PV->(PV->Prop)->Prop:=λxs Q=>∃bs:List Bool,xs = [.lst (bs.map PV.bl)]/\Q (.bl (bs.all id))
theorem Reps.ofBls {K:ad}{M:Addr->Prop}{H:Hp}:∀{ns:List Bool}{us:List V},Reps K M H us (ns.map PV.bl)->us=ns.map V.bl
 |[],_,.nil=>rfl
 |n::r,_,.cons q t=>by
  cases q
  rw[Reps.ofBls t];rfl
theorem aM0:e8 X pN (λxs H Q=>∃(a:Addr) (bs:List Bool),xs = [.ref a]/\aQ X.K H a (bs.map V.bl)/\Q (.bl (bs.all id)) H):=by
 rintro H vs xs Q Q' r ⟨bs,rfl,q⟩ k
 obtain⟨v,rfl,r1⟩:=r.one
 obtain⟨a,us,rfl,_,h,r2⟩:=r1.sqL
 obtain rfl:=r2.ofBls
 exact⟨a,bs,rfl,aQ.of h,k _ _ _ (aE.refl _) (.bl _) q⟩
def xF:List PV->(PV->Prop)->Prop:=λxs Q=>∃i j,xs = [.int i,.int j]/\Q (.int (if j<i then j else i))
def pO:List PV->(PV->Prop)->Prop:=λxs Q=>∃i j,xs = [.int i,.int j]/\Q (.int (if j>i then j else i))
theorem aM1:e8 X xF (λxs H Q=>∃i j,xs = [.int i,.int j]/\Q (.int (if j<i then j else i)) H):=by
 rintro H vs xs Q Q' r ⟨i,j,rfl,q⟩ k
 obtain⟨v,w,rfl,r1,r2⟩:=r.two
 cases r1;cases r2
 exact⟨i,j,rfl,k _ _ _ (aE.refl _) (.int _) q⟩
theorem aM2:e8 X pO (λxs H Q=>∃i j,xs = [.int i,.int j]/\Q (.int (if j>i then j else i)) H):=by
 rintro H vs xs Q Q' r ⟨i,j,rfl,q⟩ k
 obtain⟨v,w,rfl,r1,r2⟩:=r.two
 cases r1;cases r2
 exact⟨i,j,rfl,k _ _ _ (aE.refl _) (.int _) q⟩
abbrev bF:=List PV->(PV->Prop)->Prop
def pP (K:ad)(p:bF):Sp:=λvs H Q _=>∃xs Qp,Reps K (λ_=>True) H vs xs/\p xs Qp/\∀v H' x,aE H H'->aJ K (λa=>H a=none) H' v x->Qp x->Q v H'
theorem aM3 {p:bF}{E:XK}(h:LE X (aB p tr) σ H Q'):vK (pP X.K p) [] E (LA X tr) σ H Q':=by
 obtain⟨W,ρ,Q,px,q,k⟩:=h
 refine⟨W,ρ,_,px,q,λvs H1 xs s1 r1 q1=>⟨_,_,by rw[bD5];exact r1.any,q1,λv H' x s2 r2 q2=>k v H' x .fr (s1.trans s2) (r2.same (aE.refl _) λ_ z=>s1.free z) q2⟩⟩
def aM4:PV->Option Bool
 |.non=>some false
 |.bl b=>some b
 |.int i=>some (i != 0)
 |.tup xs=>some (!xs.isEmpty)
 |.lst xs=>some (!xs.isEmpty)
 |.dK ps=>some (!ps.isEmpty)
 |_=>none
def nF (t:aD):cH:=λρ Q=>t ρ λx _=>∃b,aM4 x=some b/\Q b
theorem xG {α β:Type}:∀{l:List α}{m:List β},l.length=m.length->l.isEmpty=m.isEmpty
 |[],[],_=>rfl
 |_::_,_::_,_=>rfl
theorem aM5 {t:aD}{Qb:Bool->Hp->Prop}(h:LT X (nF t) σ H Qb):LE X t σ H λx H'=>∃k,vH X.K x H' k/\Qb k H':=by
 obtain⟨W,ρ,Q,px,q,k⟩:=h
 refine⟨W,ρ,_,px,q,?_⟩
 rintro v H1 x g s r ⟨b,e,q⟩
 refine⟨b,?_,k _ _ s q⟩
 cases r with
 |non=>cases e;rfl
 |bl b=>cases e;rfl
 |int i=>cases e;rfl
 |str x=>cases e
 |tup h r=>cases e;exact .inr (.inl ⟨_,aH.of h,by rw[xG r.length]⟩)
 |lst m h r=>cases e;exact .inl ⟨_,aQ.of h,by rw[xG r.length]⟩
 |dK m h e' r=>
  cases e
  refine .inr (.inr ⟨_,h,?_⟩)
  have:=congrArg List.length e'
  rw[bA5,bA5]at this
  rw[xG this]
 |dT m h e' r=>cases e
 |scr h=>cases e
 |kt h r=>cases e
 |exc h e' c=>cases e
 |fK h e' r=>cases e
 |fT h e' r=>cases e
end
structure lC (K:ad)(H0:Hp)(W:Addr->Prop)(g:Bool)(H1:Hp)(J:It)(xs:List PV):Prop where
 go:∀W' H' i,Ev W H1 W' H'->i<xs.length->J.go i H'
 yld:∀W' H' i v H2,Ev W H1 W' H'->J.yld i H' v H2->i<xs.length->aE H' H2/\∃x,xs[i]? = some x/\aJ K (Ms H0 W' g) H2 v x
 stop:∀W' H',Ev W H1 W' H'->J.stop xs.length H'
abbrev eM:=bN->(List PV->Bool->Prop)->Prop
def LI (X:Cx)(t:eM):TI:=λσ H R=>∃(W:Addr->Prop) (ρ:bN) (Q:List PV->Bool->Prop),PX X.K X.H₀ W σ ρ H/\t ρ Q/\∀J H1 xs g,aE H H1->lC X.K X.H₀ W g H1 J xs->Q xs g->R J H1
theorem Ev.keep {H0:Hp}{W W':Addr->Prop}{H H':Hp}{g:Bool}(e:Ev W H W' H')(tw:∀a,W a->∃o,H a=some o/\g9 o=true):iM (Ms H0 W g) (Ms H0 W' g) H H':=by
 have m:∀{a:Addr}{o:HO},Ms H0 W g a->H a=some o->Ms H0 W' g a/\H' a=some o:=λ{a o} z h=>by
  cases g with
  |true=>
   obtain⟨h1,h2⟩:=e a _ h z.1
   exact⟨⟨h2,z.2⟩,h1⟩
  |false=>
   obtain⟨h1,h2⟩:=e a _ h z
   exact⟨h2,h1⟩
 refine⟨λa _ z h=>m z h,λa _ z h=>m z h,λa _ z h=>m z h,λa _ h=>(e a _ h λz=>?_).1,λa _ _ h=>(e a _ h λz=>?_).1⟩
 ·obtain⟨o,h',mu⟩:=tw a z;rw[h]at h';cases h';cases mu
 ·obtain⟨o,h',mu⟩:=tw a z;rw[h]at h';cases h';cases mu
section
variable {X:Cx}{σ:St}{H:Hp}{te:aD}{tr:dB}{R:It→Hp→Prop}
def T7 (K:ad)(tl:TE):TI:=λσ H R=>tl σ H λx H1=>∃a,x = .ref a/\((∃xs,aQ K H1 a xs/\R (mU K a) H1)∨(∃xs,aH K H1 a xs/\R (kW K a) H1))
def xH:Tg->List PV->Bool
 |.fr,_=>true
 |.nw,_=>true
 |_,xs=>flats xs
def dD (te:aD):eM:=λρ Q=>te ρ λx g=>∃xs,iQ x=some xs/\(g = .rd->flat x=true)/\Q xs (xH g xs)
theorem T8 {K:ad}{H0:Hp}{W:Addr->Prop}{g:Bool}{H1:Hp}{a:Addr}{us:List V}{xs:List PV}(tw:∀a,W a->∃o,H1 a=some o/\g9 o=true)(ha:∀W' H',Ev W H1 W' H'->aQ K H' a us)(r:Reps K (Ms H0 W g) H1 us xs):lC K H0 W g H1 (mU K a) xs:=by
 have lr:=r.length
 refine⟨λW' H' i e hi=>⟨us,us[i]'(by omega),ha W' H' e,by simp⟩,λW' H' i v H2 e y hi=>?_,λW' H' e=>⟨us,ha W' H' e,by omega⟩⟩
 obtain⟨rfl,y⟩:=y
 obtain⟨x,hx,rx⟩:=r.get (y us (ha W' _ e))
 exact⟨aE.refl _,x,hx,rx.keep (e.keep tw)⟩
theorem T9 {K:ad}{H0:Hp}{W:Addr->Prop}{g:Bool}{H1:Hp}{a:Addr}{us:List V}{xs:List PV}(tw:∀a,W a->∃o,H1 a=some o/\g9 o=true)(ha:∀W' H',Ev W H1 W' H'->aH K H' a us)(r:Reps K (Ms H0 W g) H1 us xs):lC K H0 W g H1 (kW K a) xs:=by
 have lr:=r.length
 refine⟨λW' H' i e hi=>⟨us,us[i]'(by omega),ha W' H' e,by simp⟩,λW' H' i v H2 e y hi=>?_,λW' H' e=>⟨us,ha W' H' e,by omega⟩⟩
 obtain⟨rfl,y⟩:=y
 obtain⟨x,hx,rx⟩:=r.get (y us (ha W' _ e))
 exact⟨aE.refl _,x,hx,rx.keep (e.keep tw)⟩
theorem nG {K:ad}{H0 Hs H:Hp}{W:Addr->Prop}{σ:St}{ρ:bN}{g:Tg}{us:List V}{xs:List PV}(px:PX K H0 W σ ρ Hs)(hg:g = .rd->flats xs=true)(r:Reps K (Mg H0 W Hs g) H us xs):Reps K (Ms H0 W (xH g xs)) H us xs:=by
 cases g with
 |fr=>exact r.same (aE.refl _) λ_ z=>px.new z
 |nw=>exact r.same (aE.refl _) λ_ z=>z
 |sh=>
  show Reps K (Ms H0 W (flats xs)) H us xs
  cases e:flats xs with
  |true=>exact r.flat e
  |false=>exact r.same (aE.refl _) λ_ z=>z
 |rd=>exact r.flat (hg rfl)
theorem aM6 (h:LI X (dD te) σ H R):T7 X.K (LE X te) σ H R:=by
 obtain⟨W,ρ,Q,px,q,k⟩:=h
 refine⟨W,ρ,_,px,q,?_⟩
 rintro v H1 x g s r ⟨xs,e,hg,q⟩
 have px1:=px.mono s
 have tw:∀a,W a->∃o,H1 a=some o/\g9 o=true:=λa z=>(px1.wm a z).2
 cases r with
 |tup h r=>
  cases e
  refine⟨_,rfl,.inr ⟨_,aH.of h,k _ _ _ _ s (T9 tw (λW' H' e=>aH.of (e _ _ h λz=>?_).1) (nG px (λz=>by have:=hg z;unfold flat at this;exact this) r)) q⟩⟩
  obtain⟨o,h',mu⟩:=tw _ z;rw[h]at h';cases h';cases mu
 |@lst a us xs' m h r=>
  cases e
  have wa:¬W a:=by
   cases g with
   |fr=>exact (px.new m).1
   |nw=>exact m.1
   |sh=>exact m
   |rd=>have:=hg rfl;unfold flat at this;cases this
  exact⟨_,rfl,.inl ⟨_,aQ.of h,k _ _ _ _ s (T8 tw (λW' H' e=>aQ.of (e _ _ h wa).1) (nG px (λz=>by have:=hg z;unfold flat at this;cases this) r)) q⟩⟩
 |scr h=>
  cases e
  refine⟨_,rfl,.inl ⟨_,h.sqL,k _ _ _ _ s (T8 tw (λW' H' e=>(jZ.keep (λa o u hz=>(e _ _ hz λz=>?_).1) h).sqL) (nG (g:=g) px (λz=>cS _) (Reps.intz _))) q⟩⟩
  obtain⟨o,h',mu⟩:=tw _ z;rw[hz]at h';cases h';cases mu
 |kt h r=>
  cases e
  exact⟨_,rfl,.inr ⟨_,.inr h,k _ _ _ _ s (T9 tw (λW' H' e=>.inr h) (nG px (λz=>by have:=hg z;unfold flat at this;exact this) r)) q⟩⟩
 |_=>cases e
def gC (lo:Int)(n:Nat):List PV:=(List.range n).map λ(i:Nat)=>PV.int (lo+(i:Int))
theorem eZ (lo:Int)(n:Nat):(gC lo n).length=n:=by unfold gC;rw[bA5,bI9]
theorem U0 {lo:Int}{n i:Nat}(h:i<n):(gC lo n)[i]? = some (.int (lo+i)):=by unfold gC;rw[bB6,bM9 h];rfl
def k9 (te:aD):eM:=λρ Q=>te ρ λx _=>∃j:Int,x = .int j/\-1000000<=j/\j<=1000000/\Q (gC 0 j.toNat) true
def sB (ta tb:aD):eM:=λρ Q=>ta ρ λx _=>tb ρ λy _=>∃i j:Int,x = .int i/\y = .int j/\(-1000000<=i/\i<=1000000/\-1000000<=j/\j<=1000000)/\Q (gC i (j-i).toNat) true
theorem U1 {K:ad}{H0:Hp}{W:Addr->Prop}{H1:Hp}(lo:Int)(n:Nat):lC K H0 W true H1 (oR lo n) (gC lo n):=by
 refine⟨λW' H' i e hi=>by rw[eZ]at hi;exact hi,λW' H' i v H2 e y hi=>?_,λW' H' e=>by show n<=(gC lo n).length;rw[eZ];exact bA3 _⟩
 rw[eZ]at hi
 obtain⟨rfl,rfl⟩:=y
 exact⟨aE.refl _,_,U0 hi,.int _⟩
theorem aM7 (h:LI X (k9 te) σ H R):G4 (iH (LE X te) kX) σ H R:=by
 obtain⟨W,ρ,Q,px,q,k⟩:=h
 refine⟨W,ρ,_,px,q,?_⟩
 rintro v H1 x g s r ⟨j,rfl,h1,h2,q⟩
 cases r
 exact⟨j,rfl,by omega,by omega,k _ _ _ _ s (U1 0 j.toNat) q⟩
theorem aM8 {ta tb:aD}(h:LI X (sB ta tb) σ H R):G5 (iH (LE X ta) (iH (LE X tb) kX)) σ H R:=by
 obtain⟨W,ρ,Q,px,q,k⟩:=h
 refine⟨W,ρ,_,px,q,λv H1 x g s r q=>⟨W,ρ,_,px.mono s,q,?_⟩⟩
 rintro w H2 y g' s2 r2 ⟨i,j,rfl,rfl,h,q⟩
 cases r;cases r2
 exact⟨i,j,rfl,by omega,k _ _ _ _ (s.trans s2) (U1 i (j-i).toNat) q⟩
end
abbrev lD:=PV->Bool->bN->(bN->Prop)->Prop
def pQ (K:ad)(own:Nat->Prop)(p:lD)(t:TG):Prop:=∀(H0:Hp) (W:Addr->Prop) (σ:St) (ρ:bN) (H:Hp) (v:V) (x:PV) (g:Bool) (Q:bN->Prop) (Q':St->Hp->Prop),
 PX K H0 W σ ρ H->aJ K (Ms H0 W g) H v x->p x g ρ Q->(∀σ' ρ',PX K H0 W σ' ρ' H->(∀i,¬own i->σ'[i]? = σ[i]?)->σ'.length=σ.length->Q ρ'->Q' σ' H)->t v σ H Q'
def bQ (i:Nat):lD:=λx g ρ Q=>Q (ρ.set i (some (.sh (g||flat x) x)))
theorem sC {K:ad}{H0 H:Hp}{W:Addr->Prop}{v:V}{x:PV}{g:Bool}(r:aJ K (Ms H0 W g) H v x):aJ K (Ms H0 W (g||flat x)) H v x:=by
 cases g with
 |true=>exact r
 |false=>
  show aJ K (Ms H0 W (flat x)) H v x
  cases e:flat x with
  |true=>exact r.flat e
  |false=>exact r
theorem pR (K:ad)(i:Nat):pQ K (· = i) (bQ i) (dL i):=by
 intro H0 W σ ρ H v x g Q Q' px r q k
 exact k _ _ (px.setSh (sC r)) (λj hj=>by rw[bD6 (Ne.symm hj)]) (bI2 ..) q
def lZ (i j:Nat):lD:=λx g ρ Q=>∃y z,x = .tup [y,z]/\Q ((ρ.set i (some (.sh (g||flat y) y))).set j (some (.sh (g||flat z) z)))
theorem xI (K:ad)(i j:Nat):pQ K (λk=>k=i∨k=j) (lZ i j) (oQ K 2 (jP (dL i) (jP (dL j) oP))):=by
 intro H0 W σ ρ H v x g Q Q' px r q k
 obtain⟨y,z,rfl,q⟩:=q
 obtain⟨a,us,rfl,h,r⟩:=r.sqT
 obtain⟨u1,u2,rfl,r1,r2⟩:=r.two
 refine⟨a,_,rfl,aH.of h,rfl,u1,_,rfl,u2,_,rfl,rfl,k _ _ ((px.setSh (sC r1)).setSh (sC r2)) (λk hk=>?_) (by rw[bI2,bI2]) q⟩
 rw[bD6 (λe=>hk (.inr e.symm)),bD6 (λe=>hk (.inl e.symm))]
section
variable {X:Cx}{σ:St}{H:Hp}{D:cP}
def eN (ti:eM)(p:lD)(tb:aI):aI:=λD ρ=>ti ρ λxs g=>∃I:Nat->bN->Prop,I 0 ρ/\(∀i x ρ',xs[i]? = some x->I i ρ'->p x g ρ' λρ2=>tb { D with nx:=I (i+1),ct:=I (i+1),bk:=D.nx } ρ2)/\∀ρ',I xs.length ρ'->D.nx ρ'
theorem aM9 {ti:eM}{p:lD}{g:TG}{tb:aI}{own:Nat->Prop}(hg:pQ X.K own p g)(h:LS X (eN ti p tb) D σ H):G6 (LI X ti) g (LS X tb) D σ H:=by
 obtain⟨W,ρ,D',px,q,k⟩:=h
 refine⟨W,ρ,_,px,q,?_⟩
 rintro J H1 xs gb s it ⟨I,i0,turn,fin⟩
 refine⟨λi m σ2 H2=>m=xs.length-i/\i<=xs.length/\∃W2 ρ2,PX X.K X.H₀ W2 σ2 ρ2 H2/\Ev W H1 W2 H2/\I i ρ2,⟨xs.length,by omega,bE9 _,W,ρ,px.mono s,Ev.refl _ _,i0⟩,?_⟩
 rintro i m σ2 H2 ⟨rfl,hi,W2,ρ2,px2,e2,i2⟩
 have e0:Ev W H W2 H2:=(Ev.same s).trans e2
 by_cases hlt:i<xs.length
 ·refine .inr ⟨it.go W2 H2 i e2 hlt,λσ3 H3=>∃W3 ρ3,PX X.K X.H₀ W3 σ3 ρ3 H3/\Ev W H1 W3 H3/\I (i+1) ρ3,λσ3 H3 ⟨W3,ρ3,a,b,c⟩=>⟨xs.length-(i+1),by omega,rfl,hlt,W3,ρ3,a,b,c⟩,λv H3 y=>?_⟩
  obtain⟨s3,x,hx,rx⟩:=it.yld W2 H2 i v H3 e2 y hlt
  refine hg X.H₀ W2 σ2 ρ2 H3 v x gb _ _ (px2.mono s3) rx (turn i x ρ2 hx i2) λσ4 ρ4 px4 _ _ q4=>?_
  have e3:Ev W H1 W2 H3:=e2.trans (Ev.same s3)
  have e3':Ev W H W2 H3:=e0.trans (Ev.same s3)
  exact⟨W2,ρ4,_,px4,q4,λW' σ' H' ρ' e p q=>⟨W',ρ',p,e3.trans e,q⟩,k.rt,λW' σ' H' ρ' e p q=>k.nx W' σ' H' ρ' (e3'.trans e) p q,λW' σ' H' ρ' e p q=>⟨W',ρ',p,e3.trans e,q⟩⟩
 ·have e:i=xs.length:=by omega
  subst e
  exact .inl ⟨it.stop W2 H2 e2,k.nx W2 σ2 H2 ρ2 e0 px2 (fin ρ2 i2)⟩
end
def nH (fr:List (Option Nat))(ρ:bN):bN:=fr.map λo=>o.bind λj=>(ρ[j]?).join.map λm=>Slot.sh false m.val
def m3 (D:Addr):Addr->Prop:=λa=>a=D
theorem aN0 {K:ad}{H0:Hp}{W:Addr->Prop}{σ:St}{ρ:bN}{H1 H':Hp}{D:Addr}{acc:List V}{fr:List (Option Nat)}(px:PX K H0 W σ ρ H1)(hD:H1 D=none)(s:aE H1 H')(ha:H' D=some (.lst acc)) :
  PX K H1 (m3 D) (fY fr σ) (nH fr ρ) H':=by
 have old:∀{a:Addr}{o:HO},H1 a=some o->a≠D:=λ{a o} e z=>by rw[z,hD]at e;cases e
 refine⟨by unfold fY nH;rw[bA5,bA5],s,λa z=>by cases z;exact⟨hD,_,ha,rfl⟩,λi m h=>?_,λi j x y a h1=>?_⟩
 ·unfold nH at h
  rw[bB6]at h
  cases ef:fr[i]? with
  |none=>rw[ef]at h;cases h
  |some o=>
   rw[ef]at h
   cases o with
   |none=>cases h
   |some j=>
    have h:some ((ρ[j]?).join.map λm=>Slot.sh false m.val)=some (some m):=h
    cases er:ρ[j]? with
    |none=>rw[er]at h;cases h
    |some o=>
     rw[er]at h
     cases o with
     |none=>cases h
     |some m0=>
      cases h
      obtain⟨v,ev,r⟩:=px.sl j m0 er
      refine⟨v,?_,?_⟩
      ·unfold fY
       rw[bB6,ef]
       show some ((σ[j]?).join)=_
       rw[ev];rfl
      ·have r':aJ K (λ_=>True) H1 v m0.val:=(S7 (Hs:=H1) r).same (aE.refl _) λ_ _=>trivial
       exact r'.keep ⟨λa _ _ e=>⟨old e,s _ _ e⟩,λa _ _ e=>⟨old e,s _ _ e⟩,λa _ _ e=>⟨old e,s _ _ e⟩,λ_ _ e=>s _ _ e,λ_ _ _ e=>s _ _ e⟩
 ·unfold nH at h1
  rw[bB6]at h1
  cases ef:fr[i]? with
  |none=>rw[ef]at h1;cases h1
  |some o=>
   rw[ef]at h1
   cases o with
   |none=>cases h1
   |some j=>
    have h1:some ((ρ[j]?).join.map λm=>Slot.sh false m.val)=some (some (Slot.own x)):=h1
    cases er:ρ[j]? with
    |none=>rw[er]at h1;cases h1
    |some o=>
     rw[er]at h1
     cases o with
     |none=>cases h1
     |some m0=>cases h1
section
variable {X:Cx}{σ:St}{H:Hp}{Q':VK}
abbrev _root_.L2.Cx.frm (X:Cx)(H1:Hp):Cx:={ X with H₀:=H1 }
def cQ (ti:eM)(fr:List (Option Nat))(p:lD)(tc:cH)(te:aD):aD:=λρ Q=>ti ρ λxs g=>xs.length<=16000000/\∃I:Nat->List PV->Prop,I 0 []/\
 (∀i x acc,xs[i]? = some x->I i acc->p x false (nH fr ρ) λρ2=>tc ρ2 λb=>if b=true then te ρ2 λy gy=>Nw gy y/\I (i+1) (acc++[y]) else I (i+1) acc)/\∀acc,I xs.length acc->Q (.lst acc) .fr
theorem nI {ti:eM}{fr:List (Option Nat)}{p:lD}{g:TG}{tc:cH}{te:aD}{own:Nat->Prop}(hg:pQ X.K own p g)(ho:∀i,own i->fr[i]? = some none)(h:LE X (cQ ti fr p tc te) σ H Q') :
  wK (LI X ti) fr (λ_=>g) (λH1=>LT (X.frm H1) tc) (λH1=>LE (X.frm H1) te) σ H Q':=by
 obtain⟨W,ρ,Q,px,q,k⟩:=h
 refine⟨W,ρ,_,px,q,?_⟩
 rintro J H1 xs gb s it ⟨hl,I,i0,turn,fin⟩ D hD
 have px1:=px.mono s
 refine⟨λi m acc H'=>m=xs.length-i/\i<=xs.length/\aE H1 H'/\H' D=some (.lst acc)/\∃ys,Reps X.K (Ms H1 (m3 D) true) H' acc ys/\ys.length<=i/\I i ys,⟨xs.length,by omega,bE9 _,bK hD _,bJ,[],.nil,bA3 _,i0⟩,?_⟩
 rintro i m acc H' ⟨rfl,hi,sm,ha,ys,ry,hy,iy⟩
 refine⟨ha,?_⟩
 have ev:Ev W H1 (nD W D) H':=Ev.own sm hD
 by_cases hlt:i<xs.length
 ·refine .inr ⟨it.go _ H' i ev hlt,λv H2 y=>?_⟩
  obtain⟨s2,x,hx,rx⟩:=it.yld _ H' i v H2 ev y hlt
  have ha2:=s2 _ _ ha
  have pxb:PX X.K H1 (m3 D) (fY fr σ) (nH fr ρ) H2:=aN0 px1 hD (sm.trans s2) ha2
  have rx':aJ X.K (Ms H1 (m3 D) false) H2 v x:=rx.same (aE.refl _) λa z=>by
   cases gb with
   |true=>exact λe=>z.1 (.inr e)
   |false=>exact λe=>z (.inr e)
  refine hg H1 (m3 D) _ _ H2 v x false _ _ pxb rx' (turn i x ys hx iy) λσ2 ρ2 px2 hown hlen q2=>⟨⟨hlen.symm,λj w e=>?_⟩,?_⟩
  ·by_cases oj:own j
   ·have:=ho j oj
    unfold fY at e
    rw[bB6,this]at e
    cases e
   ·rw[hown j oj];exact e
  ·refine⟨m3 D,ρ2,_,px2,q2,λb H4 s4 q4=>?_⟩
   have ha4:=s4 _ _ ha2
   have sm4:=(sm.trans s2).trans s4
   cases b with
   |false=>
    refine aT ⟨xs.length-(i+1),by omega,rfl,hlt,sm4,ha4,ys,ry.same (s2.trans s4) λ_ z=>z,by omega,by simpa using q4⟩
   |true=>
    refine b9 ⟨m3 D,ρ2,_,px2.mono s4,by simpa using q4,?_⟩
    rintro w H5 y gy s5 ryy ⟨nw,q5⟩
    have ha5:=s5 _ _ ha4
    have lr:=ry.length
    refine⟨ha5,jY (by omega),xs.length-(i+1),by omega,rfl,hlt,λb o e=>?_,bJ,ys++[y],?_,by rw[bB1,bF7];omega,q5⟩
    ·rw[aW (λz=>by rw[z,hD]at e;cases e)]
     exact s5 _ _ (sm4 _ _ e)
    ·exact ((ry.same ((s2.trans s4).trans s5) λ_ z=>z).append (.cons (Nw.rep (px2.mono s4) nw ryy) .nil)).keep (.upd ha5 rfl λb m=>⟨m.1,m⟩)
 ·have e:i=xs.length:=by omega
  subst e
  refine .inl ⟨it.stop _ H' ev,k _ H' _ .fr (s.trans sm) (.lst (s.free hD) ha (ry.same (aE.refl _) λ_ z=>s.free z.2)) (fin ys iy)⟩
def eD:cH:=λ_ Q=>Q true
theorem aN1 {Qb:Bool->Hp->Prop}(h:LT X eD σ H Qb):wF σ H Qb:=by
 obtain⟨W,ρ,Q,px,q,k⟩:=h
 exact k _ _ (aE.refl _) q
end
section
variable {κ:Type}[DecidableEq κ]
def bW (ps:List (κ×PV))(k:κ):Option PV:=(ps.find? λp=>decide (p.1=k)).map (·.2)
def cT (ps:List (κ×PV))(k:κ)(x:PV):List (κ×PV):=if (ps.any λp=>decide (p.1=k))=true then ps.map (λp=>if p.1=k then (p.1,x) else p) else ps++[(k,x)]
variable {K:ad}{M:Addr→Prop}{H:Hp}
theorem kA (k:κ):∀{kvs:List (κ×V)}{ps:List (κ×PV)},kvs.map (·.1)=ps.map (·.1)->Reps K M H (kvs.map (·.2)) (ps.map (·.2))->(bW ps k=none->fE kvs k=none)/\∀x,bW ps k=some x->∃v,fE kvs k=some v/\aJ K M H v x
 |[],[],_,_=>⟨λ_=>rfl,λx h=>by cases h⟩
 |[],_::_,e,_=>by cases e
 |_::_,[],e,_=>by cases e
 |(k1,v)::kvs,(k2,x)::ps,e,r=>by
  injection e with e1 e2
  have e1:k1=k2:=e1
  subst e1
  cases r with
  |cons r t=>
   obtain⟨h1,h2⟩:=kA k e2 t
   unfold bW fE at h1 h2 ⊢
   by_cases e:k1=k
   ·simp only[bL4,e,decide_true,Option.map_some]
    exact⟨λz=>(by cases z),λy z=>(by cases z;exact⟨v,rfl,r⟩)⟩
   ·simp only[bL4,e,decide_false]
    exact⟨h1,h2⟩
theorem aN2 (k:κ){kvs:List (κ×V)}{ps:List (κ×PV)}(e:kvs.map (·.1)=ps.map (·.1)):(kvs.any λp=>decide (p.1=k))=ps.any λp=>decide (p.1=k):=by
 have h1:(kvs.any λp=>decide (p.1=k))=(kvs.map (·.1)).any λz=>decide (z=k):=by rw[List.any_map];rfl
 have h2:(ps.any λp=>decide (p.1=k))=(ps.map (·.1)).any λz=>decide (z=k):=by rw[List.any_map];rfl
 rw[h1,h2,e]
theorem U2 (k:κ){w:V}{y:PV}(q:aJ K M H w y):∀{kvs:List (κ×V)}{ps:List (κ×PV)},kvs.map (·.1)=ps.map (·.1)->Reps K M H (kvs.map (·.2)) (ps.map (·.2))->
  (kvs.map λkv=>if kv.1=k then (kv.1,w) else kv).map (·.1)=(ps.map λkv=>if kv.1=k then (kv.1,y) else kv).map (·.1)/\Reps K M H ((kvs.map λkv=>if kv.1=k then (kv.1,w) else kv).map (·.2)) ((ps.map λkv=>if kv.1=k then (kv.1,y) else kv).map (·.2))
 |[],[],_,_=>⟨rfl,.nil⟩
 |[],_::_,e,_=>by cases e
 |_::_,[],e,_=>by cases e
 |(k1,v)::kvs,(k2,x)::ps,e,r=>by
  injection e with e1 e2
  have e1:k1=k2:=e1
  subst e1
  cases r with
  |cons r t=>
   obtain⟨h1,h2⟩:=U2 k q e2 t
   by_cases e:k1=k
   ·simp only[bF4,e,if_true]
    exact⟨by rw[h1],.cons q h2⟩
   ·simp only[bF4,e,bG2]
    exact⟨by rw[h1],.cons r h2⟩
theorem xJ (k:κ){w:V}{y:PV}(q:aJ K M H w y){kvs:List (κ×V)}{ps:List (κ×PV)}(e:kvs.map (·.1)=ps.map (·.1))(r:Reps K M H (kvs.map (·.2)) (ps.map (·.2))) :
  (dZ kvs k w).map (·.1)=(cT ps k y).map (·.1)/\Reps K M H ((dZ kvs k w).map (·.2)) ((cT ps k y).map (·.2)):=by
 unfold dZ cT
 rw[aN2 k e]
 split
 ·exact U2 k q e r
 ·rw[bC3,bC3,bC3,bC3,e]
  exact⟨rfl,r.append (.cons q .nil)⟩
end
def kP:aC->PV
 |.inl i=>.int i
 |.inr x=>.str x
theorem xK {K:ad}{M:Addr->Prop}{H:Hp}{v:V}{k:aC}(r:aJ K M H v (kP k)):v=kV k:=by
 cases k with
 |inl i=>cases r;rfl
 |inr x=>cases r;rfl
theorem sD {K:ad}{M:Addr->Prop}{H:Hp}:∀{ks:List aC}{us:List V},Reps K M H us (ks.map kP)->us=ks.map kV
 |[],_,.nil=>rfl
 |k::r,_,.cons q t=>by rw[xK q,sD t];rfl
def U3:PV->PV
 |.fK ps=>.dK ps
 |.fT ps=>.dT ps
 |x=>x
def U4 (x y:PV)(o:Option PV):Prop:=(∃ps k,U3 x = .dK ps/\y=kP k/\o=bW ps k)∨(∃ps k,U3 x = .dT ps/\y = .tup (k.map kP)/\o=bW ps k)
theorem U5 {K:ad}{M M2:Addr->Prop}{H:Hp}{v w:V}{x y:PV}{o:Option PV}(h:U4 x y o)(rx:aJ K M H v x)(ry:aJ K M2 H w y):∃a o',v = .ref a/\iL H a w o'/\(o=none->o'=none)/\∀z,o=some z->∃u,o'=some u/\aJ K M H u z:=by
 rcases h with⟨ps,k,ex,rfl,rfl⟩|⟨ps,k,ex,rfl,rfl⟩
 ·obtain rfl:=xK ry
  cases rx with
  |dK m h e r=>cases ex;exact⟨_,_,rfl,iL.k h,(kA k e r).1,(kA k e r).2⟩
  |fK h e r=>cases ex;exact⟨_,_,rfl,.inl ⟨_,k,.inr ⟨_,h⟩,rfl,rfl⟩,(kA k e r).1,(kA k e r).2⟩
  |_=>cases ex
 ·obtain⟨b,us,rfl,hb,rb⟩:=ry.sqT
  obtain rfl:=sD rb
  cases rx with
  |dT m h e r=>cases ex;exact⟨_,_,rfl,iL.t h hb,(kA k e r).1,(kA k e r).2⟩
  |fT h e r=>cases ex;exact⟨_,_,rfl,.inr ⟨_,k,b,.inr ⟨_,h⟩,rfl,hb,rfl⟩,(kA k e r).1,(kA k e r).2⟩
  |_=>cases ex
section
variable {X:Cx}{σ:St}{H:Hp}{D:cP}{tk td te:aD}{Q':VK}
def iR (neg:Bool)(tk td:aD):aD:=λρ Q=>tk ρ λy _=>td ρ λx _=>∃o,U4 x y o/\Q (.bl (if neg=true then !o.isSome else o.isSome)) .fr
theorem U6 {α β:Type}{o:Option α}{o':Option β}{P:β->α->Prop}(h1:o=none->o'=none)(h2:∀z,o=some z->∃u,o'=some u/\P u z):o'.isSome=o.isSome:=by
 cases o with
 |none=>rw[h1 rfl];rfl
 |some z=>obtain⟨u,e,_⟩:=h2 z rfl;rw[e];rfl
theorem aN3 (h:LE X (iR false tk td) σ H Q'):O1 (LE X tk) (LE X td) σ H Q':=by
 obtain⟨W,ρ,Q,px,q,k⟩:=h
 refine⟨W,ρ,_,px,q,λw H1 y g s r q=>⟨W,ρ,_,px.mono s,q,?_⟩⟩
 rintro v H2 x g' s2 r2 ⟨o,ak,q⟩
 obtain⟨a,o',rfl,dg,h1,h2⟩:=U5 ak r2 (r.same s2 λ_ z=>z)
 refine⟨a,o',rfl,dg,?_⟩
 rw[U6 h1 h2]
 exact k _ _ _ .fr (s.trans s2) (.bl _) q
theorem U7 (h:LE X (iR true tk td) σ H Q'):O2 (LE X tk) (LE X td) σ H Q':=by
 obtain⟨W,ρ,Q,px,q,k⟩:=h
 refine⟨W,ρ,_,px,q,λw H1 y g s r q=>⟨W,ρ,_,px.mono s,q,?_⟩⟩
 rintro v H2 x g' s2 r2 ⟨o,ak,q⟩
 obtain⟨a,o',rfl,dg,h1,h2⟩:=U5 ak r2 (r.same s2 λ_ z=>z)
 refine⟨a,o',rfl,dg,?_⟩
 rw[U6 h1 h2]
 exact k _ _ _ .fr (s.trans s2) (.bl _) q
theorem PX.updD {K:ad}{H0:Hp}{W:Addr->Prop}{σ:St}{ρ:bN}{H:Hp}{i:Nat}{a:Addr}{x:PV}{kvs:List (aC×V)}{ps:List (aC×PV)}(p:PX K H0 W σ ρ H)(hi:ρ[i]? = some (some (.own x)))(ha:σ[i]? = some (some (.ref a)))(wa:W a)(r:kvs.map (·.1)=ps.map (·.1)/\Reps K (Ms H0 W true) (upd H a (.dK kvs)) (kvs.map (·.2)) (ps.map (·.2))):PX K H0 W σ (ρ.set i (some (.own (.dK ps)))) (upd H a (.dK kvs)):=p.updOwn hi ha wa rfl (y:=.dK ps) ⟨kvs,bJ,r⟩
theorem PX.updT {K:ad}{H0:Hp}{W:Addr->Prop}{σ:St}{ρ:bN}{H:Hp}{i:Nat}{a:Addr}{x:PV}{kvs:List (List aC×V)}{ps:List (List aC×PV)}(p:PX K H0 W σ ρ H)(hi:ρ[i]? = some (some (.own x)))(ha:σ[i]? = some (some (.ref a)))(wa:W a)(r:kvs.map (·.1)=ps.map (·.1)/\Reps K (Ms H0 W true) (upd H a (.dT kvs)) (kvs.map (·.2)) (ps.map (·.2))):PX K H0 W σ (ρ.set i (some (.own (.dT ps)))) (upd H a (.dT kvs)):=p.updOwn hi ha wa rfl (y:=.dT ps) ⟨kvs,bJ,r⟩
theorem sE {κ α β:Type}{l:List (κ×α)}{m:List (κ×β)}(e:l.map (·.1)=m.map (·.1)):l.length=m.length:=by
 have:=congrArg List.length e
 rw[bA5,bA5]at this
 exact this
def pS (i:Nat)(tk te:aD):aI:=λD ρ=>te ρ λz g=>∃ps,ρ[i]? = some (some (.own (.dK ps)))/\tk ρ λy _=>∃k,y=kP k/\Nw g z/\ps.length<16000000/\D.nx (ρ.set i (some (.own (.dK (cT ps k z)))))
def pT (i:Nat)(tk te:aD):aI:=λD ρ=>te ρ λz g=>∃ps,ρ[i]? = some (some (.own (.dT ps)))/\tk ρ λy _=>∃k,y = .tup (k.map kP)/\Nw g z/\ps.length<16000000/\D.nx (ρ.set i (some (.own (.dT (cT ps k z)))))
theorem aN4 {i:Nat}(h:LS X (pS i tk te) D σ H):w4 (hV i) (LE X tk) (LE X te) D σ H:=by
 obtain⟨W,ρ,D',px,q,k⟩:=h
 refine⟨W,ρ,_,px,q,?_⟩
 rintro w H1 z g s rz ⟨ps,hi,q⟩
 obtain⟨v,ev,a,rfl,wa,kvs,ea,e1,r⟩:=(px.mono s).sl i _ hi
 refine⟨_,ev,W,ρ,_,px.mono s,q,?_⟩
 rintro kv H2 y g' s2 ry ⟨kk,rfl,nw,hl,q⟩
 obtain rfl:=xK ry
 have ea2:=s2 _ _ ea
 refine⟨a,_,rfl,kZ.k ea2 (jY (by rw[sE e1];omega)),?_⟩
 refine k.nx W σ _ _ ((Ev.same (s.trans s2)).trans (Ev.upd wa)) ((px.mono (s.trans s2)).updD hi ev wa ?_) q
 obtain⟨h1,h2⟩:=xJ kk ((Nw.rep px nw rz).same s2 λ_ z=>z) e1 (r.same s2 λ_ z=>z)
 exact⟨h1,h2.keep (.upd ea2 rfl λb m=>⟨k7 wa m,m⟩)⟩
theorem aN5 {i:Nat}(h:LS X (pT i tk te) D σ H):w4 (hV i) (LE X tk) (LE X te) D σ H:=by
 obtain⟨W,ρ,D',px,q,k⟩:=h
 refine⟨W,ρ,_,px,q,?_⟩
 rintro w H1 z g s rz ⟨ps,hi,q⟩
 obtain⟨v,ev,a,rfl,wa,kvs,ea,e1,r⟩:=(px.mono s).sl i _ hi
 refine⟨_,ev,W,ρ,_,px.mono s,q,?_⟩
 rintro kv H2 y g' s2 ry ⟨kk,rfl,nw,hl,q⟩
 obtain⟨b,us,rfl,hb,rb⟩:=ry.sqT
 obtain rfl:=sD rb
 have ea2:=s2 _ _ ea
 refine⟨a,_,rfl,kZ.t ea2 hb (jY (by rw[sE e1];omega)),?_⟩
 refine k.nx W σ _ _ ((Ev.same (s.trans s2)).trans (Ev.upd wa)) ((px.mono (s.trans s2)).updT hi ev wa ?_) q
 obtain⟨h1,h2⟩:=xJ kk ((Nw.rep px nw rz).same s2 λ_ z=>z) e1 (r.same s2 λ_ z=>z)
 exact⟨h1,h2.keep (.upd ea2 rfl λb m=>⟨k7 wa m,m⟩)⟩
theorem aN6 (h:LE X (qC (.dK [])) σ H Q'):O6 σ H Q':=by
 obtain⟨W,ρ,Q,px,q,k⟩:=h
 exact λp hp=>k _ _ _ .fr (bK hp _) (.dK hp bJ rfl .nil) q
theorem aN7 (h:LE X (qC (.dT [])) σ H Q'):O7 σ H Q':=by
 obtain⟨W,ρ,Q,px,q,k⟩:=h
 exact λp hp=>k _ _ _ .fr (bK hp _) (.dT hp bJ rfl .nil) q
def iS (ps more:List (aC×PV)):List (aC×PV):=more.foldl (λacc kv=>cT acc kv.1 kv.2) ps
theorem U8 {K:ad}{M:Addr->Prop}{H:Hp}:∀{more:List (aC×V)}{mp:List (aC×PV)}{kvs:List (aC×V)}{ps:List (aC×PV)},more.map (·.1)=mp.map (·.1)->Reps K M H (more.map (·.2)) (mp.map (·.2))->kvs.map (·.1)=ps.map (·.1)->Reps K M H (kvs.map (·.2)) (ps.map (·.2))->
  (jE kvs more).map (·.1)=(iS ps mp).map (·.1)/\Reps K M H ((jE kvs more).map (·.2)) ((iS ps mp).map (·.2))
 |[],[],_,_,_,_,e,r=>⟨e,r⟩
 |[],_::_,_,_,e,_,_,_=>by cases e
 |_::_,[],_,_,e,_,_,_=>by cases e
 |(k1,v)::more,(k2,x)::mp,kvs,ps,e,r,e',r'=>by
  injection e with e1 e2
  have e1:k1=k2:=e1
  subst e1
  cases r with
  |cons q t=>
   obtain⟨h1,h2⟩:=xJ k1 q e' r'
   exact U8 (more:=more) (mp:=mp) e2 t h1 h2
def xM (i:Nat)(te:aD):aI:=λD ρ=>∃ps,ρ[i]? = some (some (.own (.dK ps)))/\te ρ λy g=>∃mp,y = .dK mp/\(g = .fr∨(g = .nw/\False))/\ps.length+mp.length<=16000000/\D.nx (ρ.set i (some (.own (.dK (iS ps mp)))))
theorem aN8 {i:Nat}(h:LS X (xM i te) D σ H):mR (S5 (hV i) (LE X te)) D σ H:=by
 obtain⟨W,ρ,D',px,⟨ps,hi,q⟩,k⟩:=h
 obtain⟨v,ev,a,rfl,wa,kvs,ea,e1,r⟩:=px.sl i _ hi
 refine⟨_,ev,a,rfl,.inl ⟨kvs,.inl ea⟩,W,ρ,_,px,q,?_⟩
 rintro w H1 y g s ry ⟨mp,rfl,hg,hl,q⟩
 rcases hg with rfl|⟨_,z⟩
 ·cases ry with
  |@dK b more _ m hb e2 rb=>
   have hab:a≠b:=λz=>by subst z;rw[show H a=none from m]at ea;cases ea
   have ea1:=s _ _ ea
   refine⟨b,kvs,more,rfl,hab,ea1,hb,lim (by rw[sE e1,sE e2];exact hl),?_⟩
   refine k.nx W σ _ _ ((Ev.same s).trans (Ev.upd wa)) ((px.mono s).updD hi ev wa ?_) q
   obtain⟨h1,h2⟩:=U8 e2 (rb.same (M':=Ms X.H₀ W true) (aE.refl _) λ_ z=>px.new z) e1 (r.same s λ_ z=>z)
   exact⟨h1,h2.keep (.upd ea1 rfl λb m=>⟨k7 wa m,m⟩)⟩
 ·exact z.elim
end
def cJ:Nat->PV->PV->Bool
 |_,.non,.non=>true
 |_,.bl a,.bl b=>a==b
 |_,.int a,.int b=>a==b
 |_,.str a,.str b=>a==b
 |n+1,.tup xs,.tup ys=>(xs.zip ys).all (λp=>cJ n p.1 p.2)&&xs.length==ys.length
 |n+1,.lst xs,.lst ys=>(xs.zip ys).all (λp=>cJ n p.1 p.2)&&xs.length==ys.length
 |n+1,.kt xs,.kt ys=>(xs.zip ys).all (λp=>cJ n p.1 p.2)&&xs.length==ys.length
 |_,_,_=>false
def dS:Nat->PV->PV->Bool
 |_,.non,.non=>true
 |_,.bl _,.bl _=>true
 |_,.int _,.int _=>true
 |_,.str _,.str _=>true
 |_,.non,.int _=>true
 |_,.int _,.non=>true
 |n+1,.tup xs,.tup ys=>(xs.zip ys).all (λp=>dS n p.1 p.2)
 |n+1,.lst xs,.lst ys=>(xs.zip ys).all (λp=>dS n p.1 p.2)
 |n+1,.kt xs,.kt ys=>(xs.zip ys).all (λp=>dS n p.1 p.2)
 |_+1,.non,.tup _=>true
 |_+1,.tup _,.non=>true
 |_,_,_=>false
theorem aN9 (n:Nat)(a b:Int):cJ n (.int a) (.int b)=(a==b):=by cases n<;>rfl
theorem xN (n:Nat):∀(a b:af),((((intz a).zip (intz b)).all λp=>cJ n p.1 p.2)&&(intz a).length==(intz b).length)=decide (a=b)
 |[],[]=>rfl
 |[],_::_=>by simp
 |_::_,[]=>by simp
 |x::a,y::b=>by
  have ih:=xN n a b
  simp only[bF4,bL8,bM4,bC7,aN9]at ih ⊢
  by_cases e:x=y
  ·subst e
   have:((intz a).length+1==(intz b).length+1)=((intz a).length==(intz b).length):=by simp
   rw[this,bJ7,Bool.true_and,ih]
   simp
  ·have:(x==y)=false:=bO4.mpr e
   rw[this,bN9,bN9]
   simp[e]
theorem U9 (n:Nat)(a b:af):cJ (n+1) (.tup (intz a)) (.tup (intz b))=decide (a=b):=xN n a b
theorem aO0 (n:Nat)(a b:af):cJ (n+1) (.lst (intz a)) (.lst (intz b))=decide (a=b):=xN n a b
theorem xO (n:Nat):∀(a b:af),(((intz a).zip (intz b)).all λp=>dS n p.1 p.2)=true
 |[],_=>by simp
 |_::_,[]=>by simp
 |x::a,y::b=>by
  simp only[bF4,bL8,bM4,xO n a b,Bool.and_true]
  cases n<;>rfl
theorem V0 (n:Nat)(a b:af):dS (n+1) (.tup (intz a)) (.tup (intz b))=true:=xO n a b
theorem aO1 (n:Nat)(a b:af):dS (n+1) (.lst (intz a)) (.lst (intz b))=true:=xO n a b
def m5 (ta:aD):aD:=λρ Q=>ta ρ λx _=>∃i,x = .int i/\Q (.int (-i)) .fr
def iT (neg:Bool):PV->Tg->PV->Tg->PK->Prop:=λx _ y _ Q=>∃i ns,x = .int i/\iQ y=some (intz ns)/\Q (.bl (if neg=true then !decide (i∈ns) else decide (i∈ns))) .fr
def V1:PV->Option String
 |.non=>some "NoneType"
 |.bl _=>some "bool"
 |.int _=>some "int"
 |.str _=>some "str"
 |.tup _=>some "tuple"
 |.kt _=>some "tuple"
 |.lst _=>some "list"
 |_=>none
def pU (K:ad)(n:String)(te:aD):aD:=λρ Q=>te ρ λx _=>∃T b,V1 x=some T/\PySem.W.kitOne K (.type T) (.type n)=some b/\Q (.bl b) .fr
def nJ (n:Nat)(neg:Bool):PV->Tg->PV->Tg->PK->Prop:=λx _ y _ Q=>((∃xs ys,x = .tup xs/\y = .tup ys)∨(∃xs ys,x = .lst xs/\y = .lst ys))/\dS (n+1) x y=true/\Q (.bl (if neg=true then !cJ (n+1) x y else cJ (n+1) x y)) .fr
abbrev nK:=bN->(Option Int->Prop)->Prop
def fH (xs:List PV)(lo hi:Option Int):List PV:=(xs.drop (HT.b7 xs.length 0 lo)).take (HT.b7 xs.length xs.length hi-HT.b7 xs.length 0 lo)
def xP:PV->List PV->PV
 |.tup _,ys=>.tup ys
 |.kt _,ys=>.tup ys
 |_,ys=>.lst ys
def sF:nK:=λ_ Q=>Q none
def sG (te:aD):nK:=λρ Q=>te ρ λx _=>∃i,x = .int i/\Q (some i)
def sH (te:aD)(tl th:nK):aD:=λρ Q=>te ρ λx _=>tl ρ λlo=>th ρ λhi=>∃xs,seqT x=some xs/\flats xs=true/\Q (xP x (fH xs lo hi)) .fr
def gD (N:List Str)(xs:List PV):bN:=xs.map (λx=>some (.sh (flat x) x))++List.replicate (N.length-xs.length) none
abbrev fI (ta tb:aD):aD:=q2 (fG λi j=>.int (i+j)) ta tb
abbrev iU (ta tb:aD):aD:=q2 (fG λi j=>.int (i-j)) ta tb
abbrev xQ (ta tb:aD):aD:=q2 (RI oU λi j=>.int (i*j)) ta tb
abbrev gE (ta tb:aD):aD:=q2 (RI vF λi j=>.int (i/j)) ta tb
abbrev cZ (ta tb:aD):aD:=q2 (RI (λ_ j=>0<j) λi j=>.int (i%j)) ta tb
abbrev aO2 (ta tb:aD):aD:=q2 (RI mW λi j=>.int (i^j.toNat)) ta tb
abbrev aO3 (ta tb:aD):aD:=q2 (RI mW λi j=>.int (i*2^j.toNat)) ta tb
abbrev aO4 (ta tb:aD):aD:=q2 (RI (λ_ j=>0<=j) λi j=>.int (i/2^j.toNat)) ta tb
abbrev jG (ta tb:aD):aD:=q2 (fG λi j=>.bl (decide (i<j))) ta tb
abbrev jH (ta tb:aD):aD:=q2 (fG λi j=>.bl (decide (j<i))) ta tb
abbrev xR (ta tb:aD):aD:=q2 (fG λi j=>.bl (decide (j<=i))) ta tb
abbrev gQ (ta tb:aD):aD:=q2 (lX false) ta tb
abbrev xS (ta tb:aD):aD:=q2 (lX true) ta tb
abbrev bZ (ta tb:aD):aD:=q2 xC ta tb
def dW:List PV->(PV->Prop)->Prop:=λxs Q=>T6 xs Q/\∀ns,xs≠[.scr ns]
def dU:aI:=λ_ _=>False
def QE (X:Cx)(e:Expr)(t:aD):Prop:=PE X e (LE X t)
def QT (X:Cx)(e:Expr)(t:cH):Prop:=PT X e (LT X t)
def QW (X:Cx)(e:Expr)(t:cH):Prop:=PW X e (LT X t)
def QA (X:Cx)(es:List Expr)(t:dB):Prop:=PA X es (LA X t)
def QS (X:Cx)(st:Stmt)(t:aI):Prop:=PS X st (LS X t)
def fA (X:Cx)(st:List Stmt)(t:aI):Prop:=dY X st (LS X t)
def QI (X:Cx)(tg iter:Expr)(t:eM):Prop:=PI X tg iter (LI X t)
section
variable {X:Cx}
theorem cK {e:Expr}{t t':TE}(h:PE X e t)(m:∀σ H Q,t' σ H Q->t σ H Q):PE X e t':=λpins s σ H Q I q=>h pins s σ H Q I (m σ H Q q)
theorem nL {e:Expr}{t t':TT}(h:PT X e t)(m:∀σ H Q,t' σ H Q->t σ H Q):PT X e t':=λpins s σ H Q I q=>h pins s σ H Q I (m σ H Q q)
theorem V2 {e:Expr}{t t':TT}(h:PW X e t)(m:∀σ H Q,t' σ H Q->t σ H Q):PW X e t':=λwh pins s σ H Q I q=>h wh pins s σ H Q I (m σ H Q q)
theorem V3 {e:List Expr}{t t':TA}(h:PA X e t)(m:∀σ H Q,t' σ H Q->t σ H Q):PA X e t':=λpos pins s σ H Q I q=>h pos pins s σ H Q I (m σ H Q q)
theorem dN {e:Stmt}{t t':TS}(h:PS X e t)(m:∀D σ H,t' D σ H->t D σ H):PS X e t':=λpins s σ H D I q=>h pins s σ H D I (m D σ H q)
theorem xT {e:List Stmt}{t t':TS}(h:dY X e t)(m:∀D σ H,t' D σ H->t D σ H):dY X e t':=λpins s σ H D I q=>h pins s σ H D I (m D σ H q)
theorem pV {tg e:Expr}{t t':TI}(h:PI X tg e t)(m:∀σ H R,t' σ H R->t σ H R):PI X tg e t':=λpins s σ H R I q=>h pins s σ H R I (m σ H R q)
variable {a b c e o:Expr}{es cO:List Expr}{ta tb te to tk:aD}{tr:dB}{tA tB' tc:cH}{pos p2 px:Pos}{st:Stmt}{sts:List Stmt}{t u:aI}
theorem qv (i:Nat){x:Str}{pos:Pos}(hN:X.N[i]? = some x:=by rfl)(hv:fU X.env.scope x:=by first|exact Or.inl rfl|exact Or.inr (Or.inl rfl)|exact Or.inr (Or.inr rfl))(hd:(x==("__debug__":Str))=false:=by decide)(hcd:(x==("__classdict__":Str))=false:=by decide):QE X (.Name x pos) (a5 i):=cK (iF hN hv hd hcd) λ_ _ _=>aJ1
theorem aK {i j}:QE X (.Constant (.int i) j pos) (qC (.int i)):=cK uZ λ_ _ _=>rX λ_=>.int i
theorem gF {i j}:QE X (.Constant (.bool i) j pos) (qC (.bl i)):=cK E6 λ_ _ _=>rX λ_=>.bl i
theorem V4 {i j}:QE X (.Constant (.str i) j pos) (qC (.str i)):=cK at6 λ_ _ _=>rX λ_=>.str i
theorem iV {op:Operator}{R:PV->Tg->PV->Tg->PK->Prop}{r:R2}(ho:c9 X (binaryOp op) r)(cv:eL X R r)(ha:QE X a ta)(hb:QE X b tb):QE X (.BinOp a op b pos) (q2 R ta tb):=cK (aw3 ho ha hb) λ_ _ _=>rY cv
theorem gR (ha:QE X a ta)(hb:QE X b tb):QE X (.BinOp a .Add b pos) (q2 (fG λi j=>.int (i+j)) ta tb):=iV aw6 S8 ha hb
theorem kB (ha:QE X a ta)(hb:QE X b tb):QE X (.BinOp a .Sub b pos) (q2 (fG λi j=>.int (i-j)) ta tb):=iV aw7 S8 ha hb
theorem xV (ha:QE X a ta)(hb:QE X b tb):QE X (.BinOp a .Mult b pos) (q2 (RI oU λi j=>.int (i*j)) ta tb):=iV aw8 nB ha hb
theorem i8 (ha:QE X a ta)(hb:QE X b tb):QE X (.BinOp a .FloorDiv b pos) (q2 (RI vF λi j=>.int (i/j)) ta tb):=iV aw9 nB ha hb
theorem dG (ha:QE X a ta)(hb:QE X b tb):QE X (.BinOp a .Mod b pos) (q2 (RI (λ_ j=>0<j) λi j=>.int (i%j)) ta tb):=iV ax0 nB ha hb
theorem aO5 (ha:QE X a ta)(hb:QE X b tb):QE X (.BinOp a .Pow b pos) (q2 (RI mW λi j=>.int (i^j.toNat)) ta tb):=iV ax1 nB ha hb
theorem aO6 (ha:QE X a ta)(hb:QE X b tb):QE X (.BinOp a .LShift b pos) (q2 (RI mW λi j=>.int (i*2^j.toNat)) ta tb):=iV ax2 nB ha hb
theorem aO7 (ha:QE X a ta)(hb:QE X b tb):QE X (.BinOp a .RShift b pos) (q2 (RI (λ_ j=>0<=j) λi j=>.int (i/2^j.toNat)) ta tb):=iV ax3 nB ha hb
theorem pW {op:CmpOp}{R:PV->Tg->PV->Tg->PK->Prop}{r:R2}(ho:c9 X (compareOp op) r)(cv:eL X R r)(ha:QE X a ta)(hb:QE X b tb)(hm:behindInMarks op b=false):QE X (.Compare a [op] [b] pos) (q2 R ta tb):=cK (ax7 ho ha hb hm) λ_ _ _=>rY cv
theorem lE {op:CmpOp}{R:PV->Tg->PV->Tg->PK->Prop}{r:R2}(ho:c9 X (compareOp op) r)(cv:eL X R r)(ha:QE X a ta)(hb:QE X b tb)(hm:behindInMarks op b=false):QT X (.Compare a [op] [b] pos) (aY (q2 R ta tb)):=nL (ax9 ho ha hb hm) λ_ _ _ h=>rY cv (rZ h)
theorem aO8 (ha:QE X a ta)(hb:QE X b tb):QE X (.Compare a [.Lt] [b] pos) (q2 (fG λi j=>.bl (decide (i<j))) ta tb):=pW vG nC ha hb (iG _)
theorem V5 (ha:QE X a ta)(hb:QE X b tb):QE X (.Compare a [.GtE] [b] pos) (q2 (fG λi j=>.bl (decide (j<=i))) ta tb):=pW J7 nC ha hb (iG _)
theorem aO9 (ha:QE X a ta)(hb:QE X b tb):QE X (.Compare a [.Eq] [b] pos) (q2 (lX false) ta tb):=pW J6 T1 ha hb (iG _)
theorem kC (ha:QE X a ta)(hb:QE X b tb):QT X (.Compare a [.Lt] [b] pos) (aY (q2 (fG λi j=>.bl (decide (i<j))) ta tb)):=lE vG nC ha hb (iG _)
theorem kD (ha:QE X a ta)(hb:QE X b tb):QT X (.Compare a [.Gt] [b] pos) (aY (q2 (fG λi j=>.bl (decide (j<i))) ta tb)):=lE ax6 nC ha hb (iG _)
theorem aP0 (ha:QE X a ta)(hb:QE X b tb):QT X (.Compare a [.GtE] [b] pos) (aY (q2 (fG λi j=>.bl (decide (j<=i))) ta tb)):=lE J7 nC ha hb (iG _)
theorem iW (ha:QE X a ta)(hb:QE X b tb):QT X (.Compare a [.Eq] [b] pos) (aY (q2 (lX false) ta tb)):=lE J6 T1 ha hb (iG _)
theorem xW (ha:QE X a ta)(hb:QE X b tb):QT X (.Compare a [.NotEq] [b] pos) (aY (q2 (lX true) ta tb)):=lE ax5 aJ2 ha hb (iG _)
theorem xX (hu:X.A.units+1<cLine)(hk:QE X a tk)(hd:QE X b te)(hm:behindInMarks .In b=false:=by rfl):QT X (.Compare a [.In] [b] pos) (aY (iR false tk te)):=nL (E8 (aD8 hu hk hd) hm) λ_ _ _ h=>aN3 (rZ h)
theorem V6 (hu:X.A.units+1<cLine)(hk:QE X a tk)(hd:QE X b te)(hm:behindInMarks .NotIn b=false:=by rfl):QT X (.Compare a [.NotIn] [b] pos) (aY (iR true tk te)):=nL (E8 (O3 hu hk hd) hm) λ_ _ _ h=>U7 (rZ h)
theorem aP1 (hu:X.A.units+1<cLine)(hk:QE X a tk)(hd:QE X b te)(hm:behindInMarks .NotIn b=false:=by rfl):QE X (.Compare a [.NotIn] [b] pos) (iR true tk te):=cK (at8 (O3 hu hk hd) hm) λ_ _ _ h=>U7 h
theorem kE (h:QE X e te)(he:∀whole,isTrue e X.env whole=(do let v <- whole;standAt e.pos;holding [v] (truthy v)):=by intro _;rfl):QT X e (aY te):=nL (at9 h he) λ_ _ _ h=>rZ h
theorem sI (h:QE X e te)(he:∀whole,isTrue e X.env whole=(do let v <- whole;standAt e.pos;holding [v] (truthy v)):=by intro _;rfl):QT X e (nF te):=nL (ay2 h he) λ_ _ _ h=>aM5 h
theorem kF (ha:QT X a tA):QW X (.BoolOp .And [a] pos) tA:=au0 ha
theorem nM (ha:QT X a tA):QW X (.BoolOp .Or [a] pos) tA:=au1 ha
theorem iX (ha:QT X a tA)(hb:QW X (.BoolOp .And (b::cO) pos) tB'):QW X (.BoolOp .And (a::b::cO) pos) (gA tA tB'):=V2 (au2 ha hb) λ_ _ _=>aJ3
theorem nN (ha:QT X a tA)(hb:QW X (.BoolOp .Or (b::cO) pos) tB'):QW X (.BoolOp .Or (a::b::cO) pos) (lA tA tB'):=V2 (au3 ha hb) λ_ _ _=>aJ4
theorem fJ (h:QW X e tA):QT X e tA:=PW.pt h
theorem m6 (ha:QT X a tA):QT X (.UnaryOp .Not a pos) (k6 tA):=nL (au4 ha) λ_ _ _=>aJ5
theorem pX {op}(h:QE X a ta):QE X (.BoolOp op [a] pos) ta:=au5 h
theorem sJ (ha:QE X a ta)(hb:QE X (.BoolOp .And (b::cO) pos) tb):QE X (.BoolOp .And (a::b::cO) pos) (lY ta tb):=cK (au6 ha hb) λ_ _ _=>aJ6
theorem aP2 (ha:QE X a ta)(hb:QE X (.BoolOp .Or (b::cO) pos) tb):QE X (.BoolOp .Or (a::b::cO) pos) (x4 ta tb):=cK (au7 ha hb) λ_ _ _=>aJ7
theorem aP3 (ha:QE X a ta):QE X (.UnaryOp .Not a pos) (x5 ta):=cK (au8 ha) λ_ _ _=>aJ8
theorem aA:QA X [] a9:=V3 fW λ_ _ _=>aJ9
theorem a8 (ha:QE X e te)(hr:QA X es tr)(hs:starEach (e::es) X.env=(false,eval e X.env)::starEach es X.env:=by rfl):QA X (e::es) (a6 te tr):=V3 (eC ha hr hs) λ_ _ _=>aK0
theorem iY {x1}(h:QA X es tr):QE X (.Tuple es x1 pos) (iP tr):=cK (ay8 h) λ_ _ _=>aK1
theorem kG (h:QA X es tr):QE X (.List es pos) (i7 tr):=cK (K2 h) λ_ _ _=>aK2
theorem cC (ha:QE X a ta)(hb:QE X b tb)(hs:L8 b:=by exact λ_ _=>rfl):QE X (.Subscript a b pos) (q2 xC ta tb):=cK (oY aB6 ha hb hs) λ_ _ _=>rY aL5
theorem V7:QE X (.Dict [] [] pos) (qC (.dK [])):=cK aE0 λ_ _ _=>aN6
theorem aP4:QE X (.Dict [] [] pos) (qC (.dT [])):=cK aE1 λ_ _ _=>aN7
theorem gS {x:Str}{id:String}{R:List PV->(PV->Prop)->Prop}{r:List V->Hp->VK->Prop}(hc:cN X (.builtin id) r)(cv:e8 X R r)(hg:Gl X x)(hm:X.mg x=none)(hv:bootBuiltins x=some (.builtin id))(ha:QA X (e::es) tr)(hn:x≠"__name__":=by decide)(hdb:(x==("__debug__":Str))=false:=by decide)(he:starEach (e::es) X.env=(false,eval e X.env)::starEach es X.env:=by rfl)(hpl:(backTo pos (starEach es X.env)).any (·.1)=false:=by rfl):QE X (.Call (.Name x p2) (e::es) [] pos) (aB R tr):=cK (vN hc hg hm hv ha hn hdb he hpl) λ_ _ _=>T2 cv
theorem xY {x:Str}{T:String}{R:List PV->(PV->Prop)->Prop}{r:List V->Hp->VK->Prop}(hc:cN X (.type T) r)(cv:e8 X R r)(hg:Gl X x)(hm:X.mg x=none)(hv:bootBuiltins x=some (.type T))(ha:QA X (e::es) tr)(hn:x≠"__name__":=by decide)(hdb:(x==("__debug__":Str))=false:=by decide)(he:starEach (e::es) X.env=(false,eval e X.env)::starEach es X.env:=by rfl)(hpl:(backTo pos (starEach es X.env)).any (·.1)=false:=by rfl):QE X (.Call (.Name x p2) (e::es) [] pos) (aB R tr):=cK (K9 hc hg hm hv ha hn hdb he hpl) λ_ _ _=>T2 cv
theorem dE:fA X [] cY:=xT av0 λ_ _ _=>aK3
theorem aG (h1:QS X st t)(h2:fA X sts u):fA X (st::sts) (aF t u):=xT (r6 h1 h2) λ_ _ _=>aK4
theorem aN (h1:QS X st t):fA X [st] t:=v3 h1
theorem dX:QS X st dU:=dN av3 λ_ _ _ ⟨_,_,_,_,h,_⟩=>h
theorem bI {i:Nat}{x:Str}(hN:X.N.Nodup)(he:QE X e te)(hi:X.N[i]? = some x:=by rfl)(hx:j8 X.env.scope x:=by first|exact Or.inl rfl|exact Or.inr rfl)(hs:swapsWith e (some (.Name x p2)) pos.line X.env=pure false:=by rfl)(hf:X.fn x=true∨X.env.scope.names.lookup x=some .local:=by first|exact .inl rfl|exact .inr rfl) :
  QS X (.Assign [.Name x p2] e pos) (bE i te):=dN (vA hN hi hx he hs hf) λ_ _ _=>sA
theorem i9 {i:Nat}{x:Str}(hN:X.N.Nodup)(he:QE X e te)(hi:X.N[i]? = some x:=by rfl)(hx:j8 X.env.scope x:=by first|exact Or.inl rfl|exact Or.inr rfl)(hs:swapsWith e (some (.Name x p2)) pos.line X.env=pure false:=by rfl)(hf:X.fn x=true∨X.env.scope.names.lookup x=some .local:=by first|exact .inl rfl|exact .inr rfl) :
  QS X (.Assign [.Name x p2] e pos) (gB i te):=dN (vA hN hi hx he hs hf) λ_ _ _=>aK7
theorem aP5 (i:Nat)(h:QS X st t):QS X st (xA i t):=dN h λ_ _ _=>aK8
theorem bG (he:QE X e te):QS X (.Return (some e) pos) (bC te):=dN (v7 he) λ_ _ _=>aK9
theorem lF (i:Nat){x:Str}(hN:X.N[i]? = some x:=by rfl)(hv:fU X.env.scope x:=by first|exact Or.inl rfl|exact Or.inr (Or.inl rfl)|exact Or.inr (Or.inr rfl))(hd:(x==("__debug__":Str))=false:=by decide)(hcd:(x==("__classdict__":Str))=false:=by decide) :
  QS X (.Return (some (.Name x p2)) pos) (k8 i):=dN (v7 (iF hN hv hd hcd)) λ_ _ _=>aL0
theorem cV {sa sb:List Stmt}(hc:QT X c tc)(ha:fA X sa t)(hb:fA X sb u):QS X (.If c sa sb pos) (cI tc t u):=dN (av1 hc ha hb) λ_ _ _=>aL1
theorem sK {body:List Stmt}(hp:PassesOwn (model X.prog X.w) X.A X.env X.xe)(hc:QT X c tc)(hb:fA X body t):QS X (.While c body [] pos) (nE tc t):=dN (av4 hp hc hb) λ_ _ _=>aL2
theorem nO (i:Nat){x:Str}{apos cpos xpos:Pos}(he:QE X e te)(hN:X.N[i]? = some x:=by rfl)(hv:fU X.env.scope x:=by first|exact Or.inl rfl|exact Or.inr (Or.inl rfl)|exact Or.inr (Or.inr rfl))(hd:(x==("__debug__":Str))=false:=by decide)(hcd:(x==("__classdict__":Str))=false:=by decide)(hbase:attributeBase (.Name x xpos) "append" X.env (eval (.Name x xpos) X.env)=eval (.Name x xpos) X.env:=by rfl)(hfew:((backTo cpos (starEach [e] X.env)).all (λx=>!x.1)&&(backToKw cpos (keywordEach [] X.env)).all (λx=>x.1.isSome)&&decide (([e]:List Expr).length+([]:List Keyword).length+(if ([]:List Keyword).isEmpty then 0 else 1)<30))=true:=by rfl)(hline:(apos.endLine==cpos.line)=true:=by rfl)(hs:starEach [e] X.env=(false,eval e X.env)::starEach [] X.env:=by rfl)(hplain:(backTo cpos (starEach [] X.env)).any (·.1)=false:=by rfl)(hsw:swapsWith (.Call (.Attribute (.Name x xpos) "append" apos) [e] [] cpos) none pos.line X.env=pure false:=by rfl) :
  QS X (.Expr (.Call (.Attribute (.Name x xpos) "append" apos) [e] [] cpos) pos) (lB i te):=
 dN (lQ (rC bM3 PySem.F.slot_list_append PySem.F.type_list_append rD (iF hN hv hd hcd) (eC he fW hs) hbase hfew hline hs hplain) hsw) λ_ _ _=>aL3
theorem xZ {i:Nat}{x:Str}{xpos tpos:Pos}(hu:X.A.units+1<cLine)(hk:QE X a tk)(he:QE X e te)(hN:X.N[i]? = some x:=by rfl)(hv:fU X.env.scope x:=by first|exact Or.inl rfl|exact Or.inr (Or.inl rfl)|exact Or.inr (Or.inr rfl))(hd:(x==("__debug__":Str))=false:=by decide)(hcd:(x==("__classdict__":Str))=false:=by decide)(hs:swapsWith e (some (.Subscript (.Name x xpos) a tpos)) pos.line X.env=pure false:=by rfl):QS X (.Assign [.Subscript (.Name x xpos) a tpos] e pos) (pS i tk te):=dN (O4 hu (iF hN hv hd hcd) hk he hs) λ_ _ _=>aN4
theorem V8 {i:Nat}{x:Str}{xpos tpos:Pos}(hu:X.A.units+1<cLine)(hk:QE X a tk)(he:QE X e te)(hN:X.N[i]? = some x:=by rfl)(hv:fU X.env.scope x:=by first|exact Or.inl rfl|exact Or.inr (Or.inl rfl)|exact Or.inr (Or.inr rfl))(hd:(x==("__debug__":Str))=false:=by decide)(hcd:(x==("__classdict__":Str))=false:=by decide)(hs:swapsWith e (some (.Subscript (.Name x xpos) a tpos)) pos.line X.env=pure false:=by rfl):QS X (.Assign [.Subscript (.Name x xpos) a tpos] e pos) (pT i tk te):=dN (O4 hu (iF hN hv hd hcd) hk he hs) λ_ _ _=>aN5
theorem aP6 {tg l:Expr}{tl:TE}(hl:PE X l tl):PI X tg l (T7 X.K tl):=by
 intro pins s σ H R I h
 refine aR (hl pins s σ H _ I h) λv s1 ⟨x,H1,I1,r1,q1⟩=>?_
 obtain⟨a,e,q⟩:=q1
 subst e
 cases r1
 rcases q with⟨xs,hq,q⟩|⟨xs,hq,q⟩
 ·obtain⟨its,rv,p,hz⟩:=I1.list hq
  refine wpAny_pyIter_list p.isList ?_
  refine⟨s1.heap.objs.size,[s1.heap.objs.size],_,_,H1,rfl,I1.kept (t':=s1.toks) λb o e=>bz8 _ e,av5 a _,⟨_,bB4 _ rfl,rfl,rfl⟩,λb hb=>?_,q⟩
  have e:b=s1.heap.objs.size:=by simpa using hb
  subst e
  exact I1.fpOk (bA3 _) (I1.hok.fresh (bA3 _))
 ·obtain⟨its,rv,p,hz⟩:=I1.tuple hq
  refine bL7 (show s1.heap.IsTuple a its.toArray from p) ?_
  refine⟨s1.heap.objs.size,[s1.heap.objs.size],_,_,H1,rfl,I1.kept (t':=s1.toks) λb o e=>bz8 _ e,G1 a _,⟨_,bB4 _ rfl,rfl,rfl⟩,λb hb=>?_,q⟩
  have e:b=s1.heap.objs.size:=by simpa using hb
  subst e
  exact I1.fpOk (bA3 _) (I1.hok.fresh (bA3 _))
theorem dH {tg l:Expr}(hl:QE X l te):QI X tg l (dD te):=pV (aP6 hl) λ_ _ _=>aM6
theorem m7 {tg:Expr}(hg:Gl X "range")(hm:X.mg "range" = none)(ha:QE X a ta)(hs:starEach [a] X.env = [(false,eval a X.env)]:=by rfl):QI X tg (.Call (.Name "range" p2) [a] [] pos) (k9 ta):=pV (av8 hg hm (eC ha fW hs) hs) λ_ _ _=>aM7
theorem V9 {tg:Expr}(hg:Gl X "range")(hm:X.mg "range" = none)(ha:QE X a ta)(hb:QE X b tb)(hs:starEach [a,b] X.env = [(false,eval a X.env),(false,eval b X.env)]:=by rfl)(hs2:starEach [b] X.env = [(false,eval b X.env)]:=by rfl) :
  QI X tg (.Call (.Name "range" p2) [a,b] [] pos) (sB ta tb):=pV (av9 hg hm (eC ha (eC hb fW hs2) (by rw[hs,hs2])) hs hs2) λ_ _ _=>aM8
theorem W0 {tg:Expr}{body:List Stmt}{ti:eM}{p:lD}{g:TG}{own:Nat->Prop}(hp:PassesOwn (model X.prog X.w) X.A X.env X.xe)(hc:X.calm=true)(hi:QI X tg e ti)(hg:PG X tg g)(ht:pQ X.K own p g)(hb:fA X body t)(hs:∀x,foldedSetIterable e X.env x=pure x:=by intro _;rfl):QS X (.For tg e body [] pos) (eN ti p t):=dN (G7 hp hc hi hg hb hs) λ_ _ _=>aM9 ht
end
section
variable {X:Cx}{pins:List (Addr×Obj)}{σ:St}{H:Hp}{s:Shared}{K:ad}{M M':Addr→Prop}
theorem nA.inj {a:Addr}{us ws:List V}(h:nA K a us)(h':nA K a ws):us=ws:=by
 obtain⟨o,its,n,e1,_,e2,_,v⟩:=h
 obtain⟨o',its',n',e1',_,e2',_,v'⟩:=h'
 rw[e1]at e1';cases e1'
 rw[e2]at e2';cases e2'
 exact v.inj v'
theorem Reps.self_of {n:Nat}(ih:∀{v:V}{x y:PV},aJ K M H v x->aJ K M' H v y->dS n x y=true->cJ n x y=true):∀{vs:List V}{xs ys:List PV},Reps K M H vs xs->Reps K M' H vs ys->((xs.zip ys).all λp=>dS n p.1 p.2)=true->(((xs.zip ys).all λp=>cJ n p.1 p.2)&&xs.length==ys.length)=true
 |_,_,_,.nil,.nil,_=>rfl
 |_,_,_,.cons r t,.cons r' t',o=>by
  simp only[bL8,bM4,bE5]at o
  have h1:=ih r r' o.1
  have h2:=Reps.self_of ih t t' o.2
  simp only[bL8,bM4,h1,Bool.true_and,bC7]at h2 ⊢
  rw[<- h2]
  congr 1
  simp
theorem aJ.self:∀(n:Nat) {v:V}{x y:PV},aJ K M H v x->aJ K M' H v y->dS n x y=true->cJ n x y=true:=by
 intro n
 induction n with
 |zero=>
  intro v x y r r' o
  cases r with
  |non=>cases r';rfl
  |bl b=>cases r';exact bJ7 b
  |int i=>cases r';exact bJ7 i
  |str z=>cases r';exact bJ7 z
  |_=>cases o
 |succ n ih=>
  intro v x y r r' o
  cases r with
  |non=>cases r';rfl
  |bl b=>cases r';exact bJ7 b
  |int i=>cases r';exact bJ7 i
  |str z=>cases r';exact bJ7 z
  |tup h rr=>
   cases r' with
   |tup h' rr'=>rw[h]at h';cases h';exact Reps.self_of ih rr rr' o
   |_=>cases o
  |lst _ h rr=>
   cases r' with
   |lst _ h' rr'=>rw[h]at h';cases h';exact Reps.self_of ih rr rr' o
   |_=>cases o
  |kt h rr=>
   cases r' with
   |kt h' rr'=>cases nA.inj h h';exact Reps.self_of ih rr rr' o
   |_=>cases o
  |_=>cases o
theorem Reps.self (n:Nat){vs:List V}{xs ys:List PV}(r:Reps K M H vs xs)(r':Reps K M' H vs ys)(o:((xs.zip ys).all λp=>dS n p.1 p.2)=true):(((xs.zip ys).all λp=>cJ n p.1 p.2)&&xs.length==ys.length)=true:=Reps.self_of (aJ.self n) r r' o
theorem kH (n:Nat)(xs ys:List PV):(List.range (min xs.length ys.length)).all (λj=>cJ n (xs.getD j .non) (ys.getD j .non))=(xs.zip ys).all λp=>cJ n p.1 p.2:=by
 rw[bF1]
 simp only[bH9,bP4]
 constructor
 ·intro h p hp
  obtain⟨j,hj,e⟩:=bO6 hp
  have hj':j<min xs.length ys.length:=by simpa using hj
  have:=h j hj'
  rw[List.getElem_zip]at e
  subst e
  have h1:j<xs.length:=by omega
  have h2:j<ys.length:=by omega
  simpa[bB9,h1,h2] using this
 ·intro h j hj
  have h1:j<xs.length:=by omega
  have h2:j<ys.length:=by omega
  have hz:j<(xs.zip ys).length:=by simp;omega
  have:=h _ (bM2 hz)
  rw[List.getElem_zip]at this
  simpa[bB9,h1,h2] using this
theorem aP7 (I:a7 X pins σ H s):∀(n:Nat) {A:Around}{v w:V}{x y:PV}{a b:Value},A.units+n<cLine->aJ X.K M H v x->aJ X.K M' H w y->b6 v a->b6 w b->dS n x y=true->SeqAt.EqAt A s a b (cJ n x y):=by
 intro n
 induction n with
 |zero=>
  intro A v w x y a b hu rx ry ra rb o
  cases rx with
  |non=>
   cases ra
   cases ry with
   |non=>cases rb;exact SeqAt.EqAt.same _
   |int i=>obtain⟨t',rfl⟩:=rb;exact SeqAt.EqAt.none_int _ _
   |_=>cases o
  |bl i=>
   cases ra
   cases ry with
   |bl j=>cases rb;exact SeqAt.EqAt.bool_bool _ _
   |_=>cases o
  |int i=>
   obtain⟨t,rfl⟩:=ra
   cases ry with
   |int j=>obtain⟨t',rfl⟩:=rb;exact SeqAt.EqAt.int_int _ _ _ _
   |non=>cases rb;exact SeqAt.EqAt.int_none _ _
   |_=>cases o
  |str i=>
   obtain⟨t,rfl⟩:=ra
   cases ry with
   |str j=>obtain⟨t',rfl⟩:=rb;exact SeqAt.EqAt.str_str _ _ _ _
   |_=>cases o
  |_=>cases o
 |succ n ih=>
  intro A v w x y a b hu rx ry ra rb o
  have items:∀{us ws:List V}{xs ys:List PV}{its its2:List Value},Reps X.K M H us xs->Reps X.K M' H ws ys->aO us its->aO ws its2->((xs.zip ys).all λp=>dS n p.1 p.2)=true->
    ∀j (h1:j<its.toArray.size) (h2:j<its2.toArray.size),SeqAt.EqAt A.in1 s its.toArray[j] its2.toArray[j] (cJ n (xs.getD j .non) (ys.getD j .non)):=λ{us ws xs ys its its2} r1 r2 v1 v2 ok j h1 h2=>by
   have l1:=v1.length
   have l2:=v2.length
   have m1:=r1.length
   have m2:=r2.length
   have k1:j<its.length:=by simpa using h1
   have k2:j<its2.length:=by simpa using h2
   have j1:j<us.length:=by omega
   have j2:j<ws.length:=by omega
   have i1:j<xs.length:=by omega
   have i2:j<ys.length:=by omega
   obtain⟨u,hu',ru⟩:=v1.get (bA6 j1)
   obtain⟨u2,hu2',ru2⟩:=v2.get (bA6 j2)
   obtain⟨x,hx,rx⟩:=r1.get (bA6 j1)
   obtain⟨y,hy,ry⟩:=r2.get (bA6 j2)
   have e1:its.toArray[j]=u:=by
    rw[bA6 k1]at hu'
    simpa using hu'
   have e2:its2.toArray[j]=u2:=by
    rw[bA6 k2]at hu2'
    simpa using hu2'
   have ok':dS n x y=true:=by
    rw[bH9]at ok
    have hz:j<(xs.zip ys).length:=by simp;omega
    have:=ok _ (bM2 hz)
    rw[List.getElem_zip]at this
    rw[bA6 i1]at hx
    rw[bA6 i2]at hy
    cases hx;cases hy
    exact this
   rw[e1,e2]
   have g1:xs.getD j .non=x:=by rw[bB9,hx];rfl
   have g2:ys.getD j .non=y:=by rw[bB9,hy];rfl
   rw[g1,g2]
   exact ih (by show A.units+1+n<cLine;omega) rx ry ru ru2 ok'
  have huA:A.units<cLine:=by omega
  cases rx with
  |@kt p us xs h1 r1=>
   obtain⟨its,v1,p1,_⟩:=I.tuple (.inr h1)
   cases (show a=Value.ref p from ra)
   cases ry with
   |@kt p2 ws ys h2 r2=>
    obtain⟨its2,v2,p2',_⟩:=I.tuple (.inr h2)
    cases (show b=Value.ref p2 from rb)
    by_cases e:p=p2
    ·subst e
     have:=aJ.self (K:=X.K) (M:=M) (M':=M') (n+1) (.kt h1 r1) (.kt h2 r2) o
     rw[this]
     exact SeqAt.EqAt.same _
    ·have:=SeqAt.RcAt.tuples p1 p2' huA (items r1 r2 v1 v2 o)
     refine .of_refs e ?_
     have l1:=v1.length
     have l2:=v2.length
     have m1:=r1.length
     have m2:=r2.length
     rw[bA2,bA2,<- l1,<- l2,m1,m2,kH]at this
     exact this
   |_=>cases o
  |@tup p us xs h1 r1=>
   obtain⟨its,v1,p1,_⟩:=I.tuple (aH.of (K:=X.K) h1)
   cases (show a=Value.ref p from ra)
   cases ry with
   |@tup p2 ws ys h2 r2=>
    obtain⟨its2,v2,p2',_⟩:=I.tuple (aH.of (K:=X.K) h2)
    cases (show b=Value.ref p2 from rb)
    by_cases e:p=p2
    ·subst e
     have:=aJ.self (K:=X.K) (M:=M) (M':=M') (n+1) (.tup h1 r1) (.tup h2 r2) o
     rw[this]
     exact SeqAt.EqAt.same _
    ·have:=SeqAt.RcAt.tuples p1 p2' huA (items r1 r2 v1 v2 o)
     refine .of_refs e ?_
     have l1:=v1.length
     have l2:=v2.length
     have m1:=r1.length
     have m2:=r2.length
     rw[bA2,bA2,<- l1,<- l2,m1,m2,kH]at this
     exact this
   |non=>cases rb;exact SeqAt.EqAt.tuple_none p1 huA
   |_=>cases o
  |@lst p us xs _ h1 r1=>
   obtain⟨its,v1,p1,_⟩:=I.list (aQ.of (K:=X.K) h1)
   cases (show a=Value.ref p from ra)
   cases ry with
   |@lst p2 ws ys _ h2 r2=>
    obtain⟨its2,v2,p2',_⟩:=I.list (aQ.of (K:=X.K) h2)
    cases (show b=Value.ref p2 from rb)
    have l1:=v1.length
    have l2:=v2.length
    have m1:=r1.length
    have m2:=r2.length
    by_cases e:p=p2
    ·subst e
     rw[h1]at h2;cases h2
     have:=Reps.self n r1 r2 o
     show SeqAt.EqAt A s _ _ ((xs.zip ys).all (λp=>cJ n p.1 p.2)&&xs.length==ys.length)
     rw[this]
     exact SeqAt.EqAt.same _
    ·refine .of_refs e ?_
     by_cases hl:xs.length=ys.length
     ·have:=SeqAt.RcAt.lists p1.isList p2'.isList (by rw[bA2,bA2];omega) huA (items r1 r2 v1 v2 o)
      have hm:min xs.length ys.length=its.length:=by omega
      rw[bA2,<- hm,kH]at this
      show SeqAt.RcAt A s _ _ ((xs.zip ys).all (λp=>cJ n p.1 p.2)&&xs.length==ys.length)
      rw[show (xs.length==ys.length)=true by simpa using hl,Bool.and_true]
      exact this
     ·have:=SeqAt.RcAt.lists_lengths (A:=A) p1.isList p2'.isList (by rw[bA2,bA2];simp;omega) huA
      show SeqAt.RcAt A s _ _ ((xs.zip ys).all (λp=>cJ n p.1 p.2)&&xs.length==ys.length)
      rw[show (xs.length==ys.length)=false by simpa using hl,bK2]
      exact this
   |_=>cases o
  |non=>
   cases ra
   cases ry with
   |non=>cases rb;exact SeqAt.EqAt.same _
   |int i=>obtain⟨t',rfl⟩:=rb;exact SeqAt.EqAt.none_int _ _
   |@tup p2 ws ys h2 r2=>
    obtain⟨its2,v2,p2',_⟩:=I.tuple (aH.of (K:=X.K) h2)
    cases (show b=Value.ref p2 from rb)
    exact SeqAt.EqAt.none_tuple p2' huA
   |_=>cases o
  |bl i=>
   cases ra
   cases ry with
   |bl j=>cases rb;exact SeqAt.EqAt.bool_bool _ _
   |_=>cases o
  |int i=>
   obtain⟨t,rfl⟩:=ra
   cases ry with
   |int j=>obtain⟨t',rfl⟩:=rb;exact SeqAt.EqAt.int_int _ _ _ _
   |non=>cases rb;exact SeqAt.EqAt.int_none _ _
   |_=>cases o
  |str i=>
   obtain⟨t,rfl⟩:=ra
   cases ry with
   |str j=>obtain⟨t',rfl⟩:=rb;exact SeqAt.EqAt.str_str _ _ _ _
   |_=>cases o
  |_=>cases o
end
structure Bt (mg:Str->Option Value):Prop where
 len:mg "len" = none
 range:mg "range" = none
 tuple:mg "tuple" = none
 list:mg "list" = none
 sorted:mg "sorted" = none
 all:mg "all" = none
 any:mg "any" = none
 zip:mg "zip" = none
 min:mg "min" = none
 max:mg "max" = none
 sum:mg "sum" = none
 isinst:mg "isinstance" = none
 int:mg "int" = none
 bool:mg "bool" = none
 enum:mg "enumerate" = none
section
variable {X:Cx}{a b c e o:Expr}{es cO:List Expr}{ta tb te to tk:aD}{tr:dB}{tA tB' tc:cH}{pos p2 px:Pos}{st:Stmt}{sts:List Stmt}{t u:aI}
theorem dO (B:Bt X.mg)(ha:QA X [e] tr)(hg:Gl X "len":=by rfl)(he:starEach [e] X.env=(false,eval e X.env)::starEach [] X.env:=by rfl)(hpl:(backTo pos (starEach [] X.env)).any (·.1)=false:=by rfl):QE X (.Call (.Name "len" p2) [e] [] pos) (aB dC tr):=
 gS (aC4.or aF1) aL6 hg B.len PySem.boot_len ha (he:=he) (hpl:=hpl)
theorem fL (B:Bt X.mg)(ha:QA X [e] tr)(hg:Gl X "tuple":=by rfl)(he:starEach [e] X.env=(false,eval e X.env)::starEach [] X.env:=by rfl)(hpl:(backTo pos (starEach [] X.env)).any (·.1)=false:=by rfl):QE X (.Call (.Name "tuple" p2) [e] [] pos) (aB dW tr):=
 xY aC6 aL7 hg B.tuple PyProof.Rows.boot_tuple ha (he:=he) (hpl:=hpl)
theorem yA (B:Bt X.mg)(ha:QA X [e] tr)(hg:Gl X "list":=by rfl)(he:starEach [e] X.env=(false,eval e X.env)::starEach [] X.env:=by rfl)(hpl:(backTo pos (starEach [] X.env)).any (·.1)=false:=by rfl):QE X (.Call (.Name "list" p2) [e] [] pos) (aB pM tr):=
 xY aC5 aL8 hg B.list PyProof.Rows.boot_list ha (he:=he) (hpl:=hpl)
theorem aP8 (B:Bt X.mg)(ha:QA X [e] tr)(hg:Gl X "sorted":=by rfl)(he:starEach [e] X.env=(false,eval e X.env)::starEach [] X.env:=by rfl)(hpl:(backTo pos (starEach [] X.env)).any (·.1)=false:=by rfl):QE X (.Call (.Name "sorted" p2) [e] [] pos) (aB xE tr):=
 gS Q8 aL9 hg B.sorted bN6 ha (he:=he) (hpl:=hpl)
theorem W5 (B:Bt X.mg)(hc:X.calm=true)(ha:QA X [e] tr)(hg:Gl X "all":=by rfl)(he:starEach [e] X.env=(false,eval e X.env)::starEach [] X.env:=by rfl)(hpl:(backTo pos (starEach [] X.env)).any (·.1)=false:=by rfl):QE X (.Call (.Name "all" p2) [e] [] pos) (aB pN tr):=
 gS (aI3 hc) aM0 hg B.all PyProof.Rows.boot_all ha (he:=he) (hpl:=hpl)
theorem aP9 (B:Bt X.mg)(hc:X.calm=true)(ha:QA X [a,b] tr)(hg:Gl X "min":=by rfl)(he:starEach [a,b] X.env=(false,eval a X.env)::starEach [b] X.env:=by rfl)(hpl:(backTo pos (starEach [b] X.env)).any (·.1)=false:=by rfl):QE X (.Call (.Name "min" p2) [a,b] [] pos) (aB xF tr):=
 gS (ay4 hc) aM1 hg B.min PyProof.Rows.boot_min ha (he:=he) (hpl:=hpl)
theorem yB (B:Bt X.mg)(hc:X.calm=true)(ha:QA X [a,b] tr)(hg:Gl X "max":=by rfl)(he:starEach [a,b] X.env=(false,eval a X.env)::starEach [b] X.env:=by rfl)(hpl:(backTo pos (starEach [b] X.env)).any (·.1)=false:=by rfl):QE X (.Call (.Name "max" p2) [a,b] [] pos) (aB pO tr):=
 gS (ay3 hc) aM2 hg B.max PyProof.Rows.boot_max ha (he:=he) (hpl:=hpl)
theorem W6 (ha:QE X a ta):QE X (.UnaryOp .USub a pos) (m5 ta):=cK (aw4 ax4 ha) λσ H Q' h=>by
 obtain⟨W,ρ,Q,px,q,k⟩:=h
 refine⟨W,ρ,_,px,q,?_⟩
 rintro v H1 x g s r ⟨i,rfl,q⟩
 cases r
 exact⟨i,rfl,k _ _ _ .fr s (.int _) q⟩
theorem W7 (x:Int):∀(xs:af),p6 (.int x) (xs.map V.int)=decide (x∈xs)
 |[]=>by simp[p6]
 |y::r=>by
  have ih:=W7 x r
  unfold p6 at ih ⊢
  rw[bF4,bP0,ih]
  by_cases e:y=x
  ·subst e;simp[iK]
  ·have:iK (.int y) (.int x)=false:=by simpa[iK] using e
   rw[this,Bool.false_or,bF1]
   simp[Ne.symm e]
theorem W8:∀(xs:af),(xs.map V.int).all jS=true
 |[]=>rfl
 |_::r=>by rw[bF4,bM4,W8 r];rfl
theorem W9 (neg:Bool):eL X (iT neg) (vT X.K neg):=by
 rintro W Hs H u v x y g g' Q Q' s n r1 r2 ⟨i,ns,rfl,e,q⟩ k
 cases r1
 obtain⟨a,us,rfl,hs,r⟩:=r2.seq e
 obtain rfl:=r.ofInts
 refine⟨a,_,rfl,hs,rfl,W8 ns,?_⟩
 have:=k _ _ _ .fr (aE.refl _) (.bl _) q
 rw[W7]
 cases neg<;>exact this
theorem nP (ha:QE X a ta)(hb:QE X b tb)(hm:behindInMarks .In b=false:=by rfl):QT X (.Compare a [.In] [b] pos) (aY (q2 (iT false) ta tb)):=lE aC2 (W9 false) ha hb hm
theorem X0 (ha:QE X a ta)(hb:QE X b tb)(hm:behindInMarks .NotIn b=false:=by rfl):QT X (.Compare a [.NotIn] [b] pos) (aY (q2 (iT true) ta tb)):=lE aC3 (W9 true) ha hb hm
theorem aJ.kt_ {K:ad}{M:Addr->Prop}{H:Hp}{v:V}{xs:List PV}(r:aJ K M H v (.kt xs)):∃a us,v = .ref a/\nA K a us/\Reps K M H us xs:=by
 cases r with
 |kt h r=>exact⟨_,_,rfl,h,r⟩
def X1 (K:ad)(H:Hp)(x:V)(t:Value):Prop:=fV K H x t∨∃a us,x = .ref a/\aH K H a us/\t = .type "tuple"
theorem aQ0:cN X (.builtin "isinstance") (λxs H Q=>∃x t n b,xs = [x,.ty n]/\X1 X.K H x t/\PySem.W.kitOne X.K t (.type n)=some b/\Q (.bl b) H):=by
 intro pins s σ H xs us Q I r h
 obtain⟨x,t,n,b,rfl,ty,e,q⟩:=h
 rcases ty with ty|⟨a,ws,rfl,hs,rfl⟩
 ·exact aH3 pins s σ H _ us Q I r ⟨x,t,n,b,rfl,ty,e,q⟩
 obtain⟨u,u',rfl,ru,ru'⟩:=oW r
 cases ru'
 cases (show u=Value.ref a from ru)
 obtain⟨its,_,⟨o,h1,h2,_⟩,_⟩:=I.tuple hs
 exact bH7 PySem.W.kitx_tuple I.kIn ⟨o,h1,h2⟩ e (λz=>nomatch z) λtk=>⟨.bl b,H,I.tok tk,rfl,q⟩
theorem aQ1 {K:ad}{M:Addr->Prop}{H:Hp}{v:V}{x:PV}{T:String}(r:aJ K M H v x)(e:V1 x=some T):X1 K H v (.type T):=by
 cases r with
 |non=>cases e;exact .inl .non
 |bl b=>cases e;exact .inl (.bl b)
 |int i=>cases e;exact .inl (.int i)
 |str i=>cases e;exact .inl (.str i)
 |tup h _=>cases e;exact .inl (.tup h)
 |lst _ h _=>cases e;exact .inl (.lst h)
 |kt h _=>cases e;exact .inr ⟨_,_,rfl,.inr h,rfl⟩
 |_=>cases e
theorem X2 {x:Str}{n:String}(B:Bt X.mg)(hn:bootBuiltins x=some (.type n))(hm:X.mg x=none)(ha:QE X a ta)(hg:Gl X "isinstance":=by rfl)(hgx:Gl X x:=by rfl)(hx:x≠"__name__":=by decide)(hdx:(x==("__debug__":Str))=false:=by decide)(he:starEach [a,.Name x px] X.env=(false,eval a X.env)::starEach [.Name x px] X.env:=by rfl)(he2:starEach [.Name x px] X.env=(false,eval (.Name x px) X.env)::starEach [] X.env:=by rfl)(hpl:(backTo pos (starEach [.Name x px] X.env)).any (·.1)=false:=by rfl):QE X (.Call (.Name "isinstance" p2) [a,.Name x px] [] pos) (pU X.K n ta):=
 cK (vN aQ0 hg B.isinst PyProof.Rows.boot_isinstance (eC ha (eC (at7 (v:=.ty n) hgx hm hn rfl hx hdx) fW he2) he) (he:=he) (hpl:=hpl)) λσ H Q' h=>by
  obtain⟨W,ρ,Q,px,q,k⟩:=h
  refine⟨W,ρ,_,px,q,?_⟩
  rintro v H1 x g s r ⟨T,b,e,kt,q⟩
  exact⟨v,_,n,b,rfl,aQ1 r e,kt,k _ _ _ .fr s (.bl _) q⟩
theorem aQ2 (B:Bt X.mg)(ha:QE X a ta)(hg:Gl X "isinstance":=by rfl)(hgx:Gl X "int":=by rfl)(he:starEach [a,.Name "int" px] X.env=(false,eval a X.env)::starEach [.Name "int" px] X.env:=by rfl)(he2:starEach [.Name "int" px] X.env=(false,eval (.Name "int" px) X.env)::starEach [] X.env:=by rfl)(hpl:(backTo pos (starEach [.Name "int" px] X.env)).any (·.1)=false:=by rfl):QE X (.Call (.Name "isinstance" p2) [a,.Name "int" px] [] pos) (pU X.K "int" ta):=X2 B PyProof.Rows.boot_int B.int ha (hg:=hg) (hgx:=hgx) (he:=he) (he2:=he2) (hpl:=hpl)
theorem aQ3 (B:Bt X.mg)(ha:QE X a ta)(hg:Gl X "isinstance":=by rfl)(hgx:Gl X "bool":=by rfl)(he:starEach [a,.Name "bool" px] X.env=(false,eval a X.env)::starEach [.Name "bool" px] X.env:=by rfl)(he2:starEach [.Name "bool" px] X.env=(false,eval (.Name "bool" px) X.env)::starEach [] X.env:=by rfl)(hpl:(backTo pos (starEach [.Name "bool" px] X.env)).any (·.1)=false:=by rfl):QE X (.Call (.Name "isinstance" p2) [a,.Name "bool" px] [] pos) (pU X.K "bool" ta):=X2 B PyProof.Rows.boot_bool B.bool ha (hg:=hg) (hgx:=hgx) (he:=he) (he2:=he2) (hpl:=hpl)
def yC (K:ad)(n:Nat)(neg:Bool):R2:=λv w H Q=>∃x y,aJ K (λ_=>True) H v x/\aJ K (λ_=>True) H w y/\((∃xs ys,x = .tup xs/\y = .tup ys)∨(∃xs ys,x = .lst xs/\y = .lst ys)∨(∃xs ys,x = .kt xs/\y = .kt ys))/\dS (n+1) x y=true/\Q (.bl (if neg=true then !cJ (n+1) x y else cJ (n+1) x y)) H
theorem nQ {pins:List (Addr×Obj)}{σ:St}{H:Hp}{s:Shared}{M M':Addr->Prop}(I:a7 X pins σ H s){n:Nat}{A:Around}(hu:A.units+(n+1)<cLine){us ws:List V}{xs ys:List PV}{its its2:List Value}(r1:Reps X.K M H us xs)(r2:Reps X.K M' H ws ys)(v1:aO us its)(v2:aO ws its2)(ok:((xs.zip ys).all λp=>dS n p.1 p.2)=true):∀j (h1:j<its.toArray.size) (h2:j<its2.toArray.size),SeqAt.EqAt A.in1 s its.toArray[j] its2.toArray[j] (cJ n (xs.getD j .non) (ys.getD j .non)):=by
 intro j h1 h2
 have l1:=v1.length
 have l2:=v2.length
 have m1:=r1.length
 have m2:=r2.length
 have k1:j<its.length:=by simpa using h1
 have k2:j<its2.length:=by simpa using h2
 have j1:j<us.length:=by omega
 have j2:j<ws.length:=by omega
 have i1:j<xs.length:=by omega
 have i2:j<ys.length:=by omega
 obtain⟨u,hu',ru⟩:=v1.get (bA6 j1)
 obtain⟨u2,hu2',ru2⟩:=v2.get (bA6 j2)
 obtain⟨x,hx,rx⟩:=r1.get (bA6 j1)
 obtain⟨y,hy,ry⟩:=r2.get (bA6 j2)
 have e1:its.toArray[j]=u:=by
  rw[bA6 k1]at hu'
  simpa using hu'
 have e2:its2.toArray[j]=u2:=by
  rw[bA6 k2]at hu2'
  simpa using hu2'
 have ok':dS n x y=true:=by
  rw[bH9]at ok
  have hz:j<(xs.zip ys).length:=by simp;omega
  have:=ok _ (bM2 hz)
  rw[List.getElem_zip]at this
  rw[bA6 i1]at hx
  rw[bA6 i2]at hy
  cases hx;cases hy
  exact this
 rw[e1,e2]
 have g1:xs.getD j .non=x:=by rw[bB9,hx];rfl
 have g2:ys.getD j .non=y:=by rw[bB9,hy];rfl
 rw[g1,g2]
 exact aP7 I n (by show A.units+1+n<cLine;omega) rx ry ru ru2 ok'
theorem aQ4 (n:Nat)(hu:X.A.units+(n+1)<cLine):c9 X (compareOp .Eq) (yC X.K n false):=by
 intro pins s σ H v w a b Q I ra rb h
 obtain⟨x,y,rx,ry,kd,o,q⟩:=h
 have hu0:X.A.units<cLine:=by omega
 rcases kd with⟨xs,ys,rfl,rfl⟩|⟨xs,ys,rfl,rfl⟩|⟨xs,ys,rfl,rfl⟩
 ·obtain⟨p,us,rfl,h1,r1⟩:=rx.sqT
  obtain⟨p2,ws,rfl,h2,r2⟩:=ry.sqT
  cases ra;cases rb
  obtain⟨its,v1,p1,_⟩:=I.tuple (aH.of (K:=X.K) h1)
  obtain⟨its2,v2,p2',_⟩:=I.tuple (aH.of (K:=X.K) h2)
  have l1:=v1.length
  have l2:=v2.length
  have m1:=r1.length
  have m2:=r2.length
  have:=SeqAt.RcAt.tuples p1 p2' hu0 (nQ I hu r1 r2 v1 v2 o)
  rw[bA2,bA2,<- l1,<- l2,m1,m2,kH]at this
  exact this _ _ _ _ ⟨.bl _,H,I,rfl,q⟩
 ·obtain⟨p,us,rfl,_,h1,r1⟩:=rx.sqL
  obtain⟨p2,ws,rfl,_,h2,r2⟩:=ry.sqL
  cases ra;cases rb
  obtain⟨its,v1,p1,_⟩:=I.list (aQ.of (K:=X.K) h1)
  obtain⟨its2,v2,p2',_⟩:=I.list (aQ.of (K:=X.K) h2)
  have l1:=v1.length
  have l2:=v2.length
  have m1:=r1.length
  have m2:=r2.length
  have q:Q (.bl ((xs.zip ys).all (λp=>cJ n p.1 p.2)&&xs.length==ys.length)) H:=q
  by_cases hl:xs.length=ys.length
  ·have:=SeqAt.RcAt.lists p1.isList p2'.isList (by rw[bA2,bA2];omega) hu0 (nQ I hu r1 r2 v1 v2 o)
   have hm:min xs.length ys.length=its.length:=by omega
   rw[bA2,<- hm,kH]at this
   rw[show (xs.length==ys.length)=true by simpa using hl,Bool.and_true]at q
   exact this _ _ _ _ ⟨.bl _,H,I,rfl,q⟩
  ·have:=SeqAt.RcAt.lists_lengths (A:=X.A) p1.isList p2'.isList (by rw[bA2,bA2];simp;omega) hu0
   rw[show (xs.length==ys.length)=false by simpa using hl,bK2]at q
   exact this _ _ _ _ ⟨.bl _,H,I,rfl,q⟩
 ·obtain⟨p,us,rfl,h1,r1⟩:=rx.kt_
  obtain⟨p2,ws,rfl,h2,r2⟩:=ry.kt_
  cases ra;cases rb
  obtain⟨its,v1,p1,_⟩:=I.tuple (.inr h1)
  obtain⟨its2,v2,p2',_⟩:=I.tuple (.inr h2)
  have l1:=v1.length
  have l2:=v2.length
  have m1:=r1.length
  have m2:=r2.length
  have:=SeqAt.RcAt.tuples p1 p2' hu0 (nQ I hu r1 r2 v1 v2 o)
  rw[bA2,bA2,<- l1,<- l2,m1,m2,kH]at this
  exact this _ _ _ _ ⟨.bl _,H,I,rfl,q⟩
theorem aQ5 (n:Nat)(hu:X.A.units+(n+1)<cLine):c9 X (compareOp .NotEq) (yC X.K n true):=by
 intro pins s σ H v w a b Q I ra rb h
 obtain⟨x,y,rx,ry,kd,o,q⟩:=h
 have hu0:X.A.units<cLine:=by omega
 rcases kd with⟨xs,ys,rfl,rfl⟩|⟨xs,ys,rfl,rfl⟩|⟨xs,ys,rfl,rfl⟩
 ·obtain⟨p,us,rfl,h1,r1⟩:=rx.sqT
  obtain⟨p2,ws,rfl,h2,r2⟩:=ry.sqT
  cases ra;cases rb
  obtain⟨its,v1,p1,_⟩:=I.tuple (aH.of (K:=X.K) h1)
  obtain⟨its2,v2,p2',_⟩:=I.tuple (aH.of (K:=X.K) h2)
  have l1:=v1.length
  have l2:=v2.length
  have m1:=r1.length
  have m2:=r2.length
  have:=SeqAt.RcNeAt.tuples p1 p2' hu0 (nQ I hu r1 r2 v1 v2 o)
  rw[bA2,bA2,<- l1,<- l2,m1,m2,kH]at this
  exact this _ _ _ _ ⟨.bl _,H,I,rfl,q⟩
 ·obtain⟨p,us,rfl,_,h1,r1⟩:=rx.sqL
  obtain⟨p2,ws,rfl,_,h2,r2⟩:=ry.sqL
  cases ra;cases rb
  obtain⟨its,v1,p1,_⟩:=I.list (aQ.of (K:=X.K) h1)
  obtain⟨its2,v2,p2',_⟩:=I.list (aQ.of (K:=X.K) h2)
  have l1:=v1.length
  have l2:=v2.length
  have m1:=r1.length
  have m2:=r2.length
  have q:Q (.bl (!((xs.zip ys).all (λp=>cJ n p.1 p.2)&&xs.length==ys.length))) H:=q
  by_cases hl:xs.length=ys.length
  ·have:=SeqAt.RcNeAt.lists p1.isList p2'.isList (by rw[bA2,bA2];omega) hu0 (nQ I hu r1 r2 v1 v2 o)
   have hm:min xs.length ys.length=its.length:=by omega
   rw[bA2,<- hm,kH]at this
   rw[show (xs.length==ys.length)=true by simpa using hl,Bool.and_true]at q
   exact this _ _ _ _ ⟨.bl _,H,I,rfl,q⟩
  ·have:=SeqAt.RcNeAt.lists_lengths (A:=X.A) p1.isList p2'.isList (by rw[bA2,bA2];simp;omega) hu0
   rw[show (xs.length==ys.length)=false by simpa using hl,bK2]at q
   exact this _ _ _ _ ⟨.bl _,H,I,rfl,q⟩
 ·obtain⟨p,us,rfl,h1,r1⟩:=rx.kt_
  obtain⟨p2,ws,rfl,h2,r2⟩:=ry.kt_
  cases ra;cases rb
  obtain⟨its,v1,p1,_⟩:=I.tuple (.inr h1)
  obtain⟨its2,v2,p2',_⟩:=I.tuple (.inr h2)
  have l1:=v1.length
  have l2:=v2.length
  have m1:=r1.length
  have m2:=r2.length
  have:=SeqAt.RcNeAt.tuples p1 p2' hu0 (nQ I hu r1 r2 v1 v2 o)
  rw[bA2,bA2,<- l1,<- l2,m1,m2,kH]at this
  exact this _ _ _ _ ⟨.bl _,H,I,rfl,q⟩
theorem X3 {n:Nat}{neg:Bool}:eL X (nJ n neg) (yC X.K n neg):=by
 rintro W Hs H u v x y g g' Q Q' s n r1 r2 ⟨kd,o,q⟩ k
 exact⟨x,y,r1.same (aE.refl _) λ_ _=>trivial,r2.same (aE.refl _) λ_ _=>trivial,kd.elim .inl λz=>.inr (.inl z),o,k _ _ _ .fr (aE.refl _) (.bl _) q⟩
theorem aQ6 (hu:X.A.units+3<cLine)(ha:QE X a ta)(hb:QE X b tb):QT X (.Compare a [.NotEq] [b] pos) (aY (q2 (nJ 2 true) ta tb)):=lE (aQ5 2 hu) X3 ha hb (iG _)
theorem X4 (hu:X.A.units+3<cLine)(ha:QE X a ta)(hb:QE X b tb):QE X (.Compare a [.Eq] [b] pos) (q2 (nJ 2 false) ta tb):=pW (aQ4 2 hu) X3 ha hb (iG _)
end
end PP
namespace PP
open PySem L2 PyProof.Rows
def LO (X:Cx)(t:nK):TO:=λσ H Q'=>∃(W:Addr->Prop) (ρ:bN) (Q:Option Int->Prop),PX X.K X.H₀ W σ ρ H/\t ρ Q/\∀o H',aE H H'->Q o->Q' o H'
def QO (X:Cx)(e:Option Expr)(t:nK):Prop:=PO X e (LO X t)
theorem Reps.cut {K:ad}{M:Addr->Prop}{H:Hp}{us:List V}{xs:List PV}(r:Reps K M H us xs)(lo hi:Option Int):Reps K M H (iJ us lo hi) (fH xs lo hi):=by
 unfold iJ fH
 rw[r.length]
 exact (r.drop _).take _
section
variable {X:Cx}{a b c e o:Expr}{es cO:List Expr}{ta tb te to tk:aD}{tr:dB}{tA tB' tc:cH}{pos p2 px:Pos}{st:Stmt}{sts:List Stmt}{t u:aI}
theorem yD:QO X none sF:=λpins s σ H Q I h=>aA6 pins s σ H Q I (by
 obtain⟨W,ρ,Q1,px,q,k⟩:=h
 exact k _ _ (aE.refl _) q)
theorem yE (h:QE X e te):QO X (some e) (sG te):=λpins s σ H Q I hq=>aA7 h pins s σ H Q I (by
 obtain⟨W,ρ,Q1,px,q,k⟩:=hq
 refine⟨W,ρ,_,px,q,?_⟩
 rintro v H1 x g s r ⟨i,rfl,q⟩
 cases r
 exact⟨i,rfl,k _ _ s q⟩)
theorem yF {lo hi:Option Expr}{tl th:nK}{sp:Pos}(he:QE X e te)(hl:QO X lo tl)(hh:QO X hi th):QE X (.Subscript e (.Slice lo hi none sp) pos) (sH te tl th):=cK (aA8 (aC0.or aI6) he hl hh) λσ H Q' h=>by
 obtain⟨W,ρ,Q,px,q,k⟩:=h
 refine⟨W,ρ,_,px,q,λv H1 x g s1 r1 q1=>⟨W,ρ,_,px.mono s1,q1,λlo H2 s2 q2=>⟨W,ρ,_,px.mono (s1.trans s2),q2,?_⟩⟩⟩
 rintro hi H3 s3 ⟨xs,e,f,q3⟩
 have S:=(s1.trans s2).trans s3
 have r3:=r1.same (M':=Mg X.H₀ W H g) (s2.trans s3) λ_ z=>z
 cases r3 with
 |tup h r=>
  cases e
  refine .inr ⟨_,_,rfl,aH.of h,λp hp=>k _ _ _ .fr (S.trans (bK hp _)) (.tup bJ (((r.flat f).cut lo hi).same (bK hp _) λ_ z=>z)) q3,λec=>k _ _ _ .fr S (.tup h ?_) q3⟩
  have:=(r.flat (M':=Mg X.H₀ W H .fr) f).cut lo hi
  rw[ec]at this
  exact this
 |lst m h r=>
  cases e
  exact .inl ⟨_,_,rfl,aQ.of h,λp hp=>k _ _ _ .fr (S.trans (bK hp _)) (.lst (S.free hp) bJ (((r.flat f).cut lo hi).same (bK hp _) λ_ z=>z)) q3⟩
 |scr h=>
  cases e
  exact .inl ⟨_,_,rfl,h.sqL,λp hp=>k _ _ _ .fr (S.trans (bK hp _)) (.lst (S.free hp) bJ (((Reps.intz _).cut lo hi).same (bK hp _) λ_ z=>z)) q3⟩
 |_=>cases e
structure Df (P:Program)(w:World)(K:ad)(mg:Str->Option Value)(base:Heap)(k:Nat)(x:Str)(ps:List Str)(p:bF):Prop where
 ex:∃f fd,dQ P w K mg base eW k f fd ps (pP K p)/\jQ K fd ps []/\PySem.W.keepIn K (.ref f)=true/\mg x=some (.ref f)
theorem b8 {k j:Nat}{x:Str}{ps:List Str}{p:bF}(d:Df X.prog X.w X.K X.mg X.base k x ps p)(hr:cF j X.A)(ha:QA X (e::es) tr)(hkj:k<=j:=by decide)(hg:Gl X x:=by rfl)(hdb:(x==("__debug__":Str))=false:=by decide)(he:starEach (e::es) X.env=(false,eval e X.env)::starEach es X.env:=by rfl)(hpl:(backTo pos (starEach es X.env)).any (·.1)=false:=by rfl):QE X (.Call (.Name x p2) (e::es) [] pos) (aB p tr):=by
 obtain⟨f,fd,F,b,kp,m⟩:=d.ex
 exact cK (vL F (hr.mono hkj) hg m kp b .nil aE9 ha hdb he hpl) λ_ _ _=>aM3
theorem yG {K:ad}{H:Hp}{N:List Str}{vs:List V}{xs:List PV}(r:Reps K (λ_=>True) H vs xs):PX K H (λ_=>False) (L2.i4 N vs) (gD N xs) H:=by
 have lr:=r.length
 have own:∀{i:Nat}{m:Slot},(gD N xs)[i]? = some (some m)->∃x,xs[i]? = some x/\m = .sh (flat x) x:=λ{i m} h=>by
  unfold gD at h
  by_cases hi:i<xs.length
  ·rw[bF6 (by simpa using hi),bB6]at h
   rw[bA6 hi]at h ⊢
   cases h
   exact⟨_,rfl,rfl⟩
  ·rw[bI4 (by simpa using hi),List.getElem?_replicate]at h
   split at h<;>cases h
 refine⟨by unfold L2.i4 gD;simp[lr],aE.refl _,λa z=>z.elim,λi m h=>?_,λi j x y a h1=>?_⟩
 ·obtain⟨x,hx,rfl⟩:=own h
  obtain⟨v,hv,rx⟩:=r.at hx
  refine⟨v,?_,sC (g:=false) (rx.same (aE.refl _) λ_ _ z=>z)⟩
  have hi:i<vs.length:=(bB0.mp hv).1
  unfold L2.i4
  rw[bF6 (by simpa using hi),bB6,hv];rfl
 ·obtain⟨x,_,e⟩:=own h1
  cases e
theorem Df.of {P:Program}{w:World}{K:ad}{mg:Str->Option Value}{base:Heap}{k:Nat}{x:Str}{ps N:List Str}{p:bF}{st:Stmt}{f:Addr}{fd:FuncData}(F:fX K x x st f fd)(m:mg x=some (.ref f))(S:FnScope N ps (aV st))(hb:∀(kV doc pm:Value) (an:Option Addr) (cdv ct:Value) (us:List Value),us.length=ps.length->bindArgs (PySem.W.fnOf x x (jT st) (eV st) (aV st) .none kV doc pm an cdv ct) ⟨us,[]⟩=pure (ps.zip us))(len:∀xs Q,p xs Q->xs.length=ps.length)(body:∀(cdv:Value) (A:Around) (outer:List Env) (s:Shared) (H:Hp) (E:XK),cF k (A.deeper (envOfC x (aV st) s.heap.objs.size f cdv))->
   ∃t,fA (dR eW P w K mg base N x (aV st) f cdv A outer s H E).nox (eV st) t/\∀xs Q,p xs Q->t { nx:=λ_=>Q .non,rt:=Q } (gD N xs)):Df P w K mg base (k+1) x ps p:=by
 refine⟨f,fd,F.ok S (λvs H Q E h=>?_) (λcdv A outer s H vs Q E hr h=>?_),F.binds hb,F.kp,m⟩
 ·obtain⟨xs,Qp,r,q,_⟩:=h
  rw[r.length];exact len xs Qp q
 ·obtain⟨xs,Qp,r,q,k⟩:=h
  obtain⟨t,ht,hq⟩:=body cdv A outer s H E hr
  refine⟨_,ht,λ_=>False,gD N xs,_,yG r,hq xs Qp q,?_,?_,?_,?_⟩
  ·exact λW' σ' H' ρ' e px q=>k _ _ _ px.same .non q
  ·exact λv H' x s r q=>k _ _ _ s r q
  ·exact λW' σ' H' ρ' e px q=>q
  ·exact λW' σ' H' ρ' e px q=>q
theorem gT (i:Nat){x:Str}{tp:Pos}{body:List Stmt}{ti:eM}(hN:X.N.Nodup)(hi:QI X (.Name x tp) e ti)(hb:fA X body t)(hx:X.N[i]? = some x:=by rfl)(hl:j8 X.env.scope x:=by first|exact Or.inl rfl|exact Or.inr rfl)(hf:X.fn x=true∨X.env.scope.names.lookup x=some .local:=by first|exact .inl rfl|exact .inr rfl)(hp:PassesOwn (model X.prog X.w) X.A X.env X.xe:=by exact PassesOwn.never)(hc:X.calm=true:=by rfl)(hs:∀x,foldedSetIterable e X.env x=pure x:=by intro _;rfl):QS X (.For (.Name x tp) e body [] pos) (eN ti (bQ i) t):=
 W0 hp hc hi (j9 hN hx hl hf) (pR _ i) hb hs
theorem aQ7 (i j:Nat){x y:Str}{tp xp yp:Pos}{kt:Nat}{body:List Stmt}{ti:eM}(hN:X.N.Nodup)(hi:QI X (.Tuple [.Name x xp,.Name y yp] kt tp) e ti)(hb:fA X body t)(hx:X.N[i]? = some x:=by rfl)(hy:X.N[j]? = some y:=by rfl)(hlx:j8 X.env.scope x:=by first|exact Or.inl rfl|exact Or.inr rfl)(hly:j8 X.env.scope y:=by first|exact Or.inl rfl|exact Or.inr rfl)(hfx:X.fn x=true∨X.env.scope.names.lookup x=some .local:=by first|exact .inl rfl|exact .inr rfl)(hfy:X.fn y=true∨X.env.scope.names.lookup y=some .local:=by first|exact .inl rfl|exact .inr rfl)(hp:PassesOwn (model X.prog X.w) X.A X.env X.xe:=by exact PassesOwn.never)(hc:X.calm=true:=by rfl)(hs:∀x,foldedSetIterable e X.env x=pure x:=by intro _;rfl):QS X (.For (.Tuple [.Name x xp,.Name y yp] kt tp) e body [] pos) (eN ti (lZ i j) t):=
 W0 hp hc hi (v9 hc (mS (j9 hN hx hlx hfx) (mS (j9 hN hy hly hfy) v8))) (xI _ i j) hb hs
abbrev c7:Value->Shared->Prop:=λ_ _=>False
section
variable {scope:Scope}{N:List Str}{fr:List (Option Nat)}{x y:Str}{tp xp yp:Pos}{kt:Nat}{iter elt:Expr}{ti:eM}
theorem yH {ifs:List Expr}{tcs:cH}(he:∀(s:Shared) (H:Hp) (C:Addr) (fp:List Addr),QE (bM X scope N s H C fp c7) elt te)(hi:∀(s:Shared) (H:Hp) (C:Addr) (fp:List Addr),jV (bM X scope N s H C fp c7) ifs (LT (bM X scope N s H C fp c7) tcs))(hN:N.Nodup)(h0:N[0]? = some x)(hl:∀(s:Shared) (H:Hp) (C:Addr) (fp:List Addr),(bM X scope N s H C fp c7).env.scope.names.lookup x=some .local)(s:Shared)(H:Hp) :
  lU X scope N (.Name x tp) ifs elt s H (dL 0) (LT (X.frm H) tcs) (LE (X.frm H) te):=
 ⟨λC fp=>j9 (X:=bM X scope N s H C fp c7) hN h0 (.inl (hl s H C fp)) (.inr (hl s H C fp)),λC fp=>hi s H C fp,λC fp=>he s H C fp⟩
theorem yI {Y:Cx}:jV Y [] (LT Y eD):=λpins s σ H Q I h=>P6 pins s σ H Q I (aN1 h)
theorem lG (hi:QI X (.Name x tp) iter ti)(he:∀(s:Shared) (H:Hp) (C:Addr) (fp:List Addr),QE (bM X scope N s H C fp c7) elt te)(hc:X.calm=true:=by rfl)(S:dM X scope N fr:=by exact dM.of rfl rfl)(hN:N.Nodup:=by decide +kernel)(h0:N[0]? = some x:=by rfl)(hl:∀(s:Shared) (H:Hp) (C:Addr) (fp:List Addr),(bM X scope N s H C fp c7).env.scope.names.lookup x=some .local:=by intro _ _ _ _;rfl)(hf:fr[0]? = some none:=by rfl)(hs:∀x,foldedSetIterable iter X.env x=pure x:=by intro _;rfl):QE X (.ListComp elt [⟨.Name x tp,iter,[],0⟩] scope pos) (cQ ti fr (bQ 0) eD te):=
 cK (wL (gh:=λ_=>dL 0) (tch:=λH=>LT (X.frm H) eD) (teh:=λH=>LE (X.frm H) te) hc S hi (yH he (λ_ _ _ _=>yI) hN h0 hl) hs) λ_ _ _=>nI (pR _ 0) (λi e=>by subst e;exact hf)
theorem kI {c:Expr}{tcs:cH}(hi:QI X (.Name x tp) iter ti)(ht:∀(s:Shared) (H:Hp) (C:Addr) (fp:List Addr),QT (bM X scope N s H C fp c7) c tcs)(he:∀(s:Shared) (H:Hp) (C:Addr) (fp:List Addr),QE (bM X scope N s H C fp c7) elt te)(hc:X.calm=true:=by rfl)(S:dM X scope N fr:=by exact dM.of rfl rfl)(hN:N.Nodup:=by decide +kernel)(h0:N[0]? = some x:=by rfl)(hl:∀(s:Shared) (H:Hp) (C:Addr) (fp:List Addr),(bM X scope N s H C fp c7).env.scope.names.lookup x=some .local:=by intro _ _ _ _;rfl)(hf:fr[0]? = some none:=by rfl)(hs:∀x,foldedSetIterable iter X.env x=pure x:=by intro _;rfl):QE X (.ListComp elt [⟨.Name x tp,iter,[c],0⟩] scope pos) (cQ ti fr (bQ 0) tcs te):=
 cK (wL (gh:=λ_=>dL 0) (tch:=λH=>LT (X.frm H) tcs) (teh:=λH=>LE (X.frm H) te) hc S hi (yH he (λs H C fp=>wG (ht s H C fp)) hN h0 hl) hs) λ_ _ _=>nI (pR _ 0) (λi e=>by subst e;exact hf)
theorem aQ8 {c:Expr}{tcs:cH}{i:Nat}{z:Str}{zp:Pos}(nd:X.N.Nodup)(hi:QI X (.Name x tp) iter ti)(ht:∀(s:Shared) (H:Hp) (C:Addr) (fp:List Addr),QT (bM X scope N s H C fp c7) c tcs)(he:∀(s:Shared) (H:Hp) (C:Addr) (fp:List Addr),QE (bM X scope N s H C fp c7) elt te)(hz:X.N[i]? = some z:=by rfl)(hzl:X.env.scope.names.lookup z=some .local:=by rfl)(hsw:swapsWith (.ListComp elt [⟨.Name x tp,iter,[c],0⟩] scope p2) (some (.Name z zp)) pos.line X.env=pure true:=by rfl)(hc:X.calm=true:=by rfl)(S:dM X scope N fr:=by exact dM.of rfl rfl)(hN:N.Nodup:=by decide +kernel)(h0:N[0]? = some x:=by rfl)(hl:∀(s:Shared) (H:Hp) (C:Addr) (fp:List Addr),(bM X scope N s H C fp c7).env.scope.names.lookup x=some .local:=by intro _ _ _ _;rfl)(hf:fr[0]? = some none:=by rfl)(hs:∀x,foldedSetIterable iter X.env x=pure x:=by intro _;rfl):QS X (.Assign [.Name z zp] (.ListComp elt [⟨.Name x tp,iter,[c],0⟩] scope p2) pos) (bE i (cQ ti fr (bQ 0) tcs te)):=
 dN (wM (gh:=λ_=>dL 0) (tch:=λH=>LT (X.frm H) tcs) (teh:=λH=>LE (X.frm H) te) hc S hi (yH he (λs H C fp=>wG (ht s H C fp)) hN h0 hl) nd hz hzl hsw hs) λD σ H h=>nI (pR _ 0) (λi e=>by subst e;exact hf) (sA h)
end
theorem aQ9 (i:Nat){x:Str}{apos cpos xpos:Pos}(he:QE X e te)(hm:M1 X (.Name x xpos) "update" apos e cpos:=by exact⟨rfl,rfl,rfl,rfl⟩)(hN:X.N[i]? = some x:=by rfl)(hv:fU X.env.scope x:=by first|exact Or.inl rfl|exact Or.inr (Or.inl rfl)|exact Or.inr (Or.inr rfl))(hd:(x==("__debug__":Str))=false:=by decide)(hcd:(x==("__classdict__":Str))=false:=by decide)(hsw:swapsWith (.Call (.Attribute (.Name x xpos) "update" apos) [e] [] cpos) none pos.line X.env=pure false:=by rfl):QS X (.Expr (.Call (.Attribute (.Name x xpos) "update" apos) [e] [] cpos) pos) (xM i te):=
 dN (lQ (aJ0 (iF hN hv hd hcd) he hm) hsw) λ_ _ _=>aN8
end
end PP
namespace SO
open PySem PyProof.Rows
section
variable (rk:Keyed→Int)
def Kr (xs:Array Keyed)(i:Nat):Int:=((xs[i]?).map rk).getD 0
def Up (xs:Array Keyed)(lo hi:Nat):Prop:=∀i j,lo<=i->i<=j->j<hi->Kr rk xs i<=Kr rk xs j
def Dn (xs:Array Keyed)(lo hi:Nat):Prop:=∀i j,lo<=i->i<=j->j<hi->Kr rk xs j<=Kr rk xs i
end
variable {rk:Keyed→Int}
theorem m8 {xs ys:Array Keyed}{i j:Nat}(h:xs[i]? = ys[j]?):Kr rk xs i=Kr rk ys j:=by unfold Kr;rw[h]
theorem sL {xs:Array Keyed}{i j:Nat}(hj:j<=xs.size)(k:Nat):Kr rk (mirror xs i j ((j-i)/2)) k=Kr rk xs (if i<=k/\k<j then i+j-1-k else k):=by
 refine m8 ?_
 rw[getElem?_mirror_all hj]
 split<;>rfl
theorem yJ {xs:Array Keyed}{i j:Nat}(hj:j<=xs.size)(e:∀k,i<=k->k<j->Kr rk xs k=Kr rk xs (j-1))(k:Nat):Kr rk (mirror xs i j ((j-i)/2)) k=Kr rk xs k:=by
 rw[sL hj]
 split
 ·rename_i h;rw[e k h.1 h.2,e _ (by omega) (by omega)]
 ·rfl
theorem aR0 {xs:Array Keyed}{src d:Nat}(hs:src<xs.size)(hd:d<=src)(k:Nat):Kr rk (bubble xs src d) k=Kr rk xs (if k=src-d then src else if src-d<k/\k<=src then k-1 else k):=by
 refine m8 ?_
 rw[getElem?_bubble hs d hd]
 repeat' split
 all_goals rfl
structure SB (κ:SortKind)(a0:Array Keyed)(pd:Array (Nat×Nat×Nat))(st:SortSt):Prop where
 pm:(arrOf st).Perm a0
 kd:kindOf st=κ
 ok:failedOf st=none
 pd:pendingOf st=pd
section
variable {κ:SortKind}{a0:Array Keyed}{pd:Array (Nat×Nat×Nat)}{st:SortSt}{prog:Program}{w:World}{A:Around}{E:Value→Shared→Prop}{s:Shared}{Ok:Keyed→Prop}
theorem SB.sz (h:SB κ a0 pd st):(arrOf st).size=a0.size:=h.pm.size_eq
theorem SB.put (h:SB κ a0 pd st){xs:Array Keyed}(hp:xs.Perm (arrOf st)):SB κ a0 pd (setArr st xs):=⟨hp.trans h.pm,h.kd,h.ok,h.pd⟩
def cW (prog:Program)(w:World)(A:Around)(E:Value->Shared->Prop)(s:Shared)(κ:SortKind)(Ok:Keyed->Prop)(rk:Keyed->Int):Prop:=
 ∀(x y:Keyed),Ok x->Ok y->∀(st:SortSt) (Q:Option Bool->SortSt->Prop),kindOf st=κ->Q (some (decide (rk x<rk y))) st->wpS (model prog w) A E s (lt' x y) Q st
def bT (Ok:Keyed->Prop)(xs:Array Keyed):Prop:=∀x∈xs,Ok x
theorem SB.all (h:SB κ a0 pd st)(o:bT Ok a0):bT Ok (arrOf st):=λx hx=>o x (h.pm.mem_iff.mp hx)
theorem dI {xs:Array Keyed}{i:Nat}{Q:Keyed->SortSt->Prop}(hi:i<xs.size)(h:Q xs[i] st):wpS (model prog w) A E s (elem' xs i) Q st:=by
 rw[elem'_eq,getElem?_pos xs i hi];exact bC4 h
theorem cL {xs:Array Keyed}{i:Nat}(hi:i<xs.size):Kr rk xs i=rk xs[i]:=by unfold Kr;rw[getElem?_pos xs i hi];rfl
theorem pY (c:cW prog w A E s κ Ok rk)(o:bT Ok a0)(b:SB κ a0 pd st){i j:Nat}{Q:Option Bool->SortSt->Prop}(hi:i<a0.size)(hj:j<a0.size)(h:Q (some (decide (Kr rk (arrOf st) i<Kr rk (arrOf st) j))) st):wpS (model prog w) A E s (ltAt' i j) Q st:=by
 have hi':i<(arrOf st).size:=by rw[b.sz];exact hi
 have hj':j<(arrOf st).size:=by rw[b.sz];exact hj
 rw[ltAt'_eq]
 refine bB5 (wpS_get (bB5 (dI hi' (bB5 (dI hj' ?_)))))
 refine c _ _ (b.all o _ (bG3 hi')) (b.all o _ (bG3 hj')) st Q b.kd ?_
 rw[<- cL (rk:=rk) hi',<- cL (rk:=rk) hj'];exact h
theorem sM {i j:Nat}{Q:Unit->SortSt->Prop}(h:Q () (setArr st (mirror (arrOf st) i j ((j-i)/2)))):wpS (model prog w) A E s (reverseSlice' i j) Q st:=by
 rw[reverseSlice'_eq];exact wpS_modify h
abbrev CS:=Option (Option Nat)×Nat
abbrev DS:=Option (Option Nat)×Nat×Nat
def pZ (lo b nrem:Nat):StateT SortSt Sem CS:=forIn [b:nrem] ((none,b):CS) λ_ r=>do
 match <- ltAt' (lo+r.2) (lo+r.2-1) with
 |some q=>if q=true then pure (ForInStep.done (none,r.2)) else pure (ForInStep.yield (none,r.2+1))
 |_=>pure (ForInStep.done (some none,r.2))
def yK (lo b nrem:Nat):StateT SortSt Sem DS:=forIn [b:nrem] ((none,b,0):DS) λ_ r=>do
 match <- ltAt' (lo+r.2.1) (lo+r.2.1-1) with
 |some q=>
  if q=true then (if r.2.2>0 then do reverseSlice' (lo+r.2.1-(r.2.2+1)) (lo+r.2.1);pure (ForInStep.yield (none,r.2.1+1,0)) else pure (ForInStep.yield (none,r.2.1+1,0)))
  else do
   match <- ltAt' (lo+r.2.1-1) (lo+r.2.1) with
   |some q=>if q=true then pure (ForInStep.done (none,r.2.1,r.2.2)) else pure (ForInStep.yield (none,r.2.1+1,r.2.2+1))
   |_=>pure (ForInStep.done (some none,r.2.1,r.2.2))
 |_=>pure (ForInStep.done (some none,r.2.1,r.2.2))
theorem X5 (c:cW prog w A E s κ Ok rk)(o:bT Ok a0)(b:SB κ a0 pd st){lo n nrem:Nat}{Q:CS->SortSt->Prop}(hz:lo+nrem<=a0.size)(h1:1<=n)(hn:n<=nrem)(u:Up rk (arrOf st) lo (lo+n))(h:∀m,n<=m->m<=nrem->Up rk (arrOf st) lo (lo+m)->(m=nrem∨Kr rk (arrOf st) (lo+m)<Kr rk (arrOf st) (lo+m-1))->Q (none,m) st):wpS (model prog w) A E s (pZ lo n nrem) Q st:=by
 unfold pZ
 refine bJ5 (I:=λx r st'=>st'=st/\r=(none,x)/\Up rk (arrOf st) lo (lo+x)) ?_ ?_ ⟨rfl,rfl,u⟩
 ·rintro x r st' hx hx' ⟨rfl,rfl,u'⟩
  refine bB5 (pY c o b (by omega) (by omega) ?_)
  by_cases hq:Kr rk (arrOf st') (lo+x)<Kr rk (arrOf st') (lo+x-1)
  ·rw[bz9 hq]
   exact bC4 (h x hx (by omega) u' (.inr hq))
  ·rw[bA0 hq]
   refine bC4 ⟨rfl,rfl,λi j hi hij hj=>?_⟩
   rcases bG0 j (lo+x) with z|z
   ·exact u' i j hi hij z
   ·have ej:j=lo+x:=by omega
    subst ej
    rcases bP7 hij with z|z
    ·rw[z];exact bQ3 _
    ·have:=u' i (lo+x-1) hi (by omega) (by omega)
     omega
 ·rintro r st' ⟨rfl,rfl,u'⟩
  have em:max n nrem=nrem:=by omega
  rw[em]at u' ⊢
  exact h nrem hn (bA3 _) u' (.inl rfl)
structure qA (rk:Keyed->Int)(xs ys:Array Keyed)(lo m q:Nat):Prop where
 dn:Dn rk ys lo (lo+m)
 le:q+1<=m
 eq:∀i,lo+m-(q+1)<=i->i<lo+m->Kr rk ys i=Kr rk ys (lo+m-1)
 low:∀i,i<lo->Kr rk ys i=Kr rk xs i
theorem aR1 (c:cW prog w A E s κ Ok rk)(o:bT Ok a0)(b:SB κ a0 pd st){lo n nrem:Nat}{xs:Array Keyed}{Q:DS->SortSt->Prop}(hz:lo+nrem<=a0.size)(h1:1<=n)(hn:n<=nrem)(u:qA rk xs (arrOf st) lo n 0)(h:∀m q st',SB κ a0 pd st'->n<=m->m<=nrem->qA rk xs (arrOf st') lo m q->Q (none,m,q) st'):wpS (model prog w) A E s (yK lo n nrem) Q st:=by
 unfold yK
 refine bJ5 (I:=λx r st'=>∃q,r=(none,x,q)/\SB κ a0 pd st'/\qA rk xs (arrOf st') lo x q) ?_ ?_ ⟨0,rfl,b,u⟩
 ·rintro x r st' hx hx' ⟨q,rfl,b',f⟩
  have sz:=b'.sz
  dsimp only
  refine bB5 (pY c o b' (by omega) (by omega) ?_)
  by_cases hq:Kr rk (arrOf st') (lo+x)<Kr rk (arrOf st') (lo+x-1)
  ·rw[bz9 hq]
   have nx:∀ys:Array Keyed,(∀k,Kr rk ys k=Kr rk (arrOf st') k)->qA rk xs ys lo (x+1) 0:=λys e=>by
    refine⟨λi j hi hij hj=>?_,by omega,λi h1 h2=>by rw[show i=lo+(x+1)-1 by omega],λi hi=>(e i).trans (f.low i hi)⟩
    rw[e,e]
    rcases bG0 j (lo+x) with z|z
    ·exact f.dn i j hi hij z
    ·have ej:j=lo+x:=by omega
     subst ej
     rcases bP7 hij with z|z
     ·rw[z];exact bQ3 _
     ·have:=f.dn i (lo+x-1) hi (by omega) (by omega)
      omega
   dsimp only
   rw[if_pos rfl]
   by_cases hp:q>0
   ·rw[if_pos hp]
    exact bB5 (sM (bC4 ⟨0,rfl,b'.put (mirror_perm _ _ _ _),nx _ (yJ (by omega) f.eq)⟩))
   ·rw[if_neg hp]
    exact bC4 ⟨0,rfl,b',nx _ λ_=>rfl⟩
  ·rw[bA0 hq]
   dsimp only
   rw[if_neg bC1]
   refine bB5 (pY c o b' (by omega) (by omega) ?_)
   by_cases hl:Kr rk (arrOf st') (lo+x-1)<Kr rk (arrOf st') (lo+x)
   ·rw[bz9 hl]
    exact bC4 (h x q st' b' hx (by omega) f)
   ·rw[bA0 hl]
    have ex:Kr rk (arrOf st') (lo+x)=Kr rk (arrOf st') (lo+x-1):=by omega
    refine bC4 ⟨q+1,rfl,b',λi j hi hij hj=>?_,by have:=f.le;omega,λi h1 h2=>?_,f.low⟩
    ·rcases bG0 j (lo+x) with z|z
     ·exact f.dn i j hi hij z
     ·have ej:j=lo+x:=by omega
      subst ej
      rcases bP7 hij with z|z
      ·rw[z];exact bQ3 _
      ·rw[ex];exact f.dn i (lo+x-1) hi (by omega) (by omega)
    ·rw[show lo+(x+1)-1=lo+x by omega]
     rcases bG0 i (lo+x) with z|z
     ·rw[ex];exact f.eq i (by omega) z
     ·rw[show i=lo+x by omega]
 ·rintro r st' ⟨q,rfl,b',f⟩
  have em:max n nrem=nrem:=by omega
  rw[em]at f ⊢
  exact h nrem q st' b' hn (bA3 _) f
theorem X6 (c:cW prog w A E s κ Ok rk)(o:bT Ok a0)(b:SB κ a0 pd st){lo nrem:Nat}(n:Nat){xs:Array Keyed}{Q:Option Nat->SortSt->Prop}{K:DS->StateT SortSt Sem (Option Nat)}{k:CS->StateT SortSt Sem (Option Nat)}(hz:lo+nrem<=a0.size)(hn:n+1<=nrem)(hK:∀m q,K (none,m,q)=if q>0 then reverseSlice' (lo+m-(q+1)) (lo+m) >>= λ_=>reverseSlice' lo (lo+m) >>= λ_=>pZ lo m nrem >>= k else reverseSlice' lo (lo+m) >>= λ_=>pZ lo m nrem >>= k)(hk:∀m,k (none,m)=pure (some m))(u:qA rk xs (arrOf st) lo (n+1) 0)(h:∀m st',SB κ a0 pd st'->1<=m->m<=nrem->Up rk (arrOf st') lo (lo+m)->(∀i,i<lo->Kr rk (arrOf st') i=Kr rk xs i)->Q (some m) st'):wpS (model prog w) A E s (liftM (rule "list.sort.descending-run") >>= λ_=>yK lo (n+1) nrem >>= K) Q st:=by
 refine bB5 (wpS_lift (bQ9 ⟨rfl,?_⟩))
 refine bB5 (aR1 c o b hz (by omega) hn u λm q st1 b1 m1 m2 f=>?_)
 have fin:∀st2:SortSt,SB κ a0 pd st2->(∀k,Kr rk (arrOf st2) k=Kr rk (arrOf st1) k)->
   wpS (model prog w) A E s (reverseSlice' lo (lo+m) >>= λ_=>pZ lo m nrem >>= k) Q st2:=λst2 b2 e=>by
  have sz:=b2.sz
  have low:∀i,i<lo->Kr rk (mirror (arrOf st2) lo (lo+m) ((lo+m-lo)/2)) i=Kr rk xs i:=λi hi=>by
   rw[sL (by omega),if_neg (by omega),e]
   exact f.low i hi
  refine bB5 (sM (bB5 (X5 (κ:=κ) c o (b2.put (mirror_perm _ _ _ _)) hz (by omega) m2 ?_ λm' h1 h2 up _=>by rw[hk];exact bC4 (h m' _ (b2.put (mirror_perm _ _ _ _)) (by omega) h2 up low))))
  ·intro i j hi hij hj
   show Kr rk (mirror (arrOf st2) lo (lo+m) _) i<=Kr rk (mirror (arrOf st2) lo (lo+m) _) j
   rw[sL (by omega),sL (by omega),if_pos (by omega),if_pos (by omega),e,e]
   exact f.dn _ _ (by omega) (by omega) (by omega)
 rw[hK]
 by_cases hp:q>0
 ·rw[if_pos hp]
  have sz:=b1.sz
  exact bB5 (sM (fin _ (b1.put (mirror_perm _ _ _ _)) (yJ (by omega) f.eq)))
 ·rw[if_neg hp]
  exact fin st1 b1 λ_=>rfl
theorem aR2 (c:cW prog w A E s κ Ok rk)(o:bT Ok a0)(b:SB κ a0 pd st){lo nrem:Nat}{Q:Option Nat->SortSt->Prop}(hz:lo+nrem<=a0.size)(h1:1<=nrem)(h:∀m st',SB κ a0 pd st'->1<=m->m<=nrem->Up rk (arrOf st') lo (lo+m)->(∀i,i<lo->Kr rk (arrOf st') i=Kr rk (arrOf st) i)->Q (some m) st'):wpS (model prog w) A E s (countRun' lo nrem) Q st:=by
 rw[countRun'_eq]
 refine bB5 (X5 (n:=1) c o b hz (bA3 _) h1 (λi j hi hij hj=>by rw[show i=j by omega];exact bQ3 _) λn n1 n2 un on=>?_)
 dsimp only
 by_cases en:(n==nrem)=true
 ·rw[if_pos en]
  exact bC4 (h n st b n1 n2 un λ_ _=>rfl)
 ·rw[if_neg en]
  have en':n≠nrem:=by simpa using en
  have lt:=on.resolve_left en'
  have sz:=b.sz
  by_cases g:n>1
  ·rw[if_pos g]
   refine bB5 (pY c o b (by omega) (by omega) ?_)
   by_cases hq:Kr rk (arrOf st) lo<Kr rk (arrOf st) (lo+n-1)
   ·rw[bz9 hq]
    exact bC4 (h n st b n1 n2 un λ_ _=>rfl)
   ·rw[bA0 hq]
    dsimp only
    rw[if_neg bC1]
    have all:∀k,lo<=k->k<lo+n->Kr rk (arrOf st) k=Kr rk (arrOf st) (lo+n-1):=λk k1 k2=>by
     have a1:=un lo k (bA3 _) k1 k2
     have a2:=un k (lo+n-1) k1 (by omega) (by omega)
     omega
    have sm:=yJ (rk:=rk) (xs:=arrOf st) (i:=lo) (j:=lo+n) (by omega) all
    refine bB5 (sM (X6 (xs:=arrOf st) (κ:=κ) c o (b.put (mirror_perm _ _ _ _)) n hz (by omega) (λ_ _=>rfl) (λ_=>rfl) ⟨λi j hi hij hj=>?_,by omega,λi h1 h2=>by rw[show i=lo+(n+1)-1 by omega],λi _=>sm i⟩ h))
    show Kr rk (mirror (arrOf st) lo (lo+n) _) j<=Kr rk (mirror (arrOf st) lo (lo+n) _) i
    rw[sm,sm]
    rcases bG0 j (lo+n) with z|z
    ·rw[all i hi (by omega),all j (by omega) z];exact bQ3 _
    ·have ej:j=lo+n:=by omega
     subst ej
     rcases bP7 hij with z|z
     ·rw[z];exact bQ3 _
     ·rw[all i hi (by omega)];exact bQ4 lt
  ·rw[if_neg g]
   have e1:n=1:=by omega
   subst e1
   refine X6 (xs:=arrOf st) c o b 1 hz (by omega) (λ_ _=>rfl) (λ_=>rfl) ⟨λi j hi hij hj=>?_,by omega,λi h1 h2=>by rw[show i=lo+(1+1)-1 by omega],λi _=>rfl⟩ h
   rcases bP7 hij with z|z
   ·rw[z];exact bQ3 _
   ·have ei:i=lo+1-1:=by omega
    have ej:j=lo+1:=by omega
    rw[ei,ej];exact bQ4 lt
theorem aR3 (c:cW prog w A E s κ Ok rk)(o:bT Ok a0)(b:SB κ a0 pd st){lo n q:Nat}{Q:Bool->SortSt->Prop}(hz:lo+n<=a0.size)(hq:q<=n)(u:Up rk (arrOf st) lo (lo+q))(h:∀st',SB κ a0 pd st'->Up rk (arrOf st') lo (lo+n)->(∀i,i<lo->Kr rk (arrOf st') i=Kr rk (arrOf st) i)->Q true st'):wpS (model prog w) A E s (binarySort' lo n q) Q st:=by
 rw[binarySort'_eq]
 refine bB5 (bQ5 (bJ5 (I:=λk r st'=>r=(none,())/\SB κ a0 pd st'/\Up rk (arrOf st') lo (lo+min k n)/\∀i,i<lo->Kr rk (arrOf st') i=Kr rk (arrOf st) i)
  (Q:=λr st'=>r=(none,())/\SB κ a0 pd st'/\Up rk (arrOf st') lo (lo+n)/\∀i,i<lo->Kr rk (arrOf st') i=Kr rk (arrOf st) i) ?_ ?_ ?_) ?_)
 ·rintro k r st1 hk hkn ⟨rfl,b1,u1,l1⟩
  rw[show min k n=k by omega]at u1
  have hk0:lo+k<a0.size:=by omega
  have sz:=b1.sz
  refine bB5 (bQ5 (bJ5 (I:=λx r st'=>st'=st1/\∃l g,r=(none,l,g)/\l<=g/\g<=k/\g-l<=k-x/\(∀i,i<l->Kr rk (arrOf st1) (lo+i)<=Kr rk (arrOf st1) (lo+k))/\∀i,g<=i->i<k->Kr rk (arrOf st1) (lo+k)<Kr rk (arrOf st1) (lo+i))
   (Q:=λr st'=>st'=st1/\∃l g,r=(none,l,g)/\l<=k/\(∀i,i<l->Kr rk (arrOf st1) (lo+i)<=Kr rk (arrOf st1) (lo+k))/\∀i,l<=i->i<k->Kr rk (arrOf st1) (lo+k)<Kr rk (arrOf st1) (lo+i)) ?_ ?_ ?_) ?_)
  ·rintro x r st2 _ hx ⟨rfl,l,g,rfl,d1,d2,d3,f1,f2⟩
   dsimp only
   by_cases hlg:l >= g
   ·rw[if_pos hlg]
    have e:g=l:=by omega
    subst e
    exact bC4 ⟨rfl,g,g,rfl,d2,f1,f2⟩
   ·rw[if_neg hlg]
    refine bB5 (pY c o b1 hk0 (by omega) ?_)
    by_cases hc:Kr rk (arrOf st2) (lo+k)<Kr rk (arrOf st2) (lo+(l+g)/2)
    ·rw[bz9 hc]
     refine bC4 ⟨rfl,l,(l+g)/2,rfl,by omega,by omega,by omega,f1,λi i1 i2=>?_⟩
     have:=u1 (lo+(l+g)/2) (lo+i) (by omega) (by omega) (by omega)
     omega
    ·rw[bA0 hc]
     refine bC4 ⟨rfl,(l+g)/2+1,g,rfl,by omega,d2,by omega,λi i1=>?_,f2⟩
     have:=u1 (lo+i) (lo+(l+g)/2) (by omega) (by omega) (by omega)
     omega
  ·rintro r st2 ⟨rfl,l,g,rfl,d1,d2,d3,f1,f2⟩
   have e:g=l:=by omega
   subst e
   exact⟨rfl,g,g,rfl,d2,f1,f2⟩
  ·exact⟨rfl,0,k,rfl,by omega,by omega,by omega,λi hi=>absurd hi (by omega),λi i1 i2=>absurd i1 (by omega)⟩
  ·rintro r st2 ⟨rfl,l,g,rfl,d,f1,f2⟩
   dsimp only
   rw[moveDown'_eq]
   have kb:∀i,Kr rk (bubble (arrOf st2) (lo+k) (lo+k-(lo+l))) i=Kr rk (arrOf st2) (if i=lo+l then lo+k else if lo+l<i/\i<=lo+k then i-1 else i):=λi=>by
    rw[aR0 (by omega) (by omega),show lo+k-(lo+k-(lo+l))=lo+l by omega]
   refine bB5 (wpS_modify (bC4 ⟨rfl,b1.put (bubble_perm _ _ _),λi j hi hij hj=>?_,λi hi=>?_⟩))
   ·show Kr rk (bubble (arrOf st2) (lo+k) (lo+k-(lo+l))) i<=Kr rk (bubble (arrOf st2) (lo+k) (lo+k-(lo+l))) j
    rw[kb,kb]
    rw[show min (k+1) n=k+1 by omega]at hj
    have v1:∀p,lo<=p->p<lo+l->Kr rk (arrOf st2) p<=Kr rk (arrOf st2) (lo+k):=λp p1 p2=>by have:=f1 (p-lo) (by omega);rwa [show lo+(p-lo)=p by omega]at this
    have v2:∀p,lo+l<=p->p<lo+k->Kr rk (arrOf st2) (lo+k)<Kr rk (arrOf st2) p:=λp p1 p2=>by have:=f2 (p-lo) (by omega) (by omega);rwa [show lo+(p-lo)=p by omega]at this
    repeat' split
    all_goals first
     |(exfalso;omega)
     |exact bQ3 _
     |exact v1 _ (by omega) (by omega)
     |exact bQ4 (v2 _ (by omega) (by omega))
     |exact u1 _ _ (by omega) (by omega) (by omega)
   ·show Kr rk (bubble (arrOf st2) (lo+k) (lo+k-(lo+l))) i=_
    rw[kb,if_neg (by omega),if_neg (by omega)]
    exact l1 i hi
 ·rintro r st1 ⟨rfl,b1,u1,l1⟩
  rw[show min (max (max q 1) n) n=n by omega]at u1
  exact⟨rfl,b1,u1,l1⟩
 ·refine⟨rfl,b,λi j hi hij hj=>?_,λ_ _=>rfl⟩
  rcases bG0 j (lo+q) with z|z
  ·exact u i j hi hij z
  ·rw[show i=j by omega];exact bQ3 _
 ·rintro r st1 ⟨rfl,b1,u1,l1⟩
  exact bC4 (h st1 b1 u1 l1)
end
def lH:Bool->Keyed->Array Keyed->Nat->Nat->Nat->StateT SortSt Sem (Option Nat):=sortPriv% PySem.Builtin.gallop
def m9 (lf:Bool)(key:Keyed)(xs:Array Keyed)(bs i:Nat):StateT SortSt Sem (Option Bool):=do
 let z <- elem' xs (bs+i)
 if lf then lt' z key else return (<- lt' key z).map (!·)
theorem aR4 (lf:Bool)(key:Keyed)(xs:Array Keyed)(bs n h:Nat):lH lf key xs bs n h=(do
 let mut la:=0
 let mut of:=1
 let mut l:=0
 let mut g:=0
 let some rt <- m9 lf key xs bs h|return none
 if rt then
  let mx:=n-h
  for _ in [0:n] do
   if of >= mx then break
   let some mr <- m9 lf key xs bs (h+of)|return none
   if !mr then break
   la:=of
   of:=2*of+1
  l:=h+la+1
  g:=h+min of mx
 else
  let mx:=h+1
  for _ in [0:n] do
   if of >= mx then break
   let some fd <- m9 lf key xs bs (h-of)|return none
   if fd then break
   la:=of
   of:=2*of+1
  l:=h+1-min of mx
  g:=h-la
 for _ in [0:n] do
  if l >= g then break
  let m:=l+(g-l)/2
  let some mr <- m9 lf key xs bs m|return none
  if mr then l:=m+1 else g:=m
 return some g):=rfl
section
variable {rk:Keyed→Int}{κ:SortKind}{st:SortSt}{prog:Program}{w:World}{A:Around}{E:Value→Shared→Prop}{s:Shared}{Ok:Keyed→Prop}
def cD (rk:Keyed->Int)(lf:Bool)(key:Keyed)(xs:Array Keyed)(bs i:Nat):Bool:=if lf then decide (Kr rk xs (bs+i)<rk key) else decide (Kr rk xs (bs+i)<=rk key)
theorem sN (c:cW prog w A E s κ Ok rk)(hk:kindOf st=κ){lf:Bool}{key:Keyed}{xs:Array Keyed}{bs i:Nat}{Q:Option Bool->SortSt->Prop}(ok:Ok key)(o:bT Ok xs)(hi:bs+i<xs.size)(h:Q (some (cD rk lf key xs bs i)) st):wpS (model prog w) A E s (m9 lf key xs bs i) Q st:=by
 unfold m9
 refine bB5 (dI hi ?_)
 unfold cD at h
 rw[cL hi]at h
 cases lf with
 |true=>
  simp only[if_true]at h ⊢
  exact c _ _ (o _ (bG3 hi)) ok st Q hk h
 |false=>
  simp only[bC6,bG2]at h ⊢
  refine bB5 (c _ _ ok (o _ (bG3 hi)) st _ hk (bC4 ?_))
  have e:(!decide (rk key<rk xs[bs+i]))=decide (rk xs[bs+i]<=rk key):=by
   by_cases z:rk xs[bs+i]<=rk key
   ·rw[bz9 z,bA0 (by omega)];rfl
   ·rw[bA0 z,bz9 (by omega)];rfl
  show Q (some (!decide (rk key<rk xs[bs+i]))) st
  rw[e];exact h
abbrev GS:=Option (Option Nat)×Nat×Nat
def X7 (lf:Bool)(key:Keyed)(xs:Array Keyed)(bs n l g:Nat):StateT SortSt Sem GS:=forIn [0:n] ((none,l,g):GS) λ_ r=>
 if r.2.1 >= r.2.2 then pure (ForInStep.done (none,r.2.1,r.2.2)) else do
  match <- m9 lf key xs bs (r.2.1+(r.2.2-r.2.1)/2) with
  |some q=>if q=true then pure (ForInStep.yield (none,r.2.1+(r.2.2-r.2.1)/2+1,r.2.2)) else pure (ForInStep.yield (none,r.2.1,r.2.1+(r.2.2-r.2.1)/2))
  |_=>pure (ForInStep.done (some none,r.2.1,r.2.2))
theorem X8 (c:cW prog w A E s κ Ok rk)(hk:kindOf st=κ){lf:Bool}{key:Keyed}{xs:Array Keyed}{bs n l g:Nat}{Q:GS->SortSt->Prop}(ok:Ok key)(o:bT Ok xs)(hz:bs+n<=xs.size)(mono:∀i j,i<=j->j<n->cD rk lf key xs bs j=true->cD rk lf key xs bs i=true)(hlg:l<=g)(hg:g<=n)(h1:∀i,i<l->cD rk lf key xs bs i=true)(h2:∀i,g<=i->i<n->cD rk lf key xs bs i=false)(hq:∀k,k<=n->(∀i,i<k->cD rk lf key xs bs i=true)->(∀i,k<=i->i<n->cD rk lf key xs bs i=false)->Q (none,k,k) st):wpS (model prog w) A E s (X7 lf key xs bs n l g) Q st:=by
 unfold X7
 refine bJ5 (I:=λx r st'=>st'=st/\∃l g,r=(none,l,g)/\l<=g/\g<=n/\g-l<=n-x/\(∀i,i<l->cD rk lf key xs bs i=true)/\∀i,g<=i->i<n->cD rk lf key xs bs i=false) ?_ ?_ ⟨rfl,l,g,rfl,hlg,hg,by omega,h1,h2⟩
 ·rintro x r st' _ hx ⟨rfl,l,g,rfl,d1,d2,d3,f1,f2⟩
  dsimp only
  by_cases hc:l >= g
  ·rw[if_pos hc]
   have e:g=l:=by omega
   subst e
   exact bC4 (hq g d2 f1 f2)
  ·rw[if_neg hc]
   refine bB5 (sN c hk ok o (by omega) ?_)
   cases z:cD rk lf key xs bs (l+(g-l)/2) with
   |true=>exact bC4 ⟨rfl,_,_,rfl,by omega,d2,by omega,λi hi=>mono i (l+(g-l)/2) (by omega) (by omega) z,f2⟩
   |false=>
    refine bC4 ⟨rfl,_,_,rfl,by omega,by omega,by omega,f1,λi i1 i2=>?_⟩
    cases y:cD rk lf key xs bs i with
    |false=>rfl
    |true=>rw[mono _ i i1 i2 y]at z;cases z
 ·rintro r st' ⟨rfl,l,g,rfl,d1,d2,d3,f1,f2⟩
  have e:g=l:=by omega
  subst e
  exact hq g d2 f1 f2
theorem nR (c:cW prog w A E s κ Ok rk)(hk:kindOf st=κ){lf:Bool}{key:Keyed}{xs:Array Keyed}{bs n h:Nat}{Q:Option Nat->SortSt->Prop}(ok:Ok key)(o:bT Ok xs)(hh:h<n)(hz:bs+n<=xs.size)(u:Up rk xs bs (bs+n))(hq:∀k,k<=n->(∀i,i<k->cD rk lf key xs bs i=true)->(∀i,k<=i->i<n->cD rk lf key xs bs i=false)->Q (some k) st):wpS (model prog w) A E s (lH lf key xs bs n h) Q st:=by
 have mono:∀i j,i<=j->j<n->cD rk lf key xs bs j=true->cD rk lf key xs bs i=true:=λi j hij hj e=>by
  have:=u (bs+i) (bs+j) (by omega) (by omega) (by omega)
  unfold cD at e ⊢
  cases lf with
  |true=>simp only[if_true,bC2]at e ⊢;omega
  |false=>simp only[bC6,bG2,bC2]at e ⊢;omega
 have monf:∀i j,i<=j->j<n->cD rk lf key xs bs i=false->cD rk lf key xs bs j=false:=λi j hij hj e=>by
  cases z:cD rk lf key xs bs j with
  |false=>rfl
  |true=>rw[mono i j hij hj z]at e;cases e
 rw[aR4]
 refine bB5 (sN c hk ok o (by omega) ?_)
 dsimp only
 cases z:cD rk lf key xs bs h with
 |true=>
  rw[if_pos rfl]
  refine bB5 (bQ5 (bJ5 (I:=λx r st'=>st'=st/\∃la of,r=(none,la,of)/\la<of/\x<of/\h+la<n/\cD rk lf key xs bs (h+la)=true)
   (Q:=λr st'=>st'=st/\∃la of,r=(none,la,of)/\la<of/\h+la<n/\cD rk lf key xs bs (h+la)=true/\(of<n-h->cD rk lf key xs bs (h+of)=false)) ?_ ?_ ⟨rfl,0,1,rfl,by omega,by omega,by omega,z⟩) ?_)
  ·rintro x r st' _ hx ⟨rfl,la,of,rfl,d1,d2,d3,f⟩
   dsimp only
   by_cases hc:of >= n-h
   ·rw[if_pos hc]
    exact bC4 ⟨rfl,la,of,rfl,d1,d3,f,λy=>absurd y (by omega)⟩
   ·rw[if_neg hc]
    refine bB5 (sN c hk ok o (by omega) ?_)
    cases y:cD rk lf key xs bs (h+of) with
    |true=>exact bC4 ⟨rfl,of,2*of+1,rfl,by omega,by omega,by omega,y⟩
    |false=>exact bC4 ⟨rfl,la,of,rfl,d1,d3,f,λ_=>y⟩
  ·rintro r st' ⟨rfl,la,of,rfl,d1,d2,d3,f⟩
   exact⟨rfl,la,of,rfl,d1,d3,f,λy=>absurd y (by omega)⟩
  ·rintro r st' ⟨rfl,la,of,rfl,d1,d3,f,ft⟩
   dsimp only
   refine bB5 (X8 (l:=h+la+1) (g:=h+min of (n-h)) c hk ok o hz mono (by omega) (by omega) (λi hi=>mono i (h+la) (by omega) d3 f) (λi i1 i2=>?_) λk k1 k2 k3=>bC4 (hq k k1 k2 k3))
   rcases bG0 of (n-h) with y|y
   ·exact monf (h+of) i (by omega) i2 (ft y)
   ·exact absurd i1 (by omega)
 |false=>
  rw[if_neg bC1]
  refine bB5 (bQ5 (bJ5 (I:=λx r st'=>st'=st/\∃la of,r=(none,la,of)/\la<of/\x<of/\la<=h/\cD rk lf key xs bs (h-la)=false)
   (Q:=λr st'=>st'=st/\∃la of,r=(none,la,of)/\la<of/\la<=h/\cD rk lf key xs bs (h-la)=false/\(of<h+1->cD rk lf key xs bs (h-of)=true)) ?_ ?_ ⟨rfl,0,1,rfl,by omega,by omega,by omega,z⟩) ?_)
  ·rintro x r st' _ hx ⟨rfl,la,of,rfl,d1,d2,d3,f⟩
   dsimp only
   by_cases hc:of >= h+1
   ·rw[if_pos hc]
    exact bC4 ⟨rfl,la,of,rfl,d1,d3,f,λy=>absurd y (by omega)⟩
   ·rw[if_neg hc]
    refine bB5 (sN c hk ok o (by omega) ?_)
    cases y:cD rk lf key xs bs (h-of) with
    |false=>exact bC4 ⟨rfl,of,2*of+1,rfl,by omega,by omega,by omega,y⟩
    |true=>exact bC4 ⟨rfl,la,of,rfl,d1,d3,f,λ_=>y⟩
  ·rintro r st' ⟨rfl,la,of,rfl,d1,d2,d3,f⟩
   exact⟨rfl,la,of,rfl,d1,d3,f,λy=>absurd y (by omega)⟩
  ·rintro r st' ⟨rfl,la,of,rfl,d1,d3,f,ft⟩
   dsimp only
   refine bB5 (X8 (l:=h+1-min of (h+1)) (g:=h-la) c hk ok o hz mono (by omega) (by omega) (λi hi=>?_) (λi i1 i2=>monf (h-la) i i1 i2 f) λk k1 k2 k3=>bC4 (hq k k1 k2 k3))
   rcases bG0 of (h+1) with y|y
   ·exact mono i (h-of) (by omega) (by omega) (ft y)
   ·exact absurd hi (by omega)
end
def nS:Nat->StateT SortSt Sem Unit:=sortPriv% PySem.Builtin.setMinGallop
def yM:Array Keyed->Array Keyed->StateT SortSt Sem (Array Keyed):=sortPriv% PySem.Builtin.mergeLo
theorem aR5 (g:Nat):nS g=modify (λst=>SortSt.mk' (kindOf st) (arrOf st) (pendingOf st) g (failedOf st)):=rfl
abbrev LS:=Option (Array Keyed)×Array Keyed×Nat×Nat×Nat×Nat×Nat
abbrev yN:=Option (Array Keyed)×Array Keyed×Nat×Nat×Nat×Nat
abbrev LO:=Option (Array Keyed)×Array Keyed×Nat×Nat×Nat
def sO (x y o:Array Keyed)(i j mg p q:Nat):StateT SortSt Sem (ForInStep LS):=do
 let v <- elem' x i
 if (i+1+1==x.size)=true then pure (.done (some (o.push v++y.extract j y.size++x.extract (i+1) x.size),o.push v,i+1,j,mg,p,q))
 else if (decide (p<7)&&decide (q<7))=true then pure (.done (none,o.push v,i+1,j,mg,p,q)) else pure (.yield (none,o.push v,i+1,j,mg,p,q))
def sP (x y o:Array Keyed)(i j mg p q:Nat):StateT SortSt Sem (ForInStep LS):=do
 let v <- elem' y j
 if (j+1==y.size)=true then pure (.done (some (o.push v++x.extract i x.size++y.extract (j+1) y.size),o.push v,i,j+1,mg,p,q)) else do
  let u <- elem' x i
  match <- lH true u y (j+1) (y.size-(j+1)) 0 with
  |some k=>
   if k>0 then
    if (j+1+k==y.size)=true then pure (.done (some (o.push v++y.extract (j+1) (j+1+k)++x.extract i x.size++y.extract (j+1+k) y.size),o.push v++y.extract (j+1) (j+1+k),i,j+1+k,mg,p,k))
    else sO x y (o.push v++y.extract (j+1) (j+1+k)) i (j+1+k) mg p k
   else sO x y (o.push v) i (j+1) mg p k
  |_=>pure (.done (some (o.push v++x.extract i x.size++y.extract (j+1) y.size),o.push v,i,j+1,mg,p,q))
def sQ (x y o:Array Keyed)(i j mg p q:Nat):StateT SortSt Sem (ForInStep LS):=do
 nS mg
 let v <- elem' y j
 match <- lH false v x i (x.size-i) 0 with
 |some k=>
  if k>0 then
   if (i+k+1==x.size)=true then pure (.done (some (o++x.extract i (i+k)++y.extract j y.size++x.extract (i+k) x.size),o++x.extract i (i+k),i+k,j,mg,k,q))
   else if (i+k==x.size)=true then pure (.done (some (o++x.extract i (i+k)++x.extract (i+k) x.size++y.extract j y.size),o++x.extract i (i+k),i+k,j,mg,k,q))
   else sP x y (o++x.extract i (i+k)) (i+k) j mg k q
  else sP x y o i j mg k q
 |_=>pure (.done (some (o++x.extract i x.size++y.extract j y.size),o,i,j,mg,p,q))
def yO (x y o:Array Keyed)(i j mg p q:Nat):StateT SortSt Sem LS:=forIn [0:x.size+y.size] ((none,o,i,j,mg,p,q):LS) λ_ r=>
 if r.2.2.2.2.1>1 then sQ x y r.2.1 r.2.2.1 r.2.2.2.1 (r.2.2.2.2.1-1) r.2.2.2.2.2.1 r.2.2.2.2.2.2 else sQ x y r.2.1 r.2.2.1 r.2.2.2.1 r.2.2.2.2.1 r.2.2.2.2.2.1 r.2.2.2.2.2.2
def yQ (x y o:Array Keyed)(i j mg:Nat):StateT SortSt Sem yN:=forIn [0:x.size+y.size] ((none,o,i,j,0,0):yN) λ_ r=>do
 let v <- elem' y r.2.2.2.1
 let u <- elem' x r.2.2.1
 match <- lt' v u with
 |some q=>
  if q=true then do
   let v <- elem' y r.2.2.2.1
   if (r.2.2.2.1+1==y.size)=true then pure (.done (some (r.2.1.push v++x.extract r.2.2.1 x.size++y.extract (r.2.2.2.1+1) y.size),r.2.1.push v,r.2.2.1,r.2.2.2.1+1,0,r.2.2.2.2.2+1))
   else if r.2.2.2.2.2+1 >= mg then pure (.done (none,r.2.1.push v,r.2.2.1,r.2.2.2.1+1,0,r.2.2.2.2.2+1)) else pure (.yield (none,r.2.1.push v,r.2.2.1,r.2.2.2.1+1,0,r.2.2.2.2.2+1))
  else do
   let u <- elem' x r.2.2.1
   if (r.2.2.1+1+1==x.size)=true then pure (.done (some (r.2.1.push u++y.extract r.2.2.2.1 y.size++x.extract (r.2.2.1+1) x.size),r.2.1.push u,r.2.2.1+1,r.2.2.2.1,r.2.2.2.2.1+1,0))
   else if r.2.2.2.2.1+1 >= mg then pure (.done (none,r.2.1.push u,r.2.2.1+1,r.2.2.2.1,r.2.2.2.2.1+1,0)) else pure (.yield (none,r.2.1.push u,r.2.2.1+1,r.2.2.2.1,r.2.2.2.2.1+1,0))
 |_=>pure (.done (some (r.2.1++x.extract r.2.2.1 x.size++y.extract r.2.2.2.1 y.size),r.2.1,r.2.2.1,r.2.2.2.1,r.2.2.2.2.1,r.2.2.2.2.2))
def X9 (x y o:Array Keyed)(i j mg:Nat):StateT SortSt Sem LO:=forIn [0:x.size+y.size] ((none,o,i,j,mg):LO) λ_ r=>do
 let u <- yQ x y r.2.1 r.2.2.1 r.2.2.2.1 r.2.2.2.2
 match u.1 with
 |some z=>pure (.done (some z,u.2.1,u.2.2.1,u.2.2.2.1,r.2.2.2.2))
 |none=>do
  liftM (rule "list.sort.gallop")
  let v <- yO x y u.2.1 u.2.2.1 u.2.2.2.1 (r.2.2.2.2+1) u.2.2.2.2.1 u.2.2.2.2.2
  match v.1 with
  |some z=>pure (.done (some z,v.2.1,v.2.2.1,v.2.2.2.1,v.2.2.2.2.1))
  |none=>do
   nS (v.2.2.2.2.1+1)
   pure (.yield (none,v.2.1,v.2.2.1,v.2.2.2.1,v.2.2.2.2.1+1))
theorem aR6 (x y:Array Keyed):yM x y=(do
 liftM (rule "list.sort.merge-lo")
 let v <- elem' y 0
 if (1==y.size)=true then pure (#[v]++x.extract 0 x.size++y.extract 1 y.size)
 else if (0+1==x.size)=true then pure (#[v]++y.extract 1 y.size++x.extract 0 x.size)
 else do
  let z <- get
  let r <- X9 x y #[v] 0 1 (gallopOf z)
  match r.1 with
  |some z=>pure z
  |none=>unsupported "internal:list.sort.merge-bound"):=by kernel_rfl
section
variable (rk:Keyed→Int)
def Sd (l:List Keyed):Prop:=l.Pairwise λa b=>rk a<=rk b
structure MI (xs ys o:List Keyed)(i j:Nat):Prop where
 pm:o.Perm (xs.take i++ys.take j)
 sx:Sd rk (o++xs.drop i)
 sy:Sd rk (o++ys.drop j)
end
variable {rk:Keyed→Int}{xs ys o:List Keyed}{i j:Nat}
theorem Sd.ins {o a b d:List Keyed}(h1:Sd rk (o++a))(h2:Sd rk (o++(b++d)))(h:∀u∈b,∀t∈a,rk u<=rk t):Sd rk ((o++b)++a):=by
 unfold Sd at *
 rw[bC5]
 obtain⟨p1,p2,p3⟩:=bF3.mp h1
 obtain⟨q1,q2,q3⟩:=bF3.mp h2
 obtain⟨r1,r2,r3⟩:=bF3.mp q2
 refine bF3.mpr ⟨p1,bF3.mpr ⟨r1,p2,h⟩,λu hu t ht=>?_⟩
 rcases bB8.mp ht with z|z
 ·exact q3 u hu t (bD2 _ z)
 ·exact p3 u hu t z
theorem MI.ofy (m:MI rk xs ys o i j)(k:Nat)(h:∀u∈(ys.drop j).take k,∀t∈xs.drop i,rk u<=rk t):MI rk xs ys (o++(ys.drop j).take k) i (j+k):=by
 have e:(ys.drop j).take k++ys.drop (j+k)=ys.drop j:=by rw[<- List.drop_drop];exact bE3 k _
 refine⟨?_,Sd.ins m.sx (d:=ys.drop (j+k)) (by rw[e];exact m.sy) h,by rw[bC5,e];exact m.sy⟩
 rw[List.take_add,<- bC5]
 exact m.pm.append_right _
theorem MI.ofx (m:MI rk xs ys o i j)(k:Nat)(h:∀u∈(xs.drop i).take k,∀t∈ys.drop j,rk u<=rk t):MI rk xs ys (o++(xs.drop i).take k) (i+k) j:=by
 have e:(xs.drop i).take k++xs.drop (i+k)=xs.drop i:=by rw[<- List.drop_drop];exact bE3 k _
 refine⟨?_,by rw[bC5,e];exact m.sx,Sd.ins m.sy (d:=xs.drop (i+k)) (by rw[e];exact m.sx) h⟩
 rw[List.take_add]
 refine (m.pm.append_right _).trans ?_
 rw[bC5,bC5]
 exact (bN1).append_left _
theorem MI.fin (m:MI rk xs ys o i j)(h:xs.length<=i∨ys.length<=j):(o++xs.drop i++ys.drop j).Perm (xs++ys)/\Sd rk (o++xs.drop i++ys.drop j):=by
 refine⟨?_,?_⟩
 ·rw[bC5]
  refine (m.pm.append_right _).trans ?_
  have e1:xs=xs.take i++xs.drop i:=(bE3 i xs).symm
  have e2:ys=ys.take j++ys.drop j:=(bE3 j ys).symm
  conv=>rhs;rw[e1,e2]
  rw[bC5,bC5]
  refine List.Perm.append_left _ ?_
  rw[<- bC5,<- bC5]
  exact (bN1).append_right _
 ·rcases h with h|h
  ·rw[List.drop_eq_nil_of_le h,bD5];exact m.sy
  ·rw[List.drop_eq_nil_of_le h,bD5];exact m.sx
theorem MI.lst (m:MI rk xs ys o i j)(h:∀u∈ys,∀t∈xs.drop i,rk u<=rk t):(o++ys.drop j++xs.drop i).Perm (xs++ys)/\Sd rk (o++ys.drop j++xs.drop i):=by
 have m2:=m.ofy ys.length λu hu t ht=>h u (List.mem_of_mem_drop (bQ6 hu)) t ht
 have e:(ys.drop j).take ys.length=ys.drop j:=bE4 (by simp)
 rw[e]at m2
 have f:=m2.fin (.inr (by omega))
 rw[List.drop_eq_nil_of_le (as:=ys) (i:=j+ys.length) (by omega),bD5]at f
 exact f
theorem Y0 {x:Array Keyed}{i k:Nat}{u:Keyed}(h:u∈(x.toList.drop i).take k):∃t,t<k/\i+t<x.size/\rk u=Kr rk x (i+t):=by
 obtain⟨t,ht,e⟩:=bO6 h
 have h1:t<k/\i+t<x.size:=by simp at ht;omega
 refine⟨t,h1.1,h1.2,?_⟩
 rw[cL h1.2,<- e]
 simp
theorem qB {x:Array Keyed}{i:Nat}{u:Keyed}(h:u∈x.toList.drop i):∃t,i+t<x.size/\rk u=Kr rk x (i+t):=by
 obtain⟨t,ht,e⟩:=bO6 h
 have h1:i+t<x.size:=by simp at ht;omega
 refine⟨t,h1,?_⟩
 rw[cL h1,<- e]
 simp
theorem Sd.up {x:Array Keyed}(h:Sd rk x.toList)(lo hi:Nat)(hh:hi<=x.size):Up rk x lo hi:=λi j _ hij hj=>by
 rw[cL (by omega:i<x.size),cL (by omega:j<x.size)]
 rcases bP7 hij with z|z
 ·subst z;exact bQ3 _
 ·have:=bH5.mp h i j (by simp;omega) (by simp;omega) z
  simpa using this
theorem Y1 (x:Array Keyed)(i k:Nat):(x.extract i (i+k)).toList=(x.toList.drop i).take k:=by
 simp[List.extract]
theorem sR (x:Array Keyed)(i:Nat):(x.extract i x.size).toList=x.toList.drop i:=by
 simp[List.extract]
 exact bE4 (by simp)
theorem mB {x:Array Keyed}{i:Nat}(h:i<x.size):[x[i]]=(x.toList.drop i).take 1:=by
 rw[List.drop_eq_getElem_cons (by simpa using h)];simp
structure Gq (st st':SortSt):Prop where
 kd:kindOf st'=kindOf st
 ar:arrOf st'=arrOf st
 pd:pendingOf st'=pendingOf st
 ok:failedOf st'=failedOf st
theorem Gq.refl (st:SortSt):Gq st st:=⟨rfl,rfl,rfl,rfl⟩
section
variable {κ:SortKind}{st:SortSt}{prog:Program}{w:World}{A:Around}{E:Value→Shared→Prop}{s:Shared}{Ok:Keyed→Prop}
theorem sT {st0:SortSt}{g:Nat}{Q:Unit->SortSt->Prop}(q:Gq st0 st)(h:∀st',Gq st0 st'->Q () st'):wpS (model prog w) A E s (nS g) Q st:=by
 rw[aR5];exact wpS_modify (h _ ⟨q.kd,q.ar,q.pd,q.ok⟩)
def eG (rk:Keyed->Int)(x y r:Array Keyed):Prop:=r.toList.Perm (x.toList++y.toList)/\Sd rk r.toList
theorem MI.y1 {x y o:Array Keyed}(m:MI rk x.toList y.toList o.toList i j)(hj:j<y.size)(h:∀t,i+t<x.size->rk y[j]<=Kr rk x (i+t)):MI rk x.toList y.toList (o.push y[j]).toList i (j+1):=by
 have:=m.ofy 1 λu hu t ht=>?_
 ·rw[<- mB hj]at this;simpa using this
 ·rw[<- mB hj,bA1]at hu
  subst hu
  obtain⟨q,q1,q2⟩:=qB (rk:=rk) ht
  rw[q2];exact h q q1
theorem MI.x1 {x y o:Array Keyed}(m:MI rk x.toList y.toList o.toList i j)(hi:i<x.size)(h:∀t,j+t<y.size->rk x[i]<=Kr rk y (j+t)):MI rk x.toList y.toList (o.push x[i]).toList (i+1) j:=by
 have:=m.ofx 1 λu hu t ht=>?_
 ·rw[<- mB hi]at this;simpa using this
 ·rw[<- mB hi,bA1]at hu
  subst hu
  obtain⟨q,q1,q2⟩:=qB (rk:=rk) ht
  rw[q2];exact h q q1
theorem MI.yk {x y o:Array Keyed}(m:MI rk x.toList y.toList o.toList i j)(k:Nat)(h:∀p t,p<k->j+p<y.size->i+t<x.size->Kr rk y (j+p)<=Kr rk x (i+t)):MI rk x.toList y.toList (o++y.extract j (j+k)).toList i (j+k):=by
 have:=m.ofy k λu hu t ht=>?_
 ·rw[<- Y1]at this;rw[bH4];exact this
 ·obtain⟨p,p1,p2,p3⟩:=Y0 (rk:=rk) hu
  obtain⟨q,q1,q2⟩:=qB (rk:=rk) ht
  rw[q2,p3];exact h p q p1 p2 q1
theorem MI.xk {x y o:Array Keyed}(m:MI rk x.toList y.toList o.toList i j)(k:Nat)(h:∀p t,p<k->i+p<x.size->j+t<y.size->Kr rk x (i+p)<=Kr rk y (j+t)):MI rk x.toList y.toList (o++x.extract i (i+k)).toList (i+k) j:=by
 have:=m.ofx k λu hu t ht=>?_
 ·rw[<- Y1]at this;rw[bH4];exact this
 ·obtain⟨p,p1,p2,p3⟩:=Y0 (rk:=rk) hu
  obtain⟨q,q1,q2⟩:=qB (rk:=rk) ht
  rw[q2,p3];exact h p q p1 p2 q1
theorem nV {key:Keyed}{xs:Array Keyed}{bs i:Nat}:cD rk false key xs bs i=decide (Kr rk xs (bs+i)<=rk key):=rfl
theorem nW {key:Keyed}{xs:Array Keyed}{bs i:Nat}:cD rk true key xs bs i=decide (Kr rk xs (bs+i)<rk key):=rfl
def GI (rk:Keyed->Int)(x y:Array Keyed)(lb:Nat)(st:SortSt)(c:LS)(st':SortSt):Prop:=Gq st st'/\∃o i j mg p q,c=(none,o,i,j,mg,p,q)/\MI rk x.toList y.toList o.toList i j/\i+1<x.size/\j<y.size/\lb<=i+j
def GQ (rk:Keyed->Int)(x y:Array Keyed)(lb:Nat)(st:SortSt)(c:LS)(st':SortSt):Prop:=Gq st st'/\((∃r o i j mg p q,c=(some r,o,i,j,mg,p,q)/\eG rk x y r)∨∃o i j mg p q,c=(none,o,i,j,mg,p,q)/\MI rk x.toList y.toList o.toList i j/\i+1<x.size/\j<y.size/\lb<=i+j)
def GR (rk:Keyed->Int)(x y:Array Keyed)(lb:Nat)(st:SortSt)(r:ForInStep LS)(st':SortSt):Prop:=match r with|.done c=>GQ rk x y lb st c st'|.yield c=>GI rk x y lb st c st'
theorem MI.done {x y o:Array Keyed}(m:MI rk x.toList y.toList o.toList i j)(hh:x.size<=i∨y.size<=j):eG rk x y (o++x.extract i x.size++y.extract j y.size):=by
 unfold eG
 rw[bH4,bH4,sR,sR]
 exact m.fin (by simpa using hh)
theorem MI.last {x y o:Array Keyed}(m:MI rk x.toList y.toList o.toList i j)(x0:0<x.size)(hl:∀u∈y.toList,rk u<=rk x[x.size-1])(hh:i+1=x.size):eG rk x y (o++y.extract j y.size++x.extract i x.size):=by
 unfold eG
 rw[bH4,bH4,sR,sR]
 refine m.lst λu hu t ht=>?_
 obtain⟨q,q1,q2⟩:=qB (rk:=rk) ht
 have e:i+q=x.size-1:=by omega
 rw[q2,e,cL (by omega)]
 exact hl u hu
theorem Y2 {st0:SortSt}{x y o:Array Keyed}{mg p q lb:Nat}(x0:0<x.size)(hl:∀u∈y.toList,rk u<=rk x[x.size-1])(g:Gq st0 st)(m:MI rk x.toList y.toList o.toList i j)(hi:i+1<x.size)(hj:j<y.size)(hb:lb<=i+j)(hm:∀t,j+t<y.size->rk x[i]<=Kr rk y (j+t)):wpS (model prog w) A E s (sO x y o i j mg p q) (GR rk x y lb st0) st:=by
 unfold sO
 have hi':i<x.size:=by omega
 have m':=m.x1 hi' hm
 refine bB5 (dI hi' ?_)
 by_cases he:(i+1+1==x.size)=true
 ·rw[if_pos he]
  have he:i+1+1=x.size:=by simpa using he
  exact bC4 ⟨g,.inl ⟨_,_,_,_,_,_,_,rfl,m'.last x0 hl he⟩⟩
 ·rw[if_neg he]
  have he:i+1+1≠x.size:=by simpa using he
  split
  ·exact bC4 ⟨g,.inr ⟨_,_,_,_,_,_,rfl,m',by omega,hj,by omega⟩⟩
  ·exact bC4 ⟨g,_,_,_,_,_,_,rfl,m',by omega,hj,by omega⟩
theorem Y3 (c:cW prog w A E s κ Ok rk){st0:SortSt}(hk:kindOf st0=κ){x y o:Array Keyed}{mg p q lb:Nat}(ox:bT Ok x)(oy:bT Ok y)(sx:Sd rk x.toList)(sy:Sd rk y.toList)(x0:0<x.size)(hl:∀u∈y.toList,rk u<=rk x[x.size-1])(g:Gq st0 st)(m:MI rk x.toList y.toList o.toList i j)(hi:i+1<x.size)(hj:j<y.size)(hb:lb<=i+j)(hm:∀t,i+t<x.size->rk y[j]<=Kr rk x (i+t)):wpS (model prog w) A E s (sP x y o i j mg p q) (GR rk x y lb st0) st:=by
 unfold sP
 have hi':i<x.size:=by omega
 have m':=m.y1 hj hm
 refine bB5 (dI hj ?_)
 by_cases he:(j+1==y.size)=true
 ·rw[if_pos he]
  have he:j+1=y.size:=by simpa using he
  exact bC4 ⟨g,.inl ⟨_,_,_,_,_,_,_,rfl,m'.done (.inr (by omega))⟩⟩
 ·rw[if_neg he]
  have he:j+1≠y.size:=by simpa using he
  refine bB5 (dI hi' (bB5 (nR c (g.kd.trans hk) (ox _ (bG3 hi')) oy (by omega) (by omega) (sy.up _ _ (by omega)) λk k1 k2 k3=>?_)))
  dsimp only
  have ux:=sx.up 0 _ (bA3 x.size)
  have mk:=m'.yk k λp t hp _ ht=>by
   have a1:=k2 p hp
   rw[nW,bC2]at a1
   have a2:=ux i (i+t) (by omega) (by omega) ht
   rw[cL hi']at a2
   omega
  have km:∀t,j+1+k+t<y.size->rk x[i]<=Kr rk y (j+1+k+t):=λt ht=>by
   have a1:=k3 (k+t) (by omega) (by omega)
   rw[nW,bI6,<- Nat.add_assoc]at a1
   omega
  by_cases hk0:k>0
  ·rw[if_pos hk0]
   by_cases hf:(j+1+k==y.size)=true
   ·rw[if_pos hf]
    have hf:j+1+k=y.size:=by simpa using hf
    exact bC4 ⟨g,.inl ⟨_,_,_,_,_,_,_,rfl,mk.done (.inr (by omega))⟩⟩
   ·rw[if_neg hf]
    have hf:j+1+k≠y.size:=by simpa using hf
    exact Y2 x0 hl g mk hi (by omega) (by omega) km
  ·rw[if_neg hk0]
   have e0:k=0:=by omega
   subst e0
   exact Y2 x0 hl g m' hi (by omega) (by omega) km
theorem Y4 (c:cW prog w A E s κ Ok rk){st0:SortSt}(hk:kindOf st0=κ){x y o:Array Keyed}{mg p q lb:Nat}(ox:bT Ok x)(oy:bT Ok y)(sx:Sd rk x.toList)(sy:Sd rk y.toList)(x0:0<x.size)(hl:∀u∈y.toList,rk u<=rk x[x.size-1])(g:Gq st0 st)(m:MI rk x.toList y.toList o.toList i j)(hi:i+1<x.size)(hj:j<y.size)(hb:lb<=i+j) :
  wpS (model prog w) A E s (sQ x y o i j mg p q) (GR rk x y lb st0) st:=by
 unfold sQ
 refine bB5 (sT g λst4 q4=>bB5 (dI hj (bB5 (nR c (q4.kd.trans hk) (oy _ (bG3 hj)) ox (by omega) (by omega) (sx.up _ _ (by omega)) λk k1 k2 k3=>?_))))
 dsimp only
 have uy:=sy.up 0 _ (bA3 y.size)
 have mk:=m.xk k λp t hp _ ht=>by
  have a1:=k2 p hp
  rw[nV,bC2]at a1
  have a2:=uy j (j+t) (by omega) (by omega) ht
  rw[cL hj]at a2
  omega
 have km:∀t,i+k+t<x.size->rk y[j]<=Kr rk x (i+k+t):=λt ht=>by
  have a1:=k3 (k+t) (by omega) (by omega)
  rw[nV,bI6,<- Nat.add_assoc]at a1
  omega
 by_cases hk0:k>0
 ·rw[if_pos hk0]
  by_cases he:(i+k+1==x.size)=true
  ·rw[if_pos he]
   exact bC4 ⟨q4,.inl ⟨_,_,_,_,_,_,_,rfl,mk.last x0 hl (by simpa using he)⟩⟩
  ·rw[if_neg he]
   have he:i+k+1≠x.size:=by simpa using he
   by_cases hf:(i+k==x.size)=true
   ·rw[if_pos hf]
    have hf:i+k=x.size:=by simpa using hf
    exact bC4 ⟨q4,.inl ⟨_,_,_,_,_,_,_,rfl,mk.done (.inl (by omega))⟩⟩
   ·rw[if_neg hf]
    have hf:i+k≠x.size:=by simpa using hf
    exact Y3 c hk ox oy sx sy x0 hl q4 mk (by omega) hj (by omega) km
 ·rw[if_neg hk0]
  have e0:k=0:=by omega
  subst e0
  exact Y3 c hk ox oy sx sy x0 hl q4 m hi hj hb km
theorem aR7 (c:cW prog w A E s κ Ok rk){st0:SortSt}(hk:kindOf st0=κ){x y o:Array Keyed}{mg p q lb:Nat}(ox:bT Ok x)(oy:bT Ok y)(sx:Sd rk x.toList)(sy:Sd rk y.toList)(x0:0<x.size)(hl:∀u∈y.toList,rk u<=rk x[x.size-1])(g:Gq st0 st)(m:MI rk x.toList y.toList o.toList i j)(hi:i+1<x.size)(hj:j<y.size)(hb:lb<=i+j) :
  wpS (model prog w) A E s (yO x y o i j mg p q) (GQ rk x y lb st0) st:=by
 unfold yO
 refine bJ5 (I:=λ_=>GI rk x y lb st0) ?_ ?_ ⟨g,o,i,j,_,p,q,rfl,m,hi,hj,hb⟩
 ·rintro t c3 st3 _ _ ⟨q3,o,i,j,mg,p,q,rfl,m,hi,hj,pr3⟩
  dsimp only
  split
  ·exact bQ5 (Y4 c hk ox oy sx sy x0 hl q3 m hi hj pr3) λr _ hr=>by cases r<;>exact hr
  ·exact bQ5 (Y4 c hk ox oy sx sy x0 hl q3 m hi hj pr3) λr _ hr=>by cases r<;>exact hr
 ·rintro c3 st3 ⟨q3,o,i,j,mg,p,q,rfl,m,hi,hj,pr3⟩
  exact⟨q3,.inr ⟨_,_,_,_,_,_,rfl,m,hi,hj,pr3⟩⟩
theorem aR8 (c:cW prog w A E s κ Ok rk){st0:SortSt}(hk:kindOf st0=κ){x y o:Array Keyed}{mg:Nat}{Q:yN->SortSt->Prop}(ox:bT Ok x)(oy:bT Ok y)(sx:Sd rk x.toList)(sy:Sd rk y.toList)(x0:0<x.size)(hl:∀u∈y.toList,rk u<=rk x[x.size-1])(g:Gq st0 st)(m:MI rk x.toList y.toList o.toList i j)(hi:i+1<x.size)(hj:j<y.size)(h1:∀r o' i' j' p q st',Gq st0 st'->eG rk x y r->Q (some r,o',i',j',p,q) st')(h2:∀o' i' j' p q st',Gq st0 st'->MI rk x.toList y.toList o'.toList i' j'->i'+1<x.size->j'<y.size->i+j+1<=i'+j'->Q (none,o',i',j',p,q) st') :
  wpS (model prog w) A E s (yQ x y o i j mg) Q st:=by
 have ux:Up rk x 0 x.size:=sx.up 0 _ (bA3 _)
 have uy:Up rk y 0 y.size:=sy.up 0 _ (bA3 _)
 unfold yQ
 refine bJ5 (I:=λt c st'=>Gq st0 st'/\∃o i' j' p q,c=(none,o,i',j',p,q)/\MI rk x.toList y.toList o.toList i' j'/\i'+1<x.size/\j'<y.size/\i+j+t<=i'+j') ?_ ?_ ⟨g,o,i,j,0,0,rfl,m,hi,hj,by omega⟩
 ·rintro t c2 st2 _ ht ⟨q2,o,i',j',p,q,rfl,m,hi,hj,pr2⟩
  dsimp only
  have hi':i'<x.size:=by omega
  refine bB5 (dI hj (bB5 (dI hi' (bB5 (c _ _ (oy _ (bG3 hj)) (ox _ (bG3 hi')) st2 _ (q2.kd.trans hk) ?_)))))
  by_cases hc:rk y[j']<rk x[i']
  ·rw[bz9 hc]
   dsimp only
   rw[if_pos rfl]
   have m':=m.y1 hj λt ht=>by
    have:=ux i' (i'+t) (by omega) (by omega) ht
    rw[cL hi']at this
    omega
   refine bB5 (dI hj ?_)
   by_cases he:(j'+1==y.size)=true
   ·rw[if_pos he]
    have he:j'+1=y.size:=by simpa using he
    exact bC4 (h1 _ _ _ _ _ _ _ q2 (m'.done (.inr (by omega))))
   ·rw[if_neg he]
    have he:j'+1≠y.size:=by simpa using he
    split
    ·exact bC4 (h2 _ _ _ _ _ _ q2 m' hi (by omega) (by omega))
    ·exact bC4 ⟨q2,_,_,_,_,_,rfl,m',hi,by omega,by omega⟩
  ·rw[bA0 hc]
   dsimp only
   rw[if_neg bC1]
   have m':=m.x1 hi' λt ht=>by
    have:=uy j' (j'+t) (by omega) (by omega) ht
    rw[cL hj]at this
    omega
   refine bB5 (dI hi' ?_)
   by_cases he:(i'+1+1==x.size)=true
   ·rw[if_pos he]
    exact bC4 (h1 _ _ _ _ _ _ _ q2 (m'.last x0 hl (by simpa using he)))
   ·rw[if_neg he]
    have he:i'+1+1≠x.size:=by simpa using he
    split
    ·exact bC4 (h2 _ _ _ _ _ _ q2 m' (by omega) hj (by omega))
    ·exact bC4 ⟨q2,_,_,_,_,_,rfl,m',by omega,hj,by omega⟩
 ·rintro c2 st2 ⟨q2,o,i',j',p,q,rfl,m,hi,hj,pr2⟩
  exact h2 _ _ _ _ _ _ q2 m hi hj (by omega)
theorem aR9 (c:cW prog w A E s κ Ok rk)(hk:kindOf st=κ){x y:Array Keyed}{Q:Array Keyed->SortSt->Prop}(ox:bT Ok x)(oy:bT Ok y)(sx:Sd rk x.toList)(sy:Sd rk y.toList)(x0:0<x.size)(y0:0<y.size)(hf:∀t∈x.toList,rk y[0]<=rk t)(hl:∀u∈y.toList,rk u<=rk x[x.size-1])(h:∀r st',Gq st st'->eG rk x y r->Q r st'):wpS (model prog w) A E s (yM x y) Q st:=by
 rw[aR6]
 refine bB5 (wpS_lift (bQ9 ⟨rfl,bB5 (dI y0 ?_)⟩))
 have m0:MI rk x.toList y.toList (#[y[0]]:Array Keyed).toList 0 1:=by
  have mm:MI rk x.toList y.toList [] 0 0:=⟨by simp,sx,sy⟩
  have:=mm.ofy 1 λu hu t ht=>?_
  ·rw[<- mB y0]at this;exact this
  ·rw[<- mB y0,bA1]at hu
   subst hu
   exact hf t ht
 by_cases e1:(1==y.size)=true
 ·rw[if_pos e1]
  have e1:1=y.size:=by simpa using e1
  exact bC4 (h _ st (Gq.refl st) (m0.done (.inr (by omega))))
 ·rw[if_neg e1]
  have e1:1≠y.size:=by simpa using e1
  by_cases e2:(0+1==x.size)=true
  ·rw[if_pos e2]
   exact bC4 (h _ st (Gq.refl st) (m0.last x0 hl (by simpa using e2)))
  ·rw[if_neg e2]
   have e2:0+1≠x.size:=by simpa using e2
   refine bB5 (wpS_get ?_)
   unfold X9
   refine bB5 (bQ5 (bJ5
    (I:=λn c st'=>Gq st st'/\∃o i j mg,c=(none,o,i,j,mg)/\MI rk x.toList y.toList o.toList i j/\i+1<x.size/\j<y.size/\n+1<=i+j)
    (Q:=λc st'=>Gq st st'/\∃r o i j mg,c=(some r,o,i,j,mg)/\eG rk x y r) ?_ ?_ ⟨Gq.refl st,_,0,1,_,rfl,m0,by omega,by omega,by omega⟩) ?_)
   ·rintro n c1 st1 _ hn ⟨q1,o,i,j,mg,rfl,m,hi,hj,pr⟩
    dsimp only
    refine bB5 (aR8 c hk ox oy sx sy x0 hl q1 m hi hj (λr o' i' j' p q st' g md=>bC4 ⟨g,r,_,_,_,_,rfl,md⟩) λo' i' j' p q st' g m' hi' hj' pr'=>?_)
    refine bB5 (wpS_lift (bQ9 ⟨rfl,?_⟩))
    refine bB5 (bQ5 (aR7 c hk ox oy sx sy x0 hl g m' hi' hj' pr') ?_)
    rintro c3 st3 ⟨q3,⟨r,o,i3,j3,mg,p,q,rfl,md⟩|⟨o,i3,j3,mg,p,q,rfl,m,hi,hj,pr3⟩⟩
    ·exact bC4 ⟨q3,r,_,_,_,_,rfl,md⟩
    ·exact bB5 (sT q3 λst4 q4=>bC4 ⟨q4,o,i3,j3,_,rfl,m,hi,hj,by omega⟩)
   ·rintro c1 st1 ⟨q1,o,i,j,mg,rfl,m,hi,hj,pr⟩
    exact absurd pr (by omega)
   ·rintro c1 st1 ⟨q1,r,o,i,j,mg,rfl,md⟩
    exact bC4 (h r _ q1 md)
end
def yR:Array Keyed->Array Keyed->StateT SortSt Sem (Array Keyed):=sortPriv% PySem.Builtin.mergeHi
abbrev LH:=Option (Array Keyed)×Nat×Nat×Array Keyed×Nat×Nat×Nat
abbrev yT:=Option (Array Keyed)×Nat×Nat×Array Keyed×Nat×Nat
abbrev LP:=Option (Array Keyed)×Nat×Nat×Array Keyed×Nat
def sU (x y o:Array Keyed)(i j mg p q:Nat):StateT SortSt Sem (ForInStep LH):=do
 let v <- elem' x (i-1)
 if (i-1==0)=true then pure (.done (some (x.extract 0 (i-1)++y.extract 0 j++(o.push v).reverse),i-1,j,o.push v,mg,p,q))
 else if (decide (p<7)&&decide (q<7))=true then pure (.done (none,i-1,j,o.push v,mg,p,q)) else pure (.yield (none,i-1,j,o.push v,mg,p,q))
def sV (x y o:Array Keyed)(i j mg p q:Nat):StateT SortSt Sem (ForInStep LH):=do
 let v <- elem' y (j-1)
 if (j-1==1)=true then pure (.done (some (y.extract 0 (j-1)++x.extract 0 i++(o.push v).reverse),i,j-1,o.push v,mg,p,q)) else do
  let u <- elem' x (i-1)
  match <- lH true u y 0 (j-1) (j-1-1) with
  |some z=>
   if j-1-z>0 then
    if (z==1)=true then pure (.done (some (y.extract 0 z++x.extract 0 i++(o.push v++(y.extract z (j-1)).reverse).reverse),i,z,o.push v++(y.extract z (j-1)).reverse,mg,p,j-1-z))
    else if (z==0)=true then pure (.done (some (x.extract 0 i++y.extract 0 z++(o.push v++(y.extract z (j-1)).reverse).reverse),i,z,o.push v++(y.extract z (j-1)).reverse,mg,p,j-1-z))
    else sU x y (o.push v++(y.extract z (j-1)).reverse) i z mg p (j-1-z)
   else sU x y (o.push v) i (j-1) mg p (j-1-z)
  |_=>pure (.done (some (x.extract 0 i++y.extract 0 (j-1)++(o.push v).reverse),i,j-1,o.push v,mg,p,q))
def sW (x y o:Array Keyed)(i j mg p q:Nat):StateT SortSt Sem (ForInStep LH):=do
 nS mg
 let v <- elem' y (j-1)
 match <- lH false v x 0 i (i-1) with
 |some z=>
  if i-z>0 then
   if (z==0)=true then pure (.done (some (x.extract 0 z++y.extract 0 j++(o++(x.extract z i).reverse).reverse),z,j,o++(x.extract z i).reverse,mg,i-z,q))
   else sV x y (o++(x.extract z i).reverse) z j mg (i-z) q
  else sV x y o i j mg (i-z) q
 |_=>pure (.done (some (x.extract 0 i++y.extract 0 j++o.reverse),i,j,o,mg,p,q))
def yU (x y o:Array Keyed)(i j mg p q:Nat):StateT SortSt Sem LH:=forIn [0:x.size+y.size] ((none,i,j,o,mg,p,q):LH) λ_ r=>
 if r.2.2.2.2.1>1 then sW x y r.2.2.2.1 r.2.1 r.2.2.1 (r.2.2.2.2.1-1) r.2.2.2.2.2.1 r.2.2.2.2.2.2 else sW x y r.2.2.2.1 r.2.1 r.2.2.1 r.2.2.2.2.1 r.2.2.2.2.2.1 r.2.2.2.2.2.2
def yV (x y o:Array Keyed)(i j mg:Nat):StateT SortSt Sem yT:=forIn [0:x.size+y.size] ((none,i,j,o,0,0):yT) λ_ r=>do
 let v <- elem' y (r.2.2.1-1)
 let u <- elem' x (r.2.1-1)
 match <- lt' v u with
 |some q=>
  if q=true then do
   let u <- elem' x (r.2.1-1)
   if (r.2.1-1==0)=true then pure (.done (some (x.extract 0 (r.2.1-1)++y.extract 0 r.2.2.1++(r.2.2.2.1.push u).reverse),r.2.1-1,r.2.2.1,r.2.2.2.1.push u,r.2.2.2.2.1+1,0))
   else if r.2.2.2.2.1+1 >= mg then pure (.done (none,r.2.1-1,r.2.2.1,r.2.2.2.1.push u,r.2.2.2.2.1+1,0)) else pure (.yield (none,r.2.1-1,r.2.2.1,r.2.2.2.1.push u,r.2.2.2.2.1+1,0))
  else do
   let v <- elem' y (r.2.2.1-1)
   if (r.2.2.1-1==1)=true then pure (.done (some (y.extract 0 (r.2.2.1-1)++x.extract 0 r.2.1++(r.2.2.2.1.push v).reverse),r.2.1,r.2.2.1-1,r.2.2.2.1.push v,0,r.2.2.2.2.2+1))
   else if r.2.2.2.2.2+1 >= mg then pure (.done (none,r.2.1,r.2.2.1-1,r.2.2.2.1.push v,0,r.2.2.2.2.2+1)) else pure (.yield (none,r.2.1,r.2.2.1-1,r.2.2.2.1.push v,0,r.2.2.2.2.2+1))
 |_=>pure (.done (some (x.extract 0 r.2.1++y.extract 0 r.2.2.1++r.2.2.2.1.reverse),r.2.1,r.2.2.1,r.2.2.2.1,r.2.2.2.2.1,r.2.2.2.2.2))
def Y5 (x y o:Array Keyed)(i j mg:Nat):StateT SortSt Sem LP:=forIn [0:x.size+y.size] ((none,i,j,o,mg):LP) λ_ r=>do
 let u <- yV x y r.2.2.2.1 r.2.1 r.2.2.1 r.2.2.2.2
 match u.1 with
 |some z=>pure (.done (some z,u.2.1,u.2.2.1,u.2.2.2.1,r.2.2.2.2))
 |none=>do
  liftM (rule "list.sort.gallop")
  let v <- yU x y u.2.2.2.1 u.2.1 u.2.2.1 (r.2.2.2.2+1) u.2.2.2.2.1 u.2.2.2.2.2
  match v.1 with
  |some z=>pure (.done (some z,v.2.1,v.2.2.1,v.2.2.2.1,v.2.2.2.2.1))
  |none=>do
   nS (v.2.2.2.2.1+1)
   pure (.yield (none,v.2.1,v.2.2.1,v.2.2.2.1,v.2.2.2.2.1+1))
theorem aS0 (x y:Array Keyed):yR x y=(do
 liftM (rule "list.sort.merge-hi")
 let v <- elem' x (x.size-1)
 if (x.size-1==0)=true then pure (x.extract 0 (x.size-1)++y.extract 0 y.size++(#[v]:Array Keyed).reverse)
 else if (y.size==1)=true then pure (y.extract 0 y.size++x.extract 0 (x.size-1)++(#[v]:Array Keyed).reverse)
 else do
  let z <- get
  let r <- Y5 x y #[v] (x.size-1) y.size (gallopOf z)
  match r.1 with
  |some z=>pure z
  |none=>unsupported "internal:list.sort.merge-bound"):=by kernel_rfl
structure MH (rk:Keyed->Int)(xs ys o:List Keyed)(i j:Nat):Prop where
 pm:o.Perm (xs.drop i++ys.drop j)
 sx:Sd rk (xs.take i++o)
 sy:Sd rk (ys.take j++o)
variable {rk:Keyed→Int}{xs ys o:List Keyed}{i j:Nat}
theorem Sd.insR {o a b d:List Keyed}(h1:Sd rk (a++o))(h2:Sd rk ((d++b)++o))(h:∀t∈a,∀u∈b,rk t<=rk u):Sd rk (a++(b++o)):=by
 unfold Sd at *
 obtain⟨p1,p2,p3⟩:=bF3.mp h1
 obtain⟨q1,q2,q3⟩:=bF3.mp h2
 obtain⟨r1,r2,r3⟩:=bF3.mp q1
 refine bF3.mpr ⟨p1,bF3.mpr ⟨r2,p2,λu hu t ht=>q3 u (bD1 _ hu) t ht⟩,λu hu t ht=>?_⟩
 rcases bB8.mp ht with z|z
 ·exact h u hu t z
 ·exact p3 u hu t z
theorem sX (l:List Keyed){z j:Nat}(h:z<=j):l.take z++(l.take j).drop z=l.take j:=by
 have e:l.take z=(l.take j).take z:=by rw[List.take_take,Nat.min_eq_left h]
 rw[e];exact bE3 z _
theorem yW (l:List Keyed){z j:Nat}(h:z<=j):(l.take j).drop z++l.drop j=l.drop z:=by
 rw[bR2,show l.drop j=(l.drop z).drop (j-z) by rw[List.drop_drop,Nat.add_sub_cancel' h]]
 exact bE3 _ _
theorem MH.ofy (m:MH rk xs ys o i j){z:Nat}(hz:z<=j)(h:∀t∈xs.take i,∀u∈(ys.take j).drop z,rk t<=rk u):MH rk xs ys ((ys.take j).drop z++o) i z:=by
 refine⟨?_,Sd.insR m.sx (d:=ys.take z) (by rw[sX _ hz];exact m.sy) h,by rw[<- bC5,sX _ hz];exact m.sy⟩
 rw[<- yW ys hz]
 refine (m.pm.append_left _).trans ?_
 rw[<- bC5,<- bC5]
 exact (bN1).append_right _
theorem MH.ofx (m:MH rk xs ys o i j){z:Nat}(hz:z<=i)(h:∀t∈ys.take j,∀u∈(xs.take i).drop z,rk t<=rk u):MH rk xs ys ((xs.take i).drop z++o) z j:=by
 refine⟨?_,by rw[<- bC5,sX _ hz];exact m.sx,Sd.insR m.sy (d:=xs.take z) (by rw[sX _ hz];exact m.sx) h⟩
 rw[<- yW xs hz,bC5]
 exact m.pm.append_left _
theorem MH.fin (m:MH rk xs ys o i j)(h:i=0∨j=0):(xs.take i++ys.take j++o).Perm (xs++ys)/\Sd rk (xs.take i++ys.take j++o):=by
 refine⟨?_,?_⟩
 ·have e1:xs=xs.take i++xs.drop i:=(bE3 i xs).symm
  have e2:ys=ys.take j++ys.drop j:=(bE3 j ys).symm
  conv=>rhs;rw[e1,e2]
  rw[bC5,bC5]
  refine List.Perm.append_left _ ((m.pm.append_left _).trans ?_)
  rw[<- bC5,<- bC5]
  exact (bN1).append_right _
 ·rcases h with h|h
  ·subst h;simpa using m.sy
  ·subst h;simpa using m.sx
theorem MH.fst (m:MH rk xs ys o i j)(h:∀t∈ys.take j,∀u∈xs,rk t<=rk u):(ys.take j++xs.take i++o).Perm (xs++ys)/\Sd rk (ys.take j++xs.take i++o):=by
 have m2:=m.ofx (bE9 i) λt ht u hu=>h t ht u (bQ6 (List.mem_of_mem_drop hu))
 have f:=m2.fin (.inl rfl)
 simpa using f
theorem qD {x:Array Keyed}{i:Nat}{u:Keyed}(h:u∈x.toList.take i):∃t,t<i/\t<x.size/\rk u=Kr rk x t:=by
 obtain⟨t,ht,e⟩:=bO6 h
 have h1:t<i/\t<x.size:=by simp at ht;omega
 refine⟨t,h1.1,h1.2,?_⟩
 rw[cL h1.2,<- e]
 simp
theorem qE {x:Array Keyed}{z i:Nat}{u:Keyed}(h:u∈(x.toList.take i).drop z):∃t,z<=t/\t<i/\t<x.size/\rk u=Kr rk x t:=by
 obtain⟨t,ht,e⟩:=bO6 h
 have h1:z+t<i/\z+t<x.size:=by simp at ht;omega
 refine⟨z+t,by omega,h1.1,h1.2,?_⟩
 rw[cL h1.2,<- e]
 simp
theorem mC (x:Array Keyed)(z i:Nat):(x.extract z i).toList=(x.toList.take i).drop z:=by
 rw[bR2];simp[List.extract]
theorem sY (x:Array Keyed)(i:Nat):(x.extract 0 i).toList=x.toList.take i:=by
 simp[List.extract]
theorem qF {x:Array Keyed}{i:Nat}(h:i<x.size):[x[i]]=(x.toList.take (i+1)).drop i:=by
 rw[bR2,mB h,show i+1-i=1 by omega]
section
variable {κ:SortKind}{st:SortSt}{prog:Program}{w:World}{A:Around}{E:Value→Shared→Prop}{s:Shared}{Ok:Keyed→Prop}
theorem MH.y1 {x y o:Array Keyed}(m:MH rk x.toList y.toList o.toList.reverse i (j+1))(hj:j<y.size)(h:∀t,t<i->t<x.size->Kr rk x t<=rk y[j]):MH rk x.toList y.toList (o.push y[j]).toList.reverse i j:=by
 have:=m.ofy (Nat.le_succ j) λt ht u hu=>?_
 ·rw[<- qF hj]at this;simpa using this
 ·rw[<- qF hj,bA1]at hu
  subst hu
  obtain⟨q,q1,q2,q3⟩:=qD (rk:=rk) ht
  rw[q3];exact h q q1 q2
theorem MH.x1 {x y o:Array Keyed}(m:MH rk x.toList y.toList o.toList.reverse (i+1) j)(hi:i<x.size)(h:∀t,t<j->t<y.size->Kr rk y t<=rk x[i]):MH rk x.toList y.toList (o.push x[i]).toList.reverse i j:=by
 have:=m.ofx (Nat.le_succ i) λt ht u hu=>?_
 ·rw[<- qF hi]at this;simpa using this
 ·rw[<- qF hi,bA1]at hu
  subst hu
  obtain⟨q,q1,q2,q3⟩:=qD (rk:=rk) ht
  rw[q3];exact h q q1 q2
theorem MH.yk {x y o:Array Keyed}(m:MH rk x.toList y.toList o.toList.reverse i j){z:Nat}(hz:z<=j)(h:∀t p,t<i->t<x.size->z<=p->p<j->p<y.size->Kr rk x t<=Kr rk y p):MH rk x.toList y.toList (o++(y.extract z j).reverse).toList.reverse i z:=by
 have:=m.ofy hz λt ht u hu=>?_
 ·rw[<- mC]at this;simpa using this
 ·obtain⟨q,q1,q2,q3⟩:=qD (rk:=rk) ht
  obtain⟨p,p1,p2,p3,p4⟩:=qE (rk:=rk) hu
  rw[q3,p4];exact h q p q1 q2 p1 p2 p3
theorem MH.xk {x y o:Array Keyed}(m:MH rk x.toList y.toList o.toList.reverse i j){z:Nat}(hz:z<=i)(h:∀t p,t<j->t<y.size->z<=p->p<i->p<x.size->Kr rk y t<=Kr rk x p):MH rk x.toList y.toList (o++(x.extract z i).reverse).toList.reverse z j:=by
 have:=m.ofx hz λt ht u hu=>?_
 ·rw[<- mC]at this;simpa using this
 ·obtain⟨q,q1,q2,q3⟩:=qD (rk:=rk) ht
  obtain⟨p,p1,p2,p3,p4⟩:=qE (rk:=rk) hu
  rw[q3,p4];exact h q p q1 q2 p1 p2 p3
theorem MH.done {x y o:Array Keyed}(m:MH rk x.toList y.toList o.toList.reverse i j)(hh:i=0∨j=0):eG rk x y (x.extract 0 i++y.extract 0 j++o.reverse):=by
 unfold eG
 rw[bH4,bH4,sY,sY,Array.toList_reverse]
 exact m.fin hh
theorem MH.frst {x y o:Array Keyed}(m:MH rk x.toList y.toList o.toList.reverse i j)(y0:0<y.size)(hf:∀t∈x.toList,rk y[0]<=rk t)(hh:j=1):eG rk x y (y.extract 0 j++x.extract 0 i++o.reverse):=by
 unfold eG
 rw[bH4,bH4,sY,sY,Array.toList_reverse]
 refine m.fst λt ht u hu=>?_
 subst hh
 obtain⟨q,q1,q2,q3⟩:=qD (rk:=rk) ht
 have e:q=0:=by omega
 subst e
 rw[q3,cL y0]
 exact hf u hu
structure HB (rk:Keyed->Int)(x y:Array Keyed)(lb i j:Nat)(o:Array Keyed):Prop where
 m:MH rk x.toList y.toList o.toList.reverse i j
 i0:0<i
 i1:i<x.size
 j0:1<j
 j1:j<=y.size
 pr:i+j+lb<=x.size+y.size
def HI (rk:Keyed->Int)(x y:Array Keyed)(lb:Nat)(st:SortSt)(c:LH)(st':SortSt):Prop:=Gq st st'/\∃i j o mg p q,c=(none,i,j,o,mg,p,q)/\HB rk x y lb i j o
def HQ (rk:Keyed->Int)(x y:Array Keyed)(lb:Nat)(st:SortSt)(c:LH)(st':SortSt):Prop:=Gq st st'/\((∃r i j o mg p q,c=(some r,i,j,o,mg,p,q)/\eG rk x y r)∨∃i j o mg p q,c=(none,i,j,o,mg,p,q)/\HB rk x y lb i j o)
def HR (rk:Keyed->Int)(x y:Array Keyed)(lb:Nat)(st:SortSt)(r:ForInStep LH)(st':SortSt):Prop:=match r with|.done c=>HQ rk x y lb st c st'|.yield c=>HI rk x y lb st c st'
theorem Y6 {st0:SortSt}{x y o:Array Keyed}{i j mg p q lb:Nat}(g:Gq st0 st)(b:HB rk x y lb (i+1) j o)(hm:∀(hi:i<x.size) t,t<j->t<y.size->Kr rk y t<=rk x[i]):wpS (model prog w) A E s (sU x y o (i+1) j mg p q) (HR rk x y lb st0) st:=by
 unfold sU
 obtain⟨m,i0,i1,j0,j1,pr⟩:=b
 have hi':i<x.size:=by omega
 have m':=m.x1 hi' (hm hi')
 simp only[Nat.add_sub_cancel]
 refine bB5 (dI hi' ?_)
 by_cases he:(i==0)=true
 ·rw[if_pos he]
  have he:i=0:=by simpa using he
  exact bC4 ⟨g,.inl ⟨_,_,_,_,_,_,_,rfl,m'.done (.inl he)⟩⟩
 ·rw[if_neg he]
  have he:i≠0:=by simpa using he
  split
  ·exact bC4 ⟨g,.inr ⟨_,_,_,_,_,_,rfl,m',by omega,by omega,j0,j1,by omega⟩⟩
  ·exact bC4 ⟨g,_,_,_,_,_,_,rfl,m',by omega,by omega,j0,j1,by omega⟩
theorem Y7 (c:cW prog w A E s κ Ok rk){st0:SortSt}(hk:kindOf st0=κ){x y o:Array Keyed}{i j mg p q lb:Nat}(ox:bT Ok x)(oy:bT Ok y)(sx:Sd rk x.toList)(sy:Sd rk y.toList)(y0:0<y.size)(hf:∀t∈x.toList,rk y[0]<=rk t)(g:Gq st0 st)(b:HB rk x y lb (i+1) (j+1) o)(hm:∀(hj:j<y.size) t,t<i+1->t<x.size->Kr rk x t<=rk y[j]):wpS (model prog w) A E s (sV x y o (i+1) (j+1) mg p q) (HR rk x y lb st0) st:=by
 unfold sV
 obtain⟨m,i0,i1,j0,j1,pr⟩:=b
 have hi':i<x.size:=by omega
 have hj:j<y.size:=by omega
 have m':=m.y1 hj (hm hj)
 simp only[Nat.add_sub_cancel]
 refine bB5 (dI hj ?_)
 by_cases he:(j==1)=true
 ·rw[if_pos he]
  have he:j=1:=by simpa using he
  exact bC4 ⟨g,.inl ⟨_,_,_,_,_,_,_,rfl,m'.frst y0 hf he⟩⟩
 ·rw[if_neg he]
  have he:j≠1:=by simpa using he
  refine bB5 (dI hi' (bB5 (nR c (g.kd.trans hk) (ox _ (bG3 hi')) oy (by omega) (by omega) (sy.up _ _ (by omega)) λz k1 k2 k3=>?_)))
  dsimp only
  have ux:=sx.up 0 _ (bA3 x.size)
  have mk:=m'.yk k1 λt p ht ht' hp hp' _=>by
   have a1:=k3 p hp hp'
   rw[nW,bI6,Nat.zero_add]at a1
   have a2:=ux t i (by omega) (by omega) hi'
   rw[cL (i:=i) hi']at a2
   omega
  have km:∀(hi:i<x.size) t,t<z->t<y.size->Kr rk y t<=rk x[i]:=λ_ t ht _=>by
   have a1:=k2 t ht
   rw[nW,bC2,Nat.zero_add]at a1
   omega
  by_cases hk0:j-z>0
  ·rw[if_pos hk0]
   by_cases h1:(z==1)=true
   ·rw[if_pos h1]
    have h1:z=1:=by simpa using h1
    exact bC4 ⟨g,.inl ⟨_,_,_,_,_,_,_,rfl,mk.frst y0 hf h1⟩⟩
   ·rw[if_neg h1]
    have h1:z≠1:=by simpa using h1
    by_cases h0:(z==0)=true
    ·rw[if_pos h0]
     have h0:z=0:=by simpa using h0
     exact bC4 ⟨g,.inl ⟨_,_,_,_,_,_,_,rfl,mk.done (.inr h0)⟩⟩
    ·rw[if_neg h0]
     have h0:z≠0:=by simpa using h0
     exact Y6 g ⟨mk,by omega,i1,by omega,by omega,by omega⟩ km
  ·rw[if_neg hk0]
   have e0:z=j:=by omega
   subst e0
   exact Y6 g ⟨m',by omega,i1,by omega,by omega,by omega⟩ km
theorem Y8 (c:cW prog w A E s κ Ok rk){st0:SortSt}(hk:kindOf st0=κ){x y o:Array Keyed}{i j mg p q lb:Nat}(ox:bT Ok x)(oy:bT Ok y)(sx:Sd rk x.toList)(sy:Sd rk y.toList)(y0:0<y.size)(hf:∀t∈x.toList,rk y[0]<=rk t)(g:Gq st0 st)(b:HB rk x y lb i (j+1) o) :
  wpS (model prog w) A E s (sW x y o i (j+1) mg p q) (HR rk x y lb st0) st:=by
 unfold sW
 obtain⟨m,i0,i1,j0,j1,pr⟩:=b
 have hj:j<y.size:=by omega
 simp only[Nat.add_sub_cancel]
 refine bB5 (sT g λst4 q4=>bB5 (dI hj (bB5 (nR c (q4.kd.trans hk) (oy _ (bG3 hj)) ox (by omega) (by omega) (sx.up _ _ (by omega)) λz k1 k2 k3=>?_))))
 dsimp only
 have uy:=sy.up 0 _ (bA3 y.size)
 have mk:=m.xk k1 λt p ht ht' hp hp' _=>by
  have a1:=k3 p hp hp'
  rw[nV,bI6,Nat.zero_add]at a1
  have a2:=uy t j (by omega) (by omega) hj
  rw[cL (i:=j) hj]at a2
  omega
 have km:∀(hj:j<y.size) t,t<z->t<x.size->Kr rk x t<=rk y[j]:=λ_ t ht _=>by
  have a1:=k2 t ht
  rw[nV,bC2,Nat.zero_add]at a1
  exact a1
 by_cases hk0:i-z>0
 ·rw[if_pos hk0]
  by_cases he:(z==0)=true
  ·rw[if_pos he]
   exact bC4 ⟨q4,.inl ⟨_,_,_,_,_,_,_,rfl,mk.done (.inl (by simpa using he))⟩⟩
  ·rw[if_neg he]
   have he:z≠0:=by simpa using he
   obtain⟨z2,rfl⟩:∃z2,z=z2+1:=⟨z-1,by omega⟩
   exact Y7 c hk ox oy sx sy y0 hf q4 ⟨mk,by omega,by omega,j0,j1,by omega⟩ km
 ·rw[if_neg hk0]
  have e0:z=i:=by omega
  subst e0
  obtain⟨z2,rfl⟩:∃z2,z=z2+1:=⟨z-1,by omega⟩
  exact Y7 c hk ox oy sx sy y0 hf q4 ⟨m,i0,i1,j0,j1,pr⟩ km
theorem aS1 (c:cW prog w A E s κ Ok rk){st0:SortSt}(hk:kindOf st0=κ){x y o:Array Keyed}{i j mg p q lb:Nat}(ox:bT Ok x)(oy:bT Ok y)(sx:Sd rk x.toList)(sy:Sd rk y.toList)(y0:0<y.size)(hf:∀t∈x.toList,rk y[0]<=rk t)(g:Gq st0 st)(b:HB rk x y lb i j o) :
  wpS (model prog w) A E s (yU x y o i j mg p q) (HQ rk x y lb st0) st:=by
 unfold yU
 refine bJ5 (I:=λ_=>HI rk x y lb st0) ?_ ?_ ⟨g,i,j,o,_,p,q,rfl,b⟩
 ·rintro t c3 st3 _ _ ⟨q3,i,j,o,mg,p,q,rfl,b3⟩
  obtain⟨j3,rfl⟩:∃j3,j=j3+1:=⟨j-1,by have:=b3.j0;omega⟩
  dsimp only
  split
  ·exact bQ5 (Y8 c hk ox oy sx sy y0 hf q3 b3) λr _ hr=>by cases r<;>exact hr
  ·exact bQ5 (Y8 c hk ox oy sx sy y0 hf q3 b3) λr _ hr=>by cases r<;>exact hr
 ·rintro c3 st3 ⟨q3,i,j,o,mg,p,q,rfl,b3⟩
  exact⟨q3,.inr ⟨_,_,_,_,_,_,rfl,b3⟩⟩
theorem aS2 (c:cW prog w A E s κ Ok rk){st0:SortSt}(hk:kindOf st0=κ){x y o:Array Keyed}{i j mg n:Nat}{Q:yT->SortSt->Prop}(ox:bT Ok x)(oy:bT Ok y)(sx:Sd rk x.toList)(sy:Sd rk y.toList)(y0:0<y.size)(hf:∀t∈x.toList,rk y[0]<=rk t)(g:Gq st0 st)(b:HB rk x y n i j o)(h1:∀r i' j' o' p q st',Gq st0 st'->eG rk x y r->Q (some r,i',j',o',p,q) st')(h2:∀i' j' o' p q st',Gq st0 st'->HB rk x y (n+1) i' j' o'->Q (none,i',j',o',p,q) st') :
  wpS (model prog w) A E s (yV x y o i j mg) Q st:=by
 have ux:Up rk x 0 x.size:=sx.up 0 _ (bA3 _)
 have uy:Up rk y 0 y.size:=sy.up 0 _ (bA3 _)
 unfold yV
 refine bJ5 (I:=λt c st'=>Gq st0 st'/\∃i j o p q,c=(none,i,j,o,p,q)/\HB rk x y (n+t) i j o) ?_ ?_ ⟨g,i,j,o,0,0,rfl,b⟩
 ·rintro t c2 st2 _ ht ⟨q2,i',j',o,p,q,rfl,m,i0,i1,j0,j1,pr⟩
  obtain⟨i2,rfl⟩:∃i2,i'=i2+1:=⟨i'-1,by omega⟩
  obtain⟨j2,rfl⟩:∃j2,j'=j2+1:=⟨j'-1,by omega⟩
  simp only[Nat.add_sub_cancel]
  have hi:i2<x.size:=by omega
  have hj:j2<y.size:=by omega
  refine bB5 (dI hj (bB5 (dI hi (bB5 (c _ _ (oy _ (bG3 hj)) (ox _ (bG3 hi)) st2 _ (q2.kd.trans hk) ?_)))))
  by_cases hc:rk y[j2]<rk x[i2]
  ·rw[bz9 hc]
   dsimp only
   rw[if_pos rfl]
   have m':=m.x1 hi λt ht _=>by
    have:=uy t j2 (by omega) (by omega) hj
    rw[cL hj]at this
    omega
   refine bB5 (dI hi ?_)
   by_cases he:(i2==0)=true
   ·rw[if_pos he]
    exact bC4 (h1 _ _ _ _ _ _ _ q2 (m'.done (.inl (by simpa using he))))
   ·rw[if_neg he]
    have he:i2≠0:=by simpa using he
    split
    ·exact bC4 (h2 _ _ _ _ _ _ q2 ⟨m',by omega,by omega,j0,j1,by omega⟩)
    ·exact bC4 ⟨q2,_,_,_,_,_,rfl,m',by omega,by omega,j0,j1,by omega⟩
  ·rw[bA0 hc]
   dsimp only
   rw[if_neg bC1]
   have m':=m.y1 hj λt ht _=>by
    have:=ux t i2 (by omega) (by omega) hi
    rw[cL hi]at this
    omega
   refine bB5 (dI hj ?_)
   by_cases he:(j2==1)=true
   ·rw[if_pos he]
    exact bC4 (h1 _ _ _ _ _ _ _ q2 (m'.frst y0 hf (by simpa using he)))
   ·rw[if_neg he]
    have he:j2≠1:=by simpa using he
    split
    ·exact bC4 (h2 _ _ _ _ _ _ q2 ⟨m',i0,i1,by omega,by omega,by omega⟩)
    ·exact bC4 ⟨q2,_,_,_,_,_,rfl,m',i0,i1,by omega,by omega,by omega⟩
 ·rintro c2 st2 ⟨q2,i',j',o,p,q,rfl,m,i0,i1,j0,j1,pr⟩
  exact h2 _ _ _ _ _ _ q2 ⟨m,i0,i1,j0,j1,by omega⟩
theorem aS3 (c:cW prog w A E s κ Ok rk)(hk:kindOf st=κ){x y:Array Keyed}{Q:Array Keyed->SortSt->Prop}(ox:bT Ok x)(oy:bT Ok y)(sx:Sd rk x.toList)(sy:Sd rk y.toList)(x0:0<x.size)(y0:0<y.size)(hf:∀t∈x.toList,rk y[0]<=rk t)(hl:∀u∈y.toList,rk u<=rk x[x.size-1])(h:∀r st',Gq st st'->eG rk x y r->Q r st'):wpS (model prog w) A E s (yR x y) Q st:=by
 rw[aS0]
 refine bB5 (wpS_lift (bQ9 ⟨rfl,bB5 (dI (by omega:x.size-1<x.size) ?_)⟩))
 have m0:MH rk x.toList y.toList (#[x[x.size-1]]:Array Keyed).toList.reverse (x.size-1) y.size:=by
  have mm:MH rk x.toList y.toList [] x.size y.size:=⟨by simp,by rw[bE4 (by simp),bD5];exact sx,by rw[bE4 (by simp),bD5];exact sy⟩
  have e:=qF (x:=x) (i:=x.size-1) (by omega)
  rw[show x.size-1+1=x.size by omega]at e
  have:=mm.ofx (Nat.sub_le x.size 1) λt ht u hu=>?_
  ·rw[<- e]at this;simpa using this
  ·rw[<- e,bA1]at hu
   subst hu
   exact hl t (bQ6 ht)
 by_cases e1:(x.size-1==0)=true
 ·rw[if_pos e1]
  exact bC4 (h _ st (Gq.refl st) (m0.done (.inl (by simpa using e1))))
 ·rw[if_neg e1]
  have e1:x.size-1≠0:=by simpa using e1
  by_cases e2:(y.size==1)=true
  ·rw[if_pos e2]
   exact bC4 (h _ st (Gq.refl st) (m0.frst y0 hf (by simpa using e2)))
  ·rw[if_neg e2]
   have e2:y.size≠1:=by simpa using e2
   refine bB5 (wpS_get ?_)
   unfold Y5
   refine bB5 (bQ5 (bJ5
    (I:=λn c st'=>Gq st st'/\∃i j o mg,c=(none,i,j,o,mg)/\HB rk x y (n+1) i j o)
    (Q:=λc st'=>Gq st st'/\∃r i j o mg,c=(some r,i,j,o,mg)/\eG rk x y r) ?_ ?_ ⟨Gq.refl st,_,_,_,_,rfl,m0,by omega,by omega,by omega,by omega,by omega⟩) ?_)
   ·rintro n c1 st1 _ hn ⟨q1,i,j,o,mg,rfl,b⟩
    dsimp only
    refine bB5 (aS2 c hk ox oy sx sy y0 hf q1 b (λr o' i' j' p q st' g md=>bC4 ⟨g,r,_,_,_,_,rfl,md⟩) λi' j' o' p q st' g b'=>?_)
    refine bB5 (wpS_lift (bQ9 ⟨rfl,?_⟩))
    refine bB5 (bQ5 (aS1 c hk ox oy sx sy y0 hf g b') ?_)
    rintro c3 st3 ⟨q3,⟨r,i3,j3,o,mg,p,q,rfl,md⟩|⟨i3,j3,o,mg,p,q,rfl,b3⟩⟩
    ·exact bC4 ⟨q3,r,_,_,_,_,rfl,md⟩
    ·exact bB5 (sT q3 λst4 q4=>bC4 ⟨q4,i3,j3,o,_,rfl,b3⟩)
   ·rintro c1 st1 ⟨q1,i,j,o,mg,rfl,b⟩
    have:=b.pr
    exact absurd this (by omega)
   ·rintro c1 st1 ⟨q1,r,i,j,o,mg,rfl,md⟩
    exact bC4 (h r _ q1 md)
end
theorem aS4 (i:Nat):mergeAt' i=(do
 let z <- get
 let (some (sa,na,pw),some (sb,nb,_)):=((pendingOf z)[i]?,(pendingOf z)[i+1]?)|unsupported "internal:list.sort.pending"
 set (SortSt.mk' (kindOf z) (arrOf z) (((pendingOf z).setIfInBounds i (sa,na+nb,pw)).eraseIdxIfInBounds (i+1)) (gallopOf z) (failedOf z))
 let some k <- lH false (<- elem' (arrOf z) sb) (arrOf z) sa na 0|return false
 let (sa,na):=(sa+k,na-k)
 if na==0 then return true
 let some nb <- lH true (<- elem' (arrOf z) (sa+na-1)) (arrOf z) sb nb (nb-1)|return false
 if nb==0 then return true
 let x:=(arrOf z).extract sa sb
 let y:=(arrOf z).extract sb (sb+nb)
 let m <- if na<=nb then yM x y else yR x y
 modify λz=>setArr z (m.toList.zipIdx.foldl (λa (p,j)=>a.setIfInBounds (sa+j) p) (arrOf z))
 return (failedOf (<- get)).isNone):=rfl
variable {rk:Keyed→Int}
theorem aS5 {σ:Type}{M:Model}{A:Around}{E:Value->Shared->Prop}{s:Shared}{a b:σ}{Q:PUnit->σ->Prop}(h:Q ⟨⟩ a):wpS M A E s (set a:StateT σ Sem PUnit) Q b:=by
 unfold wpS;rw[StateT.run_set];exact bA8 ⟨rfl,h⟩
theorem Y9 (o:Nat):∀(m:List Keyed) (n:Nat) (a:Array Keyed) (t:Nat),o+n+m.length<=a.size->
  ((m.zipIdx n).foldl (λa (p,j)=>a.setIfInBounds (o+j) p) a)[t]? = if o+n<=t/\t<o+n+m.length then m[t-(o+n)]? else a[t]?
 |[],n,a,t,_=>by
  show a[t]? = _
  rw[if_neg (λz=>Nat.not_lt_of_ge z.1 z.2)]
 |p::m,n,a,t,h=>by
  rw[List.zipIdx_cons,List.foldl_cons]
  have h':o+(n+1)+m.length<=(a.setIfInBounds (o+n) p).size:=by rw[Array.size_setIfInBounds];simp at h;omega
  have ih:=Y9 o m (n+1) (a.setIfInBounds (o+n) p) t h'
  refine ih.trans ?_
  have hs:o+n<a.size:=by simp at h;omega
  rw[Array.getElem?_setIfInBounds]
  by_cases e:o+n=t
  ·subst e
   rw[if_neg (by omega),if_pos rfl,if_pos hs,if_pos (by simp),Nat.sub_self];rfl
  ·rw[if_neg e]
   by_cases c:o+n<=t/\t<o+n+(p::m).length
   ·rw[if_pos c,if_pos (by simp at c;omega)]
    rw[show t-(o+n)=(t-(o+(n+1)))+1 by omega];rfl
   ·rw[if_neg c,if_neg (by simp at c ⊢;omega)]
theorem Z0 {a:Array Keyed}{lo hi:Nat}(u:Up rk a lo hi)(hh:hi<=a.size):Sd rk (a.extract lo hi).toList:=by
 unfold Sd
 rw[bH5]
 intro i j hi' hj hij
 have h2:lo+j<hi:=by simp at hj;omega
 have:=u (lo+i) (lo+j) (by omega) (by omega) h2
 rw[cL (by omega:lo+i<a.size),cL (by omega:lo+j<a.size)]at this
 simpa using this
theorem Z1 {a:Array Keyed}{lo mid hi:Nat}(u:Up rk a lo mid)(v:Up rk a mid hi)(h0:lo<mid)(h1:mid<hi)(h:Kr rk a (mid-1)<=Kr rk a mid):Up rk a lo hi:=λi j hi' hij hj=>by
 rcases bG0 j mid with z|z
 ·exact u i j hi' hij z
 ·rcases bG0 i mid with y|y
  ·have a1:=u i (mid-1) hi' (by omega) (by omega)
   have a2:=v mid j (bA3 _) z hj
   omega
  ·exact v i j y hij hj
theorem Z2 {a:Array Keyed}{lo hi t:Nat}(h:t<hi-lo)(hh:hi<=a.size):Kr rk (a.extract lo hi) t=Kr rk a (lo+t):=by
 refine m8 ?_
 rw[Array.getElem?_extract_of_lt (by omega)]
 exact (getElem?_pos a (lo+t) (by omega)).symm
section
variable {κ:SortKind}{a0:Array Keyed}{pd:Array (Nat×Nat×Nat)}{st:SortSt}{prog:Program}{w:World}{A:Around}{E:Value→Shared→Prop}{s:Shared}{Ok:Keyed→Prop}
theorem aS6 {a m:Array Keyed}{p x e:Nat}(hpx:p<=x)(hxe:x<=e)(he:e<=a.size)(md:eG rk (a.extract p x) (a.extract x e) m) :
  let r:=m.toList.zipIdx.foldl (λa (q,j)=>a.setIfInBounds (p+j) q) a
  r.Perm a/\(∀t,(t<p∨e<=t)->Kr rk r t=Kr rk a t)/\(∀t t',p<=t->t<=t'->t'<e->Kr rk r t<=Kr rk r t')/\∀t,p<=t->t<e->∃t',p<=t'/\t'<e/\Kr rk r t=Kr rk a t':=by
 intro r
 have ml:m.toList.length=e-p:=by
  rw[md.1.length_eq];simp;omega
 have g:∀t,r[t]? = if p<=t/\t<e then m[t-p]? else a[t]?:=λt=>by
  have:=Y9 p m.toList 0 a t (by omega)
  rw[show r=(m.toList.zipIdx 0).foldl (λa (q,j)=>a.setIfInBounds (p+j) q) a from rfl,this]
  simp only[Nat.add_zero,ml,show p+(e-p)=e by omega,bL0]
 have ex:(a.extract p x).toList++(a.extract x e).toList=(a.toList.take e).drop p:=by
  rw[mC,mC,bR2,bR2,bR2]
  rw[show x=p+(x-p) by omega,<- List.drop_drop,show p+(x-p)-p=x-p by omega,show e-(p+(x-p))=(e-p)-(x-p) by omega]
  have:=bE3 (x-p) ((a.toList.drop p).take (e-p))
  rw[List.take_take,bR2,Nat.min_eq_left (by omega)]at this
  exact this
 have rl:r.toList=a.toList.take p++(m.toList++a.toList.drop e):=by
  apply List.ext_getElem?
  intro t
  rw[bL0,g]
  rcases bG0 t p with z|z
  ·rw[if_neg (by omega),bF6 (by simp;omega),List.getElem?_take_of_lt z,bL0]
  ·rw[bI4 (by simp;omega)]
   have lp:(a.toList.take p).length=p:=by simp;omega
   rw[lp]
   rcases bG0 t e with y|y
   ·rw[if_pos ⟨z,y⟩,bF6 (by omega),bL0]
   ·rw[if_neg (by omega),bI4 (by omega),ml,List.getElem?_drop,bL0]
    congr 1;omega
 have mp:m.toList.Perm ((a.toList.take e).drop p):=ex▸md.1
 refine⟨?_,λt ht=>m8 (by rw[g,if_neg (by omega)]),λt t' h1 h2 h3=>?_,λt h1 h2=>?_⟩
 ·refine Array.perm_iff_toList_perm.mpr ?_
  rw[rl]
  have:a.toList=a.toList.take p++((a.toList.take e).drop p++a.toList.drop e):=by
   rw[yW _ (by omega:p<=e)];exact (bE3 p _).symm
  conv=>rhs;rw[this]
  exact (mp.append_right _).append_left _
 ·have e1:Kr rk r t=Kr rk m (t-p):=m8 (by rw[g,if_pos (by omega)])
  have e2:Kr rk r t'=Kr rk m (t'-p):=m8 (by rw[g,if_pos (by omega)])
  rw[e1,e2]
  have ms:m.size=e-p:=by rw[<- ml];simp
  exact md.2.up 0 m.size (bA3 _) (t-p) (t'-p) (by omega) (by omega) (by omega)
 ·have e1:Kr rk r t=Kr rk m (t-p):=m8 (by rw[g,if_pos (by omega)])
  have ms:m.size=e-p:=by rw[<- ml];simp
  have hm:t-p<m.size:=by omega
  have mm:m[t-p]∈(a.toList.take e).drop p:=mp.mem_iff.mp (by simp)
  obtain⟨t',q1,q2,q3,q4⟩:=qE (rk:=rk) mm
  exact⟨t',q1,q2,by rw[e1,cL hm];exact q4⟩
theorem aS7 (c:cW prog w A E s κ Ok rk)(o:bT Ok a0)(b:SB κ a0 pd st){i sa na pw sb nb pw':Nat}{Q:Bool->SortSt->Prop}(e1:pd[i]? = some (sa,na,pw))(e2:pd[i+1]? = some (sb,nb,pw'))(hs:sb=sa+na)(n0:0<na)(m0:0<nb)(hz:sb+nb<=a0.size)(u:Up rk (arrOf st) sa sb)(v:Up rk (arrOf st) sb (sb+nb))(h:∀st',SB κ a0 ((pd.setIfInBounds i (sa,na+nb,pw)).eraseIdxIfInBounds (i+1)) st'->Up rk (arrOf st') sa (sb+nb)->(∀t,(t<sa∨sb+nb<=t)->Kr rk (arrOf st') t=Kr rk (arrOf st) t)->Q true st'):wpS (model prog w) A E s (mergeAt' i) Q st:=by
 have sz:=b.sz
 rw[aS4]
 refine bB5 (wpS_get ?_)
 rw[b.pd,e1,e2]
 dsimp only
 refine bB5 (aS5 ?_)
 generalize hst:SortSt.mk' (kindOf st) (arrOf st) ((pd.setIfInBounds i (sa,na+nb,pw)).eraseIdxIfInBounds (i+1)) (gallopOf st) (failedOf st)=st1
 have b1:SB κ a0 ((pd.setIfInBounds i (sa,na+nb,pw)).eraseIdxIfInBounds (i+1)) st1:=by rw[<- hst];exact⟨b.pm,b.kd,b.ok,rfl⟩
 have ar:arrOf st1=arrOf st:=by rw[<- hst]
 have oa:=b.all o
 have hsb:sb<(arrOf st).size:=by omega
 refine bB5 (dI hsb (bB5 (nR c b1.kd (oa _ (bG3 hsb)) oa n0 (by omega) (hs▸u) λk k1 k2 k3=>?_)))
 dsimp only
 have k2':∀t,sa<=t->t<sa+k->Kr rk (arrOf st) t<=Kr rk (arrOf st) sb:=λt t1 t2=>by
  have:=k2 (t-sa) (by omega)
  rw[nV,bC2,show sa+(t-sa)=t by omega]at this
  rw[cL hsb];exact this
 have k3':∀t,sa+k<=t->t<sb->Kr rk (arrOf st) sb<Kr rk (arrOf st) t:=λt t1 t2=>by
  have:=k3 (t-sa) (by omega) (by omega)
  rw[nV,bI6,show sa+(t-sa)=t by omega]at this
  rw[cL hsb];omega
 by_cases ek:(na-k==0)=true
 ·rw[if_pos ek]
  have ek:na-k=0:=by simpa using ek
  refine bC4 (h st1 b1 ?_ λt _=>by rw[ar])
  rw[ar]
  exact Z1 u v (by omega) (by omega) (k2' (sb-1) (by omega) (by omega))
 ·rw[if_neg ek]
  have ek:na-k≠0:=by simpa using ek
  have el:sa+k+(na-k)-1=sb-1:=by omega
  rw[el]
  have hsl:sb-1<(arrOf st).size:=by omega
  refine bB5 (dI hsl (bB5 (nR c b1.kd (oa _ (bG3 hsl)) oa (by omega) (by omega) v λl l1 l2 l3=>?_)))
  dsimp only
  have l2':∀t,sb<=t->t<sb+l->Kr rk (arrOf st) t<Kr rk (arrOf st) (sb-1):=λt t1 t2=>by
   have:=l2 (t-sb) (by omega)
   rw[nW,bC2,show sb+(t-sb)=t by omega]at this
   rw[cL hsl];exact this
  have l3':∀t,sb+l<=t->t<sb+nb->Kr rk (arrOf st) (sb-1)<=Kr rk (arrOf st) t:=λt t1 t2=>by
   have:=l3 (t-sb) (by omega) (by omega)
   rw[nW,bI6,show sb+(t-sb)=t by omega]at this
   rw[cL hsl];omega
  by_cases en:(l==0)=true
  ·rw[if_pos en]
   have en:l=0:=by simpa using en
   subst en
   refine bC4 (h st1 b1 ?_ λt _=>by rw[ar])
   rw[ar]
   exact Z1 u v (by omega) (by omega) (l3' sb (by omega) (by omega))
  ·rw[if_neg en]
   have en:l≠0:=by simpa using en
   have sub:∀p e,bT Ok ((arrOf st).extract p e):=λp e z hz=>oa z (by
    have:z∈((arrOf st).extract p e).toList:=Array.mem_toList_iff.mpr hz
    rw[mC]at this
    exact Array.mem_toList_iff.mp (bQ6 (List.mem_of_mem_drop this)))
   have sx:Sd rk ((arrOf st).extract (sa+k) sb).toList:=Z0 (λi j h1 h2 h3=>u i j (by omega) h2 h3) (by omega)
   have sy:Sd rk ((arrOf st).extract sb (sb+l)).toList:=Z0 (λi j h1 h2 h3=>v i j h1 h2 (by omega)) (by omega)
   have x0:0<((arrOf st).extract (sa+k) sb).size:=by simp;omega
   have y0:0<((arrOf st).extract sb (sb+l)).size:=by simp;omega
   have hf:∀t∈((arrOf st).extract (sa+k) sb).toList,rk ((arrOf st).extract sb (sb+l))[0]<=rk t:=λt ht=>by
    rw[mC]at ht
    obtain⟨t',q1,q2,q3,q4⟩:=qE (rk:=rk) ht
    rw[q4,<- cL (rk:=rk) y0,Z2 (by omega) (by omega)]
    exact bQ4 (k3' t' q1 q2)
   have hl:∀t∈((arrOf st).extract sb (sb+l)).toList,rk t<=rk ((arrOf st).extract (sa+k) sb)[((arrOf st).extract (sa+k) sb).size-1]:=λt ht=>by
    rw[mC]at ht
    obtain⟨t',q1,q2,q3,q4⟩:=qE (rk:=rk) ht
    have e:((arrOf st).extract (sa+k) sb).size=sb-(sa+k):=by simp;omega
    rw[q4,<- cL (rk:=rk) (by omega),Z2 (by omega) (by omega),e,show sa+k+(sb-(sa+k)-1)=sb-1 by omega]
    exact bQ4 (l2' t' q1 q2)
   have fin:∀(m:Array Keyed) (st2:SortSt),Gq st1 st2->eG rk ((arrOf st).extract (sa+k) sb) ((arrOf st).extract sb (sb+l)) m->
     wpS (model prog w) A E s (do modify (λz=>setArr z (m.toList.zipIdx.foldl (λa (p,j)=>a.setIfInBounds (sa+k+j) p) (arrOf z)));return (failedOf (<- get)).isNone) Q st2:=λm st2 g md=>by
    have b2:SB κ a0 ((pd.setIfInBounds i (sa,na+nb,pw)).eraseIdxIfInBounds (i+1)) st2:=⟨by rw[g.ar];exact b1.pm,g.kd.trans b1.kd,g.ok.trans b1.ok,g.pd.trans b1.pd⟩
    have a2:arrOf st2=arrOf st:=g.ar.trans ar
    obtain⟨r1,r2,r3,r4⟩:=aS6 (by omega) (by omega) (by omega) md
    generalize hr:m.toList.zipIdx.foldl (λa (q,j)=>a.setIfInBounds (sa+k+j) q) (arrOf st)=r at r1 r2 r3 r4
    refine bB5 (wpS_modify (bB5 (wpS_get (bC4 ?_))))
    have b3:=b2.put (xs:=m.toList.zipIdx.foldl (λa (q,j)=>a.setIfInBounds (sa+k+j) q) (arrOf st2)) (by rw[a2,hr];exact r1)
    have er:arrOf (setArr st2 (m.toList.zipIdx.foldl (λa (q,j)=>a.setIfInBounds (sa+k+j) q) (arrOf st2)))=r:=by rw[<- hr,a2]
    have tr:(failedOf (setArr st2 (m.toList.zipIdx.foldl (λa (q,j)=>a.setIfInBounds (sa+k+j) q) (arrOf st2)))).isNone=true:=by rw[b3.ok];rfl
    rw[tr]
    refine h _ b3 (λi j hi hij hj=>?_) λt ht=>?_
    ·rw[er]
     have bl:∀t,sa<=t->t<sa+k->∀t',sa+k<=t'->t'<sb+l->Kr rk (arrOf st) t<=Kr rk (arrOf st) t':=λt t1 t2 t' t3 t4=>by
      rcases bG0 t' sb with z|z
      ·exact u t t' t1 (by omega) z
      ·have a1:=k2' t t1 t2
       have a2:=v sb t' (bA3 _) z (by omega)
       omega
     have br:∀t,sb+l<=t->t<sb+nb->∀t',sa+k<=t'->t'<sb+l->Kr rk (arrOf st) t'<=Kr rk (arrOf st) t:=λt t1 t2 t' t3 t4=>by
      rcases bG0 t' sb with z|z
      ·have a1:=u t' (sb-1) (by omega) (by omega) (by omega)
       have a2:=l3' t t1 t2
       omega
      ·exact v t' t z (by omega) t2
     have blr:∀t,sa<=t->t<sa+k->∀t',sb+l<=t'->t'<sb+nb->Kr rk (arrOf st) t<=Kr rk (arrOf st) t':=λt t1 t2 t' t3 t4=>by
      have a1:=bl t t1 t2 (sb-1) (by omega) (by omega)
      have a2:=l3' t' t3 t4
      omega
     rcases bG0 i (sa+k) with z|z
     ·rw[r2 i (.inl z)]
      rcases bG0 j (sa+k) with y|y
      ·rw[r2 j (.inl y)];exact u i j hi hij (by omega)
      ·rcases bG0 j (sb+l) with x|x
       ·obtain⟨t',q1,q2,q3⟩:=r4 j y x
        rw[q3];exact bl i hi z t' q1 q2
       ·rw[r2 j (.inr x)];exact blr i hi z j x hj
     ·rcases bG0 j (sb+l) with x|x
      ·exact r3 i j z hij x
      ·rw[r2 j (.inr x)]
       rcases bG0 i (sb+l) with y|y
       ·obtain⟨t',q1,q2,q3⟩:=r4 i z y
        rw[q3];exact br j x hj t' q1 q2
       ·rw[r2 i (.inr y)];exact v i j (by omega) hij hj
    ·rw[er];exact r2 t (by omega)
   by_cases hle:na-k<=l
   ·rw[if_pos hle]
    exact bB5 (aR9 c b1.kd (sub _ _) (sub _ _) sx sy x0 y0 hf hl λm st2 g md=>fin m st2 g md)
   ·rw[if_neg hle]
    exact bB5 (aS3 c b1.kd (sub _ _) (sub _ _) sx sy x0 y0 hf hl λm st2 g md=>fin m st2 g md)
end
def Ch:Nat->List (Nat×Nat)->Nat->Prop
 |a,[],b=>a=b
 |a,(p,n)::r,b=>p=a/\0<n/\Ch (a+n) r b
theorem Ch.split:∀{l l':List (Nat×Nat)}{a b:Nat},Ch a (l++l') b->∃m,Ch a l m/\Ch m l' b
 |[],_,a,_,h=>⟨a,rfl,h⟩
 |(p,n)::l,l',a,b,h=>by
  obtain⟨h1,h2,h3⟩:=h
  obtain⟨m,q1,q2⟩:=Ch.split h3
  exact⟨m,⟨h1,h2,q1⟩,q2⟩
theorem Ch.join:∀{l l':List (Nat×Nat)}{a m b:Nat},Ch a l m->Ch m l' b->Ch a (l++l') b
 |[],_,a,m,_,h,h'=>by cases (show a=m from h);exact h'
 |(p,n)::l,l',a,m,b,h,h'=>⟨h.1,h.2.1,Ch.join h.2.2 h'⟩
theorem Ch.len:∀{l:List (Nat×Nat)}{a b:Nat},Ch a l b->a+l.length<=b
 |[],a,b,h=>by cases (show a=b from h);simp
 |(p,n)::l,a,b,h=>by
  have:=Ch.len h.2.2
  have:=h.2.1
  simp;omega
theorem Ch.mem:∀{l:List (Nat×Nat)}{a b:Nat}{r:Nat×Nat},Ch a l b->r∈l->a<=r.1/\r.1+r.2<=b/\0<r.2
 |(p,n)::l,a,b,r,h,hr=>by
  obtain⟨h1,h2,h3⟩:=h
  have hb:=Ch.len h3
  rcases bA7.mp hr with e|e
  ·subst e
   have h1:p=a:=h1
   refine⟨?_,?_,h2⟩
   ·show a<=p;omega
   ·show p+n<=b;omega
  ·have:=Ch.mem h3 e
   exact⟨by omega,this.2.1,this.2.2⟩
def sk (pd:Array (Nat×Nat×Nat)):List (Nat×Nat):=pd.toList.map λr=>(r.1,r.2.1)
theorem sZ (pd:Array (Nat×Nat×Nat)):(sk pd).length=pd.size:=by simp[sk]
structure Rn (rk:Keyed->Int)(a:Array Keyed)(l:List (Nat×Nat))(lo:Nat):Prop where
 ch:Ch 0 l lo
 up:∀r∈l,Up rk a r.1 (r.1+r.2)
variable {rk:Keyed→Int}{κ:SortKind}{a0:Array Keyed}{pd:Array (Nat×Nat×Nat)}{st:SortSt}{prog:Program}{w:World}{A:Around}{E:Value→Shared→Prop}{s:Shared}{Ok:Keyed→Prop}
theorem Rn.same {a b:Array Keyed}{l:List (Nat×Nat)}{lo:Nat}(h:Rn rk a l lo)(e:∀t,t<lo->Kr rk b t=Kr rk a t):Rn rk b l lo:=⟨h.ch,λr hr i j hi hij hj=>by
 have:=(h.ch.mem hr).2.1
 rw[e i (by omega),e j (by omega)]
 exact h.up r hr i j hi hij hj⟩
theorem Z3 (c:cW prog w A E s κ Ok rk)(o:bT Ok a0)(b:SB κ a0 pd st){i lo:Nat}{Q:Bool->SortSt->Prop}(hi:i+1<pd.size)(hz:lo<=a0.size)(rn:Rn rk (arrOf st) (sk pd) lo)(h:∀pd' st',SB κ a0 pd' st'->pd'.size+1=pd.size->Rn rk (arrOf st') (sk pd') lo->(∀t,lo<=t->Kr rk (arrOf st') t=Kr rk (arrOf st) t)->Q true st'):wpS (model prog w) A E s (mergeAt' i) Q st:=by
 obtain⟨⟨sa,na,pw⟩,e1⟩:∃r,pd[i]? = some r:=⟨pd[i],getElem?_pos pd i (by omega)⟩
 obtain⟨⟨sb,nb,pw'⟩,e2⟩:∃r,pd[i+1]? = some r:=⟨pd[i+1],getElem?_pos pd (i+1) hi⟩
 have d1:pd.toList=pd.toList.take i++(sa,na,pw)::(sb,nb,pw')::pd.toList.drop (i+2):=by
  have hl:i<pd.toList.length:=by simp;omega
  have hl2:i+1<pd.toList.length:=by simpa using hi
  have g1:pd.toList[i]=(sa,na,pw):=by rw[getElem?_pos pd i (by omega)]at e1;simpa using e1
  have g2:pd.toList[i+1]=(sb,nb,pw'):=by rw[getElem?_pos pd (i+1) hi]at e2;simpa using e2
  have:=bE3 i pd.toList
  rw[List.drop_eq_getElem_cons hl,List.drop_eq_getElem_cons hl2,g1,g2]at this
  exact this.symm
 have li:(pd.toList.take i).length=i:=by simp;omega
 have d2:((pd.setIfInBounds i (sa,na+nb,pw)).eraseIdxIfInBounds (i+1)).toList=pd.toList.take i++(sa,na+nb,pw)::pd.toList.drop (i+2):=by
  have e:((pd.setIfInBounds i (sa,na+nb,pw)).eraseIdxIfInBounds (i+1)).toList=(pd.toList.set i (sa,na+nb,pw)).eraseIdx (i+1):=by
   unfold Array.eraseIdxIfInBounds
   rw[dif_pos (by rw[Array.size_setIfInBounds];exact hi),Array.toList_eraseIdx,Array.toList_setIfInBounds]
  rw[e]
  conv=>lhs;rw[d1]
  rw[List.set_append_right _ _ (by omega),li,Nat.sub_self,List.set_cons_zero,List.eraseIdx_append_of_length_le (by omega),li,show i+1-i=1 by omega]
  rfl
 have k1:sk pd=(pd.toList.take i).map (λr=>(r.1,r.2.1))++(sa,na)::(sb,nb)::(pd.toList.drop (i+2)).map (λr=>(r.1,r.2.1)):=by
  unfold sk;conv=>lhs;rw[d1]
  simp
 have k2:sk ((pd.setIfInBounds i (sa,na+nb,pw)).eraseIdxIfInBounds (i+1))=(pd.toList.take i).map (λr=>(r.1,r.2.1))++(sa,na+nb)::(pd.toList.drop (i+2)).map (λr=>(r.1,r.2.1)):=by
  unfold sk;rw[d2]
  simp
 have ch:=rn.ch
 rw[k1]at ch
 obtain⟨m,c1,c2⟩:=ch.split
 obtain⟨f1,f2,f3,f4,f5⟩:=c2
 have f1:sa=m:=f1
 have f3:sb=m+na:=f3
 have up:=rn.up
 rw[k1]at up
 have lo2:=f5.len
 refine aS7 c o b e1 e2 (by omega) f2 f4 (by omega) (by have:=up (sa,na) (by simp);rw[f3,<- f1];exact this) (up (sb,nb) (by simp)) λst' b' u' fr=>h _ st' b' ?_ ⟨?_,?_⟩ λt ht=>fr t (by omega)
 ·rw[<- sZ,<- sZ,k1,k2];simp;omega
 ·rw[k2]
  refine c1.join ⟨f1,by omega,?_⟩
  rw[<- Nat.add_assoc];exact f5
 ·intro r hr
  rw[k2]at hr
  rcases bB8.mp hr with z|z
  ·intro p q h1 h2 h3
   have:=(c1.mem z).2.1
   rw[fr p (by omega),fr q (by omega)]
   exact up r (bD2 _ z) p q h1 h2 h3
  ·rcases bA7.mp z with z|z
   ·subst z
    show Up rk (arrOf st') sa (sa+(na+nb))
    rw[show sa+(na+nb)=sb+nb by omega];exact u'
   ·intro p q h1 h2 h3
    have:=(f5.mem z).1
    rw[fr p (by omega),fr q (by omega)]
    exact up r (bD1 _ (bA9 _ (bA9 _ z))) p q h1 h2 h3
abbrev RS:=Option Unit×Nat
def Z4 (sz pw:Nat):StateT SortSt Sem (Option Unit×Unit):=forIn [0:sz] ((none,()):Option Unit×Unit) λ_ _=>do
 let z <- get
 match (if (pendingOf z).size>1 then (pendingOf z)[(pendingOf z).size-2]? else none) with
 |some (_,_,o)=>if o<=pw then pure (.done (none,())) else do
   let q <- mergeAt' ((pendingOf z).size-2)
   if (!q)=true then pure (.done (some (),())) else pure (.yield (none,()))
 |_=>pure (.done (none,()))
def jn (sz lo n:Nat):StateT SortSt Sem (ForInStep RS):=do
 let z <- get
 match (pendingOf z).back? with
 |some (s1,n1,_)=>do
  let r <- Z4 sz (power' sz (2*s1+n1) (2*s1+n1+n1+n) sz)
  match r.1 with
  |some u=>pure (.done (some u,lo))
  |none=>do
   modify λs=>setPending s ((pendingOf s).modify ((pendingOf s).size-1) λx=>(x.1,x.2.1,power' sz (2*s1+n1) (2*s1+n1+n1+n) sz))
   modify λs=>setPending s ((pendingOf s).push (lo,n,0))
   pure (.yield (none,lo+n))
 |_=>do
  modify λs=>setPending s ((pendingOf s).push (lo,n,0))
  pure (.yield (none,lo+n))
def Z5 (sz mr lo:Nat):StateT SortSt Sem (ForInStep RS):=if lo >= sz then pure (.done (none,lo)) else do
 match <- countRun' lo (sz-lo) with
 |some n=>
  if n<mr then
   liftM (rule "list.sort.binary-insertion")
   let q <- binarySort' lo (min (sz-lo) mr) n
   if (!q)=true then pure (.done (some (),lo)) else jn sz lo (min (sz-lo) mr)
  else jn sz lo n
 |_=>pure (.done (some (),lo))
def Z6 (sz:Nat):StateT SortSt Sem (Option Unit×Unit):=forIn [0:sz] ((none,()):Option Unit×Unit) λ_ _=>do
 let z <- get
 if (pendingOf z).size<=1 then pure (.done (none,())) else do
  let q <- mergeAt' (if ((if (pendingOf z).size-2>0 then (pendingOf z)[(pendingOf z).size-2-1]?.map (·.2.1) else none).any (·<((pendingOf z)[(pendingOf z).size-2+1]?.elim 0 (·.2.1))))=true then (pendingOf z).size-2-1 else (pendingOf z).size-2)
  if (!q)=true then pure (.done (some (),())) else pure (.yield (none,()))
theorem aS8:sortRuns'=(do
 let z <- get
 let r <- (forIn [0:(arrOf z).size] ((none,0):RS) λ_ r=>Z5 (arrOf z).size (minRun' (arrOf z).size (arrOf z).size 0) r.2)
 match r.1 with
 |some u=>pure u
 |none=>do
  let q <- Z6 (arrOf z).size
  match q.1 with
  |some u=>pure u
  |none=>pure ()):=by kernel_rfl
theorem Z7 {lo nn:Nat}(n1:0<nn){pd:Array (Nat×Nat×Nat)}{a:Array Keyed}(r:Rn rk a (sk pd) lo)(u:Up rk a lo (lo+nn)):Rn rk a (sk (pd.push (lo,nn,0))) (lo+nn):=by
 have e:sk (pd.push (lo,nn,0))=sk pd++[(lo,nn)]:=by simp[sk]
 refine⟨by rw[e];exact r.ch.join ⟨rfl,n1,rfl⟩,λq hq=>?_⟩
 rw[e]at hq
 rcases bB8.mp hq with z|z
 ·exact r.up q z
 ·rw[bA1]at z
  subst z
  exact u
theorem Z8 (c:cW prog w A E s κ Ok rk)(o:bT Ok a0)(b:SB κ a0 pd st){lo n:Nat}{Q:ForInStep RS->SortSt->Prop}(n1:1<=n)(n2:lo+n<=a0.size)(rn:Rn rk (arrOf st) (sk pd) lo)(u:Up rk (arrOf st) lo (lo+n))(h:∀pd' st',SB κ a0 pd' st'->Rn rk (arrOf st') (sk pd') (lo+n)->Q (.yield (none,lo+n)) st'):wpS (model prog w) A E s (jn a0.size lo n) Q st:=by
 unfold jn
 refine bB5 (wpS_get ?_)
 rw[b.pd]
 cases hb:pd.back? with
 |none=>exact bB5 (wpS_modify (bC4 (h (pd.push (lo,n,0)) _ ⟨b.pm,b.kd,b.ok,by show (pendingOf st).push _=_;rw[b.pd]⟩ (Z7 n1 rn u))))
 |some q=>
  obtain⟨s1,m1,q3⟩:=q
  dsimp only
  generalize power' a0.size (2*s1+m1) (2*s1+m1+m1+n) a0.size=pw
  unfold Z4
  refine bB5 (bQ5 (bJ5
   (I:=λ_ r st'=>r=(none,())/\∃pd,SB κ a0 pd st'/\Rn rk (arrOf st') (sk pd) lo/\Up rk (arrOf st') lo (lo+n))
   (Q:=λr st'=>r=(none,())/\∃pd,SB κ a0 pd st'/\Rn rk (arrOf st') (sk pd) lo/\Up rk (arrOf st') lo (lo+n)) ?_ (λ_ _ z=>z) ⟨rfl,pd,b,rn,u⟩) ?_)
  ·rintro t r st4 _ ht ⟨rfl,pd4,b4,r4,u4⟩
   refine bB5 (wpS_get ?_)
   rw[b4.pd]
   cases ho:(if pd4.size>1 then pd4[pd4.size-2]? else none) with
   |none=>exact bC4 ⟨rfl,pd4,b4,r4,u4⟩
   |some z=>
    obtain⟨z1,z2,z3⟩:=z
    have h1:pd4.size>1:=by
     by_cases y:pd4.size>1
     ·exact y
     ·rw[if_neg y]at ho;cases ho
    dsimp only
    by_cases hp:z3<=pw
    ·rw[if_pos hp]
     exact bC4 ⟨rfl,pd4,b4,r4,u4⟩
    ·rw[if_neg hp]
     refine bB5 (Z3 c o b4 (by omega) (by omega) r4 λpd5 st5 b5 _ r5 f5=>?_)
     exact bC4 ⟨rfl,pd5,b5,r5,λi j hi hij hj=>by rw[f5 i hi,f5 j (by omega)];exact u4 i j hi hij hj⟩
  ·rintro r st4 ⟨rfl,pd4,b4,r4,u4⟩
   refine bB5 (wpS_modify (bB5 (wpS_modify (bC4 ?_))))
   have e:sk (pd4.modify (pd4.size-1) λx=>(x.1,x.2.1,pw))=sk pd4:=by
    unfold sk
    rw[Array.toList_modify]
    apply List.ext_getElem?
    intro t
    rw[bB6,bB6,List.getElem?_modify]
    cases pd4.toList[t]? with
    |none=>simp
    |some v=>by_cases y:pd4.size-1=t<;>simp[y]
   refine h ((pd4.modify (pd4.size-1) λx=>(x.1,x.2.1,pw)).push (lo,n,0)) _ ⟨b4.pm,b4.kd,b4.ok,?_⟩ (Z7 n1 (by rw[e];exact r4) u4)
   show ((pendingOf st4).modify ((pendingOf st4).size-1) λx=>(x.1,x.2.1,pw)).push _=_
   rw[b4.pd]
theorem aS9 (c:cW prog w A E s κ Ok rk)(o:bT Ok a0)(b:SB κ a0 #[] st){Q:Unit->SortSt->Prop}(h2:1<=a0.size)(h:∀st',(arrOf st').Perm a0->failedOf st'=none->Up rk (arrOf st') 0 a0.size->Q () st'):wpS (model prog w) A E s sortRuns' Q st:=by
 rw[aS8]
 refine bB5 (wpS_get ?_)
 rw[b.sz]
 generalize minRun' a0.size a0.size 0=mr
 refine bB5 (bQ5 (bJ5
  (I:=λx r st'=>∃lo pd,r=(none,lo)/\x<=lo/\lo<=a0.size/\SB κ a0 pd st'/\Rn rk (arrOf st') (sk pd) lo)
  (Q:=λr st'=>∃pd,r=(none,a0.size)/\SB κ a0 pd st'/\Rn rk (arrOf st') (sk pd) a0.size) ?_ ?_ ⟨0,#[],rfl,bA3 _,bE9 _,b,⟨rfl,λr hr=>absurd hr (by simp[sk])⟩⟩) ?_)
 ·rintro x r st1 _ hx ⟨lo,pd,rfl,xl,lz,b1,rn⟩
  unfold Z5
  dsimp only
  by_cases hd:lo >= a0.size
  ·rw[if_pos hd]
   have e:lo=a0.size:=by omega
   subst e
   exact bC4 ⟨pd,rfl,b1,rn⟩
  ·rw[if_neg hd]
   refine bB5 (aR2 c o b1 (by omega) (by omega) λn st2 b2 n1 n2 u2 l2=>?_)
   have rn2:=rn.same l2
   dsimp only
   by_cases hmr:n<mr
   ·rw[if_pos hmr]
    refine bB5 (wpS_lift (bQ9 ⟨rfl,?_⟩))
    refine bB5 (aR3 c o b2 (by omega) (by omega) u2 λst3 b3 u3 l3=>?_)
    rw[if_neg (by decide)]
    exact Z8 c o b3 (by omega) (by omega) (rn2.same l3) u3 λpd' st' b' r'=>⟨_,pd',rfl,by omega,by omega,b',r'⟩
   ·rw[if_neg hmr]
    exact Z8 c o b2 n1 (by omega) rn2 u2 λpd' st' b' r'=>⟨lo+n,pd',rfl,by omega,by omega,b',r'⟩
 ·rintro r st1 ⟨lo,pd,rfl,xl,lz,b1,rn⟩
  have e:lo=a0.size:=by omega
  subst e
  exact⟨pd,rfl,b1,rn⟩
 ·rintro r st1 ⟨pd,rfl,b1,rn⟩
  dsimp only
  unfold Z6
  refine bB5 (bQ5 (bJ5
   (I:=λt r st'=>r=(none,())/\∃pd,SB κ a0 pd st'/\Rn rk (arrOf st') (sk pd) a0.size/\(pd.size+t<=a0.size∨pd.size<=1))
   (Q:=λr st'=>r=(none,())/\∃pd,SB κ a0 pd st'/\Rn rk (arrOf st') (sk pd) a0.size/\pd.size<=1) ?_ ?_ ⟨rfl,pd,b1,rn,.inl (by have:=rn.ch.len;rw[sZ]at this;omega)⟩) ?_)
  ·rintro t r st2 _ ht ⟨rfl,pd,b2,rn2,pr⟩
   refine bB5 (wpS_get ?_)
   rw[b2.pd]
   by_cases h1:pd.size<=1
   ·rw[if_pos h1]
    exact bC4 ⟨rfl,pd,b2,rn2,h1⟩
   ·rw[if_neg h1]
    refine bB5 (Z3 c o b2 ?_ (bA3 _) rn2 λpd' st3 b3 sz3 rn3 _=>?_)
    ·split<;>split<;>omega
    ·exact bC4 ⟨rfl,pd',b3,rn3,by omega⟩
  ·rintro r st2 ⟨rfl,pd,b2,rn2,pr⟩
   exact⟨rfl,pd,b2,rn2,by omega⟩
  ·rintro r st2 ⟨rfl,pd,b2,rn2,pr⟩
   refine bC4 (h st2 b2.pm b2.ok ?_)
   have ch:=rn2.ch
   have up:=rn2.up
   rw[<- sZ]at pr
   cases e:sk pd with
   |nil=>rw[e]at ch;exact absurd (show 0=a0.size from ch) (by omega)
   |cons r l=>
    rw[e]at ch up pr
    have el:l = []:=List.eq_nil_of_length_eq_zero (by have:=pr;rw[bC7]at this;omega)
    subst el
    obtain⟨p,n⟩:=r
    obtain⟨q1,q2,q3⟩:=ch
    have q1:p=0:=q1
    have q3:0+n=a0.size:=q3
    subst q1
    have:=up (0,n) (by simp)
    rw[<- q3];exact this
end SO
namespace L2
open PySem PySem.Spec PyProof.Rows SO
abbrev fM (h:Heap)(a:Addr)(vs:List Value):Heap:=((h.update a (Obj.mapSeq λ_=>#[])).push (seqObj "tuple" vs.toArray 0)).push (seqObj "list" #[] 0)
abbrev gG (h:Heap)(vs:List Value):Heap:=((h.push (seqObj "list" #[] 0)).update h.objs.size (Obj.mapSeq (·++vs.toArray))).push (seqObj "list" vs.toArray 0)
theorem aT0 {h:Heap}{vs:List Value}{b:Addr}{o:Obj}(e:h.get? b=some o):(gG h vs).get? b=some o:=by
 have l:=bB2 e
 refine bz8 _ ?_
 rw[Heap.get?_update_ne _ _ _ _ (bD4 l)]
 exact bz8 _ e
theorem aT1 {h:Heap}{vs:List Value}{a b:Addr}{o:Obj}(hb:b≠a)(e:h.get? b=some o):(fM h a vs).get? b=some o:=by
 refine bz8 _ (bz8 _ ?_)
 rw[Heap.get?_update_ne _ _ _ _ hb];exact e
theorem aT2 {prog:Program}{w:World}{A:Around}{E:Value->Shared->Prop}{s:Shared}{a:Addr}{vs:List Value}{n:Nat}{P:PySem.Fin->Shared->Prop}{κ:SortKind}{Ok:Keyed->Prop}{rk:Keyed->Int}(e:s.heap.get? a=some (seqObj "list" vs.toArray n))(h2:2<=vs.length)(big:vs.length<=sizeLine)(hk:∀Q:SortKind->Shared->Prop,Q κ { s with heap:=fM s.heap a vs }->wpAny (model prog w) A (keyKind' vs.toArray) Q E { s with heap:=fM s.heap a vs })(c:cW prog w A E { s with heap:=fM s.heap a vs } κ Ok rk)(o:∀v∈vs,Ok (v,v))(q:∀out:List Value,out.Perm vs->out.Pairwise (λu v=>rk (u,u)<=rk (v,v))->P (.done (.ret .none)) { s with heap:=sortedHeap s.heap a vs out.toArray }):wpAny (model prog w) A (Builtin.«list.sort» ⟨[.ref a],[]⟩) P E s:=by
 have la:=bB2 e
 have cc:¬vs.toArray.size<2:=by simpa using h2
 obtain⟨k,ek⟩:∃k,(s.heap.update a (Obj.mapSeq λ_=>#[])).get? a=some (seqObj "list" #[] k):=⟨_,get?_update_seq e λ_=>#[]⟩
 have there:(fM s.heap a vs).get? a=some (seqObj "list" #[] k):=bz8 _ (bz8 _ ek)
 rw[list_sort_plain]
 apply bz7
 apply listItems_at e rfl
 apply bz7
 refine listUpdate_at e rfl ?_ (by simpa using big) (bE9 _)
 apply bz7
 apply seqEpoch_at ek rfl
 apply bz7
 refine wpAny_newTuple ?_ big
 apply bz7
 refine wpAny_newList ?_ (bE9 _)
 apply bL1
 simp only[cc,bG2]
 apply bz7
 refine hk _ ?_
 have zl:(vs.toArray.zip vs.toArray).toList=vs.zip vs:=by simp
 apply bz7
 refine bJ3 (aS9 (a0:=vs.toArray.zip vs.toArray) (Q:=λ_ st'=>(arrOf st').Perm (vs.toArray.zip vs.toArray)/\failedOf st'=none/\Up rk (arrOf st') 0 (vs.toArray.zip vs.toArray).size) c (λx hx=>?_) ⟨Array.Perm.refl _,rfl,rfl,rfl⟩ (by simp;omega) λst' a1 a2 a3=>⟨a1,a2,a3⟩) ?_ λ_ _ z=>z
 ·have hx':x∈vs.zip vs:=by rw[<- zl];exact Array.mem_toList_iff.mpr hx
  obtain⟨y1,y2⟩:=mem_zip_self hx'
  have:=o x.1 y2
  have ex:x=(x.1,x.1):=Prod.ext rfl y1.symm
  rw[ex];exact this
 ·rintro⟨⟨⟩,st'⟩ s' ⟨rfl,pm,ok,up⟩
  have lp:(arrOf st').toList.Perm (vs.zip vs):=by rw[<- zl];exact Array.perm_iff_toList_perm.mp pm
  have out:(arrOf st').map (·.2)=((arrOf st').toList.map (·.2)).toArray:=by apply Array.toList_inj.mp;rw[Array.toList_map]
  have op:((arrOf st').toList.map (·.2)).Perm vs:=by
   have:=lp.map (·.2)
   rw[wU]at this;exact this
  have sz:(arrOf st').size=vs.length:=by rw[pm.size_eq];simp
  dsimp only
  apply bz7
  apply seqEpoch_at there rfl
  apply bz7
  refine listUpdate_at there rfl ?_ (bE9 _) (by rw[Array.size_map,sz];exact Nat.le_succ_of_le big)
  rw[ok]
  simp only[bne_self_eq_false,bC6,bG2]
  refine bA8 ?_
  have hq:=q _ op ?_
  ·rw[<- out]at hq;exact hq
  ·rw[bG8,bH5]
   intro i j hi hj hij
   have hi':i<(arrOf st').size:=by simpa using hi
   have hj':j<(arrOf st').size:=by simpa using hj
   have h1:=up i j (bE9 _) (bH0 hij) (by simp;omega)
   rw[cL hi',cL hj']at h1
   have dg:∀x∈(arrOf st').toList,(x.2,x.2)=x:=λx hx=>Prod.ext (mem_zip_self (lp.mem_iff.mp hx)).1.symm rfl
   rw[dg _ (bM2 hi),dg _ (bM2 hj)]
   simpa using h1
theorem aT3 {prog:Program}{w:World}{A:Around}{E:Value->Shared->Prop}{s:Shared}{l:Addr}{vs:List Value}{Q:Value->Shared->Prop}{κ:SortKind}{Ok:Keyed->Prop}{rk:Keyed->Int}(hl:s.heap.IsList l vs.toArray)(h2:2<=vs.length)(big:vs.length<=sizeLine)(hk:∀(A:Around) (E:Value->Shared->Prop) (Q:SortKind->Shared->Prop),Q κ { s with heap:=fM (gG s.heap vs) (s.heap.objs.size+1) vs }->wpAny (model prog w) A (keyKind' vs.toArray) Q E { s with heap:=fM (gG s.heap vs) (s.heap.objs.size+1) vs })(c:∀(A:Around) (E:Value->Shared->Prop),cW prog w A E { s with heap:=fM (gG s.heap vs) (s.heap.objs.size+1) vs } κ Ok rk)(o:∀v∈vs,Ok (v,v))(q:∀out:List Value,out.Perm vs->out.Pairwise (λu v=>rk (u,u)<=rk (v,v))->Q (.ref (s.heap.objs.size+1)) { s with heap:=sortedAll s.heap vs out.toArray }):wpAny (model prog w) A (call (.builtin "sorted") [.ref l]) Q E s:=by
 apply Calls.call_function_entry kind_sorted plain_sorted entry_sorted (args_sorted1 _)
 simp only[Builtin.«sorted»]
 apply bz7 (m:=checkCount "sorted" 1 1 _)
 apply bA8
 apply bz7
 refine collect_list hl ?_ big
 apply bz7
 refine wpAny_newList ?_ big
 have one:((s.heap.push (seqObj "list" #[] 0)).update s.heap.objs.size (Obj.mapSeq (·++vs.toArray))).objs.size=s.heap.objs.size+1:=(Heap.size_update _ _ _).trans (size_push' _ _)
 have at1:(gG s.heap vs).get? (s.heap.objs.size+1)=some (seqObj "list" vs.toArray 0):=one▸bB4 _ rfl
 change wpAny _ _ _ _ _ { s with heap:=gG s.heap vs }
 rw[one]
 apply bz7
 apply bL1
 refine bG7 slot_list_sort ⟨_,at1,rfl⟩ entry_list_sort ?_ (args_list_sort _)
 exact aT2 (s:={ s with heap:=gG s.heap vs }) at1 h2 big (hk _ _) (c _ _) o λout a1 a2=>⟨_,rfl,bA8 ⟨_,rfl,q out a1 a2⟩⟩
def t5 (h:Heap)(B:Int)(x:Keyed):Int:=match x.1 with
 |.ref b=>match h.get? b with
  |some ob=>match ob.data with
   |.seq us _=>numOf (us.getD 0 .none)*B+numOf (us.getD 1 .none)
   |_=>0
  |none=>0
 |_=>0
structure kJ (h:Heap)(M:Int)(v:Value)(p q:Int):Prop where
 at_:∃b ob us n,v = .ref b/\h.get? b=some ob/\ob.cls = .type "tuple"/\ob.data = .seq (List.toArray us) n/\IntsAre us [p,q]
 lo:-M<=q
 hi:q<=M
theorem kJ.rk {h:Heap}{M B:Int}{x:Keyed}{p q:Int}(z:kJ h M x.1 p q):t5 h B x=p*B+q:=by
 obtain⟨b,ob,us,n,e1,e2,_,e4,e5⟩:=z.at_
 cases e5 with
 |cons _ t e6=>cases e6 with
  |cons _ u e7=>cases e7;unfold t5;rw[e1];dsimp only;rw[e2];dsimp only;rw[e4];rfl
theorem Z9 {p q p' q' M:Int}(h1:-M<=q)(h2:q<=M)(h3:-M<=q')(h4:q'<=M):HT.bP [p,q] [p',q']=decide (p*(2*M+1)+q<p'*(2*M+1)+q'):=by
 rw[HT.iI]
 have mm:∀{a b:Int},a<b->a*(2*M+1)+(2*M+1)<=b*(2*M+1):=λ{a b} z=>by
  have:=Int.mul_le_mul_of_nonneg_right (show a+1<=b by omega) (show 0<=2*M+1 by omega)
  rw[Int.add_mul,Int.one_mul]at this
  exact this
 by_cases e:p=p'
 ·subst e
  rw[if_pos rfl,HT.iI]
  by_cases e2:q=q'
  ·subst e2
   rw[if_pos rfl,HT.vO,bA0 (by omega)]
  ·rw[if_neg e2]
   by_cases l:q<q'
   ·rw[bz9 l,bz9 (by omega)]
   ·rw[bA0 l,bA0 (by omega)]
 ·rw[if_neg e]
  by_cases l:p<p'
  ·have:=mm l
   rw[bz9 l,bz9 (by omega)]
  ·have:=mm (show p'<p by omega)
   rw[bA0 l,bA0 (by omega)]
theorem aT4 {prog:Program}{w:World}{A:Around}{E:Value->Shared->Prop}{s:Shared}{M:Int}:cW prog w A E s (tuples' true) (λx=>∃p q,kJ s.heap M x.1 p q) (t5 s.heap (2*M+1)):=by
 rintro x y ⟨p,q,z⟩ ⟨p',q',z'⟩ st Q hk hq
 rw[z.rk,z'.rk]at hq
 rw[<- Z9 z.lo z.hi z'.lo z'.hi]at hq
 obtain⟨b,ob,us,n,e1,e2,e3,e4,e5⟩:=z.at_
 obtain⟨b',ob',us',n',e1',e2',e3',e4',e5'⟩:=z'.at_
 rw[lt'_eq]
 refine bB5 (wpS_get ?_)
 rw[hk,e1,e1']
 refine bB5 (wpS_lift (wpAny_attempt (PySem.W.kat_lt e2 e4 e2' e4' ?_)))
 have:=wV (prog:=prog) (w:=w) (A:=A) (s:=s) (Q:=λa s'=>s'=s/\wpS (model prog w) A E s (pure (some a)) Q st) 0 e5 e5' ⟨rfl,bC4 hq⟩
 simpa using this
theorem aT5 {vs vs':List Value}(h:vs.Perm vs'):∀{xs:List V},aO xs vs->∃xs',xs'.Perm xs/\aO xs' vs':=by
 induction h with
 |nil=>intro xs r;exact⟨xs,List.Perm.refl _,r⟩
 |cons v _ ih=>
  intro xs r
  cases r with
  |cons r t=>
   obtain⟨xs',p,r'⟩:=ih t
   exact⟨_::xs',p.cons _,.cons r r'⟩
 |swap u v l=>
  intro xs r
  cases r with
  |cons r t=>cases t with
   |cons r2 t2=>exact⟨_,List.Perm.swap _ _ _,.cons r2 (.cons r t2)⟩
 |trans _ _ ih1 ih2=>
  intro xs r
  obtain⟨x1,p1,r1⟩:=ih1 r
  obtain⟨x2,p2,r2⟩:=ih2 r1
  exact⟨x2,p2.trans p1,r2⟩
theorem aa0 {α:Type}(f:α->Int):∀l:List α,∃M:Int,∀y∈l,-M<=f y/\f y<=M
 |[]=>⟨0,λ_ h=>nomatch h⟩
 |x::l=>by
  obtain⟨M,h⟩:=aa0 f l
  refine⟨max M (max (f x) (- f x)),λy hy=>?_⟩
  rcases bA7.mp hy with e|e
  ·subst e;omega
  ·have:=h y e;omega
def aa1 (K:ad):List V->Hp->VK->Prop:=λxs H Q=>∃(a:Addr) (ys:List V) (key:V->af),xs = [.ref a]/\aQ K H a ys/\ys.length<=4096/\(∀y∈ys,∃b,y = .ref b/\aH K H b ((key y).map V.int)/\(key y).length=2)/\
 ∀l (zs:List V),H l=none->zs.Perm ys->zs.Pairwise (λu v=>HT.bP (key v) (key u)=false)->Q (.ref l) (upd H l (.lst zs))
theorem aT6 {X:Cx}:cN X (.builtin "sorted") (aa1 X.K):=by
 intro pins s σ H xs us Q I r h
 obtain⟨a,ys,key,rfl,hs,hz4,hk,q⟩:=h
 obtain⟨u,rfl,ru⟩:=eU r
 cases ru
 obtain⟨its,rv,p,hz⟩:=I.list hs
 have hl:=rv.length
 have hn:s.heap.objs.size<=s.heap.objs.size+1:=Nat.le_succ _
 by_cases h2:its.length<2
 ·refine Q6 p.isList h2 ?_
  obtain⟨e,he⟩:=sortedAll_at s.heap its its.toArray
  refine⟨.ref (s.heap.objs.size+1),upd H (s.heap.objs.size+1) (.lst ys),I.laid (t':=s.toks) (λ_ _=>sortedAll_old) hn ⟨hz,its,e,rv,he⟩,rfl,q _ ys (I.hok.fresh hn) (List.Perm.refl _) ?_⟩
  match ys,hl with
  |[],_=>exact List.Pairwise.nil
  |[_],_=>exact bC9 _ _
  |_::_::_,hl=>simp at hl;omega
 ·obtain⟨M,hM⟩:=aa0 (λy=>(key y).getD 1 0) ys
  have pv:∀{y:V}{v:Value},b6 y v->y∈ys->∃pp qq,key y = [pp,qq]/\kJ (fM (gG s.heap its) (s.heap.objs.size+1) its) M v pp qq:=λ{y v} ry hy=>by
   obtain⟨b,rfl,sq,l2⟩:=hk y hy
   cases ry
   obtain⟨us,ru,⟨ob,e1,c1,n1,d1⟩,_⟩:=I.tuple sq
   have ia:=jC ru
   have mm:=hM _ hy
   match hkk:key (V.ref b),l2 with
   |[pp,qq],_=>
    rw[hkk]at ia mm
    exact⟨pp,qq,rfl,⟨b,ob,us,n1,rfl,aT1 (bD4 (Nat.lt_succ_of_lt (bB2 e1))) (aT0 e1),c1,d1,ia⟩,mm.1,mm.2⟩
  have pvs:∀{xs:List V}{vs:List Value},aO xs vs->(∀y∈xs,y∈ys)->∀v∈vs,∃pp qq,kJ (fM (gG s.heap its) (s.heap.objs.size+1) its) M v pp qq:=by
   intro xs vs r
   induction r with
   |nil=>intro _ v hv;cases hv
   |cons rx rt ih=>
    intro hh v hv
    rcases bA7.mp hv with z|z
    ·subst z
     obtain⟨pp,qq,_,z⟩:=pv rx (hh _ bA4)
     exact⟨pp,qq,z⟩
    ·exact ih (λy hy=>hh y (bA9 _ hy)) v z
  have firsts:∀{vs:List Value},(∀v∈vs,∃pp qq,kJ (fM (gG s.heap its) (s.heap.objs.size+1) its) M v pp qq)->∃fs:List Value,PySem.W.KatTups (fM (gG s.heap its) (s.heap.objs.size+1) its) vs fs/\fs.length=vs.length/\∀v∈fs,∃i t,v=Value.int i t:=by
   intro vs
   induction vs with
   |nil=>intro _;exact⟨[],PySem.W.KatTups.nil,rfl,λ_ z=>nomatch z⟩
   |cons v vs ih=>
    intro hh
    obtain⟨fs,t1,t2,t3⟩:=ih λy hy=>hh y (bA9 _ hy)
    obtain⟨pp,qq,z⟩:=hh v bA4
    obtain⟨b,ob,us,n,rfl,e2,e3,e4,e5⟩:=z.at_
    cases e5 with
    |cons _ t e6=>exact⟨Value.int pp t::fs,PySem.W.KatTups.cons e2 e3 e4 (by simp) t1,by simp[t2],λv hv=>(bA7.mp hv).elim (λz=>⟨pp,t,z⟩) (t3 v)⟩
  have allp:=pvs rv λ_ h=>h
  obtain⟨fs,t1,t2,t3⟩:=firsts allp
  refine aT3 (κ:=tuples' true) (Ok:=λx=>∃pp qq,kJ (fM (gG s.heap its) (s.heap.objs.size+1) its) M x.1 pp qq) (rk:=t5 (fM (gG s.heap its) (s.heap.objs.size+1) its) (2*M+1)) p.isList (by omega) (by rw[<- hl];exact hz)
   (λA E Q hQ=>?_) (λA E=>aT4 (s:={ s with heap:=fM (gG s.heap its) (s.heap.objs.size+1) its })) (λv hv=>allp v hv) λout pm so=>?_
  ·refine PySem.W.kat_kind (T:=.type "int") t1 (by omega) (λv hv=>?_) (by decide) ?_
   ·obtain⟨i,t,rfl⟩:=t3 v hv
    exact PySem.W.Looks.now
   ·have eT:(Value.type "int" != Value.type "tuple")=true:=by decide
    rw[eT];exact hQ
  ·obtain⟨zs,pz,rz⟩:=aT5 pm.symm rv
   obtain⟨e,he⟩:=sortedAll_at s.heap its out.toArray
   refine⟨.ref (s.heap.objs.size+1),upd H (s.heap.objs.size+1) (.lst zs),I.laid (t':=s.toks) (λ_ _=>sortedAll_old) hn ⟨by rw[pz.length_eq];exact hz,out,e,rz,he⟩,rfl,q _ zs (I.hok.fresh hn) pz ?_⟩
   have lz:=rz.length
   rw[bH5]
   intro i j hi hj hij
   have s1:=bH5.mp so i j (by omega) (by omega) hij
   have gi:=pI i hi rz
   have gj:=pI j hj rz
   simp only[bB9,bA6 hi,bA6 hj,bA6 (show i<out.length by omega),bA6 (show j<out.length by omega),Option.getD_some]at gi gj
   obtain⟨pi,qi,ki,vi⟩:=pv gi (pz.mem_iff.mp (bM2 hi))
   obtain⟨pj,qj,kj,vj⟩:=pv gj (pz.mem_iff.mp (bM2 hj))
   rw[kJ.rk (x:=(out[i],out[i])) vi,kJ.rk (x:=(out[j],out[j])) vj]at s1
   rw[ki,kj,Z9 vj.lo vj.hi vi.lo vi.hi]
   exact bA0 (by omega)
end L2
namespace L2
open PySem PySem.Spec PyProof.Rows
theorem bR.at {P:Program}{w:World}{H:Hp}{h:Heap}{a:Addr}{o:HO}(x:bR P w H h a o):∃ob,h.get? a=some ob:=by
 cases o with
 |lst xs=>obtain⟨_,_,_,_,e⟩:=x;exact⟨_,e⟩
 |tup xs=>obtain⟨_,_,_,⟨_,e,_⟩,_⟩:=x;exact⟨_,e⟩
 |dK kvs=>obtain⟨_,_,_,_,_,_,_,e,_⟩:=x;exact⟨_,e⟩
 |dT kvs=>obtain⟨_,_,_,_,_,_,_,e,_⟩:=x;exact⟨_,e⟩
 |set S n=>obtain⟨_,_,_,_,e,_⟩:=x;exact⟨_,e⟩
 |ins C dx fs=>obtain⟨_,_,_,e,_⟩:=x;exact⟨_,e⟩
 |own y=>exact x
 |xd fs=>obtain⟨_,⟨_,_,_,e,_⟩,_⟩:=x;exact⟨_,e⟩
 |rng lo hi=>obtain⟨_,_,_,e⟩:=x;exact⟨_,e⟩
 |frz ob u=>obtain⟨e,_⟩:=x;exact⟨_,e⟩
 |tbl ps=>exact⟨_,x⟩
 |met f y=>exact⟨_,x⟩
 |ext φ=>exact x.2.1
structure mD (P:Program)(w:World)(outer:List Env)(H:Hp)(s:Shared)(H':Hp)(B:Heap)(a C:Addr)(s':Shared):Prop where
 os:s'.os=s.os
 bare:AllBare s'.gens
 un:Un (bV outer) [] H H' s.heap s'.heap
 hok:bY P w H' s'.heap
 fly:∃a0,Heap.FlyingW B outer a (.ref C) a0 s'.heap
 b0:∀b o,s.heap.get? b=some o->b∉bV outer->∃o',B.get? b=some o'
 b1:∀b o,s.heap.get? b=some o->H b=none->b∉bV outer->B.get? b=some o
 b2:∀b u o,H' b=some u->s'.heap.get? b=some o->B.get? b=some o
def eI (P:Program)(w:World):hZ:=λouter H s E e s'=>∃(H':Hp) (B:Heap) (a C:Addr),e = .ref a/\mD P w outer H s H' B a C s'/\E (.ref C) none H'
section
variable {P:Program}{w:World}{outer:List Env}{H H':Hp}{s s':Shared}{B h2:Heap}{a C:Addr}
theorem mD.fresh (f:mD P w outer H s H' B a C s'):H' a=none:=by
 cases q:H' a with
 |none=>rfl
 |some u=>
  obtain⟨ob,e⟩:=(f.hok a u q).at
  have z:=f.b2 a u ob q e
  obtain⟨_,_,n,_⟩:=f.fly
  rw[n]at z;cases z
theorem mD.hok2 (f:mD P w outer H s H' B a C s')(k:B.StaysIn h2):bY P w H' h2:=λb u e=>
 (f.hok b u e).stay (λc v hc q=>by
  rcases hc with z|z
  ·subst z;exact k _ _ (f.b2 _ _ _ e q)
  ·exact k _ _ (f.b2 _ _ _ z q)) (λ_ q=>q) λ_ _ q=>q
end
section
variable {P:Program}{w:World}{K:ad}{mg:Str→Option Value}{base:Heap}{N:List Str}{qual:Str}{scope:Scope}{f:Addr}{cd:Value}{A:Around}{outer:List Env}{s₀:Shared}{H₀:Hp}{E₀ E₁:XK}
theorem t6 {pins:List (Addr×Obj)}{σ:St}{H:Hp}{s:Shared}(I:a7 (dR (eI P w) P w K mg base N qual scope f cd A outer s₀ H₀ E₀) pins σ H s){b:Addr}{o:Obj}(e:s₀.heap.get? b=some o)(n:b∉bV outer) :
  b∉bV (envOfC qual scope s₀.heap.objs.size f cd::outer):=λz=>by
 rcases bA7.mp (I.stkSub b z) with y|y
 ·have l:=bB2 e
  have y:b=s₀.heap.objs.size:=y
  exact absurd l (by rw[y];exact bF9 _)
 ·exact n y
theorem aT7 (hE:∀c d H',E₁ c d H'->E₀ c d H'):oX (eI P w) (dR (eI P w) P w K mg base N qual scope f cd A outer s₀ H₀ E₀) E₁:=by
 intro pins σ H s e s' I hx
 obtain⟨H',B,a,C,e1,fl,q⟩:=hx
 subst e1
 have I':=I.call' fl.os fl.un fl.hok fl.bare (ch:=[]) (λb z=>absurd z (by simp))
 obtain⟨a0,fly⟩:=fl.fly
 refine wpAny_leaves_onW I.ok.frames rfl fly λh' fly' up=>?_
 have slot:∀b o,s₀.heap.get? b=some o->b∈bV outer->∃sl,h'.get? b=some { o with slots:=sl }:=λb o e hb=>by
  obtain⟨sl,e1⟩:=I'.base.slot b o e (I.ok.frf b hb) hb (λz=>nomatch z)
  obtain⟨_,o2,e2,nf⟩:=I.ok.funs.mem hb
  rw[show (dR (eI P w) P w K mg base N qual scope f cd A outer s₀ H₀ E₀).s₀=s₀ from rfl,e]at e2
  cases e2
  obtain⟨sl',e3⟩:=up b _ e1 nf
  exact⟨sl',e3⟩
 have old:∀b o,s₀.heap.get? b=some o->H₀ b=none->b∉bV outer->B.get? b=some o:=λb o e n hb=>
  fl.b1 b o (I.base.keep b o e n hb (λz=>nomatch z)) (I.base.free b o e n (λz=>nomatch z)) (t6 I e hb)
 have old0:∀b o,s₀.heap.get? b=some o->b∉bV outer->∃o',B.get? b=some o':=λb o e hb=>by
  obtain⟨o1,e1⟩:=I.base.there b o e (λz=>nomatch z)
  exact fl.b0 b o1 e1 (t6 I e hb)
 refine⟨H',B,a,C,rfl,⟨I'.os,I'.bare,⟨λb o e n hb _=>fly'.1 _ _ (old b o e n hb),λb o e n hb _=>slot b o e hb,λb o e n hx=>I'.base.free b o e n hx,λb o e _=>?_,I'.base.tups,I'.base.frzs,I'.base.tbls⟩,fl.hok2 fly'.1,⟨a0,fly'⟩,old0,old,λb u o e h=>?_⟩,hE _ _ _ q⟩
 ·by_cases hb:b∈bV outer
  ·obtain⟨sl,e1⟩:=slot b o e hb
   exact⟨_,e1⟩
  ·obtain⟨o',e1⟩:=old0 b o e hb
   exact⟨o',fly'.1 _ _ e1⟩
 ·obtain⟨ob,e1⟩:=(fl.hok b u e).at
  have e2:=fl.b2 b u ob e e1
  have e3:=fly'.1 _ _ e2
  have h:h'.get? b=some o:=h
  rw[h]at e3;cases e3;exact e2
theorem aT8 {pins:List (Addr×Obj)}{σ:St}{H:Hp}{s:Shared}{h':Heap}{e C:Addr}{args:List Value}(I:a7 (dR (eI P w) P w K mg base N qual scope f cd A outer s₀ H₀ E₀) pins σ H s)(mx:Heap.MadeExcOf s.heap h' e (.ref C) args)(q:E₀ (.ref C) none H) :
  (dR (eI P w) P w K mg base N qual scope f cd A outer s₀ H₀ E₀).xe (.ref e) { s with heap:=h' }:=by
 have tr:∀b u,H b=some u->b∉bV (envOfC qual scope s₀.heap.objs.size f cd::outer):=λb u z n=>by
  rw[I.stkFree b n]at z;cases z
 have inB:∀b o,s.heap.get? b=some o->b∉bV (envOfC qual scope s₀.heap.objs.size f cd::outer)->(PySem.W.hideAll s.heap (bV (envOfC qual scope s₀.heap.objs.size f cd::outer))).get? b=some o:=λb o z n=>PySem.W.hideAll_get _ z n
 refine wpAny_leaves_madeW (base:=PySem.W.hideAll s.heap (bV (envOfC qual scope s₀.heap.objs.size f cd::outer))) I.ok.frames rfl (λb o z=>PySem.W.of_hideAll _ z) (PySem.W.funFrames_hide I.stack λenv he b hb=>List.mem_filterMap.mpr ⟨env,he,hb⟩) mx λh'' t fly _ _ up=>?_
 have slot:∀b o,s₀.heap.get? b=some o->b∈bV outer->∃sl,h''.get? b=some { o with slots:=sl }:=λb o e hb=>by
  obtain⟨sl,e1⟩:=I.base.slot b o e (I.ok.frf b hb) hb (λz=>nomatch z)
  obtain⟨_,o2,e2,nf⟩:=I.ok.funs.mem hb
  rw[show (dR (eI P w) P w K mg base N qual scope f cd A outer s₀ H₀ E₀).s₀=s₀ from rfl,e]at e2
  cases e2
  obtain⟨sl',e3⟩:=up b _ (mx.keeps _ _ e1) nf
  exact⟨sl',e3⟩
 have old:∀b o,s₀.heap.get? b=some o->H₀ b=none->b∉bV outer->(PySem.W.hideAll s.heap (bV (envOfC qual scope s₀.heap.objs.size f cd::outer))).get? b=some o:=λb o e n hb=>
  inB b o (I.base.keep b o e n hb (λz=>nomatch z)) (t6 I e hb)
 have old0:∀b o,s₀.heap.get? b=some o->b∉bV outer->∃o',(PySem.W.hideAll s.heap (bV (envOfC qual scope s₀.heap.objs.size f cd::outer))).get? b=some o':=λb o e hb=>by
  obtain⟨o1,e1⟩:=I.base.there b o e (λz=>nomatch z)
  exact⟨o1,inB b o1 e1 (t6 I e hb)⟩
 refine⟨H,_,e,C,rfl,⟨I.os,I.bare,⟨λb o e n hb _=>fly.1 _ _ (old b o e n hb),λb o e n hb _=>slot b o e hb,λb o e n hx=>I.base.free b o e n hx,λb o e _=>?_,I.base.tups,I.base.frzs,I.base.tbls⟩,λb u z=>?_,⟨_,fly⟩,old0,old,λb u o z h=>?_⟩,q⟩
 ·by_cases hb:b∈bV outer
  ·obtain⟨sl,e1⟩:=slot b o e hb
   exact⟨_,e1⟩
  ·obtain⟨o',e1⟩:=old0 b o e hb
   exact⟨o',fly.1 _ _ e1⟩
 ·refine (I.hok b u z).stay (λc v hc y=>?_) (λ_ y=>y) λ_ _ y=>y
  rcases hc with z'|z'
  ·subst z';exact fly.1 _ _ (inB _ _ y (tr _ _ z))
  ·exact fly.1 _ _ (inB _ _ y (tr _ _ z'))
 ·obtain⟨ob,e1⟩:=(I.hok b u z).at
  have e2:=inB b ob e1 (tr b u z)
  have e3:=fly.1 _ _ e2
  have h:h''.get? b=some o:=h
  rw[h]at e3;cases e3;exact e2
end
structure nX (X:Cx)(E:XK):Prop where
 pass:oX (eI X.prog X.w) X E
 made:∀(pins:List (Addr×Obj)) (σ:St) (H:Hp) (s:Shared) (h':Heap) (e C:Addr) (args:List Value),a7 X pins σ H s->Heap.MadeExcOf s.heap h' e (.ref C) args->E (.ref C) none H->X.xe (.ref e) { s with heap:=h' }
 own:PassesOwn (model X.prog X.w) X.A X.env X.xe
theorem aT9 {P:Program}{w:World}{K:ad}{mg:Str->Option Value}{base:Heap}{N:List Str}{qual:Str}{scope:Scope}{f:Addr}{cd:Value}{A:Around}{outer:List Env}{s₀:Shared}{H₀:Hp}{E₀ E₁:XK}(hE:∀c d H',E₁ c d H'->E₀ c d H') :
  nX (dR (eI P w) P w K mg base N qual scope f cd A outer s₀ H₀ E₀) E₁:=
 ⟨aT7 hE,λ_ _ _ _ _ _ _ _ I mx q=>aT8 I mx (hE _ _ _ q),PassesOwn.leaving⟩
def aa2 (E:XK)(C:Addr)(t:TA):TS:=λ_ σ H=>t σ H λvs H1=>vs.length<=sizeLine/\E (.ref C) none H1
theorem aU0 {X:Cx}{E:XK}{x:Str}{C:Addr}{bm:List Value}{B newId initId:String}{np cpos pos:Pos}{e:Expr}{es:List Expr}{t:TA}(hX:nX X E)(hc:X.calm=true)(O:OwnCls x C bm newId X.mg X.base)(FB:ExcBaseFacts B newId initId bm)(ha:PA X (e::es) t)(hg:Gl X x)(hd:(x==("__debug__":Str))=false:=by decide)(he:starEach (e::es) X.env=(false,eval e X.env)::starEach es X.env:=by rfl)(hpl:(backTo cpos (starEach es X.env)).any (·.1)=false:=by rfl) :
  PS X (.Raise (some (.Call (.Name x np) (e::es) [] cpos)) none pos) (aa2 E C t):=by
 intro pins s σ H D I h
 obtain⟨tl,Na,nm,qn,bs,hx,sn,sub,ab,col,dd,k0,k1,k2,k3,k5,mN,hC,hN,hni,T⟩:=O.obj
 refine wpAny_Raise_call_subT (nm:=nm) (q:=qn) (N:=Na) (bs:=bs) (bm:=tl) (hdct:=hx) (sn:=sn) (sub:=sub) (ab:=ab) (col:=col) (dd:=dd) (k0:=k0) (k1:=k1) (k2:=k2) (k3:=k3) (k5:=k5) FB (C:=C) (mN:=mN) (T.hasType FB.hasBase) (I.ok.hd hc) (by rw[he];show (false||(backTo cpos (starEach es X.env)).any (·.1))=false;rw[hpl];rfl) hni (oO I hg O.bound ⟨rfl,?_⟩ hd)
 have h1:=ha cpos pins s σ H _ I h
 rw[he]at h1 ⊢
 refine Calls.evalArgs_plain (bJ3 h1 (λus s2 h2=>?_) λ_ _ y=>y)
 obtain⟨vs,H2,I2,r,hl,q⟩:=h2
 have r:aO vs us:=r
 exact⟨rfl,by show us.length<=sizeLine;rw[<- r.length];exact hl,I2.bk _ _ hC,hN.keeps I2.bk,T.keeps I2.bk,λh' e' mx=>hX.made pins σ H2 s2 h' e' C _ I2 mx q⟩
theorem fX.okX {P:Program}{w:World}{K:ad}{mg:Str->Option Value}{base:Heap}{x qual:Str}{st:Stmt}{f:Addr}{fd:FuncData}{N ps:List Str}{k:Nat}{sp:Sp}(F:fX K x qual st f fd)(S:FnScope N ps (aV st))(len:∀vs H Q E,sp vs H Q E->vs.length=ps.length)(hbody:∀(cdv:Value) (A:Around) (outer:List Env) (s:Shared) (H:Hp) (vs:List V) (Q:VK) (E:XK),cF k (A.deeper (envOfC qual (aV st) s.heap.objs.size f cdv))->sp vs H Q E->
   ∃t,dY (dR (eI P w) P w K mg base N qual (aV st) f cdv A outer s H E) (eV st) t/\t { nx:=λ_ H'=>Q .non H',rt:=Q } (i4 N vs) H):dQ P w K mg base (eI P w) (k+1) f fd ps sp:=by
 obtain⟨oc,od,kV,doc,pm,an,cdv,ct,osl,rfl,lk,hcd⟩:=F.ex
 exact K8 lk hcd S len λA outer s H vs Q E hr hsp=>hbody cdv A outer s H vs Q E hr hsp
section
variable {X:Cx}{pins:List (Addr×Obj)}{σ:St}{H H1 H':Hp}{s s1 s':Shared}{B h2:Heap}{a C:Addr}
theorem aa3 {oe:Obj}(I:a7 X pins σ H1 s1)(fl:mD X.prog X.w X.stack H1 s1 H' B a C s')(st:B.StaysIn h2)(up:s'.heap.UpToSlots h2)(he:h2.get? a=some oe) :
  a7 X pins σ (upd H' a (.frz oe (.own a))) { s' with heap:=h2 }:=by
 obtain⟨a0,fly⟩:=fl.fly
 have na:B.get? a=none:=fly.2.1
 have nf:a∉bV X.stack:=λz=>by
  obtain⟨_,o,e,d⟩:=fly.2.2.1.mem z
  obtain⟨o2,vs,e2,_,d2,_⟩:=fly.first
  rw[e]at e2;cases e2
  exact d vs d2
 have nb:∀b o,s1.heap.get? b=some o->b≠a:=λb o e z=>by
  subst z
  obtain⟨o',e'⟩:=fl.b0 _ o e nf
  rw[na]at e';cases e'
 have nt:∀b u,H' b=some u->b≠a:=λb u e z=>by
  subst z;rw[fl.fresh]at e;cases e
 have off:∀b,b≠X.env.locals->b∉X.fs->b∉bV X.stack:=λb n1 n2 z=>(bA7.mp (I.stkSub b z)).elim n1 n2
 have slot:∀b o,s1.heap.get? b=some o->b∈bV X.stack->∃sl,h2.get? b=some { o with slots:=sl }:=λb o e hb=>by
  obtain⟨sl,e1⟩:=fl.un.any e (I.stkFree b hb) (λz=>nomatch z)
  obtain⟨_,o2,e2,d⟩:=I.stack.mem hb
  rw[e]at e2;cases e2
  obtain⟨sl',e3⟩:=up b _ e1 d
  exact⟨sl',e3⟩
 have ns:∀m,s1.heap.Ns X.env.locals m->h2.Ns X.env.locals m:=λm hm=>by
  obtain⟨o,es,ep,e,r⟩:=hm
  obtain⟨sl,e1⟩:=fl.un.any e I.free (λz=>nomatch z)
  exact up.ns ⟨_,es,ep,e1,r⟩
 have hok:bY X.prog X.w (upd H' a (.frz oe (.own a))) h2:=λb u e=>by
  by_cases hb:b=a
  ·subst hb;rw[bJ]at e;cases e;exact⟨he,_,he⟩
  ·rw[aW hb]at e
   exact (fl.hok2 st b u e).stay (λ_ _ _ q=>q) (λc q=>by rw[aW (nt c _ q)];exact q) λc xs q=>by rw[aW (nt c _ q)];exact q
 have bare:=fl.bare
 have un:=fl.un
 have b0:=fl.b0
 have b1:=fl.b1
 have os:=fl.os
 clear fl fly up
 obtain⟨hh,g,d,t,os'⟩:=s'
 obtain rfl:os'=s1.os:=os
 show a7 X pins σ _ { s1 with heap:=h2,gens:=g,drawn:=d,toks:=t }
 refine I.step (h':=h2) (g':=g) (d':=d) (t':=t) (ch:=[]) (λ_ z=>nomatch z) (λb o n1 n2 _ e n=>st _ _ (b1 b o e n (off b n1 n2))) (λb o n1 hb _ e n=>?_) (λb o _ e n=>by rw[aW (nb b o e)];exact un.free b o e n (λz=>nomatch z)) (λb o _ e=>?_)
  (λb xs q=>by rw[aW (nt b _ (un.tups b xs q))];exact un.tups b xs q) (λb o u q=>by rw[aW (nt b _ (un.frzs b o u q))];exact un.frzs b o u q) (λb ps q=>by
   obtain⟨more,q'⟩:=un.tbls b ps q
   exact⟨more,by rw[aW (nt b _ q')];exact q'⟩) ns hok bare
 ·by_cases hs:b∈bV X.stack
  ·exact slot b o e hs
  ·exact⟨o.slots,st _ _ (b1 b o e n hs)⟩
 ·by_cases hb:b∈bV X.stack
  ·obtain⟨sl,e1⟩:=slot b o e hb
   exact⟨_,e1⟩
  ·obtain⟨o',e1⟩:=b0 b o e hb
   exact⟨o',st _ _ e1⟩
abbrev Cx.suite (X:Cx)(a:Addr):Cx:={ X with A:=X.A.mark (some (.ref a)),calm:=false,xe:=λ_ _=>False }
theorem Cx.Ok.suite {X:Cx}(ok:X.Ok)(a:Addr):(X.suite a).Ok:=
 ⟨ok.mod,ok.kind,ok.glob,ok.blt,ok.above,ok.inj,ok.has,ok.cab,λz=>Bool.noConfusion z,ok.frames,ok.stk,ok.exf,ok.bs,ok.bsz,ok.noex,ok.exfs,ok.funs,ok.frf⟩
theorem a7.suite (I:a7 X pins σ H s)(a:Addr):a7 (X.suite a) pins σ H s:=⟨I.ok.suite a,I.os,I.bare,I.base,I.loc,I.cell,I.free,I.freeC,I.pin,I.hok,I.len⟩
theorem a7.unsuite (I:a7 (X.suite a) pins σ H s)(ok:X.Ok):a7 X pins σ H s:=⟨ok,I.os,I.bare,I.base,I.loc,I.cell,I.free,I.freeC,I.pin,I.hok,I.len⟩
theorem t7 {M:Model}{A:Around}{E:Value->Shared->Prop}{i:Nat}{x:Str}{pos:Pos}{Q:Unit->Shared->Prop}(I:a7 X pins σ H s)(hN:X.N.Nodup)(hi:X.N[i]? = some x)(hk:X.env.scope.names.lookup x=some .local)(h:∀s',a7 X pins (σ.set i none) H s'->Q () s'):wpAny M A (do bindName X.env x .none;unbindBehindTheSuite X.env x pos) Q E s:=by
 obtain⟨m,hn,hl⟩:=id I.loc
 obtain⟨oL,_,_,hoL,_⟩:=id hn
 have ab:∀b o,X.s₀.heap.get? b=some o->b≠X.env.locals:=λb o e=>bD4 (bC0 (bB2 e) I.ok.above)
 refine wpAny_nameGoes_keeps hk hn (by rw[I.ok.kind];rfl) λh' v hn' hs=>?_
 refine h _ ⟨I.ok,I.os,I.bare,⟨λb o e n hb hx=>(hs.2 b (ab b o e)).trans (I.base.keep b o e n hb hx),λb o e n hb hx=>?_,I.base.free,λb o e hx=>?_,I.base.tups,I.base.frzs,I.base.tbls⟩,⟨_,hn',λj y v' e1 e2 e3=>?_⟩,λy c e=>?_,I.free,I.freeC,λp hp=>?_,λb u e=>?_,by simpa using I.len⟩
 ·obtain⟨sl,e1⟩:=I.base.slot b o e n hb hx
  exact⟨sl,(hs.2 b (ab b o e)).trans e1⟩
 ·obtain⟨o',e1⟩:=I.base.there b o e hx
  exact⟨o',(hs.2 b (ab b o e)).trans e1⟩
 ·by_cases hj:j=i
  ·subst hj
   have hjl:j<σ.length:=by rw[I.len];exact (bB0.mp hi).1
   rw[bJ2 hjl]at e2
   cases e2
  ·rw[bD6 (Ne.symm hj)]at e2
   obtain⟨u',r',q⟩:=hl j y v' e1 e2 e3
   refine⟨u',r',?_⟩
   rcases q with⟨k,e⟩|⟨k,c,e,z⟩
   ·have ny:y≠x:=λz=>hj (uW hN e1 (z▸hi))
    exact .inl ⟨k,by simp[ny,e]⟩
   ·exact .inr ⟨k,c,e,z.sameBut hs (I.cne y c e)⟩
 ·obtain⟨w',z⟩:=I.cell y c e
  exact⟨w',z.sameBut hs (I.cne y c e)⟩
 ·obtain⟨e,n,ne,nf,d⟩:=I.pin p hp
  exact⟨(hs.2 p.1 ne).trans e,n,ne,nf,d⟩
 ·refine (I.hok b u e).stay (λc v hc q=>(hs.2 c λz=>?_).trans q) (λ_ q=>q) λ_ _ q=>q
  subst z
  rcases hc with z|z
  ·subst z;rw[I.free]at e;cases e
  ·rw[I.free]at z;cases z
theorem aU1 {M:Model}{A:Around}{E:Value->Shared->Prop}{K:ad}{e C D:Addr}{oe:Obj}{Q:Bool->Shared->Prop}(k:K.In s.heap)(he:s.heap.get? e=some oe)(hc:oe.cls = .ref C)(h1:(PySem.W.clsIn K D).isSome=true)(h2:PySem.W.typeIn K (.ref D)=some (.type "type"))(h3:PySem.W.subIn K (.ref D) (.type "BaseException")=some true)(h4:PySem.W.subIn K (.ref C) (.ref D)=some true)(hq:Q true s):wpAny M A (excMatches (.ref e) (.ref D)) Q E s:=by
 obtain⟨h,g,d,t,os⟩:=s
 have k:K.In h:=k
 have he:h.get? e=some oe:=he
 have l1:PySem.W.Looks M h (isType (.ref D)) true:=by
  unfold PySem.W.clsIn at h1
  split at h1
  ·rename_i c' d' cd' sl' ho
   intro A' Q' E' s' kk q
   unfold isType loadHead
   exact bz7 (wpAny_loadPart (kk _ _ (k _ _ ho)) (bA8 q))
  ·cases h1
 have l2:PySem.W.Looks M h (typeOf (.ref D)) (.type "type"):=PySem.W.looks_typeIn k h2
 have l3:PySem.W.Looks M h (isSubtype (.ref D) (.type "BaseException")) true:=PySem.W.looks_subIn k h3
 have l4:PySem.W.Looks M h (isSubtype (.ref C) (.ref D)) true:=PySem.W.looks_subIn k h4
 have l5:PySem.W.Looks M h (typeOf (.ref e)) (.ref C):=hc▸(PySem.W.Looks.ld he).andThen .now
 have l6:PySem.W.Looks M h (isInstance (.ref D) (.type "tuple")) false:=l2.andThen (PySem.W.Looks.of_pure tc_notTuple)
 have l7:PySem.W.Looks M h (isExcClass (.ref D)) true:=by
  unfold isExcClass
  exact l1.andThen (by simpa using l3)
 have f:=tc_notTuple
 unfold excMatches
 repeat (first|exact hq|(with_reducible refine l2.at ?_)|(with_reducible refine l7.at ?_)|(with_reducible refine l1.at ?_)|(with_reducible refine l3.at ?_)|(with_reducible refine l5.at ?_)|(with_reducible refine l4.at ?_)|wp_step)
end
def yX (D:cP)(i:Nat):cP:={ nx:=λσ H=>D.nx (σ.set i none) H,rt:=D.rt,bk:=λσ H=>D.bk (σ.set i none) H,ct:=λσ H=>D.ct (σ.set i none) H }
section
variable {X:Cx}{pins:List (Addr×Obj)}{σ:St}{H H1 H':Hp}{s s1 s':Shared}{B:Heap}{a C Ch:Addr}{i:Nat}{x n:Str}{np pos hpos:Pos}{b₀:Stmt}{suite:List Stmt}{ts:TS}{D:cP}{cO:List ExceptHandler}
structure yY (K:ad)(Ch:Addr):Prop where
 c1:(PySem.W.clsIn K Ch).isSome=true
 c2:PySem.W.typeIn K (.ref Ch)=some (.type "type")
 c3:PySem.W.subIn K (.ref Ch) (.type "BaseException")=some true
theorem aU2 (I:a7 X pins σ H1 s1)(fl:mD X.prog X.w X.stack H1 s1 H' B a C s')(hstk:X.stack=X.env::X.outer/\X.env.frame=some X.env.locals)(hg:Gl X x)(hm:X.mg x=some (.ref Ch))(ct:yY X.K Ch)(sub:PySem.W.subIn X.K (.ref C) (.ref Ch)=some true)(hN:X.N.Nodup)(hi:X.N[i]? = some n)(hl:X.env.scope.names.lookup n=some .local)(hs:dY (X.suite a) (b₀::suite) ts)(q:∀oe:Obj,oe.cls = .ref C->ts (yX D i) (σ.set i (some (.ref a))) (upd H' a (.frz oe (.own a))))(hd:(x==("__debug__":Str))=false) :
  wpAny (model X.prog X.w) X.A (noteFrame (.ref a) X.env) (λ_ s₂=>wpAny (model X.prog X.w) X.A (setFlight (.ref a) none) (λ_ s₃=>wpAny (model X.prog X.w) X.A (handleBy (.ref a) X.env (.ExceptHandler (some (.Name x np)) (some n) (b₀::suite) hpos::cO)) (SP X pins D) X.xe s₃) X.xe s₂) X.xe s':=by
 obtain⟨a0,fly⟩:=fl.fly
 rw[hstk.1]at fly
 refine wpAny_looks_onW (outer:=X.outer) (L:=X.env.locals) (by rw[I.ok.frames,hstk.1]) hstk.2 fly λh4 held up4=>wpAny_landsW held λh5 fly5 up5=>?_
 obtain⟨o5,v5,e5,c5,_⟩:=fly5.first
 have I5:=aa3 I fl fly5.1 (up4.trans up5) e5
 refine wpAny_handleBy_cons (codeAny_handlers_test (oO (I5.suite a) hg hm ?_ hd)) (by intro z;cases z)
 refine aU1 I5.kIn e5 c5 ct.c1 ct.c2 ct.c3 sub ?_
 show codeAny (model X.prog X.w) (X.A.mark (some (.ref a))) (.handlers (.ref a) [.ExceptHandler none (some n) (b₀::suite) hpos] X.env) _ _
 refine codeAny_handlers_suite_as (lands_againW fly5 λh6 fly6 up6=>?_)
 obtain⟨o6,v6,e6,c6,_⟩:=fly6.first
 have I6:=aa3 I fl fly6.1 ((up4.trans up5).trans up6) e6
 refine uY I6 hN hi (.inl hl) (v:=.ref a) rfl (λs7 I7=>?_) (.inr hl)
 refine bJ3 (hs pins s7 _ _ (yX D i) (I7.suite a) (q o6 c6)) (λf s8 h8=>?_) λ_ _ z=>z.elim
 show wpAny (model X.prog X.w) X.A (do bindName X.env n .none;unbindBehindTheSuite X.env n hpos) (λ_ s9=>SP X pins D f s9) X.xe s8
 cases f with
 |next=>obtain⟨σ',H',J,q⟩:=h8;exact t7 (J.unsuite I.ok) hN hi hl λs9 J9=>⟨_,_,J9,q⟩
 |brk=>obtain⟨σ',H',J,q⟩:=h8;exact t7 (J.unsuite I.ok) hN hi hl λs9 J9=>⟨_,_,J9,q⟩
 |cont=>obtain⟨σ',H',J,q⟩:=h8;exact t7 (J.unsuite I.ok) hN hi hl λs9 J9=>⟨_,_,J9,q⟩
 |ret u=>obtain⟨v,σ',H',J,r,q⟩:=h8;exact t7 (J.unsuite I.ok) hN hi hl λs9 J9=>⟨v,_,_,J9,r,q⟩
end
abbrev TB:=cP->XK->St->Hp->Prop
def XB (X:Cx)(pins:List (Addr×Obj))(σ:St)(Ex:XK):Value->Shared->Prop:=λe s'=>∃H1 s1,a7 X pins σ H1 s1/\eI X.prog X.w X.stack H1 s1 Ex e s'
def PB (X:Cx)(sts:List Stmt)(t:TB):Prop:=
 ∀(pins:List (Addr×Obj)) (s:Shared) (σ:St) (H:Hp) (D:cP) (Ex:XK),a7 X pins σ H s->t D Ex σ H->wpAny (model X.prog X.w) X.A (execs sts X.env) (SP X pins D) (XB X pins σ Ex) s
def aU3 (sp:Sp)(t:TA):TB:=λD Ex σ H=>t σ H λvs H1=>sp vs H1 (λ_ H2=>D.nx σ H2) Ex
def aU4 (c:TT)(t u:TB):TB:=λD Ex σ H=>c σ H λb H1=>if b=true then t D Ex σ H1 else u D Ex σ H1
section
variable {X:Cx}{k:Nat}{f Ch:Addr}{fd:FuncData}{ps:List Str}{sp:Sp}{x n:Str}{p cp pos np hpos:Pos}{e c:Expr}{es:List Expr}{t:TA}{tb ub:TB}{tc:TT}{sa sb body:List Stmt}{i:Nat}{b₀:Stmt}{suite:List Stmt}{ts:TS}
theorem aU5 (F:dQ X.prog X.w X.K X.mg X.base (eI X.prog X.w) k f fd ps sp)(hr:cF k X.A)(hg:Gl X x)(hm:X.mg x=some (.ref f))(hk:PySem.W.keepIn X.K (.ref f)=true)(hb:jQ X.K fd ps [])(ha:∀E,PA (X.wish E) (e::es) t)(hdb:(x==("__debug__":Str))=false:=by decide)(he:starEach (e::es) X.env=(false,eval e X.env)::starEach es X.env:=by rfl)(hpl:(backTo cp (starEach es X.env)).any (·.1)=false:=by rfl)(hsw:swapsWith (.Call (.Name x p) (e::es) [] cp) none pos.line X.env=pure false:=by rfl) :
  PB X [.Expr (.Call (.Name x p) (e::es) [] cp) pos] (aU3 sp t):=by
 intro pins s σ H D Ex I h
 refine wpAny_execs_cons (wpAny_Expr_any ?_ I.quiet hsw)
 refine wpAny_Call_Name_kw (oO I hg hm ?_ hdb)
 refine PySem.W.callWith_K (h₀:=X.base) I.ok.mod.kin hk (aR (ha (XB X pins σ Ex) cp pins s σ H _ (I.wish _) h) λus s1 h1=>⟨?_,?_⟩) he hpl
 ·obtain⟨_,_,I1,_⟩:=h1
  exact I1.kIn
 ·obtain⟨vs,H1,I1,r,q⟩:=h1
  have I1:=I1.unwish
  have hl:us.length=ps.length:=by rw[<- r.length];exact F.len _ _ _ _ q
  have bd:=hb s1 us I1.kIn (by rw[bD5];exact hl)
  rw[bD5]at bd
  refine wpAny_call (codeAny_mono (F.run X.A X.stack s1 H1 ⟨us,[]⟩ us vs _ Ex hr I1.env0 bd r q) λrs s' hq=>?_)
  cases rs with
  |error ev=>exact⟨H1,s1,I1,hq⟩
  |ok fl=>
   cases fl with
   |ret u=>
    obtain⟨v,H2,I2,_,q2⟩:=I1.after hq
    exact bP9 ⟨σ,H2,I2,q2⟩
   |next=>exact False.elim hq
   |brk=>exact False.elim hq
   |cont=>exact False.elim hq
theorem aU6 (hc:∀E,PT (X.wish E) c tc)(ha:PB X sa tb)(hb:PB X sb ub):PB X [.If c sa sb pos] (aU4 tc tb ub):=by
 intro pins s σ H D Ex I h
 refine wpAny_execs_cons (wpAny_If (aR (hc (XB X pins σ Ex) pins s σ H _ (I.wish _) h) λd s1 h1=>?_))
 obtain⟨H1,I1,q1⟩:=h1
 have I1:=I1.unwish
 have fin:∀(fl:Flow) (s2:Shared),SP X pins D fl s2->(match fl with|.next=>wpAny (model X.prog X.w) X.A (execs [] X.env) (SP X pins D) (XB X pins σ Ex) s2|fl=>SP X pins D fl s2):=λfl s2 q=>by
  cases fl with
  |next=>exact bP9 q
  |_=>exact q
 cases d with
 |true=>exact aR (ha pins s1 σ H1 D Ex I1 q1) fin
 |false=>exact aR (hb pins s1 σ H1 D Ex I1 q1) fin
def aa4 (K:ad)(Ch:Addr)(i:Nat)(tb:TB)(ts:TS):TS:=λD σ H=>
 tb D (λc _ H'=>∀(a C:Addr) (oe:Obj),c = .ref C->H' a=none->oe.cls = .ref C->PySem.W.subIn K (.ref C) (.ref Ch)=some true/\ts (yX D i) (σ.set i (some (.ref a))) (upd H' a (.frz oe (.own a)))) σ H
theorem aU7 (hstk:X.stack=X.env::X.outer/\X.env.frame=some X.env.locals)(hb:PB X body tb)(hg:Gl X x)(hm:X.mg x=some (.ref Ch))(ct:yY X.K Ch)(hN:X.N.Nodup)(hi:X.N[i]? = some n)(hl:X.env.scope.names.lookup n=some .local)(hs:∀a,dY (X.suite a) (b₀::suite) ts)(hd:(x==("__debug__":Str))=false:=by decide):PS X (.Try body [.ExceptHandler (some (.Name x np)) (some n) (b₀::suite) hpos] [] [] pos) (aa4 X.K Ch i tb ts):=by
 intro pins s σ H D I h
 refine wpAny_Try_except (bJ3 (hb pins s σ H D _ I h) (λfl s1 q=>?_) (λev s1 q=>?_))
 ·cases fl with
  |next=>exact bP9 q
  |_=>exact q
 ·obtain⟨H1,s2,I1,H',B,a,C,e1,fl,q⟩:=q
  subst e1
  obtain⟨a0,fly⟩:=fl.fly
  obtain⟨o5,_,_,c5,_⟩:=fly.first
  exact aU2 I1 fl hstk hg hm ct (q a C o5 rfl fl.fresh c5).1 hN hi hl (hs a) (λoe hc=>(q a C oe rfl fl.fresh hc).2) hd
end
end L2
namespace L2
open PySem PySem.Spec PyProof.Rows PySem.Calls Builtin Builtin.ObjectAttr Builtin.Getset_descriptor
structure jI (K:ad)(D:Addr):Prop where
 cls:(PySem.W.clsIn K D).isSome=true
 ga:PySem.W.findIn K (.ref D) "__getattribute__" = some (some (.builtin "BaseException.__getattribute__"))
 gt:PySem.W.findIn K (.ref D) "__getattr__" = some none
 fc:PySem.W.findIn K (.ref D) "__class__" = some (some (.builtin "object.__class__"))
 fg:PySem.W.specialIn K (.builtin "object.__class__") "__get__" = some (some (.builtin "getset_descriptor.__get__"))
 ft:PySem.W.takesIn K (.builtin "object.__class__")=some true
 ob:PySem.W.mroIn K D (.type "object")=some true
 be:PySem.W.mroIn K D (.type "BaseException")=some true
def lI (h:Heap)(x D:Addr):Prop:=∃ox:Obj,h.get? x=some ox/\ox.cls = .ref D
theorem lI.type {h:Heap}{x D:Addr}{M:Model}(I:lI h x D):PySem.W.Looks M h (typeOf (.ref x)) (.ref D):=by
 obtain⟨ox,e,c⟩:=I
 exact c▸(PySem.W.Looks.ld e).andThen .now
section
variable {prog:Program}{w:World}{A:Around}{E:Value→Shared→Prop}{K:ad}{x D:Addr}{h:Heap}{g:Array GenState}{d:Drawn}{t:Nat}{os:OsState}
theorem aU8 {M:Model}(F:jI K D)(k:K.In h):PySem.W.Looks M h (find (.ref x) (.ref D) "__class__") (.bind (.builtin "getset_descriptor.__get__") (.builtin "object.__class__")):=by
 have L1:=PySem.W.looks_findIn (M:=M) k F.fc
 have L2:=PySem.W.looks_specialIn (M:=M) k F.fg
 have L3:=PySem.W.looks_takesIn (M:=M) k F.ft
 unfold find
 refine L1.andThen (PySem.W.Looks.andThen (a:=some (Value.builtin "getset_descriptor.__get__")) L2 ?_)
 refine PySem.W.Looks.andThen (a:=some (Value.builtin "getset_descriptor.__get__",Value.builtin "object.__class__")) ?_ (PySem.W.Looks.tag .now)
 unfold dataDescriptor?
 exact L3.andThen .now
theorem aU9 {tp:Value}{R:Result->Shared->Prop}(F:jI K D)(k:K.In h)(I:lI h x D)(hq:R (.ok (.ret (.ref D))) ⟨h,g,d,t,os⟩):codeAny (model prog w) A (.call (.builtin "getset_descriptor.__get__") ⟨[.builtin "object.__class__",.ref x,tp],[]⟩) R ⟨h,g,d,t,os⟩:=by
 have L0:=I.type (M:=model prog w)
 have L1:=PySem.W.looks_mroIn (M:=model prog w) k F.ob
 refine codeAny_call_builtin PySem.W.KF.slot_gs.plain PySem.W.KF.entry_gs (PySem.W.KF.slot_gs.check _ _ _ _ _ _ _ _ PySem.W.KF.type_class (PySem.W.KF.args_gs _ _ _) ?_)
 unfold Builtin.«getset_descriptor.__get__» descrGet;rw[PySem.W.dga_obj]
 refine bz7 (bA8 ?_);unfold descrGetter descrCheckInstance descrNameAndClass isInstance
 simp only[PySem.W.KF.owner_class]
 repeat lk
 refine⟨Code.quiet_builtin _ (by decide +kernel),codeAny_builtin PySem.W.KF.entry_class ?_⟩;unfold Builtin.«object.__class__» shownTypeOf
 repeat lk
 exact hq
theorem aV0 {M:Model}{nameV:Value}{Q:Unit->Shared->Prop}(F:jI K D)(k:K.In h)(I:lI h x D)(hq:Q () ⟨h,g,d,t,os⟩):wpAny M A (checkBuiltinCall "BaseException.__getattribute__" ⟨[.ref x,nameV],[]⟩) Q E ⟨h,g,d,t,os⟩:=by
 have kd:builtinKind "BaseException.__getattribute__" = some .slot:=by decide +kernel
 have sp:splitId "BaseException.__getattribute__" = some ("BaseException","__getattribute__"):=by decide +kernel
 have L:PySem.W.Looks M h (isInstance (.ref x) (.type "BaseException")) true:=(I.type (M:=M)).andThen (PySem.W.looks_mroIn k F.be)
 have ha:=PySem.F.args_bexc_ga (.ref x) nameV
 simp only[checkBuiltinCall,kd,sp]
 refine bz7 (L.at ?_)
 repeat (any_goals (first|assumption|wp_step))
theorem aV1 {tk:Tok}{Q:Fin->Shared->Prop}(F:jI K D)(k:K.In h)(I:lI h x D)(hq:Q (.done (.ret (.ref D))) ⟨h,g,d,t,os⟩):wpAny (model prog w) A (Builtin.«object.__getattribute__» ⟨[.ref x,.str "__class__" tk],[]⟩) Q E ⟨h,g,d,t,os⟩:=by
 have L0:=I.type (M:=model prog w)
 have L1:=aU8 (M:=model prog w) F k (x:=x)
 refine bz7 (bA8 (bz7 (bA8 (bz7 (L0.at (bz7 (L1.at ?_)))))))
 show wpAny _ _ (holding [_] (call _ _) >>= ret) _ _ _
 exact bz7 (bL1 (wpAny_call (aU9 F k I (bA8 hq))))
theorem aV2 {tk:Tok}{R:Result->Shared->Prop}(F:jI K D)(k:K.In h)(I:lI h x D)(hq:R (.ok (.ret (.ref D))) ⟨h,g,d,t,os⟩):codeAny (model prog w) A (.call (.builtin "BaseException.__getattribute__") ⟨[.ref x,.str "__class__" tk],[]⟩) R ⟨h,g,d,t,os⟩:=
 codeAny_call_builtin PySem.F.excAttr_ValueError.ga.plain PySem.F.entry_bexc_ga (aV0 F k I (aV1 F k I hq))
theorem aV3 {Q:Option Value->Shared->Prop}(F:jI K D)(k:K.In h)(I:lI h x D)(hq:Q (some (.ref D)) ⟨h,g,d,t+1,os⟩):wpAny (model prog w) A (getAttr? (.ref x) "__class__") Q E ⟨h,g,d,t,os⟩:=by
 have L0:=I.type (M:=model prog w)
 have L1:=PySem.W.looks_findIn (M:=model prog w) k F.ga
 have L2:=PySem.W.looks_findIn (M:=model prog w) k F.gt
 have f3:=PySem.F.excAttr_ValueError.ga.bind (.ref x)
 unfold getAttr? getAttrBy? getAttrBy
 refine bz7 (wpAny_mkText (bz7 (wpAny_attempt (bL1 (bz7 (L0.at (bz7 (L1.at ?_))))))))
 have nx:(onTheHeap (Value.ref D)&&Value.builtin "BaseException.__getattribute__"==Value.builtin "object.__getattribute__")=false:=by
  rw[show (Value.builtin "BaseException.__getattribute__"==Value.builtin "object.__getattribute__")=false by decide +kernel,bK2]
 dsimp only
 rw[if_neg (by rw[nx];decide)]
 unfold getAttrByItsOwn hookBefore
 repeat (any_goals (first|assumption|(with_reducible refine L2.at ?_)|wp_step))
 exact aV2 F k I (PySem.W.handed_on rfl (bA8 hq))
end
theorem aV4 {K:ad}{x D:Addr}(F:jI K D):PySem.W.KitX K (.ref x) (.ref D) (λh=>lI h x D) where
 ty:=λ_ _ _ I=>I.type
 it:=λM h k _=>by
  have z:=F.cls
  unfold PySem.W.clsIn at z
  split at z
  ·rename_i c' d' cd' sl' ho
   intro A' Q' E' s' kk q
   unfold isType loadHead
   exact bz7 (wpAny_loadPart (kk _ _ (k _ _ ho)) (bA8 q))
  ·cases z
 ne:=λh tp dd its n sl k htp=>by
  have z:=F.cls
  refine bM6.mpr λq=>?_
  obtain rfl:D=tp:=Value.ref.inj (beq_iff_eq.mp q)
  unfold PySem.W.clsIn at z
  split at z
  ·rename_i ho
   have y:=(k _ _ ho).symm.trans htp
   cases y
  ·cases z
 ca:=λ{_ _ _ _ _ s} k I q=>by
  obtain⟨h,g,d,t,os⟩:=s
  exact aV3 F k I q
end L2
namespace Raw
open PySem PySem.W PySem.Calls PyProof.Rows
theorem mE {α β:Type}(f:α->β):∀(j:Nat) (l:List α),(l.eraseIdx j).map f=(l.map f).eraseIdx j
 |_,[]=>rfl
 |0,_::_=>rfl
 |j+1,x::r=>by
  show f x::(r.eraseIdx j).map f=f x::(r.map f).eraseIdx j
  rw[mE f j r]
section
variable {prog:Program}{w:World}{K:Type}[DecidableEq K]{knd:HeapKind prog w K}{A:Around}{E:Value→Shared→Prop}{s:Shared}{d a:Addr}{k:K}{xs:List (K×Addr×Value)}
def Cut (knd:HeapKind prog w K)(h:Heap)(d:Addr)(xs:List (K×Addr×Value))(j:Nat):Prop:=∃o es ep,h.get? d=some o/\o.ExactDict/\o.data = .dict es ep/\es.toList=(xs.eraseIdx j).map (entryOfKey knd)
theorem aV5 {Q:Option DictEntry->Shared->Prop}(hu:knd.room A)(hkey:knd.is s.heap k a)(hm:s.heap.DictOfH knd d xs)(hz:xs.length<=sizeLine)(is:∃(j:Nat) (p:Addr×Value),xs[j]? = some (k,p))(q:∀(j:Nat) (p:Addr×Value) h',xs[j]? = some (k,p)->Cut knd h' d xs j->Heap.SameBut d s.heap h'->Q (some (entryOfKey knd (k,p))) { s with heap:=h',toks:=s.toks+knd.draws k }):wpAny (model prog w) A (Builtin.Dict.takeOut d (.ref a)) Q E s:=by
 obtain⟨o,es,ep,e1,e2,e3,e4,e5,e6⟩:=hm
 obtain⟨j0,p0,h0⟩:=is
 unfold Builtin.Dict.takeOut
 try with_reducible refine bL1 ?_
 apply bz7
 apply knd.pyHash hu hkey
 apply bz7
 refine wpAny_dictFind_heap (s:={ s with toks:=s.toks+knd.draws k }) hu hkey e1 e3 e4 e5 e6 (λno=>absurd h0 (no j0 p0)) λj p hj=>?_
 apply bz7
 apply wpAny_dictEntries (s:={ s with toks:=s.toks+knd.draws k }) e1 e3
 rw[entry_at e4 j,hj]
 have sz:=size_of_entries e4
 apply bz7
 refine wpAny_updateDictKeys (hz:=by omega) (s:={ s with toks:=s.toks+knd.draws k }) e1 e3 (bA8 (q j p _ hj ⟨_,_,ep+1,Heap.get?_update_self _ e1 (Obj.isFreed_of_dict (Obj.data_mapDictKeys e3 _)),e2.mapDictKeys _,Obj.data_mapDictKeys e3 _,?_⟩ (Heap.SameBut.update ..)))
 rw[mE,<- e4]
 obtain⟨l⟩:=es
 simp
end
section
variable {prog:Program}{w:World}{K:Type}[DecidableEq K](knd:HeapKind prog w K)(d a:Addr)
theorem aV6:MeetsIn prog w (Builtin.«dict.pop» ⟨[.ref d,.ref a],[]⟩) (λA R s=>knd.room A.in1/\∃k xs,knd.is s.heap k a/\s.heap.DictOfH knd d xs/\xs.length<=sizeLine/\(∃(j:Nat) (p:Addr×Value),xs[j]? = some (k,p))/\
  ∀(j:Nat) (p:Addr×Value) h',xs[j]? = some (k,p)->Cut knd h' d xs j->Heap.SameBut d s.heap h'->R (.ok (.ret p.2)) { s with heap:=h',toks:=s.toks+knd.draws k }):=
 .of_wp λA R s h=>by
  obtain⟨hu,k,xs,hk,hm,hz,is,q⟩:=h
  obtain⟨o,es,ep,e1,e2,e3,e4,e5,e6⟩:=id hm
  have ne:es.isEmpty=false:=by
   obtain⟨j,p,hj⟩:=is
   have sz:=size_of_entries e4
   have:=(bB0.mp hj).1
   rw[Array.isEmpty_eq_false_iff,ne_eq,<- Array.size_eq_zero_iff]
   omega
  unfold Builtin.«dict.pop»
  apply bz7
  unfold Builtin.Dict.keyAndDefault
  apply bz7
  apply wpAny_notOrdered_dict hm.typeIs
  change wpAny _ _ (pure (d,Value.ref a,none)) _ _ s
  apply bA8
  have kp:(keyPart (Value.ref a)).isSome=false:=rfl
  simp only[kp,bC6,bG2]
  refine bz7 (wpAny_dictEntries e1 e3 (bz7 (bA8 ?_)))
  simp only[ne,bC6,bG2]
  apply bz7
  refine aV5 hu hk hm hz is λj p h' hj c sb=>?_
  simp only[Option.isNone_some,bC6,bG2]
  exact bz7 (wpAny_letGo (bA8 ⟨p.2,rfl,q j p h' hj c sb⟩))
end
end Raw
namespace L2
open PySem PySem.Spec PyProof.Rows
theorem Paired.erase {α β:Type}{F:α->β->Prop}:∀(j:Nat) {l:List α}{m:List β},Paired F l m->Paired F (l.eraseIdx j) (m.eraseIdx j)
 |_,_,_,.nil=>.nil
 |0,_,_,.cons _ t=>t
 |j+1,_,_,.cons r t=>.cons r (Paired.erase j t)
theorem aa5 {α β:Type}{F:α->β->Prop}:∀{l:List α}{m:List β}{i:Nat}{y:β},Paired F l m->m[i]? = some y->∃x,l[i]? = some x/\F x y
 |_,_,_,_,.nil,e=>by simp at e
 |_,_,0,_,.cons r _,e=>by simp at e;subst e;exact⟨_,rfl,r⟩
 |_,_,i+1,y,.cons _ t,e=>by
  rw[bF5]at e
  obtain⟨x,h1,h2⟩:=aa5 t e
  exact⟨x,by rw[bF5];exact h1,h2⟩
theorem aa6 {α β:Type}{F:α->β->Prop}:∀{l:List α}{m:List β}{i:Nat}{x:α},Paired F l m->l[i]? = some x->∃y,m[i]? = some y/\F x y
 |_,_,_,_,.nil,e=>by simp at e
 |_,_,0,_,.cons r _,e=>by simp at e;subst e;exact⟨_,rfl,r⟩
 |_,_,i+1,x,.cons _ t,e=>by
  rw[bF5]at e
  obtain⟨y,h1,h2⟩:=aa6 t e
  exact⟨y,by rw[bF5];exact h1,h2⟩
section
variable {X:Cx}{pins:List (Addr×Obj)}{σ:St}{H:Hp}{s:Shared}{a b:Addr}{kvs:List (List aC×V)}{k:List aC}{A:Around}{E:Value→Shared→Prop}
theorem aV7 {Q:Value->Shared->Prop}(hu:A.units+1<cLine)(I:a7 X pins σ H s)(e:H a=some (.dT kvs))(eb:H b=some (.tup (k.map kV)))(is:∃j:Nat,(kvs.map (·.1))[j]? = some k)(h:∀(j:Nat) v w' s',(kvs.map (·.1))[j]? = some k->a7 X pins σ (upd H a (.dT (kvs.eraseIdx j))) s'->b6 v w'->Q w' s'):wpAny (model X.prog X.w) A (call (.builtin "dict.pop") [.ref a,.ref b]) Q E s:=by
 obtain⟨z,hd,xs,rel,dd⟩:=O0 I.hok e
 have hz:xs.length<=sizeLine:=by rw[<- Paired.length rel];exact z
 refine call_meetsIn PySem.F.slot_dict_pop dd.typeIs PySem.F.entry_dict_pop (PySem.F.args_dict_pop_2 _ _) (Raw.aV6 (tupleKind (eB X.prog X.w)) a b) ⟨tupleKind_room_in1 hu,k,xs,pD I.hok eb,dd,hz,?_,λj p h' hj c sb=>?_⟩
 ·obtain⟨j,hj⟩:=is
  rw[bB6]at hj
  cases ej:kvs[j]? with
  |none=>rw[ej]at hj;cases hj
  |some kv=>
   rw[ej]at hj
   cases hj
   obtain⟨y,hy,r⟩:=aa6 rel ej
   exact⟨j,y.2,by rw[hy];exact congrArg some (Prod.ext r.1.symm rfl)⟩
 ·obtain⟨kv,hkv,r⟩:=aa5 rel hj
  obtain⟨o,es,ep,h1,h2,h3,h4⟩:=c
  have nd:((xs.eraseIdx j).map (·.1)).Nodup:=by
   obtain⟨_,_,_,_,_,_,_,_,nd⟩:=dd
   exact nd.sublist ((List.eraseIdx_sublist xs j).map _)
  refine h j kv.2 p.2 _ (by rw[bB6,hkv];exact congrArg some r.1) ?_ r.2.2
  refine pE I (by rw[e];exact bO3) sb ⟨o,h1⟩ ⟨bE8 (List.length_eraseIdx_le kvs j) z,hd,_,KT.keeps (Paired.erase j rel) λc ys ec=>?_,o,es,ep,h1,h2,h3,h4,nd⟩
  rw[aW (E4 ec e (λz=>nomatch z))]
  exact ec
end
section
variable {X:Cx}{o e:Expr}{apos cpos:Pos}{td ty:TE}
def aa7 (td ty:TE):TE:=λσ H Q=>td σ H λx H1=>∃a,x = .ref a/\w9 H1 a/\ty σ H1 λy H2=>∃kvs k b,H2 a=some (.dT kvs)/\y = .ref b/\H2 b=some (.tup (k.map kV))/\(∃j:Nat,(kvs.map (·.1))[j]? = some k)/\∀(j:Nat) v,(kvs.map (·.1))[j]? = some k->Q v (upd H2 a (.dT (kvs.eraseIdx j)))
theorem aV8 (hu:X.A.units+1<cLine)(ho:PE X o td)(he:PE X e ty)(m:M1 X o "pop" apos e cpos):PE X (.Call (.Attribute o "pop" apos) [e] [] cpos) (aa7 td ty):=by
 intro pins s σ H Q I h
 refine wpAny_Call_method m.base m.few m.line PySem.F.plainAttrs_dict PySem.F.slot_dict_pop PySem.F.type_dict_pop (aR (ho pins s σ H _ I h) λu s1 h1=>?_)
 obtain⟨x,H1,I1,rx,a,ex,d,q1⟩:=h1
 subst ex
 obtain rfl:u=Value.ref a:=rx
 obtain⟨t1,t2,_⟩:=P0 I1 d
 refine⟨t1,t2,?_⟩
 rw[m.trees]
 refine Calls.callWith_builtin rfl (Calls.evalArgs_plain (Calls.spliced_cons (aR (he pins s1 σ H1 _ I1 q1) λiv s2 h2=>Calls.spliced_nil ?_)))
 obtain⟨y,H2,I2,ry,kvs,k,b,ea,ey,eb,is,q2⟩:=h2
 subst ey
 obtain rfl:iv=Value.ref b:=ry
 exact aV7 hu I2 ea eb is λj v w' s3 hj I3 rw'=>⟨v,_,I3,rw',q2 j v hj⟩
end
section
variable {X:Cx}
def aa8:V->List V->Hp->VK->Prop:=λx vs H Q=>∃l xs y,∃k:Nat,x = .ref l/\vs = [.int k,y]/\H l=some (.lst xs)/\k<=xs.length/\xs.length<sizeLine/\Q .non (upd H l (.lst (xs.take k++y::xs.drop k)))
theorem aV9:p9 X "list.insert" aa8:=by
 intro pins s σ H x vs v us Q I rx rv h
 obtain⟨l,xs,y,k,rfl,rfl,hH,hk,hz,q⟩:=h
 obtain⟨u1,u2,rfl,⟨t,rfl⟩,r2⟩:=rv.two
 obtain rfl:v=Value.ref l:=rx
 obtain⟨z,its,n,r,hl,e⟩:=I.lstM hH
 have hs:sizeLine=16777216:=sizeLine_eq
 obtain⟨x,hx⟩:∃x:Int,x=(k:Int):=⟨_,rfl⟩
 rw[<- hx]
 have hf:¬(!Builtin.List.listFitsIndex x)=true:=by
  have h1:Builtin.List.listFitsIndex x=true:=by
   unfold Builtin.List.listFitsIndex
   rw[bE5]
   exact⟨bz9 (by omega),bz9 (by omega)⟩
  rw[h1];exact bC1
 have hz2:its.toArray.size<=sizeLine:=by rw[bA2];omega
 refine call_meets PySem.F.slot_list_insert ⟨_,e,rfl⟩ PySem.F.entry_list_insert (PySem.F.args_list_insert_3 _ _ _) (AutoSeq1.list_insert_list_int_val_1 l its.toArray n x t u2 hf hz2) ⟨e,.non,_,?_,rfl,q⟩
 refine I.lset (its':=its.take k++u2::its.drop k) hH e ?_ ((r.take k).append (.cons r2 (r.drop k))) ?_
 ·have e1:(if x<0 then (x+(its.toArray.size:Int)).toNat else min x.toNat its.toArray.size)=k:=by
   rw[if_neg (by omega),bA2]
   omega
  dsimp only
  rw[e1]
  apply Array.toList_inj.mp
  simp only[bH4,Array.toList_push,Array.toList_extract,List.extract_eq_drop_take]
  simp
  rw[bE4 (by rw[bI5];omega)]
 ·rw[bB1,bC7,bI3,bI5]
  omega
end
end L2
namespace Core
open PySem L2 PP
def iZ (ns:af):Bool:=((ns.zip (ns.drop 1)).map λp=>decide (p.1<p.2)).all id
theorem aW0 {α β:Type}{l:List α}{f:α->β}{i:Nat}{x:α}(h:l[i]? = some x):(l.take (i+1)).map f=(l.take i).map f++[f x]:=by
 rw[bD9,h];simp
theorem dJ:∀{ns:af},iZ ns=true->ns.Pairwise (·<·)
 |[],_=>.nil
 |[x],_=>bC9 _ _
 |x::y::r,h=>by
  have e:iZ (x::y::r)=(decide (x<y)&&iZ (y::r)):=rfl
  rw[e,bE5]at h
  have ih:=dJ h.2
  refine bM1.mpr ⟨λz hz=>?_,ih⟩
  rcases bA7.mp hz with rfl|hz
  ·exact bE6 h.1
  ·exact Int.lt_trans (bE6 h.1) (List.rel_of_pairwise_cons ih hz)
theorem yZ:∀{ns:af},ns.Pairwise (·<·)->iZ ns=true
 |[],_=>rfl
 |[x],_=>rfl
 |x::y::r,h=>by
  have e:iZ (x::y::r)=(decide (x<y)&&iZ (y::r)):=rfl
  have h':=bM1.mp h
  rw[e,yZ h'.2,Bool.and_true]
  exact bz9 (h'.1 y bA4)
def kin (ws:af)(ls:aa)(S:af)(h:Int):Bool:=!decide (h∈S)&&decide (ws.getD h.toNat 0<=(((aM ls h).filter λx=>decide (x∈S)).length:Int))
def nextOf (ws:af)(ls:aa)(S:af):af:=((List.range ws.length).map λ(i:Nat)=>(i:Int)).filter (kin ws ls S)
def bA (ws:af)(ls:aa)(S:af):Nat->af
 |0=>S
 |k+1=>bA ws ls S k++nextOf ws ls (bA ws ls S k)
def cold (ws:af)(S:af):Nat:=(((List.range ws.length).map λ(i:Nat)=>(i:Int)).filter λx=>!decide (x∈S)).length
theorem z9 {α:Type}(p q:α->Bool)(h:∀x,q x=true->p x=false):∀L:List α,(L.filter λx=>!p x&&!q x).length+(L.filter q).length=(L.filter λx=>!p x).length
 |[]=>rfl
 |x::r=>by
  have ih:=z9 p q h r
  cases e1:p x with
  |true=>
   have e2:q x=false:=by
    cases e:q x with
    |false=>rfl
    |true=>have:=h x e;rw[e1]at this;cases this
   simp only[bI7,e1,e2,Bool.not_true,bN9,bC6,bG2]
   exact ih
  |false=>
   cases e2:q x with
   |true=>
    simp only[bI7,e1,e2,Bool.not_true,Bool.not_false,bK2,bC6,bG2,if_true,bC7]
    omega
   |false=>
    simp only[bI7,e1,e2,Bool.not_false,Bool.and_true,bC6,bG2,if_true,bC7]
    omega
theorem zA {ws:af}{ls:aa}{S:af}{x:Int}(h:kin ws ls S x=true):decide (x∈S)=false:=by
 unfold kin at h
 cases e:decide (x∈S) with
 |false=>rfl
 |true=>rw[e]at h;cases h
theorem zB (ws:af)(ls:aa)(S:af):cold ws (S++nextOf ws ls S)+(nextOf ws ls S).length=cold ws S:=by
 have e:=z9 (λx=>decide (x∈S)) (kin ws ls S) (λx h=>zA h) ((List.range ws.length).map λ(i:Nat)=>(i:Int))
 unfold cold
 rw[<- e]
 congr 2
 refine bK9 λx hx=>?_
 have:decide (x∈S++nextOf ws ls S)=(decide (x∈S)||kin ws ls S x):=by
  rw[bF1]
  unfold nextOf
  simp only[bC2,bB8,bB3,Bool.or_eq_true]
  exact⟨λz=>z.elim .inl λz=>.inr z.2,λz=>z.elim .inl λz=>.inr ⟨hx,z⟩⟩
 rw[this]
 cases decide (x∈S)<;>cases kin ws ls S x<;>rfl
theorem aW1 (ws:af)(S:af):cold ws S<=ws.length:=by
 unfold cold
 refine bE8 (bJ9 _ _) ?_
 rw[bA5,bI9];exact bA3 _
theorem aW2 (ws:af)(ls:aa)(S:af):(nextOf ws ls S).length<=ws.length:=by
 unfold nextOf
 refine bE8 (bJ9 _ _) ?_
 rw[bA5,bI9];exact bA3 _
def after (ws:af)(ls:aa)(S:af)(m:Nat):ae:=(List.range m).map λk=>nextOf ws ls (bA ws ls S k)
theorem aa9 (ws:af)(ls:aa)(S:af)(m:Nat):after ws ls S (m+1)=after ws ls S m++[nextOf ws ls (bA ws ls S m)]:=by
 unfold after
 rw[List.range_succ,bC3];rfl
theorem zC (ws:af)(ls:aa)(ns:af):∀k,(bA ws ls ns k).length+cold ws (bA ws ls ns k)=ns.length+cold ws ns
 |0=>rfl
 |k+1=>by
  have ih:=zC ws ls ns k
  have cs:=zB ws ls (bA ws ls ns k)
  show (bA ws ls ns k++nextOf ws ls (bA ws ls ns k)).length+cold ws (bA ws ls ns k++nextOf ws ls (bA ws ls ns k))=_
  rw[bB1];omega
theorem zD {ws ns:af}(hu:ns.Pairwise (·<·))(hin:∀x∈ns,0<=x/\x<(ws.length:Int)):ns.length+cold ws ns<=ws.length:=by
 have nd:ns.Nodup:=hu.imp λh=>bH1 h
 have sub:ns ⊆ ((List.range ws.length).map λ(i:Nat)=>(i:Int)).filter λx=>decide (x∈ns):=λx hx=>by
  refine bB3.mpr ⟨bF0.mpr ⟨x.toNat,bP4.mpr ?_,?_⟩,bz9 hx⟩
  ·have:=hin x hx;omega
  ·have:=hin x hx;omega
 have h1:=nd.length_le_of_subset sub
 have h2:=z9 (λ_=>false) (λx=>decide (x∈ns)) (λ_ _=>rfl) ((List.range ws.length).map λ(i:Nat)=>(i:Int))
 have h3:(((List.range ws.length).map λ(i:Nat)=>(i:Int)).filter λx=>!false&&!decide (x∈ns)).length=cold ws ns:=rfl
 have h4:(((List.range ws.length).map λ(i:Nat)=>(i:Int)).filter λx=>!false).length<=ws.length:=by
  refine bE8 (bJ9 _ _) ?_
  rw[bA5,bI9];exact bA3 _
 rw[h3]at h2
 omega
theorem zE (ws:af)(ls:aa)(ns:af):∀m,(ns::after ws ls ns m).flatten=bA ws ls ns m
 |0=>by simp[after,bA]
 |m+1=>by
  rw[aa9,<- List.cons_append,List.flatten_append,zE ws ls ns m]
  simp[bA]
def cP (ws:af)(ls:aa)(ns:af)(m:Nat):Prop:=(∀k<m,nextOf ws ls (bA ws ls ns k)≠[])/\nextOf ws ls (bA ws ls ns m) = []
theorem ab0 {ws:af}{ls:aa}{ns:af}:∀(m:Nat),(∀k<m,nextOf ws ls (bA ws ls ns k)≠[])->m+cold ws (bA ws ls ns m)<=ws.length
 |0,_=>by have:=aW1 ws ns;show 0+cold ws ns<=_;omega
 |m+1,h=>by
  have ih:=ab0 m λk hk=>h k (by omega)
  have cs:=zB ws ls (bA ws ls ns m)
  have:1<=(nextOf ws ls (bA ws ls ns m)).length:=by
   cases e:nextOf ws ls (bA ws ls ns m) with
   |nil=>exact absurd e (h m (by omega))
   |cons _ _=>exact Nat.succ_le_succ (bE9 _)
  show m+1+cold ws (bA ws ls ns m++nextOf ws ls (bA ws ls ns m))<=_
  omega
theorem gH {ns:af}{i:Nat}{x:PV}(h:(intz ns)[i]? = some x):∃n,x = .int n/\ns[i]? = some n:=by
 rw[bB6]at h
 cases e:ns[i]? with
 |none=>rw[e]at h;cases h
 |some n=>rw[e]at h;exact⟨n,(bE0 h).symm,rfl⟩
theorem kK {lo:Int}{n i:Nat}{x:PV}(h:(gC lo n)[i]? = some x):x = .int (lo+i)/\i<n:=by
 have hi:i<n:=by
  have:=(bB0.mp h).1
  rwa [eZ]at this
 rw[U0 hi]at h
 exact⟨(bE0 h).symm,hi⟩
def rng (n:Nat):af:=(List.range n).map λ(i:Nat)=>(i:Int)
theorem eO (n:Nat):(rng n).length=n:=by unfold rng;rw[bA5,bI9]
theorem ab1 {n i:Nat}(h:i<n):(rng n)[i]? = some (i:Int):=by unfold rng;rw[bB6,bM9 h];rfl
theorem fB {n:Nat}{x:Int}:x∈rng n↔0<=x/\x<(n:Int):=by
 unfold rng
 rw[bF0]
 constructor
 ·rintro⟨i,hi,rfl⟩
  have:=bP4.mp hi
  omega
 ·intro h
  exact⟨x.toNat,bP4.mpr (by omega),by omega⟩
theorem lJ {α:Type}{l:List α}{p:α->Bool}{i:Nat}{x:α}(h:l[i]? = some x):(l.take (i+1)).filter p=(l.take i).filter p++(if p x=true then [x] else []):=by
 rw[bD9,h,List.filter_append]
 congr 1
 cases e:p x<;>simp[e]
theorem eQ (a b:af):intz (a++b)=intz a++intz b:=bC3
theorem bH (a:af):(intz a).length=a.length:=bA5 _
def bL (ws:af)(ls:aa):PV:=.tup [.tup (intz ws),.tup (ls.map λl=>.tup [.int l.1,.int l.2])]
structure Wb (ws:af)(ls:aa):Prop where
 few:ws.length<=40
 most:ls.length<=1700
 links:∀l∈ls,(0<=l.1/\l.1<ws.length)/\0<=l.2/\l.2<ws.length
def cX (x:PV)(ns:af):Prop:=x = .tup (intz ns)∨x = .lst (intz ns)
theorem cX.seq {x:PV}{ns:af}(h:cX x ns):iQ x=some (intz ns):=by rcases h with rfl|rfl<;>rfl
theorem cX.seqT {x:PV}{ns:af}(h:cX x ns):seqT x=some (intz ns):=by rcases h with rfl|rfl<;>rfl
theorem qG:∀(ls:aa),flats (ls.map λl=>PV.tup [.int l.1,.int l.2])=true
 |[]=>rfl
 |l::r=>by
  show (flat (.tup [.int l.1,.int l.2])&&flats (r.map λl=>PV.tup [.int l.1,.int l.2]))=true
  rw[qG r];rfl
theorem ab2 (ws:af)(ls:aa):flat (bL ws ls)=true:=by
 show flats [.tup (intz ws),.tup (ls.map λl=>PV.tup [.int l.1,.int l.2])]=true
 show (flat (.tup (intz ws))&&(flat (.tup (ls.map λl=>PV.tup [.int l.1,.int l.2]))&&true))=true
 show (flats (intz ws)&&(flats (ls.map λl=>PV.tup [.int l.1,.int l.2])&&true))=true
 rw[cS,qG];rfl
theorem nY (ns:af):flat (.tup (intz ns))=true:=cS ns
def fN:bF:=λxs Q=>∃ws ls,xs = [bL ws ls]/\Q (.int ws.length)
def ab3:aI:=(bC (aB dC (a6 (bZ (a5 0) (qC (.int 0))) a9)))
abbrev bX (t:aI)(N:List Str)(p:bF):Prop:=∀xs Q,p xs Q->t { nx:=λ_=>Q .non,rt:=Q } (gD N xs)
theorem aW3:bX ab3 ["web"] fN:=by
 rintro xs Q ⟨ws,ls,rfl,q⟩
 refine⟨_,rfl,_,_,_,rfl,rfl,rfl,_,_,rfl,rfl,trivial,?_⟩
 rw[bH];exact q
def aW4:bF:=λxs Q=>∃x ns,xs = [x]/\cX x ns/\ns.length<=1000/\Q (.bl (iZ ns))
def inB (n:Nat)(x:Int):Bool:=decide (0<=x)&&decide (x<(n:Int))
def qH:bF:=λxs Q=>∃ws ls n,xs = [bL ws ls,.int n]/\Q (.bl (inB ws.length n))
def ab4:aI:=(bC (lY (xR (a5 1) (qC (.int 0))) (jG (a5 1) (aB fN (a6 (a5 0) a9)))))
theorem aW5:bX ab4 ["web","number"] qH:=by
 rintro xs Q ⟨ws,ls,n,rfl,q⟩
 refine⟨_,rfl,_,_,rfl,rfl,_,rfl,?_⟩
 unfold inB at q
 by_cases h:(0:Int)<=n
 ·rw[bz9 h]at q ⊢
  refine b9 ⟨_,rfl,_,rfl,ws,ls,rfl,_,_,rfl,rfl,trivial,?_⟩
  simpa using q
 ·rw[bA0 h]at q ⊢
  exact aT ⟨trivial,by simpa using q⟩
def aX (n:Nat)(ns:af):Bool:=iZ ns&&(ns.map (inB n)).all id
def zF:bF:=λxs Q=>∃ws ls x ns,xs = [bL ws ls,x]/\cX x ns/\ns.length<=1000/\Q (.bl (aX ws.length ns))
def aW6:aI:=(bC (lY (aB aW4 (a6 (a5 1) a9)) (aB pN (a6 (cQ (dD (a5 1)) [none,some 0] (bQ 0) eD (aB qH (a6 (a5 1) (a6 (a5 0) a9)))) a9))))
theorem mF {x:PV}{ns:af}(h:cX x ns):(Slot.sh (flat x) x).tag = .rd->flat x=true:=by
 cases flat x<;>intro z<;>cases z
theorem aW7:bX aW6 ["web","numbers"] zF:=by
 rintro xs Q ⟨ws,ls,x,ns,rfl,hx,hl,q⟩
 refine⟨_,rfl,x,ns,rfl,hx,hl,_,rfl,?_⟩
 unfold aX at q
 cases h:iZ ns with
 |false=>rw[h]at q;exact aT ⟨trivial,q⟩
 |true=>
  rw[h]at q
  refine b9 ⟨_,rfl,_,hx.seq,mF hx,by rw[bH];omega,λi acc=>acc=(((ns.take i).map (inB ws.length)).map PV.bl),rfl,?_,?_⟩
  ·rintro i y acc hy rfl
   obtain⟨n,rfl,hn⟩:=gH hy
   have tk:((ns.take (i+1)).map (inB ws.length)).map PV.bl=((ns.take i).map (inB ws.length)).map PV.bl++[PV.bl (inB ws.length n)]:=by rw[aW0 hn,bC3];rfl
   exact⟨_,rfl,_,rfl,ws,ls,n,rfl,trivial,tk.symm⟩
  ·rintro acc rfl
   rw[bH,bD8]
   exact⟨_,rfl,trivial,by simpa using q⟩
theorem cX.noscr {x:PV}{ns:af}(h:cX x ns):∀ms,([x]:List PV)≠[.scr ms]:=by
 rcases h with rfl|rfl<;>intro ms z<;>cases z
structure DS (ps:List (aC×PV))(S:af):Prop where
 has:∀i:Int,(bW ps (Sum.inl i:aC)).isSome=decide (i∈S)
 len:ps.length<=S.length
 fl:flats (ps.map (·.2))=true
theorem DS.nil:DS [] []:=⟨λi=>rfl,bA3 _,rfl⟩
section
variable {κ:Type}[DecidableEq κ]
theorem aW8 {k:κ}:bW ([]:List (κ×PV)) k=none:=rfl
theorem jJ {p:κ×PV}{r:List (κ×PV)}{k:κ}(e:p.1=k):bW (p::r) k=some p.2:=by simp[bW,bL4,e]
theorem jK {p:κ×PV}{r:List (κ×PV)}{k:κ}(e:¬p.1=k):bW (p::r) k=bW r k:=by simp[bW,bL4,e]
theorem qI (k:κ):∀kvs:List (κ×PV),(kvs.any λkv=>decide (kv.1=k))=(bW kvs k).isSome
 |[]=>rfl
 |p::r=>by
  rw[bP0]
  by_cases e:p.1=k
  ·simp only[jJ e,bz9 e,Bool.true_or,Option.isSome_some]
  ·rw[jK e,bA0 e,Bool.false_or];exact qI k r
theorem ab5 (k j:κ)(y:PV):∀kvs:List (κ×PV),bW (kvs.map λkv=>if kv.1=k then (kv.1,y) else kv) j=(bW kvs j).map λx=>if j=k then y else x
 |[]=>rfl
 |p::r=>by
  have ih:=ab5 k j y r
  rw[bF4]
  by_cases h:p.1=k
  ·rw[if_pos h]
   by_cases e:p.1=j
   ·rw[jJ (p:=(p.1,y)) e,jJ e,Option.map_some,if_pos (e.symm.trans h)]
   ·rw[jK (p:=(p.1,y)) e,jK e,ih]
  ·rw[if_neg h]
   by_cases e:p.1=j
   ·rw[jJ (p:=p) e,jJ e,Option.map_some,if_neg (λz=>h (e.trans z))]
   ·rw[jK (p:=p) e,jK e,ih]
theorem ab6 (k j:κ)(y:PV):∀kvs:List (κ×PV),bW kvs k=none->bW (kvs++[(k,y)]) j=if j=k then some y else bW kvs j
 |[],_=>by
  by_cases e:k=j
  ·rw[if_pos e.symm];exact jJ (p:=(k,y)) e
  ·rw[if_neg (λz=>e z.symm)];exact jK (p:=(k,y)) e
 |p::r,hn=>by
  rw[List.cons_append]
  have hk:¬p.1=k:=λz=>by rw[jJ z]at hn;cases hn
  rw[jK hk]at hn
  have ih:=ab6 k j y r hn
  by_cases e:p.1=j
  ·rw[jJ e,jJ e,if_neg (λz=>hk (e.trans z))]
  ·rw[jK e,jK e,ih]
theorem ab7 (kvs:List (κ×PV))(k j:κ)(y:PV):bW (cT kvs k y) j=if j=k then some y else bW kvs j:=by
 unfold cT
 by_cases a:(kvs.any λkv=>decide (kv.1=k))=true
 ·rw[if_pos a,ab5]
  rw[qI]at a
  by_cases e:j=k
  ·obtain⟨x,hx⟩:=Option.isSome_iff_exists.mp a
   rw[if_pos e,e,hx,Option.map_some,if_pos rfl]
  ·rw[if_neg e]
   cases bW kvs j with
   |none=>rfl
   |some x=>rw[Option.map_some,if_neg e]
 ·rw[if_neg a]
  refine ab6 k j y kvs ?_
  rw[qI]at a
  cases q:bW kvs k with
  |none=>rfl
  |some x=>rw[q]at a;exact (a rfl).elim
theorem zG (kvs:List (κ×PV))(k:κ)(v:PV):(cT kvs k v).length<=kvs.length+1:=by
 unfold cT
 split
 ·rw[bA5];omega
 ·rw[bB1,bC7,bQ1];omega
end
theorem ab8:∀(xs:List PV),flats xs=true↔∀x∈xs,flat x=true
 |[]=>by simp[flats]
 |x::r=>by
  unfold flats
  rw[bE5,ab8 r];simp
theorem aW9 {κ:Type}[DecidableEq κ]{ps:List (κ×PV)}{k:κ}{v:PV}{p:κ×PV}(h:p∈cT ps k v):p.2=v∨p∈ps:=by
 unfold cT at h
 split at h
 ·obtain⟨q,hq,e⟩:=bF0.mp h
  split at e
  ·subst e;exact .inl rfl
  ·subst e;exact .inr hq
 ·rcases bB8.mp h with h|h
  ·exact .inr h
  ·rw[bA1.mp h];exact .inl rfl
theorem zH {κ:Type}[DecidableEq κ]{ps:List (κ×PV)}{k:κ}{v:PV}(h:flats (ps.map (·.2))=true)(hv:flat v=true):flats ((cT ps k v).map (·.2))=true:=by
 rw[ab8]at h ⊢
 intro x hx
 obtain⟨p,hp,rfl⟩:=bF0.mp hx
 rcases aW9 hp with e|e
 ·rw[e];exact hv
 ·exact h _ (bF0.mpr ⟨p,e,rfl⟩)
theorem DS.put {ps:List (aC×PV)}{S:af}(h:DS ps S)(x:Int)(v:PV)(hv:flat v=true):DS (cT ps (Sum.inl x:aC) v) (S++[x]):=by
 refine⟨λi=>?_,?_,zH h.fl hv⟩
 ·rw[ab7]
  by_cases e:i=x
  ·subst e;rw[if_pos rfl];simp
  ·rw[if_neg (λz=>e (Sum.inl.inj z)),h.has]
   simp[e]
 ·have:=zG ps (Sum.inl x:aC) v
  have:=h.len
  rw[bB1,bF7];omega
theorem DS.merge {S:af}:∀{mp ps:List (aC×PV)}{T:af},DS ps S->DS mp T->DS (iS ps mp) (S++T):=by
 have key:∀(mp:List (aC×PV)) {ps:List (aC×PV)} (i:Int),(bW (iS ps mp) (Sum.inl i:aC)).isSome=((bW ps (Sum.inl i:aC)).isSome||(bW mp (Sum.inl i:aC)).isSome):=λmp=>by
  induction mp with
  |nil=>intro ps i;show (bW ps (Sum.inl i:aC)).isSome=_;rw[aW8];simp
  |cons p r ih=>
   intro ps i
   show (bW (iS (cT ps p.1 p.2) r) (Sum.inl i:aC)).isSome=_
   rw[ih,ab7]
   by_cases e:(Sum.inl i:aC)=p.1
   ·rw[if_pos e,jJ e.symm];simp
   ·rw[if_neg e,jK (Ne.symm e)]
 have keyl:∀(mp:List (aC×PV)) {ps:List (aC×PV)},(iS ps mp).length<=ps.length+mp.length:=λmp=>by
  induction mp with
  |nil=>intro ps;exact bA3 _
  |cons p r ih=>
   intro ps
   have h1:=ih (ps:=cT ps p.1 p.2)
   have h2:=zG ps p.1 p.2
   show (iS (cT ps p.1 p.2) r).length<=_
   rw[bC7];omega
 have keyf:∀(mp:List (aC×PV)) {ps:List (aC×PV)},flats (ps.map (·.2))=true->flats (mp.map (·.2))=true->flats ((iS ps mp).map (·.2))=true:=λmp=>by
  induction mp with
  |nil=>intro ps h _;exact h
  |cons p r ih=>
   intro ps h g
   have g:(flat p.2&&flats (r.map (·.2)))=true:=g
   rw[bE5]at g
   exact ih (ps:=cT ps p.1 p.2) (zH h g.1) g.2
 intro mp ps T h g
 refine⟨λi=>?_,?_,keyf mp h.fl g.fl⟩
 ·rw[key,h.has,g.has,bF1];simp
 ·have:=keyl mp (ps:=ps)
  have:=h.len
  have:=g.len
  rw[bB1];omega
def gU:bF:=λxs Q=>∃x ns,xs = [x]/\cX x ns/\ns.length<=1000/\∀ps,DS ps ns->Q (.dK ps)
def ab9:aI:=(aF (gB 1 (qC (.dK [])))
 (aF (eN (dD (a5 0)) (bQ 2)
  (pS 1 (a5 2) (qC (.bl true))))
 (k8 1)))
theorem aX0:bX ab9 ["hearths","inside","hearth"] gU:=by
 rintro xs Q ⟨x,ns,rfl,hx,hl,q⟩
 refine⟨rfl,rfl,_,rfl,_,hx.seq,mF hx,λi ρ=>∃y ps,ρ = [some (.sh (flat x) x),some (.own (.dK ps)),y]/\DS ps (ns.take i),⟨none,[],rfl,DS.nil⟩,?_,?_⟩
 ·rintro i y ρ hy ⟨y0,ps,rfl,d⟩
  obtain⟨n,rfl,hn⟩:=gH hy
  have hlen:=d.len
  rw[bI3]at hlen
  refine⟨_,rfl,_,rfl,Sum.inl n,rfl,trivial,by omega,_,_,rfl,?_⟩
  rw[bD9,hn]
  exact d.put n _ rfl
 ·rintro ρ ⟨y,ps,rfl,d⟩
  rw[bH,bD8]at d
  exact⟨_,rfl,trivial,q ps d⟩
def nZ:bF:=λxs Q=>∃x ns ps S,xs = [x,.dK ps]/\cX x ns/\DS ps S/\ns.length<=10000/\Q (.int ((ns.filter λx=>decide (x∈S)).length:Nat))
def ac0:aI:=(bC (aB dC (a6 (cQ (dD (a5 0)) [none,some 1] (bQ 0) (aY (iR false (a5 0) (a5 1))) (a5 0)) a9)))
theorem aX1:bX ac0 ["hearths","inside"] nZ:=by
 rintro xs Q ⟨x,ns,ps,S,rfl,hx,d,hl,q⟩
 refine⟨_,rfl,_,hx.seq,mF hx,by rw[bH];omega,λi acc=>acc=intz ((ns.take i).filter λx=>decide (x∈S)),rfl,?_,?_⟩
 ·rintro i y acc hy rfl
  obtain⟨n,rfl,hn⟩:=gH hy
  have tk:=lJ (p:=λx=>decide (x∈S)) hn
  refine⟨_,rfl,_,rfl,_,.inl ⟨ps,Sum.inl n,rfl,rfl,rfl⟩,_,rfl,?_⟩
  show if (bW ps (Sum.inl n:aC)).isSome=true then _ else _
  rw[d.has n]
  by_cases h:n∈S
  ·rw[bz9 h]at tk ⊢
   refine b9 ⟨_,rfl,trivial,?_⟩
   rw[if_pos rfl]at tk
   show _=intz (List.filter _ (List.take (i+1) ns))
   rw[tk,eQ];rfl
  ·rw[bA0 h]at tk ⊢
   refine aT ?_
   rw[if_neg (by decide),bD5]at tk
   show _=intz (List.filter _ (List.take (i+1) ns))
   rw[tk]
 ·rintro acc rfl
  rw[bH,bD8]
  refine⟨_,_,rfl,rfl,trivial,?_⟩
  rw[bH];exact q
def eR (n:Nat)(ls:aa):List PV:=(List.range n).map λ(k:Nat)=>PV.lst (intz (aM ls k))
def j4:bF:=λxs Q=>∃ws ls,xs = [bL ws ls]/\Wb ws ls/\Q (.lst (eR ws.length ls))
theorem zI {n:Nat}{ls:aa}{h:Int}(h0:0<=h)(h1:h<(n:Int)):atI (eR n ls) h=some (.lst (intz (aM ls h))):=by
 refine rT h0 ?_
 unfold eR
 rw[bB6,bM9 (by omega)]
 show some (PV.lst (intz (aM ls ((h.toNat:Nat):Int))))=_
 rw[show ((h.toNat:Nat):Int)=h by omega]
def t8:bF:=λxs Q=>∃ws ls ps S h,xs = [bL ws ls,.lst (eR ws.length ls),.dK ps,.int h]/\Wb ws ls/\DS ps S/\0<=h/\h<(ws.length:Int)/\Q (.bl (kin ws ls S h))
def ac1:aI:=(bC (lY (iR true (a5 3) (a5 2)) (xR (aB nZ (a6 (bZ (a5 1) (a5 3)) (a6 (a5 2) a9))) (bZ (bZ (a5 0) (qC (.int 0))) (a5 3)))))
theorem zJ {ws:af}{h:Int}(h0:0<=h)(h1:h<(ws.length:Int)):atI (intz ws) h=some (.int (ws.getD h.toNat 0)):=by
 refine rT h0 ?_
 have:h.toNat<ws.length:=by omega
 rw[bB6,bB9,bA6 this];rfl
theorem aX2:bX ac1 ["web","around","burning","hearth"] t8:=by
 rintro xs Q ⟨ws,ls,ps,S,h,rfl,wb,d,h0,h1,q⟩
 refine⟨_,rfl,_,rfl,_,.inl ⟨ps,Sum.inl h,rfl,rfl,rfl⟩,_,rfl,?_⟩
 show if (!(bW ps (Sum.inl h:aC)).isSome)=true then _ else _
 rw[d.has h]
 unfold kin at q
 by_cases hm:h∈S
 ·rw[bz9 hm]at q ⊢
  exact aT ⟨trivial,by simpa using q⟩
 ·rw[bA0 hm]at q ⊢
  have nl:=rS ls h
  have:=wb.most
  refine b9 ⟨_,rfl,_,rfl,_,_,_,rfl,rfl,zI h0 h1,_,rfl,_,aM ls h,ps,S,rfl,.inr rfl,d,by omega,_,rfl,_,_,_,rfl,rfl,rfl,_,rfl,_,_,_,rfl,rfl,zJ h0 h1,_,_,rfl,rfl,trivial,?_⟩
  simpa using q
def qJ:bF:=λxs Q=>∃ws ls ps S,xs = [bL ws ls,.lst (eR ws.length ls),.dK ps]/\Wb ws ls/\DS ps S/\Q (.tup (intz (nextOf ws ls S)))
def ac2:aI:=(bC (aB dW (a6 (cQ (k9 (aB fN (a6 (a5 0) a9))) [none,some 0,some 1,some 2] (bQ 0) (aY (aB t8 (a6 (a5 1) (a6 (a5 2) (a6 (a5 3) (a6 (a5 0) a9)))))) (a5 0)) a9)))
theorem aX3:bX ac2 ["web","around","burning"] qJ:=by
 rintro xs Q ⟨ws,ls,ps,S,rfl,wb,d,q⟩
 have few:=wb.few
 refine⟨_,rfl,ws,ls,rfl,_,rfl,by omega,by omega,by rw[eZ];omega,λi acc=>acc=intz (((rng ws.length).take i).filter (kin ws ls S)),rfl,?_,?_⟩
 ·rintro i y acc hy rfl
  obtain⟨rfl,hi⟩:=kK hy
  have hi':i<ws.length:=by omega
  have tk:=lJ (p:=kin ws ls S) (ab1 hi')
  have e0:(0:Int)+(i:Int)=(i:Int):=by omega
  refine⟨_,rfl,_,rfl,_,rfl,_,rfl,ws,ls,ps,S,_,rfl,wb,d,by omega,by omega,_,rfl,?_⟩
  show if kin ws ls S ((0:Int)+(i:Int))=true then _ else _
  rw[e0]
  cases h:kin ws ls S (i:Int) with
  |true=>
   refine b9 ⟨_,rfl,trivial,?_⟩
   rw[h,if_pos rfl]at tk
   show _=intz (List.filter _ (List.take (i+1) _))
   rw[tk,eQ]
   show _++[PV.int _]=_
   rfl
  |false=>
   refine aT ?_
   rw[h,if_neg (by decide),bD5]at tk
   show _=intz (List.filter _ (List.take (i+1) _))
   rw[tk]
 ·rintro acc rfl
  rw[eZ,bE4 (by rw[eO];omega)]
  exact⟨⟨_,_,rfl,rfl,cS _,trivial,q⟩,λns z=>by cases z⟩
def tups (rs:ae):List PV:=rs.map λr=>PV.tup (intz r)
theorem t9 {rs:ae}{i:Nat}{x:PV}(h:(tups rs)[i]? = some x):∃r,x = .tup (intz r)/\rs[i]? = some r:=by
 unfold tups at h
 rw[bB6]at h
 cases e:rs[i]? with
 |none=>rw[e]at h;cases h
 |some n=>rw[e]at h;exact⟨n,(bE0 h).symm,rfl⟩
theorem gV (rs:ae):(tups rs).length=rs.length:=bA5 _
theorem zK:∀(rs:ae),flats (tups rs)=true
 |[]=>rfl
 |r::t=>by
  show (flat (.tup (intz r))&&flats (tups t))=true
  rw[nY,zK t];rfl
theorem c8 {n:Nat}{ns:af}(h:aX n ns=true):iZ ns=true/\∀x∈ns,0<=x/\x<(n:Int):=by
 unfold aX at h
 rw[bE5,bH9]at h
 refine⟨h.1,λx hx=>?_⟩
 have:=h.2 _ (bF0.mpr ⟨x,hx,rfl⟩)
 unfold inB at this
 simpa using this
theorem kL {n:Nat}{ns:af}(h:aX n ns=true):ns.length<=n:=by
 obtain⟨h1,h2⟩:=c8 h
 have:=zD (ws:=List.replicate n (0:Int)) (dJ h1) (by rw[bP8];exact h2)
 rw[bP8]at this
 omega
theorem zL {ws:af}{ls:aa}{ns:af}(h:aX ws.length ns=true)(k:Nat):(bA ws ls ns k).length<=ws.length:=by
 have h1:=zC ws ls ns k
 have h2:=zD (dJ (c8 h).1) (c8 h).2
 omega
end Core
namespace PP
open PySem L2
def qK (te:aD):aD:=λρ Q=>te ρ λx _=>∃n:Int,x = .int n/\0<=n/\n<=1000000/\Q (.lst (gC 0 n.toNat)) .fr
def tD:List PV->(PV->Prop)->Prop:=λxs Q=>∃ys:ae,xs = [.lst (ys.map λr=>PV.tup (intz r))]/\ys.length<64/\(∀y∈ys,y≠[])/\∀zs:ae,zs.Perm ys->zs.Pairwise (λu v=>HT.bP v u=false)->Q (.lst (zs.map λr=>PV.tup (intz r)))
def zM:List PV->(PV->Prop)->Prop:=λxs Q=>∃ps:List (List aC×PV),xs = [.dT ps]/\Q (.lst (ps.map λp=>PV.tup (p.1.map kP)))
end PP
namespace Core
open PySem L2 PP
theorem zN (g:Tg)(n:Int):Nw g (.int n):=by cases g<;>first|exact trivial|rfl
def iA (x:PV)(ns:af):Prop:=x = .scr ns∨x = .lst (intz ns)
theorem iA.seq {x:PV}{ns:af}(h:iA x ns):iQ x=some (intz ns):=by rcases h with rfl|rfl<;>rfl
theorem iA.len {x:PV}{ns:af}(h:iA x ns):xD x=some ns.length:=by
 rcases h with rfl|rfl
 ·rfl
 ·show some (intz ns).length=_
  rw[bH]
def o4:bF:=λxs Q=>∃x ns k,xs = [x,.int k]/\iA x ns/\0<=k/\Q (.int (ns.getD k.toNat 0))
def ac3:aI:=(aF (cI (aY (jG (a5 1) (aB dC (a6 (a5 0) a9)))) (bC (bZ (a5 0) (a5 1))) cY)
 (bC (qC (.int 0))))
theorem aX4:bX ac3 ["script","k"] o4:=by
 rintro xs Q ⟨x,ns,k,rfl,hx,h0,q⟩
 refine⟨_,rfl,_,rfl,_,_,rfl,hx.len,_,_,rfl,rfl,_,rfl,?_⟩
 by_cases h:k<(ns.length:Int)
 ·rw[bz9 h]
  exact b9 ⟨_,rfl,_,rfl,_,_,_,hx.seq,rfl,zJ h0 h,zN _ _,q⟩
 ·rw[bA0 h]
  rw[bB9,List.getElem?_eq_none (by omega)]at q
  exact aT ⟨trivial,q⟩
def bD (ls:aa):List PV:=ls.map λl=>PV.tup [.int l.1,.int l.2]
def fC (l m:Int×Int):Prop:=l.1<m.1∨(l.1=m.1/\l.2<m.2)
abbrev si (n:Int):Option Slot:=some (.sh true (.int n))
def tE:bF:=λxs Q=>∃i,xs = [.int i]/\Q (.bl true)
def ac4 (K:ad):aI:=(bC (lY (pU K "int" (a5 0)) (x5 (pU K "bool" (a5 0)))))
theorem cX.len {x:PV}{ns:af}(h:cX x ns):xD x=some ns.length:=by
 rcases h with rfl|rfl<;>(show some (intz ns).length=_;rw[bH])
theorem aX5 {K:ad}(k1:PySem.W.kitOne K (.type "int") (.type "int")=some true)(k2:PySem.W.kitOne K (.type "int") (.type "bool")=some false):bX (ac4 K) ["found"] tE:=by
 rintro xs Q ⟨i,rfl,q⟩
 exact⟨_,rfl,_,_,rfl,k1,_,rfl,b9 ⟨_,rfl,_,_,rfl,k2,_,rfl,trivial,q⟩⟩
theorem tF {ls:aa}{i:Nat}{x:PV}(h:(bD ls)[i]? = some x):∃l,x = .tup [.int l.1,.int l.2]/\ls[i]? = some l:=by
 unfold bD at h
 rw[bB6]at h
 cases e:ls[i]? with
 |none=>rw[e]at h;cases h
 |some n=>rw[e]at h;exact⟨n,(bE0 h).symm,rfl⟩
end Core
namespace PP
open PySem L2 PyProof.Rows
theorem Reps.rep {K:ad}{M:Addr->Prop}{H:Hp}{us:List V}{xs:List PV}(r:Reps K M H us xs):∀k:Nat,Reps K M H (List.replicate k us).flatten (List.replicate k xs).flatten
 |0=>.nil
 |k+1=>by rw[bJ8,bJ8,bK8,bK8];exact r.append (Reps.rep r k)
section
variable {X:Cx}{a b e:Expr}{ta tb te:aD}{tr:dB}{pos p2 p3 pos2:Pos}
theorem aX6 {tA:TA}(hg:Gl X "range")(hm:X.mg "range" = none)(ha:PA X [a] tA)(hs:starEach [a] X.env = [(false,eval a X.env)]:=by rfl) :
  PE X (.Call (.Name "range" p2) [a] [] pos) (λσ H Q=>tA σ H λvs H1=>∃j:Int,vs = [.int j]/\∀r,H1 r=none->Q (.ref r) (upd H1 r (.rng 0 j))):=by
 intro pins s σ H Q I h
 refine Call_ (kU I hg hm boot_range (bK0 (aR (ha pos pins s σ H _ I h) λus s1 ⟨vs,H1,I1,r1,q1⟩=>?_) hs rfl))
 obtain⟨j,e,q⟩:=q1
 subst e
 cases r1 with
 |cons r rr=>
  cases rr
  obtain⟨t,rfl⟩:=r
  refine call_range_1 ?_
  exact⟨.ref s1.heap.objs.size,_,I1.laid (o:=.rng 0 j) (λb ob q=>bz8 _ q) (bA3 _) ⟨_,_,_,bB4 _ rfl⟩,rfl,q _ (I1.hok.fresh (bA3 _))⟩
theorem ac5:∀{xs:List V}{us:List Value},xs.length=us.length->(∀(i:Nat) x u,xs[i]? = some x->us[i]? = some u->b6 x u)->aO xs us
 |[],[],_,_=>.nil
 |x::xs,u::us,hl,h=>.cons (h 0 x u rfl rfl) (ac5 (by simpa using hl) λi y w h1 h2=>h (i+1) y w (by rw[bF5];exact h1) (by rw[bF5];exact h2))
theorem aX7 {n:Nat}{acc:Array Value}(h:ItemsOf (λi v=>∃t,v = .int (0+(i:Int)*1) t) acc n):aO (jW 0 n) acc.toList:=by
 obtain⟨h1,h2⟩:=h
 refine ac5 (by rw[wN];simp[h1]) λi x u hx hu=>?_
 have hi:i<n:=by
  have:=(bB0.mp hx).1
  rwa [wN]at this
 unfold jW at hx
 rw[bB6,bM9 hi]at hx
 cases hx
 obtain⟨t,rfl⟩:=h2 i u (by rw[<- bL0];exact hu)
 exact⟨t,by congr 1;omega⟩
theorem aX8 (hc:X.calm=true):cN X (.type "list") (λxs H Q=>∃r j,xs = [.ref r]/\H r=some (.rng 0 j)/\0<=j/\j<=1000000/\∀l,H l=none->Q (.ref l) (upd H l (.lst (jW 0 j.toNat)))):=by
 intro pins s σ H xs us Q I r h
 obtain⟨p,j,rfl,hq,h0,h1,q⟩:=h
 obtain⟨u,rfl,rx⟩:=eU r
 cases rx
 obtain⟨t,u,v,ho⟩:=(show bR X.prog X.w H s.heap p (.rng 0 j) from I.hok p _ hq)
 refine PySem.call_list_range (a:=0) (b:=j) (c:=1) (n:=j.toNat) (I.ok.hd hc) ho (small_one (by decide) (by decide) (by omega) (by omega)) (by rw[rangeSize_one];split<;>omega) (by omega) λh' tk acc' c' kp e it=>?_
 have vv:=aX7 it
 have eq:acc'.toList.toArray=acc':=by simp
 exact⟨.ref s.heap.objs.size,_,I.laid (t':=tk) (o:=.lst (jW 0 j.toNat)) kp (bA3 _) ⟨by rw[wN];exact lim (by omega),acc'.toList,c',vv,by rw[eq];exact e⟩,rfl,q _ (I.hok.fresh (bA3 _))⟩
theorem aX9 {K:ad}{M:Addr->Prop}{H:Hp}(lo:Int)(n:Nat):Reps K M H (jW lo n) (gC lo n):=by
 unfold jW gC
 generalize List.range n=l
 induction l with
 |nil=>exact .nil
 |cons a r ih=>exact .cons (.int _) ih
theorem tG (B:Bt X.mg)(ha:QE X a ta)(hc:X.calm=true:=by rfl)(hg:Gl X "list":=by rfl)(hgr:Gl X "range":=by rfl)(hs:starEach [a] X.env = [(false,eval a X.env)]:=by rfl)(he:starEach [.Call (.Name "range" p3) [a] [] pos2] X.env=(false,eval (.Call (.Name "range" p3) [a] [] pos2) X.env)::starEach [] X.env:=by rfl)(hpl:(backTo pos (starEach [] X.env)).any (·.1)=false:=by rfl) :
  QE X (.Call (.Name "list" p2) [.Call (.Name "range" p3) [a] [] pos2] [] pos) (qK ta):=
 cK (K9 (aX8 hc) hg B.list PyProof.Rows.boot_list (eC (aX6 hgr B.range (eC ha fW hs) hs) fW he) (he:=he) (hpl:=hpl)) λσ H Q' h=>by
  obtain⟨W,ρ,Q,px,q,k⟩:=h
  refine⟨W,ρ,_,px,q,?_⟩
  rintro v H1 x g s r ⟨n,rfl,h0,h1,q⟩
  cases r
  refine⟨n,rfl,λr hr=>⟨r,n,rfl,bJ,h0,h1,λl hl=>?_⟩⟩
  have S:aE H (upd (upd H1 r (.rng 0 n)) l (.lst (jW 0 n.toNat))):=(s.trans (bK hr _)).trans (bK hl _)
  exact k _ _ _ .fr S (.lst (((s.trans (bK hr _))).free hl) bJ (aX9 0 n.toNat)) q
theorem aY0:e8 X zM (λxs H Q=>∃a kvs,xs = [.ref a]/\H a=some (.dT kvs)/\∀l ys,H l=none->Paired (rR H) ys (kvs.map (·.1))->Q (.ref l) (upd H l (.lst ys))):=by
 rintro H vs xs Q Q' r ⟨ps,rfl,q⟩ k
 obtain⟨v,rfl,r1⟩:=r.one
 cases r1 with
 |@dT a kvs _ m h e r2=>
  refine⟨a,kvs,rfl,h,λl ys hl pr=>k _ _ _ (bK hl _) (.lst hl bJ ?_) q⟩
  have kv:∀(k:List aC),Reps X.K (λa=>H a=none) H (k.map kV) (k.map kP):=λk=>by
   induction k with
   |nil=>exact .nil
   |cons a r ih=>exact .cons (by cases a<;>constructor) ih
  have go:∀{ys:List V}{ks:List (List aC)},Paired (rR H) ys ks->Reps X.K (λa=>H a=none) H ys (ks.map λk=>PV.tup (k.map kP)):=λ{ys ks} pr=>by
   induction pr with
   |nil=>exact .nil
   |cons h t ih=>
    obtain⟨q,rfl,hq⟩:=h
    exact .cons (.tup hq (kv _)) ih
  have e2:(ps.map λp=>PV.tup (p.1.map kP))=(kvs.map (·.1)).map λk=>PV.tup (k.map kP):=by rw[e,bM7];rfl
  rw[e2]
  exact (go pr).same (bK hl _) λ_ z=>z
theorem aY1 (B:Bt X.mg)(hc:X.calm=true)(ha:QA X [e] tr)(hg:Gl X "list":=by rfl)(he:starEach [e] X.env=(false,eval e X.env)::starEach [] X.env:=by rfl)(hpl:(backTo pos (starEach [] X.env)).any (·.1)=false:=by rfl):QE X (.Call (.Name "list" p2) [e] [] pos) (aB zM tr):=
 xY (aH2 hc) aY0 hg B.list PyProof.Rows.boot_list ha (he:=he) (hpl:=hpl)
def zO:V->Int
 |.int i=>i
 |_=>0
def kM (H:Hp):V->af
 |.ref a=>match H a with
  |some (.tup us)=>us.map zO
  |_=>[]
 |_=>[]
theorem aY2 {H:Hp}{a:Addr}{ns:af}(h:H a=some (.tup (ns.map V.int))):kM H (.ref a)=ns:=by
 show (match H a with|some (.tup us)=>us.map zO|_=>[])=ns
 rw[h]
 show (ns.map V.int).map zO=ns
 rw[bM7]
 exact List.map_id _
theorem zP {K:ad}{M:Addr->Prop}{H:Hp}:∀{us:List V}{ys:ae},Reps K M H us (ys.map λr=>PV.tup (intz r))->us.map (kM H)=ys/\∀u∈us,∃b,u = .ref b/\H b=some (.tup ((kM H u).map V.int))
 |_,[],.nil=>⟨rfl,λu h=>nomatch h⟩
 |_,y::ys,.cons r t=>by
  obtain⟨a,us,rfl,h,r1⟩:=r.sqT
  obtain rfl:=r1.ofInts
  obtain⟨h1,h2⟩:=zP t
  have hk:=aY2 h
  refine⟨by rw[bF4,h1,hk],λu hu=>?_⟩
  rcases bA7.mp hu with rfl|hu
  ·exact⟨a,rfl,by rw[hk];exact h⟩
  ·exact h2 u hu
theorem zQ {K:ad}{M:Addr->Prop}{H:Hp}:∀{us:List V},(∀u∈us,∃b,u = .ref b/\H b=some (.tup ((kM H u).map V.int)))->Reps K M H us ((us.map (kM H)).map λr=>PV.tup (intz r))
 |[],_=>.nil
 |u::us,h=>by
  obtain⟨b,rfl,hb⟩:=h u bA4
  exact .cons (.tup hb (Reps.intz _)) (zQ λv hv=>h v (bA9 _ hv))
theorem aY3:e8 X tD (R5 X.K):=by
 rintro H vs xs Q Q' r ⟨ys,rfl,hl,hne,q⟩ k
 obtain⟨v,rfl,r1⟩:=r.one
 obtain⟨a,us,rfl,_,h,r2⟩:=r1.sqL
 obtain⟨h1,h2⟩:=zP r2
 have lr:=r2.length
 rw[bA5]at lr
 refine⟨a,us,kM H,rfl,aQ.of h,by omega,λy hy=>?_,λl zs hl' pm so=>?_⟩
 ·obtain⟨b,rfl,hb⟩:=h2 y hy
  refine⟨b,rfl,aH.of hb,hne _ ?_⟩
  rw[<- h1];exact bF0.mpr ⟨_,hy,rfl⟩
 ·have hz:∀u∈zs,∃b,u = .ref b/\H b=some (.tup ((kM H u).map V.int)):=λu hu=>h2 u (pm.mem_iff.mp hu)
  refine k _ _ _ (bK hl' _) (.lst hl' bJ ((zQ hz).same (bK hl' _) λ_ z=>z)) (q _ ?_ ?_)
  ·rw[<- h1];exact pm.map _
  ·rw[bG8];exact so
theorem ac6 (B:Bt X.mg)(ha:QA X [e] tr)(hg:Gl X "sorted":=by rfl)(he:starEach [e] X.env=(false,eval e X.env)::starEach [] X.env:=by rfl)(hpl:(backTo pos (starEach [] X.env)).any (·.1)=false:=by rfl):QE X (.Call (.Name "sorted" p2) [e] [] pos) (aB tD tr):=
 gS aG8 aY3 hg B.sorted bN6 ha (he:=he) (hpl:=hpl)
end
def ac7:Sp:=λvs H Q _=>∃v ws ls,vs = [v]/\R9 H v ws ls/\ws.length<=1000/\ls.length<=2000/\(∀l∈ls,(0<=l.1/\l.1<ws.length)/\0<=l.2/\l.2<ws.length)/\
 ∀(r:Addr) (bs:List Addr) (H':Hp),bs.length=ws.length->jX H H' r bs (λk=>aM ls k)->Q (.ref r) H'
section
variable {P:Program}{w:World}{K:ad}{mg:Str→Option Value}{base:Heap}{f:Addr}{fd:FuncData}{k:Nat}
theorem ac8 {M:Addr->Prop}{H:Hp}:∀{us:List V}{ls:aa},Reps K M H us (ls.map λl=>PV.tup [.int l.1,.int l.2])->pJ H us ls
 |_,[],.nil=>.nil
 |_,l::ls,.cons r t=>by
  obtain⟨a,us,rfl,h,r1⟩:=r.sqT
  obtain⟨u1,u2,rfl,q1,q2⟩:=r1.two
  cases q1;cases q2
  exact .cons ⟨a,rfl,h⟩ (ac8 t)
theorem aY4 {M:Addr->Prop}{H:Hp}{v:V}{ws:af}{ls:aa}(r:aJ K M H v (Core.bL ws ls)):R9 H v ws ls:=by
 obtain⟨a,us,rfl,h,r1⟩:=aJ.sqT r
 obtain⟨u1,u2,rfl,q1,q2⟩:=r1.two
 obtain⟨p,up,rfl,hp,rp⟩:=q1.sqT
 obtain⟨q,uq,rfl,hq,rq⟩:=q2.sqT
 obtain rfl:=rp.ofInts
 exact⟨a,p,q,uq,rfl,h,hp,hq,ac8 rq⟩
theorem ac9 {M:Addr->Prop}{H:Hp}:∀{bs:List Addr}{ls:aa} (off:Nat),(∀b∈bs,M b)->(∀(k:Nat) b,bs[k]? = some b->H b=some (.lst ((aM ls ((off+k:Nat):Int)).map V.int)))->Reps K M H (bs.map V.ref) ((List.range' off bs.length).map λ(k:Nat)=>PV.lst (intz (aM ls k)))
 |[],_,_,_,_=>.nil
 |b::bs,ls,off,hm,h=>by
  refine .cons (.lst (hm b bA4) (h 0 b rfl) (Reps.intz _)) (ac9 (off+1) (λc hc=>hm c (bA9 _ hc)) λk c hk=>?_)
  have:=h (k+1) c (by rw[bF5];exact hk)
  rw[show off+1+k=off+(k+1) by omega];exact this
theorem aY5 (F:dQ P w K mg base eW k f fd ["web"] ac7)(b:jQ K fd ["web"] [])(kp:PySem.W.keepIn K (.ref f)=true)(m:mg "near_lists" = some (.ref f)):Df P w K mg base k "near_lists" ["web"] Core.j4:=by
 refine⟨f,fd,F.imp λvs H Q E h=>?_,b,kp,m⟩
 obtain⟨xs,Qp,r,⟨ws,ls,rfl,wb,q⟩,k⟩:=h
 obtain⟨v,rfl,r1⟩:=r.one
 have:=wb.few
 have:=wb.most
 refine⟨v,ws,ls,rfl,aY4 r1,by omega,by omega,wb.links,λt bs H' hb R=>k _ H' _ R.same (.lst R.new R.row ?_) q⟩
 have:=ac9 (K:=K) (M:=λa=>H a=none) (H:=H') (bs:=bs) (ls:=ls) 0 (λb hb=>(R.news b hb).1) λk b hk=>by rw[Nat.zero_add];exact R.rows k b hk
 rw[hb,<- List.range_eq_range']at this
 exact this
end
end PP
namespace Core
open PySem L2 PP
theorem tH (n:Nat):gC 0 n=intz (rng n):=by
 unfold gC rng
 show _=List.map PV.int (List.map (λ(i:Nat)=>(i:Int)) (List.range n))
 rw[bM7]
 refine List.map_congr_left λi _=>?_
 show PV.int (0+(i:Int))=PV.int (i:Int)
 rw[Int.zero_add]
theorem ad0 (n:Nat):(rng n).Nodup:=by
 unfold rng
 rw[List.nodup_iff_pairwise_ne,bG8]
 exact (List.nodup_range (n:=n)).imp λh e=>h (by omega)
def two (l:Int×Int):af:=[l.1,l.2]
def qL (r:af):Int×Int:=(r.getD 0 0,r.getD 1 0)
theorem tI (ls:aa):bD ls=(ls.map two).map λr=>PV.tup (intz r):=by
 unfold bD
 rw[bM7];rfl
theorem ad1 {zs:ae}{ls:aa}(h:zs.Perm (ls.map two)):∃ls':aa,zs=ls'.map two/\ls'.Perm ls:=by
 refine⟨zs.map qL,?_,?_⟩
 ·rw[bM7]
  have:∀z∈zs,(two ∘ qL) z=z:=λz hz=>by
   obtain⟨l,_,rfl⟩:=bF0.mp (h.mem_iff.mp hz)
   rfl
  rw[List.map_congr_left this,List.map_id']
 ·have:=h.map qL
  rw[bM7]at this
  have e:ls.map (qL ∘ two)=ls:=by
   have:∀l∈ls,(qL ∘ two) l=id l:=λl _=>rfl
   rw[List.map_congr_left this,List.map_id]
  rw[e]at this
  exact this
theorem ad2 {ls:aa}(so:(ls.map two).Pairwise λu v=>HT.bP v u=false)(nd:ls.Nodup):ls.Pairwise fC:=by
 rw[bG8]at so
 refine (List.pairwise_and_iff.mpr ⟨so,nd⟩).imp λ{a b} h=>?_
 obtain⟨h1,h2⟩:=h
 unfold two at h1
 rw[HT.iI]at h1
 unfold fC
 by_cases e:b.1=a.1
 ·rw[if_pos e,HT.iI]at h1
  by_cases e2:b.2=a.2
  ·exact absurd (Prod.ext e.symm e2.symm) h2
  ·rw[if_neg e2]at h1
   have:=bM0 h1
   omega
 ·rw[if_neg e]at h1
  have:=bM0 h1
  omega
def gI (l:Int×Int):List aC:=[Sum.inl l.1,Sum.inl l.2]
structure DL (n:Int)(ps:List (List aC×PV))(i:Nat):Prop where
 key:∀p∈ps,∃l:Int×Int,p.1=gI l/\0<=l.1/\l.1<l.2/\l.2<n
 len:ps.length<=i
 fl:flats (ps.map (·.2))=true
 nd:(ps.map (·.1)).Nodup
theorem aY6 {κ:Type}[DecidableEq κ]{ps:List (κ×PV)}(k:κ)(v:PV)(h:(ps.map (·.1)).Nodup):((cT ps k v).map (·.1)).Nodup:=by
 unfold cT
 split
 ·rw[bM7]
  have:((λx:κ×PV=>x.1) ∘ λkv:κ×PV=>if kv.1=k then (kv.1,v) else kv)=λx=>x.1:=by
   funext x
   show (if x.1=k then (x.1,v) else x).1=x.1
   split<;>rfl
  rw[this];exact h
 ·rename_i hn
  rw[bC3]
  refine bG9.mpr ⟨h,bC9 _ _,λx hx y hy e=>hn ?_⟩
  obtain⟨p,hp,rfl⟩:=bF0.mp hx
  rw[bA1.mp hy]at e
  exact List.any_eq_true.mpr ⟨p,hp,bz9 e⟩
theorem aY7 {κ:Type}[DecidableEq κ]{ps:List (κ×PV)}{k:κ}{v:PV}{p:κ×PV}(h:p∈cT ps k v):p.1=k∨∃q∈ps,q.1=p.1:=by
 unfold cT at h
 split at h
 ·obtain⟨q,hq,e⟩:=bF0.mp h
  split at e
  ·subst e;exact .inr ⟨q,hq,rfl⟩
  ·subst e;exact .inr ⟨q,hq,rfl⟩
 ·rcases bB8.mp h with h|h
  ·exact .inr ⟨p,h,rfl⟩
  ·rw[bA1.mp h];exact .inl rfl
theorem DL.put {n:Int}{ps:List (List aC×PV)}{i:Nat}(h:DL n ps i)(l:Int×Int)(hl:0<=l.1/\l.1<l.2/\l.2<n):DL n (cT ps (gI l) (.bl true)) (i+1):=by
 refine⟨λp hp=>?_,?_,zH h.fl rfl,aY6 _ _ h.nd⟩
 ·rcases aY7 hp with e|⟨q,hq,e⟩
  ·exact⟨l,e,hl⟩
  ·obtain⟨l',e',h'⟩:=h.key q hq
   exact⟨l',e▸e',h'⟩
 ·have:=zG ps (gI l) (.bl true)
  have:=h.len
  omega
theorem DL.links {n:Int}:∀{ps:List (List aC×PV)},(∀p∈ps,∃l:Int×Int,p.1=gI l/\0<=l.1/\l.1<l.2/\l.2<n)->∃ls:aa,(ps.map λp=>PV.tup (p.1.map kP))=bD ls/\(∀l∈ls,0<=l.1/\l.1<l.2/\l.2<n)/\ls.length=ps.length/\ps.map (·.1)=ls.map gI
 |[],_=>⟨[],rfl,(λ_ h=>nomatch h),rfl,rfl⟩
 |p::ps,h=>by
  obtain⟨l,e,hl⟩:=h p bA4
  obtain⟨ls,h1,h2,h3,h4⟩:=DL.links (ps:=ps) λq hq=>h q (bA9 _ hq)
  refine⟨l::ls,?_,λm hm=>?_,by rw[bC7,bC7,h3],by rw[bF4,bF4,h4,e]⟩
  ·rw[bF4,h1,e];rfl
  ·rcases bA7.mp hm with rfl|hm
   ·exact hl
   ·exact h2 m hm
theorem aY8 {x:PV}{ns:af}(h:iA x ns):(Slot.sh (flat x) x).tag = .rd->flat x=true:=by
 cases flat x<;>intro z<;>cases z
theorem aY9 (ns:af){k:Int}(h:0<=k):fH (intz ns) (some k) none=intz (ns.drop k.toNat):=by
 unfold fH
 have e1:HT.b7 (intz ns).length 0 (some k)=min k.toNat (intz ns).length:=by
  have:=HT.az8 (intz ns).length 0 k.toNat
  rw[show ((k.toNat:Nat):Int)=k by omega]at this
  exact this
 have e2:HT.b7 (intz ns).length (intz ns).length none=(intz ns).length:=rfl
 rw[e1,e2,bH]
 rw[bE4 (by rw[bI5,bH];omega)]
 show _=List.map PV.int _
 rw[List.map_drop]
 by_cases hk:k.toNat<=ns.length
 ·rw[Nat.min_eq_left hk]
 ·rw[Nat.min_eq_right (by omega),List.drop_of_length_le (by rw[bH];omega),List.drop_of_length_le (by rw[bH];omega)]
structure o7 (i:Int)(ms:af):Prop where
 up:ms.Pairwise (·<·)
 inn:∀x∈ms,0<=x/\x<i
 len:(ms.length:Int)<=i
theorem o7.set {n:Nat}{ms:af}(h:o7 (n:Int) ms):aX n ms=true:=by
 unfold aX
 rw[yZ h.up,Bool.true_and,bH9]
 intro b hb
 obtain⟨x,hx,rfl⟩:=bF0.mp hb
 have:=h.inn x hx
 unfold inB
 simp[this]
theorem ad3:∀{a b:af},a.Perm b->a.Pairwise (· <= ·)->b.Pairwise (· <= ·)->a=b:=by
 intro a b h ha hb
 exact h.eq_of_pairwise (λx y _ _ h1 h2=>Int.le_antisymm h1 h2) ha hb
def ad4:bF:=λxs Q=>∃ns:af,xs = [.scr ns]/\ns.length<=63/\Q (.bl true)
structure aZ0 (K:ad):Prop where
 ii:PySem.W.kitOne K (.type "int") (.type "int")=some true
 ib:PySem.W.kitOne K (.type "int") (.type "bool")=some false
 tt:PySem.W.kitOne K (.type "tuple") (.type "tuple")=some true
 ll:PySem.W.kitOne K (.type "list") (.type "list")=some true
 bb:PySem.W.kitOne K (.type "bool") (.type "bool")=some true
theorem ad5 (K:ad):aZ0 K:=by
 have same:∀n:String,PySem.W.kitMeta n=true->True:=λ_ _=>trivial
 refine⟨?_,?_,?_,?_,?_⟩
 ·unfold PySem.W.kitOne;rw[if_pos (by decide)]
 ·have e:(if PySem.W.kitMeta "bool" = true then (fastBuiltinMro "int").map (·.contains (Value.type "bool")) else none)=some false:=by decide +kernel
  unfold PySem.W.kitOne
  rw[if_neg (by decide)]
  exact e
 ·unfold PySem.W.kitOne;rw[if_pos (by decide)]
 ·unfold PySem.W.kitOne;rw[if_pos (by decide)]
 ·unfold PySem.W.kitOne;rw[if_pos (by decide)]
end Core
namespace PP
open PySem L2 PyProof.Rows
theorem aZ1 {P:Program}{w:World}{K:ad}{mg:Str->Option Value}{base:Heap}{k:Nat}{x:Str}{ps N:List Str}{p:bF}{st:Stmt}{f:Addr}{fd:FuncData}(F:fX K x x st f fd)(S:FnScope N ps (aV st))(len:∀xs Q,p xs Q->xs.length=ps.length)(body:∀(cdv:Value) (A:Around) (outer:List Env) (s:Shared) (H:Hp) (E:XK),cF k (A.deeper (envOfC x (aV st) s.heap.objs.size f cdv))->
   ∃t,fA (dR eW P w K mg base N x (aV st) f cdv A outer s H E).nox (eV st) t/\∀xs Q,p xs Q->t { nx:=λ_=>Q .non,rt:=Q } (gD N xs)):dQ P w K mg base eW (k+1) f fd ps (pP K p):=by
 refine F.ok S (λvs H Q E h=>?_) (λcdv A outer s H vs Q E hr h=>?_)
 ·obtain⟨xs,Qp,r,q,_⟩:=h
  rw[r.length];exact len xs Qp q
 ·obtain⟨xs,Qp,r,q,k⟩:=h
  obtain⟨t,ht,hq⟩:=body cdv A outer s H E hr
  refine⟨_,ht,λ_=>False,gD N xs,_,yG r,hq xs Qp q,?_,?_,?_,?_⟩
  ·exact λW' σ' H' ρ' e px q=>k _ _ _ px.same .non q
  ·exact λv H' x s r q=>k _ _ _ s r q
  ·exact λW' σ' H' ρ' e px q=>q
  ·exact λW' σ' H' ρ' e px q=>q
def tJ (K:ad):Sp:=λvs H Q _=>∃(a:Addr) (ns:af),vs = [.ref a]/\jZ K H a ns/\ns.length<=63/\∀H',Q (.bl true) H'
theorem aZ2 {P:Program}{w:World}{K:ad}{mg:Str->Option Value}{base:Heap}{k:Nat}{f:Addr}{fd:FuncData}(F:dQ P w K mg base eW k f fd ["script"] (pP K Core.ad4)):dQ P w K mg base eW k f fd ["script"] (tJ K):=
 F.imp λvs H Q E h=>by
  obtain⟨a,ns,rfl,hs,hl,q⟩:=h
  refine⟨[.scr ns],λz=>z = .bl true,.cons (.scr hs) .nil,⟨ns,rfl,hl,rfl⟩,?_⟩
  rintro v H' x _ r rfl
  cases r
  exact q H'
theorem aZ3 {K:ad}{H:Hp}{a:Addr}{ns:af}(hO:rH H)(h:aQ K H a (ns.map V.int)):jZ K H a ns:=by
 rcases h with (h|⟨o,h⟩)|h
 ·rcases hO a with e|⟨o,xs,e⟩<;>(rw[h]at e;cases e)
 ·exact .inl ⟨o,h⟩
 ·exact .inr h
end PP
namespace PyProof.Rows
open PySem
section
variable {prog:Program}{w:World}{A:Around}{E:Value→Shared→Prop}{s:Shared}
theorem aZ4 {l:Addr}{vs:List Value}{Q:List Value->Shared->Prop}(hl:s.heap.IsTuple l vs.toArray)(h:Q vs { s with heap:=(s.heap.push (seqObj "list" #[] 0)).update s.heap.objs.size (Obj.mapSeq (·++vs.toArray)) })(hsz:vs.length<=sizeLine) :
  wpAny (model prog w) A (collect (.ref l)) Q E s:=by
 obtain⟨o,ho,hc,n,hd⟩:=id hl
 unfold collect
 refine bz7 (wpAny_runValue (codeAny_builtin entry_proto_collect' ?_))
 show wpAny _ _ (do again (.builtin "list.__iadd__" ⟨[<- newList [],.ref l],[]⟩)) _ _ s
 refine bz7 (wpAny_newList (bA8 ⟨Code.quiet_builtin _ (by decide +kernel),codeAny_builtin entry_list_iadd' ?_⟩))
 show wpAny _ _ (Builtin.List.listExtendWith (.ref s.heap.objs.size) (.ref l) (.ref s.heap.objs.size)) _ _ { s with heap:=s.heap.push (seqObj "list" #[] 0) }
 unfold Builtin.List.listExtendWith
 have ho':(s.heap.push (seqObj "list" #[] 0)).get? l=some o:=bz8 _ ho
 refine bz7 (wpAny_typeOf (T:="tuple") ⟨o,ho',hc⟩ ?_)
 have ht:(Value.type "tuple"==Value.type "tuple")=true:=by rfl
 rw[if_pos (by rw[ht];simp)]
 refine bz7 (listItems_at ho' hd ?_)
 refine bz7 (listItems_at (xs:=#[]) (n:=0) (bB4 _ rfl) rfl ?_)
 rw[if_neg (by simp)]
 refine bz7 (listUpdate_at (xs:=#[]) (n:=0) (bB4 _ rfl) rfl ?_ (bE9 _) (by show (#[]++vs.toArray).size<=sizeLine+1;simp only[Array.size_append,bA2,bQ1];omega))
 refine bA8 ?_
 show wpAny (model prog w) A (do
   let o <- load s.heap.objs.size
   match o.data with
   |.seq xs _=>pure xs.toList
   |_=>unsupported "internal:collect") Q E { s with heap:=(s.heap.push (seqObj "list" #[] 0)).update s.heap.objs.size (Obj.mapSeq (·++vs.toArray)) }
 refine bz7 (wpAny_load (get?_update_seq (bB4 _ rfl) _) ?_)
 show wpAny _ _ (pure ((#[]:Array Value)++vs.toArray).toList) Q E _
 rw[show ((#[]:Array Value)++vs.toArray).toList=vs by simp]
 exact bA8 h
theorem aZ5 {l:Addr}{vs:List Value}{ns:af}{Q:Value->Shared->Prop}(hl:s.heap.IsTuple l vs.toArray)(hI:IntsAre vs ns)(h64:vs.length<64)(h:∀(out:Array Value) (ns':af),IntsAre out.toList ns'->ns'.Perm ns->ns'.Pairwise (· <= ·)->Q (.ref (s.heap.objs.size+1)) { s with heap:=sortedAll s.heap vs out }) :
  wpAny (model prog w) A (call (.builtin "sorted") [.ref l]) Q E s:=by
 have hsl:vs.length<=sizeLine:=bE8 (bH0 h64) (by decide)
 refine Calls.call_function_entry kind_sorted plain_sorted entry_sorted (args_sorted1 _) ?_
 unfold Builtin.«sorted»
 refine bz7 (m:=checkCount "sorted" 1 1 _) (bA8 ?_)
 refine bz7 (aZ4 hl ?_ hsl)
 refine bz7 (wpAny_newList ?_)
 have hsz:((s.heap.push (seqObj "list" #[] 0)).update s.heap.objs.size (Obj.mapSeq (·++vs.toArray))).objs.size=s.heap.objs.size+1:=by
  rw[Heap.size_update,size_push']
 have hoL:(((s.heap.push (seqObj "list" #[] 0)).update s.heap.objs.size (Obj.mapSeq (·++vs.toArray))).push (seqObj "list" vs.toArray 0)).get? (s.heap.objs.size+1)=some (seqObj "list" vs.toArray 0):=by
  rw[<- hsz];exact bB4 _ rfl
 show wpAny _ _ _ _ _ { s with heap:=((s.heap.push (seqObj "list" #[] 0)).update s.heap.objs.size (Obj.mapSeq (·++vs.toArray))).push (seqObj "list" vs.toArray 0) }
 rw[hsz]
 refine bz7 (bL1 (bG7 slot_list_sort ⟨_,hoL,rfl⟩ entry_list_sort (list_sort_tree hoL hI h64 λout ns' a1 a2 a3=>⟨_,rfl,?_⟩) (args_list_sort _)))
 exact bA8 ⟨_,rfl,h out ns' a1 a2 a3⟩
end
end PyProof.Rows
namespace PP
open PySem L2 PyProof.Rows
section
variable {X:Cx}{a b e:Expr}{ta tb te:aD}{tr:dB}{pos p2:Pos}
theorem aZ6:cN X (.builtin "sorted") (λxs H Q=>∃a ns,xs = [.ref a]/\(aQ X.K H a (ns.map V.int)∨aH X.K H a (ns.map V.int))/\ns.length<64/\∀l (ms:af),H l=none->ms.Perm ns->ms.Pairwise (· <= ·)->Q (.ref l) (upd H l (.lst (ms.map V.int)))):=by
 intro pins s σ H xs us Q I r h
 obtain⟨a,ns,rfl,hs,h64,q⟩:=h
 rcases hs with hs|hs
 ·exact Q8 pins s σ H _ us Q I r ⟨a,ns,rfl,hs,h64,q⟩
 obtain⟨u,rfl,ru⟩:=eU r
 cases ru
 obtain⟨its,rv,p,hz⟩:=I.tuple hs
 have hl:=rv.length
 rw[bA5]at hl
 refine aZ5 p (jC rv) (by omega) λout ns' a1 a2 a3=>?_
 obtain⟨e,he⟩:=sortedAll_at s.heap its out
 have hn:s.heap.objs.size<=s.heap.objs.size+1:=Nat.le_succ _
 have hlen:ns'.length=ns.length:=a2.length_eq
 refine⟨.ref (s.heap.objs.size+1),upd H (s.heap.objs.size+1) (.lst (ns'.map V.int)),I.laid (t':=s.toks) (λ_ _=>sortedAll_old) hn ⟨?_,out.toList,e,pF a1,by simpa using he⟩,rfl,q _ ns' (I.hok.fresh hn) a2 a3⟩
 rw[bA5,hlen]
 exact bH0 (pG (by omega))
def tK:List PV->(PV->Prop)->Prop:=λxs Q=>∃x ns,xs = [x]/\iQ x=some (intz ns)/\ns.length<64/\∀ms:af,ms.Perm ns->ms.Pairwise (· <= ·)->Q (.lst (intz ms))
theorem aZ7:e8 X tK (λxs H Q=>∃a ns,xs = [.ref a]/\(aQ X.K H a (ns.map V.int)∨aH X.K H a (ns.map V.int))/\ns.length<64/\∀l (ms:af),H l=none->ms.Perm ns->ms.Pairwise (· <= ·)->Q (.ref l) (upd H l (.lst (ms.map V.int)))):=by
 rintro H vs xs Q Q' r ⟨x,ns,rfl,e,hl,q⟩ k
 obtain⟨v,rfl,r1⟩:=r.one
 obtain⟨a,us,rfl,hs,r2⟩:=r1.seq e
 obtain rfl:=r2.ofInts
 exact⟨a,ns,rfl,hs,hl,λl ms hl' p o=>k _ _ _ (bK hl' _) (.lst hl' bJ (Reps.intz ms)) (q ms p o)⟩
theorem ad6 (B:Bt X.mg)(ha:QA X [e] tr)(hg:Gl X "sorted":=by rfl)(he:starEach [e] X.env=(false,eval e X.env)::starEach [] X.env:=by rfl)(hpl:(backTo pos (starEach [] X.env)).any (·.1)=false:=by rfl):QE X (.Call (.Name "sorted" p2) [e] [] pos) (aB tK tr):=
 gS aZ6 aZ7 hg B.sorted bN6 ha (he:=he) (hpl:=hpl)
def ad7:PV->Tg->PV->Tg->PK->Prop:=λx _ y _ Q=>∃xs ys,x = .lst xs/\y = .lst ys/\flats xs=true/\flats ys=true/\xs.length+ys.length<=16000000/\Q (.lst (xs++ys)) .fr
abbrev ad8 (ta tb:aD):aD:=q2 ad7 ta tb
theorem aZ8:eL X ad7 N5:=by
 rintro W Hs H u v x y g g' Q Q' s n r1 r2 ⟨xs,ys,rfl,rfl,f1,f2,hl,q⟩ k
 obtain⟨a,us,rfl,_,h1,q1⟩:=r1.sqL
 obtain⟨b,ws,rfl,_,h2,q2⟩:=r2.sqL
 have l1:=q1.length
 have l2:=q2.length
 refine⟨a,b,us,ws,rfl,rfl,h1,h2,lim (by omega),λp hp=>k _ _ _ .fr (bK hp _) (.lst (s.free hp) bJ (((q1.flat f1).append (q2.flat f2)).same (bK hp _) λ_ z=>z)) q⟩
theorem ad9 (ha:QE X a ta)(hb:QE X b tb):QE X (.BinOp a .Add b pos) (ad8 ta tb):=iV aD1 aZ8 ha hb
end
end PP
namespace L2
open PySem PySem.Spec PyProof.Rows
def zR (K:ad)(a:Addr):It:=
  ⟨λi H=>∃xs x,aQ K H a xs/\xs[i]? = some x,
   λi H v H'=>∃T x,H T=none/\v = .ref T/\H'=upd H T (.tup [.int i,x])/\∀xs,aQ K H a xs->xs[i]? = some x,
   λi H=>∃xs,aQ K H a xs/\xs.length<=i⟩
structure aZ9 (e it a:Addr)(i:Nat)(h:Heap):Prop where
 ee:∃old,IsEnum h e it i old
 s1:h.IsListIter it a i
theorem ba0 {P:Program}{w:World}{K:ad}{elts:List Expr}{k:Nat}{pos:Pos}(a e it:Addr)(d:e≠it) :
  jA P w K (.Tuple elts k pos) (zR K a) [e,it] e (aZ9 e it a):=by
 refine⟨by simp,λi h st c hc=>?_,λi h h' st kp=>?_,?_,?_,λA i s Q E st q=>?_⟩
 ·simp only[bA7,bB7,bF2]at hc
  obtain⟨old,ee⟩:=st.ee
  obtain⟨o1,f1,g1,d1⟩:=st.s1
  rcases hc with rfl|rfl
  ·exact⟨_,ee,λv q=>by cases q⟩
  ·exact⟨_,f1,λv q=>by rw[d1]at q;cases q⟩
 ·obtain⟨old,ee⟩:=st.ee
  exact⟨⟨old,kp e (by simp) _ ee⟩,st.s1.at λo z=>kp it (by simp) o z⟩
 ·intro X hP hw hK hc i pins s σ H E I hf st hg
  subst hP hw hK
  obtain⟨xs,x,ha,hx⟩:=hg
  obtain⟨us,ru,pu,lu⟩:=I.list ha
  obtain⟨ux,eux,rux⟩:=ru.get hx
  obtain⟨old,ee⟩:=st.ee
  refine wpAny_pyNext_enum_item ee st.s1 pu.isList (by simpa using eux) d λh' eo it' pr sz kp=>⟨_,rfl,?_⟩
  refine wpAny_letOwnedTupleGo_enum (s:={ s with heap:=h',toks:=s.toks+1 }) eo λg zz sb=>?_
  have hzl:e<s.heap.objs.size:=bB2 ee
  have up:∀c o,c≠e->c≠it->s.heap.get? c=some o->g.get? c=some o:=λc o c1 c2 z=>sb.extBut c o c1 (kp c o c1 c2 z)
  have hT:H s.heap.objs.size=none:=I.hok.fresh (bA3 _)
  have prG:g.get? s.heap.objs.size=some { cls:=.type "tuple",data:=.seq #[.int i s.toks,ux] }:=sb.extBut _ _ (bJ4 hzl) pr
  have fpn:∀c u,H c=some u->c∉[e,it]:=λc u z hm=>by rw[(hf c hm).1]at z;cases z
  have upH:∀c o u,H c=some u->s.heap.get? c=some o->g.get? c=some o:=λc o u q z=>by
   have:=fpn c u q
   simp only[bA7,bB7,bF2,not_or]at this
   exact up c o this.1 this.2 z
  have ns:∀m,s.heap.Ns X.env.locals m->g.Ns X.env.locals m:=λm hm=>by
   obtain⟨o,es,ep,e1,e2⟩:=hm
   exact⟨o,es,ep,up _ o (Ne.symm (hf e (by simp)).2.1) (Ne.symm (hf it (by simp)).2.1) e1,e2⟩
  have I2:a7 X pins σ (upd H s.heap.objs.size (.tup [.int i,x])) { s with heap:=g,toks:=s.toks+1 }:=by
   refine I.step (g':=s.gens) (d':=s.drawn) (ch:=[e,it]) (λc hc'=>?_) (λc o _ _ hc' z _=>?_) (λc o _ _ hc' z _=>⟨o.slots,?_⟩) (λc o _ z n=>?_) (λc o hc' z=>⟨o,?_⟩)
    (λc zs z=>by rw[aW (cM z hT)];exact z) (λc u zs z=>by rw[aW (cM z hT)];exact z) (λc ps z=>⟨#[],by rw[aW (cM z hT),z];simp⟩) ns (λc u z=>?_) I.bare
   ·exact⟨(hf c hc').2.2.2.1,(hf c hc').2.1,(hf c hc').2.2.2.2.1,(hf c hc').2.2.2.2.2⟩
   ·simp only[bA7,bB7,bF2,not_or]at hc'
    exact up c o hc'.1 hc'.2 z
   ·simp only[bA7,bB7,bF2,not_or]at hc'
    exact up c o hc'.1 hc'.2 z
   ·rw[aW (bD4 (bB2 z))];exact n
   ·simp only[bA7,bB7,bF2,not_or]at hc'
    exact up c o hc'.1 hc'.2 z
   ·by_cases hcT:c=s.heap.objs.size
    ·subst hcT
     rw[bJ]at z;cases z
     exact⟨by show 2<=sizeLine;decide,[.int i s.toks,ux],.cons ⟨_,rfl⟩ (.cons rux .nil),⟨_,prG,rfl,_,rfl⟩,λu e=>by rw[prG]at e;cases e;rfl⟩
    ·rw[aW hcT]at z
     refine (I.hok c u z).stay (λc' o' hc2 q'=>?_) (λc' q'=>by rw[aW (cM q' hT)];exact q') λc' zs q'=>by rw[aW (cM q' hT)];exact q'
     rcases hc2 with rfl|hc2
     ·exact upH _ _ _ z q'
     ·exact upH _ _ _ hc2 q'
  refine⟨.ref s.heap.objs.size,_,I2,rfl,⟨_,x,hT,rfl,rfl,λxs' ha'=>?_⟩,⟨⟨ux,by push_cast;exact zz⟩,it'.at λo z=>sb.extBut _ o (Ne.symm d) z⟩,λc hc'=>?_⟩
  ·rw[I.list_inj ha' ha];exact hx
  ·obtain⟨o,z⟩:∃o,s.heap.get? c=some o:=by
    simp only[bA7,bB7,bF2]at hc'
    obtain⟨o1,f1,_⟩:=st.s1
    rcases hc' with rfl|rfl
    ·exact⟨_,ee⟩
    ·exact⟨_,f1⟩
   rw[aW (bD4 (bB2 z))];exact (hf c hc').1
 ·intro X hP hw hK hc i pins s σ H E I hf st hg
  subst hP hw hK
  obtain⟨xs,ha,hi⟩:=hg
  obtain⟨us,ru,pu,lu⟩:=I.list ha
  obtain⟨old,ee⟩:=st.ee
  have hh:X.A.handled=none:=I.ok.hd hc
  have e1:=ru.length
  refine wpAny_pyNext_enum_end hh ee st.s1 pu.isList (by rw[Array.getElem?_eq_none];simp only[bA2];omega) λg kp=>⟨rfl,?_⟩
  have fpn:∀c u,H c=some u->c∉[e,it]:=λc u z hm=>by rw[(hf c hm).1]at z;cases z
  have upH:∀c o u,H c=some u->s.heap.get? c=some o->g.get? c=some o:=λc o u q z=>by
   have:=fpn c u q
   simp only[bA7,bB7,bF2,not_or]at this
   exact kp c o this.2 z
  have ns:∀m,s.heap.Ns X.env.locals m->g.Ns X.env.locals m:=λm hm=>by
   obtain⟨o,es,ep,e1,e2⟩:=hm
   exact⟨o,es,ep,kp _ o (Ne.symm (hf it (by simp)).2.1) e1,e2⟩
  refine I.step (g':=s.gens) (d':=s.drawn) (ch:=[it]) (λc hc'=>?_) (λc o _ _ hc' z _=>?_) (λc o _ _ hc' z _=>⟨o.slots,?_⟩) (λc o _ z n=>n) (λc o hc' z=>⟨o,?_⟩)
   (λc zs z=>z) (λc u zs z=>z) (λc ps z=>⟨#[],by rw[z];simp⟩) ns (λc u z=>?_) I.bare
  ·have hm:c∈[e,it]:=bA9 _ hc'
   exact⟨(hf c hm).2.2.2.1,(hf c hm).2.1,(hf c hm).2.2.2.2.1,(hf c hm).2.2.2.2.2⟩
  ·exact kp c o (λy=>hc' (by rw[y];simp)) z
  ·exact kp c o (λy=>hc' (by rw[y];simp)) z
  ·exact kp c o (λy=>hc' (by rw[y];simp)) z
  ·refine (I.hok c u z).stay (λc' o' hc2 q'=>?_) (λ_ q'=>q') λ_ _ q'=>q'
   rcases hc2 with rfl|hc2
   ·exact upH _ _ _ z q'
   ·exact upH _ _ _ hc2 q'
 ·obtain⟨old,ee⟩:=st.ee
  exact wpAny_pyIter_enum ee q
end L2
namespace Zp
open PySem PyProof.Rows
section
variable {prog:Program}{w:World}{A:Around}{E:Value→Shared→Prop}{s:Shared}
theorem ba1 {e it t:Addr}{i:Nat}{items:Array Value}{x old:Value}{Q:Option Value->Shared->Prop}(he:IsEnum s.heap e it i old)(hi:s.heap.IsTupleIter it t i)(ht:s.heap.IsTuple t items)(hx:items[i]? = some x)(ne:e≠it)(q:∀h',IsEnumOut h' e it ((i:Int)+1) x s.heap.objs.size->h'.IsTupleIter it t (i+1)->h'.get? s.heap.objs.size=some { cls:=.type "tuple",data:=.seq #[.int i s.toks,x] }->h'.objs.size=s.heap.objs.size+1->
   (∀b o,b≠e->b≠it->s.heap.get? b=some o->h'.get? b=some o)->Q (some (.ref s.heap.objs.size)) { s with heap:=h',toks:=s.toks+1 }):wpAny (model prog w) A (pyNext (.ref e)) Q E s:=by
 have T:s.TypeIs (.ref e) "enumerate":=⟨_,he,rfl⟩
 have slot:=PySem.F.slot_enumerate_next
 unfold pyNext
 apply bz7
 apply wpAny_attempt
 apply bH3 (name:=Str.ofString "__next__") T slot
 apply bG7 slot T PySem.F.entry_enumerate_next _ (PySem.F.args_enumerate_next_1 _)
 change wpAny _ _ (field (.ref e) 2 >>= _) _ _ _
 apply bz7
 refine bH2 he rfl (x:=.ref it) rfl ?_
 apply bz7
 refine S0 hi ht hx λg1 it1 sb1=>?_
 have e1:IsEnum g1 e it i old:=sb1.extBut _ _ ne he
 change wpAny _ _ (field (.ref e) 3 >>= _) _ _ _
 apply bz7
 refine bH2 e1 rfl (x:=rawInt i) rfl ?_
 change wpAny _ _ (field (.ref e) 4 >>= _) _ _ _
 apply bz7
 refine bH2 e1 rfl (x:=.none) rfl ?_
 change wpAny _ _ (mkInt i >>= _) _ _ _
 apply bz7
 refine wpAny_mkInt ?_
 change wpAny _ _ (setField (.ref e) 3 (rawInt ((i:Int)+1)) >>= _) _ _ _
 apply bz7
 refine bI0 e1 (by simp) λg2 e2 sb2=>?_
 apply bz7
 refine bI0 e2 (by simp) λg3 e3 sb3=>?_
 have e3:IsEnum g3 e it ((i:Int)+1) old:=e3
 apply bz7
 refine wpAny_newTuple ?_ (by show 2<=sizeLine;decide)
 have e4:IsEnum (g3.push { cls:=.type "tuple",data:=.seq #[.int i s.toks,x] }) e it ((i:Int)+1) old:=bz8 _ e3
 have size:g3.objs.size=s.heap.objs.size:=by rw[sb3.1,sb2.1,sb1.1]
 change wpAny _ _ (Builtin.SmallTypes.ownedTupleIsFree (.ref e) >>= _) _ _ _
 apply bz7
 unfold Builtin.SmallTypes.ownedTupleIsFree
 apply bz7
 refine bH2 e4 rfl (x:=.none) rfl (bA8 ?_)
 simp only[if_true]
 apply bz7
 apply bQ9
 apply bz7
 refine bH2 e4 rfl (x:=old) rfl ?_
 apply bz7
 refine bI0 e4 (by simp) λg5 e5 sb5=>?_
 apply bz7
 unfold Builtin.SmallTypes.ownedTupleHandOut
 apply bz7
 refine bI0 e5 (by simp) λg6 e6 sb6=>?_
 refine bI0 e6 (by simp) λg7 e7 sb7=>?_
 have e7:IsEnumOut g7 e it ((i:Int)+1) x g3.objs.size:=e7
 have elt:e<g3.objs.size:=bB2 e3
 have up:∀c o,c≠e->(g3.push { cls:=.type "tuple",data:=.seq #[.int i s.toks,x] }).get? c=some o->g7.get? c=some o:=λc o c1 z=>sb7.extBut c o c1 (sb6.extBut c o c1 (sb5.extBut c o c1 z))
 have up3:∀c o,c≠e->g1.get? c=some o->g7.get? c=some o:=λc o c1 z=>up c o c1 (bz8 _ (sb3.extBut c o c1 (sb2.extBut c o c1 z)))
 have p7:g7.get? g3.objs.size=some { cls:=.type "tuple",data:=.seq #[.int i s.toks,x] }:=up _ _ (bJ4 elt) (bB4 _ rfl)
 have s7:g7.objs.size=g3.objs.size+1:=by rw[sb7.1,sb6.1,sb5.1,bL2]
 apply bz7
 apply wpAny_letGo
 apply bA8
 rw[size]at e7 p7 s7
 refine⟨_,rfl,bA8 ?_⟩
 change Q (some (.ref g3.objs.size)) _
 rw[size]
 exact q g7 e7 (it1.at λo z=>up3 it o (Ne.symm ne) z) p7 s7 λb o b1 b2 z=>up3 b o b1 (sb1.extBut b o b2 z)
theorem ba2 {e it t:Addr}{i:Nat}{items:Array Value}{old:Value}{Q:Option Value->Shared->Prop}(hh:A.handled=none)(he:IsEnum s.heap e it i old)(hi:s.heap.IsTupleIter it t i)(ht:s.heap.IsTuple t items)(hx:items[i]? = none)(q:∀h',Heap.ExtBut it s.heap h'->Q none { s with heap:=h' }):wpAny (model prog w) A (pyNext (.ref e)) Q E s:=by
 have T:s.TypeIs (.ref e) "enumerate":=⟨_,he,rfl⟩
 have slot:=PySem.F.slot_enumerate_next
 unfold pyNext
 apply bz7
 apply wpAny_attempt
 apply bH3 (name:=Str.ofString "__next__") T slot
 apply bG7 slot T PySem.F.entry_enumerate_next _ (PySem.F.args_enumerate_next_1 _)
 change wpAny _ _ (field (.ref e) 2 >>= _) _ _ _
 apply bz7
 refine bH2 he rfl (x:=.ref it) rfl ?_
 apply bz7
 refine S2 hh hi ht hx λg2 ex eb exo=>?_
 obtain⟨oe,eo,co⟩:=exo
 apply bz7
 refine wpAny_isInstance (T:="StopIteration") (b:=true) ⟨oe,eo,co⟩ isSubtype_stop ?_
 exact bA8 (q g2 eb)
theorem ba3 {M:Model}{A:Around}{E:Value->Shared->Prop}{s:Shared}{α:Type}{c:Prop}[Decidable c]{m n:Sem α}{Q:α->Shared->Prop}(h1:wpAny M A m Q E s)(h2:wpAny M A n Q E s):wpAny M A (if c then m else n) Q E s:=by
 split
 ·exact h1
 ·exact h2
theorem ba4 (t:Addr)(xs:Array Value):Meets (Builtin.«enumerate.__new__» ⟨[.type "enumerate",.ref t],[]⟩) (λ_ R s=>s.heap.IsTuple t xs/\R (.ok (.ret (.ref (s.heap.objs.size+1)))) { s with heap:=(s.heap.push { cls:=.type "tuple_iterator",data:=.fields #[.ref t,.int 0 0] }).push { cls:=.type "enumerate",data:=.fields #[.none,.bool false,.ref s.heap.objs.size,rawInt 0,.none,.none] } }):=
 .of_wp λprog w A R s h=>by
  obtain⟨hp,g,d,tk,os⟩:=s
  obtain⟨ht,h⟩:=h
  have sub:=sub_enumerate
  have a1:Heap.IsTuple (Shared.heap ⟨hp,g,d,tk,os⟩) t xs:=ht
  wp_walk using bL7 a1
  refine wpAny_stack_any λst=>bA8 ?_
  refine ba3 ?_ ?_
  all_goals
   apply bz7
   refine wpAny_of_eq (a:=(Value.ref t,none)) rfl ?_
   wp_walk using bL7 a1
   have e:∀(o:Obj) (k:Heap),(k.push o).objs.size=k.objs.size+1:=λo k=>bL2 ..
   refine⟨_,rfl,?_⟩
   simp only[e]at h ⊢
   exact h
theorem ba5 {t:Addr}{xs:Array Value}{Q:Value->Shared->Prop}(ht:s.heap.IsTuple t xs)(q:∀h',IsEnum h' (s.heap.objs.size+1) s.heap.objs.size 0 .none->h'.IsTupleIter s.heap.objs.size t 0->h'.objs.size=s.heap.objs.size+2->(∀c o,s.heap.get? c=some o->h'.get? c=some o)->Q (.ref (s.heap.objs.size+1)) { s with heap:=h' }) :
  wpAny (model prog w) A (call (.type "enumerate") [.ref t]) Q E s:=by
 refine callType_new PySem.F.called_enumerate (by decide) (PySem.F.typeCall_enumerate_1 _) (PySem.F.newCall_enumerate_1 _) (λobj=>PySem.F.args_object_init_2 obj _) PySem.F.entry_enumerate_new (ba4 t xs) ⟨ht,?_⟩
 have e:∀(o:Obj) (k:Heap),(k.push o).objs.size=k.objs.size+1:=λo k=>bL2 ..
 have g0:((s.heap.push { cls:=.type "tuple_iterator",data:=.fields #[.ref t,.int 0 0] }).push { cls:=.type "enumerate",data:=.fields #[.none,.bool false,.ref s.heap.objs.size,rawInt 0,.none,.none] }).get? s.heap.objs.size=some { cls:=.type "tuple_iterator",data:=.fields #[.ref t,.int 0 0] }:=bz8 _ (bB4 _ rfl)
 have g1:((s.heap.push { cls:=.type "tuple_iterator",data:=.fields #[.ref t,.int 0 0] }).push { cls:=.type "enumerate",data:=.fields #[.none,.bool false,.ref s.heap.objs.size,rawInt 0,.none,.none] }).get? (s.heap.objs.size+1)=some { cls:=.type "enumerate",data:=.fields #[.none,.bool false,.ref s.heap.objs.size,rawInt 0,.none,.none] }:=by
  have:=bB4 (h:=s.heap.push { cls:=.type "tuple_iterator",data:=.fields #[.ref t,.int 0 0] }) (o:={ cls:=.type "enumerate",data:=.fields #[.none,.bool false,.ref s.heap.objs.size,rawInt 0,.none,.none] }) rfl
  rw[e]at this;exact this
 exact⟨⟨_,g1,rfl⟩,q _ g1 ⟨_,g0,rfl,rfl⟩ (by rw[e,e]) λc o z=>bz8 _ (bz8 _ z)⟩
end
end Zp
namespace L2
open PySem PySem.Spec PyProof.Rows
def zT (K:ad)(a:Addr):It:=
  ⟨λi H=>∃xs x,aH K H a xs/\xs[i]? = some x,
   λi H v H'=>∃T x,H T=none/\v = .ref T/\H'=upd H T (.tup [.int i,x])/\∀xs,aH K H a xs->xs[i]? = some x,
   λi H=>∃xs,aH K H a xs/\xs.length<=i⟩
structure ba6 (e it a:Addr)(i:Nat)(h:Heap):Prop where
 ee:∃old,IsEnum h e it i old
 s1:h.IsTupleIter it a i
theorem ba7 {P:Program}{w:World}{K:ad}{elts:List Expr}{k:Nat}{pos:Pos}(a e it:Addr)(d:e≠it) :
  jA P w K (.Tuple elts k pos) (zT K a) [e,it] e (ba6 e it a):=by
 refine⟨by simp,λi h st c hc=>?_,λi h h' st kp=>?_,?_,?_,λA i s Q E st q=>?_⟩
 ·simp only[bA7,bB7,bF2]at hc
  obtain⟨old,ee⟩:=st.ee
  obtain⟨o1,f1,g1,d1⟩:=st.s1
  rcases hc with rfl|rfl
  ·exact⟨_,ee,λv q=>by cases q⟩
  ·exact⟨_,f1,λv q=>by rw[d1]at q;cases q⟩
 ·obtain⟨old,ee⟩:=st.ee
  exact⟨⟨old,kp e (by simp) _ ee⟩,st.s1.at λo z=>kp it (by simp) o z⟩
 ·intro X hP hw hK hc i pins s σ H E I hf st hg
  subst hP hw hK
  obtain⟨xs,x,ha,hx⟩:=hg
  obtain⟨us,ru,pu,lu⟩:=I.tuple ha
  obtain⟨ux,eux,rux⟩:=ru.get hx
  obtain⟨old,ee⟩:=st.ee
  refine Zp.ba1 ee st.s1 pu (by simpa using eux) d λh' eo it' pr sz kp=>⟨_,rfl,?_⟩
  refine wpAny_letOwnedTupleGo_enum (s:={ s with heap:=h',toks:=s.toks+1 }) eo λg zz sb=>?_
  have hzl:e<s.heap.objs.size:=bB2 ee
  have up:∀c o,c≠e->c≠it->s.heap.get? c=some o->g.get? c=some o:=λc o c1 c2 z=>sb.extBut c o c1 (kp c o c1 c2 z)
  have hT:H s.heap.objs.size=none:=I.hok.fresh (bA3 _)
  have prG:g.get? s.heap.objs.size=some { cls:=.type "tuple",data:=.seq #[.int i s.toks,ux] }:=sb.extBut _ _ (bJ4 hzl) pr
  have fpn:∀c u,H c=some u->c∉[e,it]:=λc u z hm=>by rw[(hf c hm).1]at z;cases z
  have upH:∀c o u,H c=some u->s.heap.get? c=some o->g.get? c=some o:=λc o u q z=>by
   have:=fpn c u q
   simp only[bA7,bB7,bF2,not_or]at this
   exact up c o this.1 this.2 z
  have ns:∀m,s.heap.Ns X.env.locals m->g.Ns X.env.locals m:=λm hm=>by
   obtain⟨o,es,ep,e1,e2⟩:=hm
   exact⟨o,es,ep,up _ o (Ne.symm (hf e (by simp)).2.1) (Ne.symm (hf it (by simp)).2.1) e1,e2⟩
  have I2:a7 X pins σ (upd H s.heap.objs.size (.tup [.int i,x])) { s with heap:=g,toks:=s.toks+1 }:=by
   refine I.step (g':=s.gens) (d':=s.drawn) (ch:=[e,it]) (λc hc'=>?_) (λc o _ _ hc' z _=>?_) (λc o _ _ hc' z _=>⟨o.slots,?_⟩) (λc o _ z n=>?_) (λc o hc' z=>⟨o,?_⟩)
    (λc zs z=>by rw[aW (cM z hT)];exact z) (λc u zs z=>by rw[aW (cM z hT)];exact z) (λc ps z=>⟨#[],by rw[aW (cM z hT),z];simp⟩) ns (λc u z=>?_) I.bare
   ·exact⟨(hf c hc').2.2.2.1,(hf c hc').2.1,(hf c hc').2.2.2.2.1,(hf c hc').2.2.2.2.2⟩
   ·simp only[bA7,bB7,bF2,not_or]at hc'
    exact up c o hc'.1 hc'.2 z
   ·simp only[bA7,bB7,bF2,not_or]at hc'
    exact up c o hc'.1 hc'.2 z
   ·rw[aW (bD4 (bB2 z))];exact n
   ·simp only[bA7,bB7,bF2,not_or]at hc'
    exact up c o hc'.1 hc'.2 z
   ·by_cases hcT:c=s.heap.objs.size
    ·subst hcT
     rw[bJ]at z;cases z
     exact⟨by show 2<=sizeLine;decide,[.int i s.toks,ux],.cons ⟨_,rfl⟩ (.cons rux .nil),⟨_,prG,rfl,_,rfl⟩,λu e=>by rw[prG]at e;cases e;rfl⟩
    ·rw[aW hcT]at z
     refine (I.hok c u z).stay (λc' o' hc2 q'=>?_) (λc' q'=>by rw[aW (cM q' hT)];exact q') λc' zs q'=>by rw[aW (cM q' hT)];exact q'
     rcases hc2 with rfl|hc2
     ·exact upH _ _ _ z q'
     ·exact upH _ _ _ hc2 q'
  refine⟨.ref s.heap.objs.size,_,I2,rfl,⟨_,x,hT,rfl,rfl,λxs' ha'=>?_⟩,⟨⟨ux,by push_cast;exact zz⟩,it'.at λo z=>sb.extBut _ o (Ne.symm d) z⟩,λc hc'=>?_⟩
  ·rw[I.tuple_inj ha' ha];exact hx
  ·obtain⟨o,z⟩:∃o,s.heap.get? c=some o:=by
    simp only[bA7,bB7,bF2]at hc'
    obtain⟨o1,f1,_⟩:=st.s1
    rcases hc' with rfl|rfl
    ·exact⟨_,ee⟩
    ·exact⟨_,f1⟩
   rw[aW (bD4 (bB2 z))];exact (hf c hc').1
 ·intro X hP hw hK hc i pins s σ H E I hf st hg
  subst hP hw hK
  obtain⟨xs,ha,hi⟩:=hg
  obtain⟨us,ru,pu,lu⟩:=I.tuple ha
  obtain⟨old,ee⟩:=st.ee
  have hh:X.A.handled=none:=I.ok.hd hc
  have e1:=ru.length
  refine Zp.ba2 hh ee st.s1 pu (by rw[Array.getElem?_eq_none];simp only[bA2];omega) λg kp=>⟨rfl,?_⟩
  have fpn:∀c u,H c=some u->c∉[e,it]:=λc u z hm=>by rw[(hf c hm).1]at z;cases z
  have upH:∀c o u,H c=some u->s.heap.get? c=some o->g.get? c=some o:=λc o u q z=>by
   have:=fpn c u q
   simp only[bA7,bB7,bF2,not_or]at this
   exact kp c o this.2 z
  have ns:∀m,s.heap.Ns X.env.locals m->g.Ns X.env.locals m:=λm hm=>by
   obtain⟨o,es,ep,e1,e2⟩:=hm
   exact⟨o,es,ep,kp _ o (Ne.symm (hf it (by simp)).2.1) e1,e2⟩
  refine I.step (g':=s.gens) (d':=s.drawn) (ch:=[it]) (λc hc'=>?_) (λc o _ _ hc' z _=>?_) (λc o _ _ hc' z _=>⟨o.slots,?_⟩) (λc o _ z n=>n) (λc o hc' z=>⟨o,?_⟩)
   (λc zs z=>z) (λc u zs z=>z) (λc ps z=>⟨#[],by rw[z];simp⟩) ns (λc u z=>?_) I.bare
  ·have hm:c∈[e,it]:=bA9 _ hc'
   exact⟨(hf c hm).2.2.2.1,(hf c hm).2.1,(hf c hm).2.2.2.2.1,(hf c hm).2.2.2.2.2⟩
  ·exact kp c o (λy=>hc' (by rw[y];simp)) z
  ·exact kp c o (λy=>hc' (by rw[y];simp)) z
  ·exact kp c o (λy=>hc' (by rw[y];simp)) z
  ·refine (I.hok c u z).stay (λc' o' hc2 q'=>?_) (λ_ q'=>q') λ_ _ q'=>q'
   rcases hc2 with rfl|hc2
   ·exact upH _ _ _ z q'
   ·exact upH _ _ _ hc2 q'
 ·obtain⟨old,ee⟩:=st.ee
  exact wpAny_pyIter_enum ee q
section
variable {X:Cx}
def ae0 (K:ad)(ta:TA):TI:=λσ H R=>ta σ H λvs H1=>∃a,vs = [.ref a]/\((∃xs,aQ K H1 a xs/\R (zR K a) H1)∨(∃xs,aH K H1 a xs/\R (zT K a) H1))
theorem ba8 {elts:List Expr}{kt:Nat}{pt:Pos}{a:Expr}{ta:TA}{p pos:Pos}(hg:Gl X "enumerate")(hm:X.mg "enumerate" = none)(ha:PA X [a] ta)(hs:starEach [a] X.env = [(false,eval a X.env)]:=by rfl) :
  PI X (.Tuple elts kt pt) (.Call (.Name "enumerate" p) [a] [] pos) (ae0 X.K ta):=by
 intro pins s σ H R I h
 refine Call_ (kU I hg hm PyProof.Rows.boot_enumerate (bK0 (aR (ha pos pins s σ H _ I h) λus s1 ⟨vs,H1,I1,r1,q1⟩=>?_) (by rw[hs];rfl) (by rfl)))
 obtain⟨a',e,q⟩:=q1
 subst e
 have fresh:∀k,H1 (s1.heap.objs.size+k)=none:=λk=>I1.hok.fresh (bN4 _ _)
 cases r1 with
 |cons r rr=>
  cases rr
  cases r
  rcases q with⟨xs,h1,q⟩|⟨xs,h1,q⟩
  ·obtain⟨us,_,p1,_⟩:=I1.list h1
   refine call_enumerate_list p1.isList λh' z s1' sz kp=>wpAny_pyIter_enum z ?_
   refine⟨s1.heap.objs.size+1,[s1.heap.objs.size+1,s1.heap.objs.size],_,_,H1,rfl,I1.kept (t':=s1.toks) kp,
    ba0 a' _ _ (Nat.succ_ne_self _),⟨⟨_,z⟩,s1'⟩,λc hc=>?_,q⟩
   simp only[bA7,bB7,bF2]at hc
   rcases hc with rfl|rfl
   ·exact I1.fpOk (bN4 _ _) (fresh 1)
   ·exact I1.fpOk (bA3 _) (fresh 0)
  ·obtain⟨us,_,p1,_⟩:=I1.tuple h1
   refine Zp.ba5 p1 λh' z s1' sz kp=>wpAny_pyIter_enum z ?_
   refine⟨s1.heap.objs.size+1,[s1.heap.objs.size+1,s1.heap.objs.size],_,_,H1,rfl,I1.kept (t':=s1.toks) kp,
    ba7 a' _ _ (Nat.succ_ne_self _),⟨⟨_,z⟩,s1'⟩,λc hc=>?_,q⟩
   simp only[bA7,bB7,bF2]at hc
   rcases hc with rfl|rfl
   ·exact I1.fpOk (bN4 _ _) (fresh 1)
   ·exact I1.fpOk (bA3 _) (fresh 0)
end
end L2
namespace Zp
open PySem PyProof.Rows
theorem ba9 (t b:Addr)(xs ys:Array Value)(n n2:Nat)(dd dd2:Option Addr)(sl sl2:Array (Option Value))(hx:xs.isEmpty=true):Meets (Builtin.«tuple.__add__» ⟨[.ref t,.ref b],[]⟩)
  (λ_ R s=>s.heap.get? t=some { cls:=.type "tuple",dict:=dd,data:=.seq xs n,slots:=sl }/\s.heap.get? b=some { cls:=.type "tuple",dict:=dd2,data:=.seq ys n2,slots:=sl2 }/\R (.ok (.ret (.ref b))) s):=
 .of_wp λprog w A R s h=>by
  obtain⟨h1,h2,h⟩:=h
  have sub:isSubtype (Value.type "tuple") (Value.type "tuple")=pure true:=rfl
  wp_walk
  exact⟨_,rfl,h⟩
end Zp
namespace L2
open PySem PySem.Spec PyProof.Rows
section
variable {X:Cx}
def ae1 (K:ad):R2:=λx y H Q=>∃a b xs ys,x = .ref a/\y = .ref b/\aH K H a xs/\aH K H b ys/\xs.length+ys.length<=sizeLine/\
 (xs = []->Q (.ref b) H)/\(xs≠[]->ys = []->Q (.ref a) H)/\(xs≠[]->ys≠[]->∀p,H p=none->Q (.ref p) (upd H p (.tup (xs++ys))))
theorem bb0:c9 X (binaryOp .Add) (ae1 X.K):=by
 intro pins s σ H x y v u Q I rx ry h
 obtain⟨a,b,xs,ys,ex,ey,ha,hb,hz,q0,q1,q2⟩:=h
 by_cases hx:xs = []
 ·subst ex ey
  cases rx
  cases ry
  obtain⟨its,r1,p1,_⟩:=I.tuple ha
  obtain⟨its2,r2,p2,_⟩:=I.tuple hb
  have hi:its = []:=r1.nil_iff.mpr hx
  obtain⟨⟨cls,dd,data,sl⟩,ho,hc,n,hd⟩:=id p1
  obtain⟨⟨cls2,dd2,data2,sl2⟩,ho2,hc2,n2,hd2⟩:=id p2
  simp only at hc hd hc2 hd2
  subst hc hd hc2 hd2
  exact concat_meets ⟨_,ho,rfl⟩ ⟨_,ho2,rfl⟩ noFill_tuple_add seq_tuple_add PySem.F.slot_tuple_add PySem.F.entry_tuple_add (PySem.F.args_tuple_add_2 _ _)
   (Zp.ba9 a b its.toArray its2.toArray n n2 dd dd2 sl sl2 (by simp[hi])) ⟨ho,ho2,⟨.ref b,H,I,rfl,q0 hx⟩⟩
 ·exact aB3 pins s σ H x y v u Q I rx ry ⟨a,b,xs,ys,ex,ey,ha,hb,hx,hz,q1 hx,q2 hx⟩
end
end L2
namespace PP
open PySem L2 PyProof.Rows
def kN (xs:List PV):List PV:=xs.mapIdx λi x=>PV.tup [.int (i:Int),x]
theorem qM (xs:List PV):(kN xs).length=xs.length:=by unfold kN;rw[List.length_mapIdx]
theorem ae2 {xs:List PV}{i:Nat}{x:PV}(h:xs[i]? = some x):(kN xs)[i]? = some (.tup [.int (i:Int),x]):=by
 unfold kN;rw[List.getElem?_mapIdx,h];rfl
theorem ae3 {xs:List PV}{i:Nat}{z:PV}(h:(kN xs)[i]? = some z):∃x,xs[i]? = some x/\z = .tup [.int (i:Int),x]:=by
 unfold kN at h
 rw[List.getElem?_mapIdx]at h
 cases e:xs[i]? with
 |none=>rw[e]at h;cases h
 |some x=>rw[e]at h;exact⟨x,rfl,(bE0 h).symm⟩
def tL (te:aD):eM:=λρ Q=>te ρ λx g=>∃xs,(x = .lst xs∨x = .tup xs)/\(g = .rd->flat x=true)/\Q (kN xs) (xH g xs)
theorem bb1 {K:ad}{H0:Hp}{W:Addr->Prop}{g:Bool}{H1:Hp}{a:Addr}{us:List V}{xs:List PV}(tw:∀a,W a->∃o,H1 a=some o/\g9 o=true)(ha:∀W' H',Ev W H1 W' H'->aQ K H' a us)(r:Reps K (Ms H0 W g) H1 us xs):lC K H0 W g H1 (zR K a) (kN xs):=by
 have lr:=r.length
 have ll:=qM xs
 refine⟨λW' H' i e hi=>⟨us,us[i]'(by omega),ha W' H' e,by simp⟩,λW' H' i v H2 e y hi=>?_,λW' H' e=>⟨us,ha W' H' e,by omega⟩⟩
 obtain⟨T,x,hT,rfl,rfl,y⟩:=y
 obtain⟨z,hz,rz⟩:=r.get (y us (ha W' _ e))
 have sm:=bK hT (HO.tup [.int (i:Int),x])
 exact⟨sm,_,ae2 hz,.tup bJ (.cons (.int _) (.cons ((rz.keep (e.keep tw)).same sm λ_ q=>q) .nil))⟩
theorem bb2 {K:ad}{H0:Hp}{W:Addr->Prop}{g:Bool}{H1:Hp}{a:Addr}{us:List V}{xs:List PV}(tw:∀a,W a->∃o,H1 a=some o/\g9 o=true)(ha:∀W' H',Ev W H1 W' H'->aH K H' a us)(r:Reps K (Ms H0 W g) H1 us xs):lC K H0 W g H1 (zT K a) (kN xs):=by
 have lr:=r.length
 have ll:=qM xs
 refine⟨λW' H' i e hi=>⟨us,us[i]'(by omega),ha W' H' e,by simp⟩,λW' H' i v H2 e y hi=>?_,λW' H' e=>⟨us,ha W' H' e,by omega⟩⟩
 obtain⟨T,x,hT,rfl,rfl,y⟩:=y
 obtain⟨z,hz,rz⟩:=r.get (y us (ha W' _ e))
 have sm:=bK hT (HO.tup [.int (i:Int),x])
 exact⟨sm,_,ae2 hz,.tup bJ (.cons (.int _) (.cons ((rz.keep (e.keep tw)).same sm λ_ q=>q) .nil))⟩
section
variable {X:Cx}{σ:L2.St}{H:Hp}{te:aD}{R:It→Hp→Prop}
theorem bb3 (h:LI X (tL te) σ H R):ae0 X.K (iH (LE X te) kX) σ H R:=by
 obtain⟨W,ρ,Q,px,q,k⟩:=h
 refine⟨W,ρ,_,px,q,?_⟩
 rintro v H1 x g s r ⟨xs,hx,hg,q⟩
 have px1:=px.mono s
 have tw:∀a,W a->∃o,H1 a=some o/\g9 o=true:=λa z=>(px1.wm a z).2
 rcases hx with rfl|rfl
 ·obtain⟨a,us,rfl,m,h,r⟩:=r.sqL
  have wa:¬W a:=by
   cases g with
   |fr=>exact (px.new m).1
   |nw=>exact m.1
   |sh=>exact m
   |rd=>have:=hg rfl;unfold flat at this;cases this
  exact⟨a,rfl,.inl ⟨us,aQ.of h,k _ _ _ _ s (bb1 tw (λW' H' e=>aQ.of (e _ _ h wa).1) (nG px (λz=>by have:=hg z;unfold flat at this;cases this) r)) q⟩⟩
 ·obtain⟨a,us,rfl,h,r⟩:=r.sqT
  refine⟨a,rfl,.inr ⟨us,aH.of h,k _ _ _ _ s (bb2 tw (λW' H' e=>aH.of (e _ _ h λz=>?_).1) (nG px (λz=>by have:=hg z;unfold flat at this;exact this) r)) q⟩⟩
  obtain⟨o,h',mu⟩:=tw _ z;rw[h]at h';cases h';cases mu
theorem ae4 {elts:List Expr}{kt:Nat}{pt p2 pos:Pos}{a:Expr}{ta:aD}(hg:Gl X "enumerate")(hm:X.mg "enumerate" = none)(ha:QE X a ta)(hs:starEach [a] X.env = [(false,eval a X.env)]:=by rfl):QI X (.Tuple elts kt pt) (.Call (.Name "enumerate" p2) [a] [] pos) (tL ta):=
 pV (ba8 hg hm (eC ha fW hs) hs) λ_ _ _=>bb3
end
section
variable {X:Cx}{e:Expr}{te:aD}{pos p2:Pos}{scope:Scope}{N:List Str}{fr:List (Option Nat)}{x y:Str}{tp xp yp:Pos}{kt:Nat}{iter elt:Expr}{ti:eM}
abbrev o8 (x y:Str)(xp yp:Pos)(kt:Nat)(tp:Pos):Expr:=.Tuple [.Name x xp,.Name y yp] kt tp
theorem ae5 {ifs:List Expr}{tcs:cH}(hc:X.calm=true)(he:∀(s:Shared) (H:Hp) (C:Addr) (fp:List Addr),QE (bM X scope N s H C fp c7) elt te)(hi:∀(s:Shared) (H:Hp) (C:Addr) (fp:List Addr),jV (bM X scope N s H C fp c7) ifs (LT (bM X scope N s H C fp c7) tcs))(hN:N.Nodup)(h0:N[0]? = some x)(h1:N[1]? = some y)(hl:∀(s:Shared) (H:Hp) (C:Addr) (fp:List Addr),(bM X scope N s H C fp c7).env.scope.names.lookup x=some .local)(hl2:∀(s:Shared) (H:Hp) (C:Addr) (fp:List Addr),(bM X scope N s H C fp c7).env.scope.names.lookup y=some .local)(s:Shared)(H:Hp) :
  lU X scope N (o8 x y xp yp kt tp) ifs elt s H (oQ X.K 2 (jP (dL 0) (jP (dL 1) oP))) (LT (X.frm H) tcs) (LE (X.frm H) te):=
 ⟨λC fp=>v9 (X:=bM X scope N s H C fp c7) hc (mS (j9 hN h0 (.inl (hl s H C fp)) (.inr (hl s H C fp))) (mS (j9 hN h1 (.inl (hl2 s H C fp)) (.inr (hl2 s H C fp))) v8)),λC fp=>hi s H C fp,λC fp=>he s H C fp⟩
theorem bb4 (hi:QI X (o8 x y xp yp kt tp) iter ti)(he:∀(s:Shared) (H:Hp) (C:Addr) (fp:List Addr),QE (bM X scope N s H C fp c7) elt te)(hc:X.calm=true:=by rfl)(S:dM X scope N fr:=by exact dM.of rfl rfl)(hN:N.Nodup:=by decide +kernel)(h0:N[0]? = some x:=by rfl)(h1:N[1]? = some y:=by rfl)(hl:∀(s:Shared) (H:Hp) (C:Addr) (fp:List Addr),(bM X scope N s H C fp c7).env.scope.names.lookup x=some .local:=by intro _ _ _ _;rfl)(hl2:∀(s:Shared) (H:Hp) (C:Addr) (fp:List Addr),(bM X scope N s H C fp c7).env.scope.names.lookup y=some .local:=by intro _ _ _ _;rfl)(hf:fr[0]? = some none:=by rfl)(hf2:fr[1]? = some none:=by rfl)(hs:∀x,foldedSetIterable iter X.env x=pure x:=by intro _;rfl):QE X (.ListComp elt [⟨o8 x y xp yp kt tp,iter,[],0⟩] scope pos) (cQ ti fr (lZ 0 1) eD te):=
 cK (wL (gh:=λ_=>oQ X.K 2 (jP (dL 0) (jP (dL 1) oP))) (tch:=λH=>LT (X.frm H) eD) (teh:=λH=>LE (X.frm H) te) hc S hi (ae5 hc he (λ_ _ _ _=>yI) hN h0 h1 hl hl2) hs) λ_ _ _=>nI (xI _ 0 1) (λi e=>by rcases e with e|e<;>(subst e;assumption))
theorem bb5 {c:Expr}{tcs:cH}{i:Nat}{z:Str}{zp:Pos}(nd:X.N.Nodup)(hi:QI X (o8 x y xp yp kt tp) iter ti)(ht:∀(s:Shared) (H:Hp) (C:Addr) (fp:List Addr),QT (bM X scope N s H C fp c7) c tcs)(he:∀(s:Shared) (H:Hp) (C:Addr) (fp:List Addr),QE (bM X scope N s H C fp c7) elt te)(hz:X.N[i]? = some z:=by rfl)(hzl:X.env.scope.names.lookup z=some .local:=by rfl)(hsw:swapsWith (.ListComp elt [⟨o8 x y xp yp kt tp,iter,[c],0⟩] scope p2) (some (.Name z zp)) pos.line X.env=pure true:=by rfl)(hc:X.calm=true:=by rfl)(S:dM X scope N fr:=by exact dM.of rfl rfl)(hN:N.Nodup:=by decide +kernel)(h0:N[0]? = some x:=by rfl)(h1:N[1]? = some y:=by rfl)(hl:∀(s:Shared) (H:Hp) (C:Addr) (fp:List Addr),(bM X scope N s H C fp c7).env.scope.names.lookup x=some .local:=by intro _ _ _ _;rfl)(hl2:∀(s:Shared) (H:Hp) (C:Addr) (fp:List Addr),(bM X scope N s H C fp c7).env.scope.names.lookup y=some .local:=by intro _ _ _ _;rfl)(hf:fr[0]? = some none:=by rfl)(hf2:fr[1]? = some none:=by rfl)(hs:∀x,foldedSetIterable iter X.env x=pure x:=by intro _;rfl):QS X (.Assign [.Name z zp] (.ListComp elt [⟨o8 x y xp yp kt tp,iter,[c],0⟩] scope p2) pos) (bE i (cQ ti fr (lZ 0 1) tcs te)):=
 dN (wM (gh:=λ_=>oQ X.K 2 (jP (dL 0) (jP (dL 1) oP))) (tch:=λH=>LT (X.frm H) tcs) (teh:=λH=>LE (X.frm H) te) hc S hi (ae5 hc he (λs H C fp=>wG (ht s H C fp)) hN h0 h1 hl hl2) nd hz hzl hsw hs) λD σ H h=>nI (xI _ 0 1) (λi e=>by rcases e with e|e<;>(subst e;assumption)) (sA h)
end
section
variable {X:Cx}{a b e o f:Expr}{ta tb te td tk tx:aD}{pos p2 apos cpos:Pos}{σ:L2.St}{H:Hp}{Q':VK}
def ae6:PV->Tg->PV->Tg->PK->Prop:=λx _ y _ Q=>∃xs n,x = .lst xs/\y = .int n/\flats xs=true/\-1000000<=n/\n<=1000000/\xs.length<=10/\Q (.lst (List.replicate n.toNat xs).flatten) .fr
abbrev ae7 (ta tb:aD):aD:=q2 ae6 ta tb
theorem bb6:eL X ae6 N6:=by
 rintro W Hs H u v x y g g' Q Q' s n r1 r2 ⟨xs,m,rfl,rfl,f,h1,h2,hl,q⟩ k
 cases r2
 obtain⟨a,us,rfl,mm,h,r⟩:=r1.sqL
 have lr:=r.length
 refine⟨a,m,us,rfl,rfl,h,by omega,by omega,lim ?_,λp hp=>k _ _ _ .fr (bK hp _) (.lst (s.free hp) bJ (((r.flat f).rep m.toNat).same (bK hp _) λ_ z=>z)) q⟩
 have h3:us.length<=10:=by omega
 have h4:m.toNat<=1000000:=by omega
 calc us.length*m.toNat<=10*1000000:=Nat.mul_le_mul h3 h4
  _<=16000000:=by decide
theorem bb7 (ha:QE X a ta)(hb:QE X b tb):QE X (.BinOp a .Mult b pos) (ae7 ta tb):=iV aD3 bb6 ha hb
theorem tM {x:Str}{n:Int}{t:Nat}(hg:Gl X x)(hm:X.mg x=some (.int n t))(hd:(x==("__debug__":Str))=false:=by decide):QE X (.Name x pos) (qC (.int n)):=
 cK (E7 (v:=.int n) hg hm ⟨t,rfl⟩ hd) λ_ _ _=>rX λ_=>.int n
end
section
variable {X:Cx}{a b:Expr}{ta tb:aD}{pos:Pos}
def ae8:PV->Tg->PV->Tg->PK->Prop:=λx _ y _ Q=>∃xs ys,x = .tup xs/\y = .tup ys/\flats xs=true/\flats ys=true/\xs.length+ys.length<=16000000/\Q (.tup (xs++ys)) .fr
abbrev ae9 (ta tb:aD):aD:=q2 ae8 ta tb
theorem bb8:eL X ae8 (ae1 X.K):=by
 rintro W Hs H u v x y g g' Q Q' s n r1 r2 ⟨xs,ys,rfl,rfl,f1,f2,hl,q⟩ k
 obtain⟨a,us,rfl,h1,q1⟩:=r1.sqT
 obtain⟨b,ws,rfl,h2,q2⟩:=r2.sqT
 have l1:=q1.length
 have l2:=q2.length
 refine⟨a,b,us,ws,rfl,rfl,aH.of h1,aH.of h2,lim (by omega),λz=>?_,λ_ z=>?_,λ_ _ p hp=>k _ _ _ .fr (bK hp _) (.tup bJ (((q1.flat f1).append (q2.flat f2)).same (bK hp _) λ_ z=>z)) q⟩
 ·obtain rfl:xs = []:=by cases xs with
   |nil=>rfl
   |cons _ _=>rw[z]at l1;cases l1
  exact k _ _ _ .fr (aE.refl _) (.tup h2 (q2.flat f2)) q
 ·obtain rfl:ys = []:=by cases ys with
   |nil=>rfl
   |cons _ _=>rw[z]at l2;cases l2
  rw[bD5]at q
  exact k _ _ _ .fr (aE.refl _) (.tup h1 (q1.flat f1)) q
theorem af0 (ha:QE X a ta)(hb:QE X b tb):QE X (.BinOp a .Add b pos) (ae9 ta tb):=iV bb0 bb8 ha hb
end
end PP
namespace Core
open PySem L2 PP
section
variable (ws:af)(ls:aa)(os ns:af)
def gW:Nat->af
 |0=>[]
 |k+1=>gW k++(os.find? (kin ws ls (ns++gW k))).toList
def qN (k:Nat):Option Int:=os.find? (kin ws ls (ns++gW ws ls os ns k))
end
section
variable {ws:af}{ls:aa}{os ns:af}
theorem bb9 {k:Nat}{h:Int}(e:qN ws ls os ns k=some h):gW ws ls os ns (k+1)=gW ws ls os ns k++[h]:=by
 show gW ws ls os ns k++(qN ws ls os ns k).toList=_
 rw[e];rfl
def bc0 (ws:af)(ls:aa)(T:af):Prop:=∀h∈rng ws.length,kin ws ls T h=false
theorem bc1 {k:Nat}{h:Int}(e:qN ws ls os ns k=some h):h∈os/\h∉ns++gW ws ls os ns k:=
 ⟨List.mem_of_find?_eq_some e,bM0 (zA (List.find?_some e))⟩
theorem bc2 (po:os.Perm (rng ws.length))(hs:aX ws.length ns=true):∀k,(ns++gW ws ls os ns k).Nodup/\∀x∈ns++gW ws ls os ns k,x∈rng ws.length
 |0=>by
  rw[show gW ws ls os ns 0 = [] from rfl,bD5]
  exact⟨(dJ (c8 hs).1).imp λh=>bH1 h,λx hx=>fB.mpr ((c8 hs).2 x hx)⟩
 |k+1=>by
  obtain⟨i1,i2⟩:=bc2 po hs k
  cases e:qN ws ls os ns k with
  |none=>
   have:gW ws ls os ns (k+1)=gW ws ls os ns k:=by
    show gW ws ls os ns k++(qN ws ls os ns k).toList=_
    rw[e];exact bD5 _
   rw[this];exact⟨i1,i2⟩
  |some h=>
   obtain⟨n1,n2⟩:=bc1 e
   rw[bb9 e,<- bC5]
   refine⟨bG9.mpr ⟨i1,bC9 _ _,λx hx y hy=>?_⟩,λx hx=>?_⟩
   ·rw[bA1.mp hy];intro z;subst z;exact n2 hx
   ·rcases bB8.mp hx with hx|hx
    ·exact i2 x hx
    ·rw[bA1.mp hx];exact po.mem_iff.mp n1
theorem af1 (hs:aX ws.length ns=true):∀k,(bA ws ls ns k).Nodup
 |0=>(dJ (c8 hs).1).imp λh=>bH1 h
 |k+1=>by
  show (bA ws ls ns k++nextOf ws ls (bA ws ls ns k)).Nodup
  refine bG9.mpr ⟨af1 hs k,(ad0 ws.length).filter _,λx hx y hy=>?_⟩
  intro z;subst z
  exact bM0 (zA (bB3.mp hy).2) hx
end
def bc3:Option Int->PV
 |none=>.non
 |some h=>.int h
theorem kO {i:Nat}{h:Int}{g:Bool}{ρ:bN}{Q:bN->Prop}(q:Q (ρ.set i (some (.sh true (.int h))))):bQ i (.int h) g ρ Q:=by
 show Q (ρ.set i (some (.sh (g||true) (.int h))))
 rw[Bool.or_true];exact q
def iB (ns S:af):Int:=(ns.length:Int)-(((ns.filter λx=>decide (x∈S)).length:Nat):Int)
def tN:bF:=λxs Q=>∃x ns ps S,xs = [x,.dK ps]/\cX x ns/\DS ps S/\ns.length<=10000/\Q (.int (iB ns S))
def af2:aI:=(bC (iU (aB dC (a6 (a5 0) a9)) (aB nZ (a6 (a5 0) (a6 (a5 1) a9)))))
theorem bc4:bX af2 ["hearths","inside"] tN:=by
 rintro xs Q ⟨x,ns,ps,S,rfl,hx,d,hl,q⟩
 exact⟨_,rfl,_,_,rfl,hx.len,_,rfl,_,rfl,x,ns,ps,S,rfl,hx,d,hl,_,_,rfl,rfl,trivial,q⟩
def o9:bF:=λxs Q=>∃x ns y ms,xs = [x,y]/\cX x ns/\cX y ms/\ns.length<=10000/\ms.length<=1000/\Q (.tup (intz (ns.filter λz=>!decide (z∈ms))))
def af3:aI:=(aF (bE 2 (aB gU (a6 (a5 1) a9)))
 (bC (aB dW (a6 (cQ (dD (a5 0)) [none,some 2] (bQ 0) (aY (iR true (a5 0) (a5 1))) (a5 0)) a9))))
theorem bc5:bX af3 ["hearths","some","gone"] o9:=by
 rintro xs Q ⟨x,ns,y,ms,rfl,hx,hy,hl,hm,q⟩
 refine⟨_,rfl,y,ms,rfl,hy,hm,λps d=>⟨trivial,?_⟩⟩
 refine⟨_,rfl,_,hx.seq,mF hx,by rw[bH];omega,λi acc=>acc=intz ((ns.take i).filter λz=>!decide (z∈ms)),rfl,?_,?_⟩
 ·rintro i z acc hz rfl
  obtain⟨n,rfl,hn⟩:=gH hz
  have tk:=lJ (p:=λz=>!decide (z∈ms)) hn
  refine⟨_,rfl,_,rfl,_,.inl ⟨ps,Sum.inl n,rfl,rfl,rfl⟩,_,rfl,?_⟩
  show if (!(bW ps (Sum.inl n:aC)).isSome)=true then _ else _
  rw[d.has n]
  by_cases h:n∈ms
  ·rw[bz9 h]at tk ⊢
   refine aT ?_
   show _=intz (List.filter _ (List.take (i+1) ns))
   rw[tk];exact congrArg intz (bD5 _).symm
  ·rw[bA0 h]at tk ⊢
   refine b9 ⟨_,rfl,trivial,?_⟩
   show _=intz (List.filter _ (List.take (i+1) ns))
   rw[tk,eQ];rfl
 ·rintro acc rfl
  rw[bH,bD8]
  exact⟨⟨_,_,rfl,rfl,cS _,trivial,q⟩,λns z=>by cases z⟩
def fO (ws:af)(ls:aa)(S:af)(h:Int):Bool:=decide (iB (aM ls h) S<ws.getD h.toNat 0)
def stay (ws:af)(ls:aa)(S:af):af:=S.filter (fO ws ls S)
theorem qO {n:Nat}{S:af}(h:aX n S=true)(p:Int->Bool):aX n (S.filter p)=true:=by
 obtain⟨h1,h2⟩:=c8 h
 have u:o7 (n:Int) (S.filter p):=⟨(dJ h1).filter p,λx hx=>h2 x (bB3.mp hx).1,by
  have:=kL h
  have:=bJ9 p S
  omega⟩
 exact u.set
def tO:bF:=λxs Q=>∃ws ls x S,xs = [bL ws ls,.lst (eR ws.length ls),x]/\Wb ws ls/\cX x S/\aX ws.length S=true/\Q (.tup (intz (stay ws ls S)))
def af4:aI:=(aF (bE 3 (aB gU (a6 (a5 2) a9)))
 (bC (aB dW (a6 (cQ (dD (a5 2)) [none,some 3,some 1,some 0] (bQ 0) (aY (jG (aB tN (a6 (bZ (a5 2) (a5 0)) (a6 (a5 1) a9))) (bZ (bZ (a5 3) (qC (.int 0))) (a5 0)))) (a5 0)) a9))))
theorem bc6:bX af4 ["web","around","block","inside"] tO:=by
 rintro xs Q ⟨ws,ls,x,S,rfl,wb,hx,hs,q⟩
 have few:=wb.few
 have ln:=kL hs
 have most:=wb.most
 refine⟨_,rfl,x,S,rfl,hx,by omega,λps d=>⟨trivial,?_⟩⟩
 refine⟨_,rfl,_,hx.seq,mF hx,by rw[bH];omega,λi acc=>acc=intz ((S.take i).filter (fO ws ls S)),rfl,?_,?_⟩
 ·rintro i z acc hz rfl
  obtain⟨h,rfl,hh⟩:=gH hz
  have hm:=(c8 hs).2 h (bD7 hh)
  have nl:=rS ls h
  have tk:=lJ (p:=fO ws ls S) hh
  refine⟨_,rfl,_,rfl,_,_,_,rfl,rfl,zI hm.1 hm.2,_,rfl,_,aM ls h,ps,S,rfl,.inr rfl,d,by omega,_,rfl,_,_,_,rfl,rfl,rfl,_,rfl,_,_,_,rfl,rfl,zJ hm.1 hm.2,_,_,rfl,rfl,_,rfl,?_⟩
  show if fO ws ls S h=true then _ else _
  cases hk:fO ws ls S h with
  |true=>
   rw[hk,if_pos rfl]at tk
   refine b9 ⟨_,rfl,trivial,?_⟩
   show _=intz (List.filter _ (List.take (i+1) S))
   rw[tk,eQ];rfl
  |false=>
   rw[hk,if_neg (by decide),bD5]at tk
   refine aT ?_
   show _=intz (List.filter _ (List.take (i+1) S))
   rw[tk]
 ·rintro acc rfl
  rw[bH,bD8]
  exact⟨⟨_,_,rfl,rfl,cS _,trivial,q⟩,λns z=>by cases z⟩
section
variable {ws:af}{ls:aa}{S T:af}
theorem bc7 {ns:af}(st:∀x∈T,x∈S):iB ns S<=iB ns T:=by
 have h2:(ns.filter λx=>decide (x∈T)).length<=(ns.filter λx=>decide (x∈S)).length:=by
  rw[<- List.countP_eq_length_filter,<- List.countP_eq_length_filter]
  exact List.countP_mono_left λx _ hx=>bz9 (st x (bE6 hx))
 unfold iB;omega
theorem bc8 {h:Int}(st:∀x∈T,x∈S)(hs:fO ws ls T h=true):fO ws ls S h=true:=by
 unfold fO at hs ⊢
 have h1:=bE6 hs
 have h2:=bc7 (ns:=aM ls h) st
 exact bz9 (by omega)
structure af5 (ws:af)(ls:aa)(S G:af):Prop where
 cold:stay ws ls G=G
 sub:∀x∈G,x∈S
 most:∀U,stay ws ls U=U->(∀x∈U,x∈S)->∀x∈U,x∈G
theorem zU {n:Nat}{A B:af}(ha:aX n A=true)(hb:aX n B=true)(h:∀x,x∈A↔x∈B):A=B:=by
 have ua:=dJ (c8 ha).1
 have ub:=dJ (c8 hb).1
 have p:A.Perm B:=(List.perm_ext_iff_of_nodup (ua.imp λz=>bH1 z) (ub.imp λz=>bH1 z)).mpr h
 exact ad3 p (ua.imp λz=>bQ4 z) (ub.imp λz=>bQ4 z)
theorem bc9 {S T:af}{h:Int}(hin:h∉S)(ht:∀x,x∈aM ls h->(x∈T↔x∉S)):kin ws ls S h = !fO ws ls T h:=by
 have e:(((aM ls h).filter λx=>decide (x∈S)).length:Int)=iB (aM ls h) T:=by
  unfold iB
  have:∀L:af,(∀x,x∈L->(x∈T↔x∉S))->(L.filter λx=>decide (x∈S)).length+(L.filter λx=>decide (x∈T)).length=L.length:=λL hL=>by
   induction L with
   |nil=>rfl
   |cons a r ih=>
    have i:=ih λx hx=>hL x (bA9 _ hx)
    have ha:=hL a bA4
    by_cases h1:a∈S
    ·have h2:a∉T:=λz=>ha.mp z h1
     simp only[bI7,bz9 h1,bA0 h2,if_true,bC6,bG2,bC7];omega
    ·have h2:a∈T:=ha.mpr h1
     simp only[bI7,bz9 h2,bA0 h1,if_true,bC6,bG2,bC7];omega
  have:=this _ ht
  omega
 unfold kin fO
 rw[e,bA0 hin]
 simp only[Bool.not_false,Bool.true_and]
 by_cases hc:ws.getD h.toNat 0<=iB (aM ls h) T
 ·rw[bz9 hc,bA0 (by omega)];rfl
 ·rw[bA0 hc,bz9 (by omega)];rfl
end
section
variable {ws:af}{ls:aa}{ns:af}
theorem bd0 (wb:Wb ws ls){h x:Int}(hx:x∈aM ls h):x∈rng ws.length:=by
 unfold aM at hx
 obtain⟨l,hl,hx⟩:=List.mem_flatMap.mp hx
 have:=wb.links l hl
 rcases bB8.mp hx with hx|hx
 ·split at hx
  ·rw[bA1.mp hx];exact fB.mpr this.2
  ·cases hx
 ·split at hx
  ·rw[bA1.mp hx];exact fB.mpr this.1
  ·cases hx
def dA (n:Nat)(S:af):af:=(rng n).filter λx=>!decide (x∈S)
theorem gJ {n:Nat}{S:af}{x:Int}:x∈dA n S↔x∈rng n/\x∉S:=by
 unfold dA;rw[bB3];simp
theorem af6 (n:Nat)(S:af):aX n (dA n S)=true:=by
 have u:o7 (n:Int) (dA n S):=⟨by
   refine List.Pairwise.filter _ ?_
   unfold rng
   rw[bG8]
   exact List.pairwise_lt_range.imp λh=>by omega,λx hx=>fB.mp (gJ.mp hx).1,by
   have:=bJ9 (λx=>!decide (x∈S)) (rng n)
   rw[eO]at this
   show ((List.filter (λx=>!decide (x∈S)) (rng n)).length:Int)<=_
   omega⟩
 exact u.set
theorem af7 (wb:Wb ws ls){S:af}{h:Int}(hin:h∉S):kin ws ls S h = !fO ws ls (dA ws.length S) h:=
 bc9 hin λx hx=>⟨λz=>(gJ.mp z).2,λz=>gJ.mpr ⟨bd0 wb hx,z⟩⟩
theorem bd1 (wb:Wb ws ls){m:Nat}(en:cP ws ls ns m):af5 ws ls (dA ws.length ns) (dA ws.length (bA ws ls ns m)):=by
 have grow:∀k,∀x∈ns,x∈bA ws ls ns k:=λk x hx=>by
  induction k with
  |zero=>exact hx
  |succ k ih=>exact bD2 _ ih
 refine⟨bG5.mpr λh hh=>?_,λx hx=>?_,λU hU us x hx=>?_⟩
 ·have hm:=gJ.mp hh
  have h1:=List.filter_eq_nil_iff.mp (show (rng ws.length).filter (kin ws ls (bA ws ls ns m)) = [] from en.2) h hm.1
  rw[af7 wb hm.2]at h1
  simpa using h1
 ·have hm:=gJ.mp hx
  exact gJ.mpr ⟨hm.1,λz=>hm.2 (grow m x z)⟩
 ·have key:∀k,∀y∈U,y∉bA ws ls ns k:=λk=>by
   induction k with
   |zero=>exact λy hy=>(gJ.mp (us y hy)).2
   |succ k ih=>
    intro y hy z
    rcases bB8.mp (show y∈bA ws ls ns k++nextOf ws ls (bA ws ls ns k) from z) with z|z
    ·exact ih y hy z
    ·have hk:=(bB3.mp z).2
     rw[af7 wb (ih y hy)]at hk
     have sy:fO ws ls U y=true:=(bB3.mp (show y∈stay ws ls U by rw[hU];exact hy)).2
     have:=bc8 (S:=dA ws.length (bA ws ls ns k)) (λv hv=>gJ.mpr ⟨(gJ.mp (us v hv)).1,ih v hv⟩) sy
     rw[this]at hk;cases hk
  exact gJ.mpr ⟨(gJ.mp (us x hx)).1,key m x hx⟩
end
end Core
namespace Raw
open PySem PySem.W PyProof.Rows
section
variable {prog:Program}{w:World}{A:Around}{E:Value→Shared→Prop}{s:Shared}{T:String}{r d:Addr}{n:Nat}{P:Nat→Value→Prop}{OK:Heap→Prop}
theorem bd2 {R:Result->Shared->Prop}(K:KdlSrc prog w T r d n P OK)(hh:A.handled=none)(hok:OK s.heap)(hn:n<=sizeLine)(hR:∀h' tk acc c,(∀b o,b≠s.heap.objs.size->(s.heap.push { cls:=.type "list",data:=.seq ([]:List Value).toArray }).get? b=some o->h'.get? b=some o)->h'.get? s.heap.objs.size=some { cls:=.type "list",dict:=none,data:=.seq acc c,slots:=#[] }->ItemsOf P acc n->R (.ok (.ret (.ref s.heap.objs.size))) { s with heap:=h',toks:=tk }) :
  codeAny (model prog w) A (.builtin "proto.collect" ⟨[.ref r],[]⟩) R s:=by
 have lt:=K.there _ hok
 refine codeAny_builtin PySem.F.entry_proto_collect ?_
 rw[Around.under_plainId PySem.F.plain_proto_collect _]
 show wpAny _ A.in1 (newList [] >>= λl=>again (.builtin "list.__iadd__" ⟨[l,.ref r],[]⟩)) _ _ s
 refine bz7 (bI8 ?_)
 refine bA8 ⟨plainId_quiet PySem.F.plain_list_iadd _,codeAny_builtin PySem.F.entry_list_iadd ?_⟩
 rw[Around.under_plainId PySem.F.plain_list_iadd _]
 show wpAny _ A.in1 (Builtin.List.listExtendWith (.ref s.heap.objs.size) (.ref r) (.ref s.heap.objs.size)) _ _ _
 exact kdl_extend (s:={ s with heap:=s.heap.push { cls:=.type "list",data:=.seq ([]:List Value).toArray } }) (R:=R) K hh (K.keep _ _ hok λb _ o e=>bz8 _ e) s.heap.objs.size (bJ4 lt.1) (bJ4 lt.2) _ 0 (bB4 _ rfl) hR hn
theorem bd3 {Q:List Value->Shared->Prop}(K:KdlSrc prog w T r d n P OK)(hh:A.handled=none)(hok:OK s.heap)(hn:n<=sizeLine)(hQ:∀h' tk acc,(∀b o,s.heap.get? b=some o->h'.get? b=some o)->s.heap.objs.size<=h'.objs.size->ItemsOf P acc n->Q acc.toList { s with heap:=h',toks:=tk }) :
  wpAny (model prog w) A (collect (.ref r)) Q E s:=by
 unfold collect
 refine bz7 (wpAny_runValue (bd2 (s:=s) K hh hok hn λh' tk acc c kp at1 it=>?_))
 show wpAny _ A (load s.heap.objs.size >>= _) _ _ _
 refine bz7 (wpAny_load at1 ?_)
 exact bA8 (hQ h' tk acc (λb o e=>kp b o (bD4 (bB2 e)) (bz8 _ e)) (bH0 (bB2 at1)) it)
theorem bd4 {Q:Value->Shared->Prop}{G:af->Prop}(K:KdlSrc prog w T r d n P OK)(hh:A.handled=none)(hok:OK s.heap)(hn:n<64)(hI:∀acc,ItemsOf P acc n->∃ns,IntsAre acc.toList ns/\G ns)(h:∀h' tk a (out:Array Value) (ns ns':af) e,(∀b o,s.heap.get? b=some o->h'.get? b=some o)->s.heap.objs.size<=a->h'.get? a=some (seqObj "list" out e)->IntsAre out.toList ns'->G ns->ns'.Perm ns->ns'.Pairwise (· <= ·)->Q (.ref a) { s with heap:=h',toks:=tk }) :
  wpAny (model prog w) A (call (.builtin "sorted") [.ref r]) Q E s:=by
 have hsl:n<=sizeLine:=bE8 (bH0 hn) (by decide)
 refine Calls.call_function_entry kind_sorted plain_sorted entry_sorted (args_sorted1 _) ?_
 unfold Builtin.«sorted»
 refine bz7 (m:=checkCount "sorted" 1 1 _) (bA8 ?_)
 refine bz7 (bd3 (s:=s) K hh hok hsl λh' tk acc kp hs it=>?_)
 obtain⟨ns,hi,g⟩:=hI acc it
 have hz:acc.toList.length<64:=by rw[bO5,it.1];exact hn
 refine bz7 (wpAny_newList ?_ (bE8 (bH0 hz) (by decide)))
 have hoL:(h'.push (seqObj "list" acc.toList.toArray 0)).get? h'.objs.size=some (seqObj "list" acc.toList.toArray 0):=bB4 _ rfl
 show wpAny _ _ _ _ _ { s with heap:=h'.push (seqObj "list" acc.toList.toArray 0),toks:=tk }
 refine bz7 (bL1 (bG7 slot_list_sort ⟨_,hoL,rfl⟩ entry_list_sort (list_sort_tree hoL hi hz λout ns' a1 a2 a3=>⟨_,rfl,?_⟩) (args_list_sort _)))
 obtain⟨e,he⟩:=sortedHeap_at (vs:=acc.toList) (out:=out) hoL
 refine bA8 ⟨_,rfl,h _ tk h'.objs.size out ns ns' e (λb o hb=>?_) hs he a1 g a2 a3⟩
 have lt:=bB2 (kp b o hb)
 rw[sortedHeap_old (bD4 lt) (by rw[size_push'];exact Nat.lt_succ_of_lt lt)]
 exact bz8 _ (kp b o hb)
end
end Raw
namespace L2
open PySem PySem.Spec PyProof.Rows
section
variable {X:Cx}
theorem bd5 (hc:X.calm=true):cN X (.builtin "sorted") (λxs H Q=>∃a kvs ns,xs = [.ref a]/\H a=some (.dK kvs)/\kvs.map (·.1)=ns.map Sum.inl/\ns.length<64/\∀l (ms:af),H l=none->ms.Perm ns->ms.Pairwise (· <= ·)->Q (.ref l) (upd H l (.lst (ms.map V.int)))):=by
 intro pins s σ H xs us Q I r h
 obtain⟨a,kvs,ns,rfl,ha,hk,h64,q⟩:=h
 obtain⟨u,rfl,ru⟩:=eU r
 cases ru
 obtain⟨es,ep,rd,far,vk,z⟩:=aH0 I ha
 have hl:=vk.length
 have hl2:=congrArg List.length hk
 rw[bA5,bA5]at hl hl2
 have hsz:es.toList.length=es.size:=bO5
 have e1:(kvs.map λp=>kV p.1)=ns.map V.int:=by
  have:(kvs.map λp=>kV p.1)=(kvs.map (·.1)).map kV:=by rw[bM7];rfl
  rw[this,hk,bM7];rfl
 rw[e1]at vk
 refine Raw.bd4 (G:=λms=>ms=ns) (Raw.R6 far) (I.ok.hd hc) rd (by omega) (λacc it=>⟨ns,by rw[R7 it];exact jC vk,rfl⟩) λh' tk l out ns1 ns' e kp hn he a1 g a2 a3=>?_
 subst g
 have hlen:ns'.length=ns1.length:=a2.length_eq
 refine⟨.ref l,upd H l (.lst (ns'.map V.int)),I.laid (t':=tk) kp hn ⟨?_,out.toList,e,pF a1,by simpa using he⟩,rfl,q _ ns' (I.hok.fresh hn) a2 a3⟩
 rw[bA5,hlen]
 exact bH0 (pG (by omega))
end
end L2
namespace PP
open PySem L2 PyProof.Rows
section
variable {X:Cx}{a b e:Expr}{ta tb te:aD}{tr:dB}{pos p2:Pos}
def tP:List PV->(PV->Prop)->Prop:=λxs Q=>∃(ps:List (aC×PV)) (ns:af),xs = [.dK ps]/\ps.map (·.1)=ns.map Sum.inl/\ns.length<64/\∀ms:af,ms.Perm ns->ms.Pairwise (· <= ·)->Q (.lst (intz ms))
theorem bd6:e8 X tP (λxs H Q=>∃a kvs ns,xs = [.ref a]/\H a=some (.dK kvs)/\kvs.map (·.1)=ns.map Sum.inl/\ns.length<64/\∀l (ms:af),H l=none->ms.Perm ns->ms.Pairwise (· <= ·)->Q (.ref l) (upd H l (.lst (ms.map V.int)))):=by
 rintro H vs xs Q Q' r ⟨ps,ns,rfl,e,hl,q⟩ k
 obtain⟨v,rfl,r1⟩:=r.one
 cases r1 with
 |@dK a kvs _ m h e2 r2=>
  exact⟨a,kvs,ns,rfl,h,e2.trans e,hl,λl ms hl' p o=>k _ _ _ (bK hl' _) (.lst hl' bJ (Reps.intz ms)) (q ms p o)⟩
theorem af8 (B:Bt X.mg)(hc:X.calm=true)(ha:QA X [e] tr)(hg:Gl X "sorted":=by rfl)(he:starEach [e] X.env=(false,eval e X.env)::starEach [] X.env:=by rfl)(hpl:(backTo pos (starEach [] X.env)).any (·.1)=false:=by rfl):QE X (.Call (.Name "sorted" p2) [e] [] pos) (aB tP tr):=
 gS (bd5 hc) bd6 hg B.sorted bN6 ha (he:=he) (hpl:=hpl)
end
end PP
namespace Core
open PySem L2 PP
def iC (k:Nat)(r:af):List (aC×PV):=r.map λh=>((Sum.inl h:aC),PV.int (k:Int))
def kQ (rs:ae):List (aC×PV):=(rs.mapIdx iC).flatten
theorem bd7 (rs:ae)(r:af):kQ (rs++[r])=kQ rs++iC rs.length r:=by
 unfold kQ
 rw[List.mapIdx_append,List.flatten_append]
 simp
theorem af9 (k:Nat)(r:af):(iC k r).map (·.1)=r.map Sum.inl:=by
 unfold iC;rw[bM7];rfl
theorem ag0:∀(rs:ae) (g:Nat->Nat),((rs.mapIdx λi r=>iC (g i) r).flatten).map (·.1)=rs.flatten.map (Sum.inl:Int->aC)
 |[],_=>rfl
 |r::t,g=>by
  rw[List.mapIdx_cons,bK8,bK8,bC3,bC3,af9,ag0 t λi=>g (i+1)]
theorem ag1 (rs:ae):(kQ rs).map (·.1)=rs.flatten.map (Sum.inl:Int->aC):=ag0 rs λi=>i
theorem ag2 {ps:List (aC×PV)}{h:Int}{v:PV}{S:af}(e:ps.map (·.1)=S.map Sum.inl)(hn:h∉S):cT ps (Sum.inl h:aC) v=ps++[(Sum.inl h,v)]:=by
 unfold cT
 rw[if_neg]
 intro z
 rw[List.any_eq_true]at z
 obtain⟨p,hp,hq⟩:=z
 have:p.1∈ps.map (·.1):=bF0.mpr ⟨p,hp,rfl⟩
 rw[e,bE6 hq]at this
 obtain⟨y,hy,e2⟩:=bF0.mp this
 exact hn (Sum.inl.inj e2▸hy)
theorem bd8 {k:Nat}{r:af}{i:Nat}{n:Int}(h:r[i]? = some n):iC k (r.take (i+1))=iC k (r.take i)++[(Sum.inl n,PV.int (k:Int))]:=by
 unfold iC
 rw[bD9,h,bC3];rfl
theorem lW {ls:aa}{h x:Int}:x∈aM ls h↔∃l∈ls,(l.1=h/\l.2=x)∨(l.2=h/\l.1=x):=by
 unfold aM
 rw[List.mem_flatMap]
 constructor
 ·rintro⟨l,hl,hx⟩
  refine⟨l,hl,?_⟩
  rcases bB8.mp hx with hx|hx
  ·split at hx
   ·rename_i e;exact .inl ⟨e,(bA1.mp hx).symm⟩
   ·cases hx
  ·split at hx
   ·rename_i e;exact .inr ⟨e,(bA1.mp hx).symm⟩
   ·cases hx
 ·rintro⟨l,hl,⟨e1,e2⟩|⟨e1,e2⟩⟩
  ·exact⟨l,hl,bD2 _ (by rw[if_pos e1,e2];exact bO0 _)⟩
  ·exact⟨l,hl,bD1 _ (by rw[if_pos e1,e2];exact bO0 _)⟩
theorem ag3 {h:Int}:∀{ls:aa},(∀l∈ls,l.1<l.2)->ls.Pairwise fC->(aM ls h).Nodup
 |[],_,_=>.nil
 |l::r,hl,hp=>by
  have ih:=ag3 (h:=h) (ls:=r) (λm hm=>hl m (bA9 _ hm)) (bM1.mp hp).2
  have h0:=hl l bA4
  have e:aM (l::r) h=((if l.1=h then [l.2] else [])++(if l.2=h then [l.1] else []))++aM r h:=rfl
  rw[e]
  refine bG9.mpr ⟨?_,ih,λx hx y hy q=>?_⟩
  ·by_cases e1:l.1=h
   ·rw[if_pos e1,if_neg (by omega),bD5];exact bC9 _ _
   ·rw[if_neg e1]
    split
    ·exact bC9 _ _
    ·exact .nil
  ·subst q
   obtain⟨m,hm,c⟩:=lW.mp hy
   have h1:=hl m (bA9 _ hm)
   have h2:=(bM1.mp hp).1 m hm
   have c':(l.1=h/\l.2=x)∨(l.2=h/\l.1=x):=by
    rcases bB8.mp hx with hx|hx
    ·split at hx
     ·rename_i e;exact .inl ⟨e,(bA1.mp hx).symm⟩
     ·cases hx
    ·split at hx
     ·rename_i e;exact .inr ⟨e,(bA1.mp hx).symm⟩
     ·cases hx
   unfold fC at h2
   omega
end Core
namespace L2
open PySem PySem.Spec PyProof.Rows
theorem ag4:∀(n:Nat) (ns:af),n<=ns.length->preSum (λi=>ns.getD i 0) n=(ns.take n).sum
 |0,_,_=>by simp[preSum]
 |n+1,ns,h=>by
  show preSum (λi=>ns.getD i 0) n+ns.getD n 0=_
  have h1:ns[n]? = some (ns[n]'(by omega)):=bA6 (by omega)
  have h2:ns.take (n+1)=ns.take n++[ns[n]'(by omega)]:=by rw[bD9,h1];rfl
  have h3:ns.getD n 0=ns[n]'(by omega):=by rw[bB9,h1];rfl
  rw[ag4 n ns (by omega),h2,h3,List.sum_append,List.sum_cons,List.sum_nil]
  omega
section
variable {X:Cx}
theorem bd9 (hc:X.calm=true):cN X (.builtin "sum") (λxs H Q=>∃(a:Addr) (ns:af),xs = [.ref a]/\(aQ X.K H a (ns.map V.int)∨aH X.K H a (ns.map V.int))/\Q (.int ns.sum) H):=by
 intro pins s σ H xs us Q I r h
 obtain⟨a,ns,rfl,hq,q⟩:=h
 obtain⟨u,rfl,ru⟩:=eU r
 cases ru
 have hh:X.A.in1.handled=none:=I.ok.hd hc
 have fin:∀(its:List Value) (o:Obj) (wr:List Addr) (hw:∀b∈wr,s.heap.objs.size<=b),aO (ns.map V.int) its->∀s' t',Moved wr (λa b=>b=a) { s with heap:=s.heap.push o } s'->
   ∃x H',a7 X pins σ H' s'/\b6 x (.int (preSum (λi=>ns.getD i 0) its.toArray.size) t')/\Q x H':=λits o wr hw rv s' t' hm=>by
  have hl:=rv.length
  rw[bA5]at hl
  have e:=Moved.eq_with hm
  have e2:preSum (λi=>ns.getD i 0) its.toArray.size=ns.sum:=by rw[bA2,<- hl,ag4 _ _ (bA3 _),bD8]
  rw[e2,e]
  refine⟨.int ns.sum,H,I.kept (t':=s'.toks) (h':=s'.heap) λb o' eb=>hm.heap b o' (λz=>?_) (bz8 _ eb),⟨t',rfl⟩,q⟩
  exact absurd (bB2 eb) (Nat.not_lt.mpr (hw b z))
 have val:∀(its:List Value),aO (ns.map V.int) its->∀(i:Nat) (v:Value),its.toArray[i]? = some v->∃t,v = .int (ns.getD i 0) t:=λits rv i v hv=>by
  have hi:its[i]? = some v:=by simpa using hv
  have hl:=rv.length
  rw[bA5]at hl
  have hil:i<ns.length:=by rw[hl];exact (bB0.mp hi).1
  obtain⟨u,e1,e2⟩:=rv.get (i:=i) (x:=.int ns[i]) (by simp[hil])
  rw[hi]at e1;cases e1
  obtain⟨t,rfl⟩:=e2
  exact⟨t,by rw[bB9,bA6 hil];rfl⟩
 rcases hq with hq|hq
 ·obtain⟨its,rv,p,hz⟩:=I.list hq
  have hlt:a<s.heap.objs.size:=by obtain⟨o,e,_⟩:=p.isList;exact bB2 e
  refine call_sum_walkAnyS (wpAny_pyIter_list p.isList ?_)
  refine⟨s.heap.objs.size,_,_,_,_,_,_,λi=>ns.getD i 0,rfl,(Walks.list hh s.heap.objs.size a (bD4 hlt) its.toArray).toS,⟨⟨_,bB4 _ rfl,rfl,rfl⟩,p.isList.push _⟩,?_,val its rv,λs' t' hm=>fin its _ _ ?_ rv s' t' hm⟩
  ·intro b hb
   have hs:(s.heap.push { cls:=.type "list_iterator",data:=.fields #[.ref a,.int 0 0] }).objs.size=s.heap.objs.size+1:=size_push' _ _
   show b<(s.heap.push _).objs.size
   rw[size_push']
   rcases bA7.mp hb with rfl|hb
   ·exact Nat.lt_succ_self _
   ·rw[bA1.mp hb];exact Nat.lt_succ_of_lt hlt
  ·intro b hb
   rw[bA1.mp hb];exact bA3 _
 ·obtain⟨its,rv,p,hz⟩:=I.tuple hq
  have hlt:a<s.heap.objs.size:=by obtain⟨o,e,_⟩:=p;exact bB2 e
  refine call_sum_walkAnyS (bL7 p ?_)
  refine⟨s.heap.objs.size,_,_,_,_,_,_,λi=>ns.getD i 0,rfl,(Walks.tuple hh s.heap.objs.size a (bD4 hlt) its.toArray).toS,⟨⟨_,bB4 _ rfl,rfl,rfl⟩,?_⟩,?_,val its rv,λs' t' hm=>fin its _ _ ?_ rv s' t' hm⟩
  ·obtain⟨o,e,h⟩:=p
   exact⟨o,bz8 _ e,h⟩
  ·intro b hb
   show b<(s.heap.push _).objs.size
   rw[size_push']
   rcases bA7.mp hb with rfl|hb
   ·exact Nat.lt_succ_self _
   ·rw[bA1.mp hb];exact Nat.lt_succ_of_lt hlt
  ·intro b hb
   rw[bA1.mp hb];exact bA3 _
theorem be0 (hc:X.calm=true):cN X (.builtin "any") (λxs H Q=>∃(a:Addr) (bs:List Bool),xs = [.ref a]/\aQ X.K H a (bs.map V.bl)/\Q (.bl (bs.any id)) H):=by
 intro pins s σ H xs us Q I r h
 obtain⟨a,bs,rfl,hq,q⟩:=h
 obtain⟨u,rfl,ru⟩:=eU r
 cases ru
 obtain⟨its,rv,p,hz⟩:=I.list hq
 have hl:=rv.length
 rw[bA5]at hl
 have hlt:a<s.heap.objs.size:=by obtain⟨o,e,_⟩:=p.isList;exact bB2 e
 refine call_any_walk (wpAny_pyIter_list p.isList ?_)
 have hh:X.A.in1.handled=none:=I.ok.hd hc
 refine⟨s.heap.objs.size,_,_,_,_,_,λi=>bs.getD i false,rfl,Walks.list hh s.heap.objs.size a (bD4 hlt) its.toArray,⟨⟨_,bB4 _ rfl,rfl,rfl⟩,p.isList.push _⟩,?_,λh' tk kp=>?_⟩
 ·intro i v s' Q' E' hP hQ'
  have hi:its[i]? = some v:=by simpa using hP
  have hil:i<bs.length:=by rw[hl];exact (bB0.mp hi).1
  obtain⟨u,e1,e2⟩:=rv.get (i:=i) (x:=.bl bs[i]) (by simp[hil])
  rw[hi]at e1;cases e1
  cases e2
  have:bs.getD i false=bs[i]:=by rw[bB9,bA6 hil];rfl
  have hQ2:Q' (bs.getD i false) s':=hQ'
  rw[this]at hQ2
  exact bK6 hQ2
 ·have any_eq:(List.range its.toArray.size).any (λi=>bs.getD i false)=bs.any id:=by
   rw[bA2,<- hl]
   clear q rv hz hl hq hlt p hh kp
   induction bs with
   |nil=>rfl
   |cons b r ih=>
    rw[bC7,List.range_succ_eq_map,bP0,List.any_map,bP0,<- ih]
    rfl
  rw[any_eq]
  refine⟨.bl (bs.any id),H,I.kept (t':=tk) (h':=h') λb o e=>kp b o (λz=>?_) (bz8 _ e),rfl,q⟩
  rw[bA1.mp z]at e
  exact absurd (bB2 e) (bF9 _)
end
end L2
namespace PP
open PySem L2 PyProof.Rows
section
variable {X:Cx}{a b e:Expr}{ta tb te:aD}{tr:dB}{pos p2:Pos}
def zV:List PV->(PV->Prop)->Prop:=λxs Q=>∃x ns,xs = [x]/\iQ x=some (intz ns)/\Q (.int ns.sum)
theorem be1:e8 X zV (λxs H Q=>∃(a:Addr) (ns:af),xs = [.ref a]/\(aQ X.K H a (ns.map V.int)∨aH X.K H a (ns.map V.int))/\Q (.int ns.sum) H):=by
 rintro H vs xs Q Q' r ⟨x,ns,rfl,e,q⟩ k
 obtain⟨v,rfl,r1⟩:=r.one
 obtain⟨a,us,rfl,hs,r2⟩:=r1.seq e
 obtain rfl:=r2.ofInts
 exact⟨a,ns,rfl,hs,k _ _ _ (aE.refl _) (.int _) q⟩
theorem be2 (B:Bt X.mg)(hc:X.calm=true)(ha:QA X [e] tr)(hg:Gl X "sum":=by rfl)(he:starEach [e] X.env=(false,eval e X.env)::starEach [] X.env:=by rfl)(hpl:(backTo pos (starEach [] X.env)).any (·.1)=false:=by rfl):QE X (.Call (.Name "sum" p2) [e] [] pos) (aB zV tr):=
 gS (bd9 hc) be1 hg B.sum PyProof.Rows.boot_sum ha (he:=he) (hpl:=hpl)
def zW:List PV->(PV->Prop)->Prop:=λxs Q=>∃bs:List Bool,xs = [.lst (bs.map PV.bl)]/\Q (.bl (bs.any id))
theorem be3:e8 X zW (λxs H Q=>∃(a:Addr) (bs:List Bool),xs = [.ref a]/\aQ X.K H a (bs.map V.bl)/\Q (.bl (bs.any id)) H):=by
 rintro H vs xs Q Q' r ⟨bs,rfl,q⟩ k
 obtain⟨v,rfl,r1⟩:=r.one
 obtain⟨a,us,rfl,_,h,r2⟩:=r1.sqL
 obtain rfl:=r2.ofBls
 exact⟨a,bs,rfl,aQ.of h,k _ _ _ (aE.refl _) (.bl _) q⟩
theorem be4 (B:Bt X.mg)(hc:X.calm=true)(ha:QA X [e] tr)(hg:Gl X "any":=by rfl)(he:starEach [e] X.env=(false,eval e X.env)::starEach [] X.env:=by rfl)(hpl:(backTo pos (starEach [] X.env)).any (·.1)=false:=by rfl):QE X (.Call (.Name "any" p2) [e] [] pos) (aB zW tr):=
 gS (be0 hc) be3 hg B.any PyProof.Rows.boot_any ha (he:=he) (hpl:=hpl)
end
def jL (xs ys:List PV):List PV:=List.zipWith (λx y=>PV.tup [x,y]) xs ys
theorem zX (xs ys:List PV):(jL xs ys).length=min xs.length ys.length:=by unfold jL;rw[List.length_zipWith]
theorem ag5 {xs ys:List PV}{i:Nat}{x y:PV}(h:xs[i]? = some x)(h':ys[i]? = some y):(jL xs ys)[i]? = some (.tup [x,y]):=by
 unfold jL;rw[List.getElem?_zipWith,h,h']
theorem be5 {xs ys:List PV}{i:Nat}{z:PV}(h:(jL xs ys)[i]? = some z):∃x y,xs[i]? = some x/\ys[i]? = some y/\z = .tup [x,y]:=by
 unfold jL at h
 rw[List.getElem?_zipWith]at h
 cases e:xs[i]? with
 |none=>rw[e]at h;cases h
 |some x=>
  cases e':ys[i]? with
  |none=>rw[e,e']at h;cases h
  |some y=>rw[e,e']at h;exact⟨x,y,rfl,rfl,(bE0 h).symm⟩
theorem be6 {K:ad}{H0:Hp}{W:Addr->Prop}{g:Bool}{H1:Hp}{a b:Addr}{us vs:List V}{xs ys:List PV}(tw:∀a,W a->∃o,H1 a=some o/\g9 o=true)(ha:∀W' H',Ev W H1 W' H'->aH K H' a us)(hb:∀W' H',Ev W H1 W' H'->aH K H' b vs)(r:Reps K (Ms H0 W g) H1 us xs)(r':Reps K (Ms H0 W g) H1 vs ys):lC K H0 W g H1 (wY K a b) (jL xs ys):=by
 have lr:=r.length
 have lr':=r'.length
 have ll:=zX xs ys
 refine⟨λW' H' i e hi=>⟨us,vs,us[i]'(by omega),vs[i]'(by omega),ha W' H' e,hb W' H' e,by simp,by simp⟩,λW' H' i v H2 e y hi=>?_,λW' H' e=>⟨us,vs,ha W' H' e,hb W' H' e,by omega⟩⟩
 obtain⟨T,x,y',hT,rfl,rfl,y⟩:=y
 obtain⟨h1,h2⟩:=y us vs (ha W' _ e) (hb W' _ e)
 obtain⟨z,hz,rz⟩:=r.get h1
 obtain⟨z',hz',rz'⟩:=r'.get h2
 have sm:=bK hT (HO.tup [x,y'])
 exact⟨sm,_,ag5 hz hz',.tup bJ (.cons ((rz.keep (e.keep tw)).same sm λ_ q=>q) (.cons ((rz'.keep (e.keep tw)).same sm λ_ q=>q) .nil))⟩
end PP
namespace Core
open PySem L2 PP
def wnb (zs:List ((Int×Int)×Int))(k:Int):aa:=zs.flatMap λz=>(if z.1.1=k then [(z.1.2,z.2)] else [])++(if z.1.2=k then [(z.1.1,z.2)] else [])
def be7 (want:Int)(hs:af)(c:PV):Prop:=((hs.length:Int)<want/\c = .non)∨(want<=(hs.length:Int)/\∃zs:af,zs.Perm hs/\zs.Pairwise (· <= ·)/\c = .int (zs.take want.toNat).sum)
def be8 (zs:af)(s:Int):Nat:=((List.range zs.length).filter λi=>decide ((zs.take (i+1)).sum<=s)).length
structure be9 (ws:af)(ls:aa)(wts:af)(os:List (Option Int)):Prop where
 len:os.length=ws.length
 due:∀h:Nat,h<ws.length->∃o,os[h]? = some o/\be7 (ws.getD h 0) ((wnb (ls.zip wts) h).map (·.2)) (bc3 o)
structure bf0 (ws:af)(ls:aa)(wts zs:af):Prop where
 ex:∃os,be9 ws ls wts os/\zs.Perm (os.filterMap id)/\zs.Pairwise (· <= ·)
theorem bf1 (n:Nat):(rng n).Pairwise (·<·):=by
 unfold rng
 rw[bG8]
 exact (List.pairwise_lt_range (n:=n)).imp λh=>by omega
section
variable {ws:af}{ls:aa}{ns wts:af}{m:Nat}
def loose (ls:aa)(wts ns:af):List ((Int×Int)×Int):=(ls.zip wts).filter λz=>!(decide (z.1.1∈ns)&&decide (z.1.2∈ns))
end
end Core
namespace PP
open PySem L2 PyProof.Rows
abbrev cR:=(Str->Prop)->bF
def EX (K:ad)(H0:Hp)(Ep:Str->Prop):XK:=λc d H'=>d=none/\aE H0 H'/\∃n C,c = .ref C/\PySem.W.nsIn K mainGlobals n=some (some (.ref C))/\Ep n
def spX (K:ad)(p:cR):Sp:=λvs H Q E=>∃xs Qp Ep,Reps K (λ_=>True) H vs xs/\p Ep xs Qp/\(∀v H' x,aE H H'->aJ K (λa=>H a=none) H' v x->Qp x->Q v H')/\
 ∀n C H',aE H H'->PySem.W.nsIn K mainGlobals n=some (some (.ref C))->Ep n->E (.ref C) none H'
structure bB (P:Program)(w:World)(K:ad)(mg:Str->Option Value)(base:Heap)(k:Nat)(x:Str)(ps:List Str)(p:cR):Prop where
 ex:∃f fd,dQ P w K mg base (eI P w) k f fd ps (spX K p)/\jQ K fd ps []/\PySem.W.keepIn K (.ref f)=true/\mg x=some (.ref f)
section
variable {X:Cx}{σ:L2.St}{H:Hp}{D:cP}{tr:dB}{Q':VK}{a b c e:Expr}{es:List Expr}{pos p2 cp np hp:Pos}{t:aI}{te:aD}{tc:cH}
def fP (Ep:Str->Prop)(p:cR)(t:dB):aD:=aB (p Ep) t
theorem ag6 {p:cR}{Ep:Str->Prop}(h:LE X (fP Ep p tr) σ H Q'):vK (spX X.K p) [] (EX X.K X.H₀ Ep) (LA X tr) σ H Q':=by
 obtain⟨W,ρ,Q,px,q,k⟩:=h
 refine⟨W,ρ,_,px,q,λvs H1 xs s1 r1 q1=>⟨_,_,Ep,by rw[bD5];exact r1.any,q1,λv H' x s2 r2 q2=>k v H' x .fr (s1.trans s2) (r2.same (aE.refl _) λ_ z=>s1.free z) q2,λn C H' s2 z1 z2=>⟨rfl,(px.same.trans s1).trans s2,n,C,rfl,z1,z2⟩⟩⟩
theorem gX {Ep:Str->Prop}{k j:Nat}{x:Str}{ps:List Str}{p:cR}(hX:nX X (EX X.K X.H₀ Ep))(d:bB X.prog X.w X.K X.mg X.base k x ps p)(hr:cF j X.A)(ha:QA X (e::es) tr)(hkj:k<=j:=by decide)(hg:Gl X x:=by rfl)(hdb:(x==("__debug__":Str))=false:=by decide)(he:starEach (e::es) X.env=(false,eval e X.env)::starEach es X.env:=by rfl)(hpl:(backTo pos (starEach es X.env)).any (·.1)=false:=by rfl):QE X (.Call (.Name x p2) (e::es) [] pos) (fP Ep p tr):=by
 obtain⟨f,fd,F,b,kp,m⟩:=d.ex
 exact cK (vL F (hr.mono hkj) hg m kp b .nil hX.pass ha hdb he hpl) λ_ _ _=>ag6
theorem zY {k j:Nat}{x:Str}{ps:List Str}{p:cR}(d:bB X.prog X.w X.K X.mg X.base k x ps p)(hr:cF j X.A)(ha:QA X (e::es) tr)(hkj:k<=j:=by decide)(hg:Gl X x:=by rfl)(hdb:(x==("__debug__":Str))=false:=by decide)(he:starEach (e::es) X.env=(false,eval e X.env)::starEach es X.env:=by rfl)(hpl:(backTo pos (starEach es X.env)).any (·.1)=false:=by rfl):QE X (.Call (.Name x p2) (e::es) [] pos) (aB (p λ_=>False) tr):=by
 obtain⟨f,fd,F,b,kp,m⟩:=d.ex
 refine cK (vL F (E:=EX X.K X.H₀ λ_=>False) (hr.mono hkj) hg m kp b .nil (λ_ _ _ _ _ _ _ h=>?_) ha hdb he hpl) λ_ _ _ h=>ag6 (Ep:=λ_=>False) h
 obtain⟨_,_,_,_,_,_,_,_,_,_,_,_,z⟩:=h
 exact z.elim
def tQ (Ep:Str->Prop)(n:Str)(t:dB):aI:=λ_ ρ=>t ρ λxs=>xs.length<=1000/\Ep n
theorem bf2 {Ep:Str->Prop}{n:Str}{C:Addr}(hn:PySem.W.nsIn X.K mainGlobals n=some (some (.ref C)))(h:LS X (tQ Ep n tr) D σ H):aa2 (EX X.K X.H₀ Ep) C (LA X tr) D σ H:=by
 obtain⟨W,ρ,D',px,q,k⟩:=h
 exact⟨W,ρ,_,px,q,λvs H1 xs s1 r z=>⟨by rw[r.length];exact x6 z.1,rfl,px.same.trans s1,n,C,rfl,hn,z.2⟩⟩
structure Xc (K:ad)(mg:Str->Option Value)(base:Heap)(n:Str):Prop where
 ex:∃C B newId initId bm,OwnCls n C bm newId mg base/\ExcBaseFacts B newId initId bm/\PySem.W.nsIn K mainGlobals n=some (some (.ref C))
theorem ag7 {Ep:Str->Prop}{n:Str}(hX:nX X (EX X.K X.H₀ Ep))(x:Xc X.K X.mg X.base n)(ha:QA X (e::es) tr)(hc:X.calm=true:=by rfl)(hg:Gl X n:=by rfl)(hd:(n==("__debug__":Str))=false:=by decide)(he:starEach (e::es) X.env=(false,eval e X.env)::starEach es X.env:=by rfl)(hpl:(backTo cp (starEach es X.env)).any (·.1)=false:=by rfl):QS X (.Raise (some (.Call (.Name n np) (e::es) [] cp)) none pos) (tQ Ep n tr):=by
 obtain⟨C,B,newId,initId,bm,O,FB,hn⟩:=x.ex
 exact dN (aU0 hX hc O FB ha hg hd he hpl) λ_ _ _=>bf2 hn
abbrev kR:=jF->(Str->Prop)->bN->Prop
def LB (X:Cx)(t:kR):TB:=λD Ex σ H=>∃(W:Addr->Prop) (ρ:bN) (D':jF) (Ep:Str->Prop),PX X.K X.H₀ W σ ρ H/\t D' Ep ρ/\pK X W H D' D/\∀n C H',aE H H'->PySem.W.nsIn X.K mainGlobals n=some (some (.ref C))->Ep n->Ex (.ref C) none H'
def QB (X:Cx)(sts:List Stmt)(t:kR):Prop:=PB X sts (LB X t)
theorem pbI {sts:List Stmt}{t t':TB}(h:PB X sts t)(m:∀D Ex σ H,t' D Ex σ H->t D Ex σ H):PB X sts t':=λpins s σ H D Ex I q=>h pins s σ H D Ex I (m D Ex σ H q)
def zZ (p:cR)(t:dB):kR:=λD Ep ρ=>t ρ λxs=>p Ep (xs.map (·.1)) λ_=>D.nx ρ
def ag8 (c:cH)(t u:kR):kR:=λD Ep ρ=>c ρ λb=>if b=true then t D Ep ρ else u D Ep ρ
theorem ag9 {k j:Nat}{x:Str}{ps:List Str}{p:cR}(d:bB X.prog X.w X.K X.mg X.base k x ps p)(hr:cF j X.A)(ha:∀E,QA (X.wish E) (e::es) tr)(hkj:k<=j:=by decide)(hg:Gl X x:=by rfl)(hdb:(x==("__debug__":Str))=false:=by decide)(he:starEach (e::es) X.env=(false,eval e X.env)::starEach es X.env:=by rfl)(hpl:(backTo cp (starEach es X.env)).any (·.1)=false:=by rfl)(hsw:swapsWith (.Call (.Name x p2) (e::es) [] cp) none pos.line X.env=pure false:=by rfl):QB X [.Expr (.Call (.Name x p2) (e::es) [] cp) pos] (zZ p tr):=by
 obtain⟨f,fd,F,b,kp,m⟩:=d.ex
 refine pbI (aU5 (t:=LA X tr) F (hr.mono hkj) hg m kp b (λE=>ha E) hdb he hpl hsw) λD Ex σ H h=>?_
 obtain⟨W,ρ,D',Ep,px,q,k,ke⟩:=h
 exact⟨W,ρ,_,px,q,λvs H1 xs s1 r q1=>⟨_,_,Ep,r.any,q1,λv H' x s2 r2 q2=>k.nx W σ H' ρ (Ev.same (s1.trans s2)) (px.mono (s1.trans s2)) q2,λn C H' s2 z1 z2=>ke n C H' (s1.trans s2) z1 z2⟩⟩
theorem bf3 {sa sb:List Stmt}{tb ub:kR}(hc:∀E,QT (X.wish E) c tc)(ha:QB X sa tb)(hb:QB X sb ub):QB X [.If c sa sb pos] (ag8 tc tb ub):=by
 refine pbI (aU6 (tc:=LT X tc) (λE=>hc E) ha hb) λD Ex σ H h=>?_
 obtain⟨W,ρ,D',Ep,px,q,k,ke⟩:=h
 refine⟨W,ρ,_,px,q,λb H1 s1 q1=>?_⟩
 have ke':∀n C H',aE H1 H'->PySem.W.nsIn X.K mainGlobals n=some (some (.ref C))->Ep n->Ex (.ref C) none H':=λn C H' s2 z1 z2=>ke n C H' (s1.trans s2) z1 z2
 cases b with
 |true=>exact b9 ⟨W,ρ,D',Ep,px.mono s1,by simpa using q1,k.step (Ev.same s1),ke'⟩
 |false=>exact aT ⟨W,ρ,D',Ep,px.mono s1,by simpa using q1,k.step (Ev.same s1),ke'⟩
def ah0 (D:jF)(i:Nat):jF:={ nx:=λρ=>D.nx (ρ.set i none),rt:=D.rt,bk:=λρ=>D.bk (ρ.set i none),ct:=λρ=>D.ct (ρ.set i none) }
def tR:List Str:=["BadWeb","BadSet","BadOrder","BadPrices","BadBoard","BadDeed","NotWood","NoPaper","NoSuch","TooMany","NoText","OddRound"]
def mG (n m:Str):Option Bool:=if tR.contains n then some (n==m||m=="HearthError"||m=="ValueError") else none
def A0 (m:Str)(i:Nat)(tb:kR)(ts:aI):aI:=λD ρ=>tb D (λn=>mG n m=some true/\ts (ah0 D i) (ρ.set i (some (.sh true (.exc n))))) ρ
theorem bf4 {m:Str}{Ch:Addr}{i:Nat}{tb:kR}{ts:aI}(hs:∀n C,mG n m=some true->PySem.W.nsIn X.K mainGlobals n=some (some (.ref C))->PySem.W.subIn X.K (.ref C) (.ref Ch)=some true)(h:LS X (A0 m i tb ts) D σ H):aa4 X.K Ch i (LB X tb) (LS X ts) D σ H:=by
 obtain⟨W,ρ,D',px,q,k⟩:=h
 refine⟨W,ρ,D',_,px,q,k,λn C H' s z1 z2 a C' oe hc na hcl=>?_⟩
 cases hc
 refine⟨hs n C z2.1 z1,W,_,ah0 D' i,(px.mono (s.trans (bK na _))).setSh (g:=true) (.exc bJ z1 hcl),z2.2,?_⟩
 have k':=k.step (Ev.same (W:=W) (s.trans (bK na (.frz oe (.own a)))))
 exact⟨λW' σ' H2 ρ' ev px' q'=>k'.nx W' _ H2 _ ev px'.setNone q',k'.rt,λW' σ' H2 ρ' ev px' q'=>k'.bk W' _ H2 _ ev px'.setNone q',λW' σ' H2 ρ' ev px' q'=>k'.ct W' _ H2 _ ev px'.setNone q'⟩
structure A1 (K:ad)(mg:Str->Option Value)(m:Str):Prop where
 ex:∃Ch,mg m=some (.ref Ch)/\yY K Ch/\∀n C,mG n m=some true->PySem.W.nsIn K mainGlobals n=some (some (.ref C))->PySem.W.subIn K (.ref C) (.ref Ch)=some true
theorem bf5 (i:Nat){m n:Str}{b₀:Stmt}{suite body:List Stmt}{tb:kR}{ts:aI}(ct:A1 X.K X.mg m)(hN:X.N.Nodup)(hb:QB X body tb)(hs:∀a,fA (X.suite a) (b₀::suite) ts)(hstk:X.stack=X.env::X.outer/\X.env.frame=some X.env.locals:=by exact⟨rfl,rfl⟩)(hi:X.N[i]? = some n:=by rfl)(hl:X.env.scope.names.lookup n=some .local:=by rfl)(hg:Gl X m:=by rfl)(hd:(m==("__debug__":Str))=false:=by decide):QS X (.Try body [.ExceptHandler (some (.Name m np)) (some n) (b₀::suite) hp] [] [] pos) (A0 m i tb ts):=by
 obtain⟨Ch,hm,c,sub⟩:=ct.ex
 exact dN (aU7 (ts:=LS X ts) hstk hb hg hm c hN hi hl (λa=>xT (hs a) λ_ _ _ ⟨W,ρ,D',px,q,k⟩=>⟨W,ρ,D',px,q,⟨k.nx,k.rt,k.bk,k.ct⟩⟩) hd) λ_ _ _=>bf4 sub
def i5:V->Value
 |.ref a=>.ref a
 |.ty n=>.type n
 |_=>.none
def bf6 (K:ad):List V->Hp->VK->Prop:=λxs H Q=>∃v v2 b,xs = [v,v2]/\i5 v2≠.none/\((∃a o C,v = .ref a/\H a=some (.frz o (.own a))/\o.cls = .ref C/\jI K C/\PySem.W.kitOne K (.ref C) (i5 v2)=some b)∨(v = .non/\PySem.W.kitOne K (.type "NoneType") (i5 v2)=some b))/\Q (.bl b) H
theorem bf7:cN X (.builtin "isinstance") (bf6 X.K):=by
 intro pins s σ H xs us Q I r h
 obtain⟨v,v2,b,rfl,hv,hk,q⟩:=h
 obtain⟨u,u',rfl,ru,ru'⟩:=oW r
 obtain rfl:u'=i5 v2:=by
  cases v2<;>first|exact ru'|exact absurd rfl hv
 rcases hk with⟨a,o,C,rfl,hH,hc,F,e⟩|⟨rfl,e⟩
 ·obtain⟨h1,_⟩:=I.hok a _ hH
  cases (show u=Value.ref a from ru)
  exact bH7 (aV4 F) I.kIn ⟨o,h1,hc⟩ e (λz=>nomatch z) λtk=>⟨.bl b,H,I.tok tk,rfl,q⟩
 ·cases (show u=Value.none from ru)
  exact bH7 PySem.W.kitx_none I.kIn trivial e (λz=>nomatch z) λtk=>⟨.bl b,H,I.tok tk,rfl,q⟩
def bf8 (m:Str):PV->Option Bool
 |.exc n=>mG n m
 |.non=>some false
 |_=>none
def A2 (m:Str)(te:aD):aD:=λρ Q=>te ρ λx _=>∃b,bf8 m x=some b/\Q (.bl b) .fr
structure IsA (K:ad)(m:Str)(v2:V):Prop where
 nn:i5 v2≠.none
 ex:∀n C b,PySem.W.nsIn K mainGlobals n=some (some (.ref C))->mG n m=some b->jI K C/\PySem.W.kitOne K (.ref C) (i5 v2)=some b
 no:PySem.W.kitOne K (.type "NoneType") (i5 v2)=some false
theorem bf9 {x:Str}{v2:V}{px:Pos}(B:Bt X.mg)(A:IsA X.K x v2)(hx:PE X (.Name x px) (tC v2))(ha:QE X a te)(hg:Gl X "isinstance":=by rfl)(he:starEach [a,.Name x px] X.env=(false,eval a X.env)::starEach [.Name x px] X.env:=by rfl)(he2:starEach [.Name x px] X.env=(false,eval (.Name x px) X.env)::starEach [] X.env:=by rfl)(hpl:(backTo pos (starEach [.Name x px] X.env)).any (·.1)=false:=by rfl):QE X (.Call (.Name "isinstance" p2) [a,.Name x px] [] pos) (A2 x te):=
 cK (vN bf7 hg B.isinst PyProof.Rows.boot_isinstance (eC ha (eC hx fW he2) he) (he:=he) (hpl:=hpl)) λσ H Q' h=>by
  obtain⟨W,ρ,Q,px,q,k⟩:=h
  refine⟨W,ρ,_,px,q,?_⟩
  rintro v H1 y g s r ⟨b,e,q⟩
  refine⟨v,v2,b,rfl,A.nn,?_,k _ _ _ .fr s (.bl _) q⟩
  cases r with
  |exc h z c=>
   obtain⟨F,kt⟩:=A.ex _ _ _ z e
   exact .inl ⟨_,_,_,rfl,h,c,F,kt⟩
  |non=>cases e;exact .inr ⟨rfl,A.no⟩
  |_=>cases e
end
section
variable {X:Cx}{a:Expr}{pos p2 px:Pos}{te:aD}
structure A3 (K:ad)(mg:Str->Option Value)(m:Str):Prop where
 ex:∃C,mg m=some (.ref C)/\IsA K m (.ref C)
theorem bg0 {x:Str}(B:Bt X.mg)(A:A3 X.K X.mg x)(ha:QE X a te)(hgx:Gl X x:=by rfl)(hdx:(x==("__debug__":Str))=false:=by decide)(hg:Gl X "isinstance":=by rfl)(he:starEach [a,.Name x px] X.env=(false,eval a X.env)::starEach [.Name x px] X.env:=by rfl)(he2:starEach [.Name x px] X.env=(false,eval (.Name x px) X.env)::starEach [] X.env:=by rfl)(hpl:(backTo pos (starEach [.Name x px] X.env)).any (·.1)=false:=by rfl):QE X (.Call (.Name "isinstance" p2) [a,.Name x px] [] pos) (A2 x te):=by
 obtain⟨C,m,i⟩:=A.ex
 exact bf9 B i (E7 hgx m rfl hdx) ha hg he he2 hpl
end
structure lK (K:ad)(C:Addr):Prop where
 cls:PySem.W.isClsIn K C=true
 ty:PySem.W.typeIn K (.ref C)=some (.type "type")
 ga:PySem.W.findIn K (.ref C) "__getattribute__" = some (some (.builtin "BaseException.__getattribute__"))
 gt:PySem.W.findIn K (.ref C) "__getattr__" = some none
 fc:PySem.W.findIn K (.ref C) "__class__" = some (some (.builtin "object.__class__"))
 fg:PySem.W.specialIn K (.builtin "object.__class__") "__get__" = some (some (.builtin "getset_descriptor.__get__"))
 ft:PySem.W.takesIn K (.builtin "object.__class__")=some true
 ob:PySem.W.mroIn K C (.type "object")=some true
 be:PySem.W.mroIn K C (.type "BaseException")=some true
theorem lK.exc {K:ad}{C:Addr}(h:lK K C):jI K C:=⟨h.cls,h.ga,h.gt,h.fc,h.fg,h.ft,h.ob,h.be⟩
theorem ah1 {K:ad}{h₀:Heap}{mg:Str->Option Value}{x:Str}{C:Addr}{bmB:List Value}{newId:String}(X:K.In h₀)(m:mg x=some (.ref C))(q:PySem.W.excIn K C bmB newId=true):OwnCls x C bmB newId mg h₀:=by
 refine⟨m,?_⟩
 unfold PySem.W.excIn at q
 split at q
 case h_2=>cases q
 rename_i dd cd sl ho
 split at q
 case h_2=>cases q
 rename_i C' bm k0 k1 k2 k3 n k5 hm hs
 simp only[bE5,beq_iff_eq,Bool.not_eq_true']at q
 obtain⟨⟨⟨⟨⟨rfl,rfl⟩,dl⟩,ht⟩,hok⟩,hni⟩:=q
 obtain⟨nm,bs,mro,ns,qn,hd,sn,sub,ab,col,del⟩:=cd
 dsimp only at hm dl hok hni
 subst hm dl
 obtain rfl:sl = #[k0,k1,k2,k3,some (.builtin n),k5]:=by
  obtain⟨l⟩:=sl
  exact congrArg Array.mk hs
 exact⟨bm,ns,nm,qn,bs,hd,sn,sub,ab,col,dd,k0,k1,k2,k3,k5,_,X _ _ ho,.of_isNs (PySem.W.isNs_of_in X hok),PySem.W.nsMap_none_of_in X hok hni,PySem.W.tail_of_in X ht⟩
theorem ah2 {n m:Str}{b:Bool}(h:mG n m=some b):n∈tR/\b=(n==m||m=="HearthError"||m=="ValueError"):=by
 unfold mG at h
 split at h
 ·rename_i z
  exact⟨by simpa using z,by cases h;rfl⟩
 ·cases h
theorem ah3 {K:ad}{C D:Addr}{b:Bool}(hd:lK K D)(ne:(C==D)=false)(s:PySem.W.subIn K (.ref C) (.ref D)=some b):PySem.W.kitOne K (.ref C) (.ref D)=some b:=by
 have ne':(Value.ref C==Value.ref D)=false:=by
  rw[bO4]at ne ⊢
  exact λz=>ne (Value.ref.inj z)
 have c:=hd.cls
 unfold PySem.W.isClsIn at c
 unfold PySem.W.kitOne PySem.W.kitCls
 rw[if_neg (by rw[ne'];decide)]
 dsimp only
 rw[if_pos (by rw[c,hd.ty];decide)]
 exact s
theorem bg1 {K:ad}{C:Addr}:PySem.W.kitOne K (.ref C) (.ref C)=some true:=by
 unfold PySem.W.kitOne
 rw[if_pos (bJ7 _)]
theorem bg2 {K:ad}{D:Addr}(hd:lK K D)(s:PySem.W.subIn K (.type "NoneType") (.ref D)=some false):PySem.W.kitOne K (.type "NoneType") (.ref D)=some false:=by
 have c:=hd.cls
 unfold PySem.W.isClsIn at c
 unfold PySem.W.kitOne PySem.W.kitCls
 rw[if_neg (λz=>by cases beq_iff_eq.mp z)]
 dsimp only
 rw[if_pos (by rw[c,hd.ty];decide)]
 exact s
theorem bB.of {P:Program}{w:World}{K:ad}{mg:Str->Option Value}{base:Heap}{k:Nat}{x:Str}{ps N:List Str}{p:cR}{st:Stmt}{f:Addr}{fd:FuncData}(F:fX K x x st f fd)(m:mg x=some (.ref f))(S:FnScope N ps (aV st))(hb:∀(kV doc pm:Value) (an:Option Addr) (cdv ct:Value) (us:List Value),us.length=ps.length->bindArgs (PySem.W.fnOf x x (jT st) (eV st) (aV st) .none kV doc pm an cdv ct) ⟨us,[]⟩=pure (ps.zip us))(t:(Str->Prop)->aI)(len:∀Ep xs Q,p Ep xs Q->xs.length=ps.length)(rd:∀Ep xs Q,p Ep xs Q->t Ep { nx:=λ_=>Q .non,rt:=Q } (gD N xs))(body:∀(cdv:Value) (A:Around) (outer:List Env) (s:Shared) (H:Hp) (E:XK) (Ep:Str->Prop),cF k (A.deeper (envOfC x (aV st) s.heap.objs.size f cdv))->nX (dR (eI P w) P w K mg base N x (aV st) f cdv A outer s H E) (EX K H Ep)->
   fA (dR (eI P w) P w K mg base N x (aV st) f cdv A outer s H E) (eV st) (t Ep)):bB P w K mg base (k+1) x ps p:=by
 refine⟨f,fd,F.okX S (λvs H Q E h=>?_) (λcdv A outer s H vs Q E hr h=>?_),F.binds hb,F.kp,m⟩
 ·obtain⟨xs,Qp,Ep,r,q,_⟩:=h
  rw[r.length];exact len Ep xs Qp q
 ·obtain⟨xs,Qp,Ep,r,q,k,ke⟩:=h
  have ht:=body cdv A outer s H E Ep hr (aT9 λc d H' z=>?_)
  ·refine⟨_,ht,λ_=>False,gD N xs,_,yG r,rd Ep xs Qp q,?_,?_,?_,?_⟩
   ·exact λW' σ' H' ρ' e px q=>k _ _ _ px.same .non q
   ·exact λv H' x s r q=>k _ _ _ s r q
   ·exact λW' σ' H' ρ' e px q=>q
   ·exact λW' σ' H' ρ' e px q=>q
  ·obtain⟨rfl,s1,n,C,rfl,z1,z2⟩:=z
   exact ke n C H' s1 z1 z2
end PP
namespace Core
open PySem L2 PP
abbrev gK (t:(Str->Prop)->aI)(N:List Str)(p:cR):Prop:=∀Ep xs Q,p Ep xs Q->t Ep { nx:=λ_=>Q .non,rt:=Q } (gD N xs)
def iD:cR:=λEp xs Q=>∃ws ls x ns,xs = [bL ws ls,x]/\cX x ns/\ns.length<=1000/\(aX ws.length ns=true->Q (.tup (intz ns)))/\(aX ws.length ns=false->Ep "BadSet")
def ah4 (Ep:Str->Prop):aI:=(aF (cI (k6 (aY (aB zF (a6 (a5 0) (a6 (a5 1) a9))))) (tQ Ep "BadSet" (a6 (qC (.str "a set is of rising hearths of the web")) a9)) cY)
 (bC (aB dW (a6 (a5 1) a9))))
theorem bg3:gK ah4 ["web","hearths"] iD:=by
 rintro Ep xs Q ⟨ws,ls,x,ns,rfl,hx,hl,q1,q2⟩
 refine⟨_,rfl,_,rfl,ws,ls,x,ns,rfl,hx,hl,_,rfl,?_⟩
 cases h:aX ws.length ns with
 |true=>exact aT ⟨_,rfl,⟨_,_,rfl,hx.seqT,cS _,trivial,q1 h⟩,hx.noscr⟩
 |false=>exact b9 ⟨by decide,q2 h⟩
theorem A4 {n:Nat}{ys:af}(h:aX n ys=true->False):aX n ys=false:=by
 cases e:aX n ys with
 |false=>rfl
 |true=>exact (h e).elim
theorem bg4 {n k:Nat}{s:af}{x:Int}(hx:x∈s):aX n (s.take k++[x]++s.drop k)=false:=A4 λe=>by
 have p:=dJ (c8 e).1
 rw[bC5,bF3]at p
 rw[<- bE3 k s]at hx
 rcases bB8.mp hx with h|h
 ·exact absurd (p.2.2 x h x bA4) (Int.lt_irrefl x)
 ·exact absurd (List.rel_of_pairwise_cons p.2.1 h) (Int.lt_irrefl x)
theorem bg5 {n k:Nat}{s:af}{x:Int}(hx:x<0∨(n:Int)<=x):aX n (s.take k++[x]++s.drop k)=false:=A4 λe=>by
 have:=(c8 e).2 x (by simp)
 omega
end Core
namespace PP
open PySem L2
theorem tS {us:List Value}(h:us.length=1):∃a,us = [a]:=List.length_eq_one_iff.mp h
theorem A5 {us:List Value}(h:us.length=2):∃a b,us = [a,b]:=by
 cases us with
 |nil=>cases h
 |cons a r=>
  obtain⟨b,rfl⟩:=tS (us:=r) (by simpa using h)
  exact⟨a,b,rfl⟩
theorem A6 {us:List Value}(h:us.length=3):∃a b c,us = [a,b,c]:=by
 cases us with
 |nil=>cases h
 |cons a r=>
  obtain⟨b,c,rfl⟩:=A5 (us:=r) (by simpa using h)
  exact⟨a,b,c,rfl⟩
theorem us4 {us:List Value}(h:us.length=4):∃a b c d,us = [a,b,c,d]:=by
 cases us with
 |nil=>cases h
 |cons a r=>
  obtain⟨b,c,d,rfl⟩:=A6 (us:=r) (by simpa using h)
  exact⟨a,b,c,d,rfl⟩
section
variable {X:Cx}{e:Expr}{tk:aD}{D:cP}{σ:St}{H:Hp}{pos:Pos}
def A7 (i:Nat)(tk:aD):aI:=λD ρ=>∃ps,ρ[i]? = some (some (.own (.dT ps)))/\tk ρ λy _=>∃k,y = .tup (k.map kP)/\(∃j:Nat,(ps.map (·.1))[j]? = some k)/\∀j:Nat,(ps.map (·.1))[j]? = some k->D.nx (ρ.set i (some (.own (.dT (ps.eraseIdx j)))))
theorem bg6 {i:Nat}(h:LS X (A7 i tk) D σ H):mR (aa7 (hV i) (LE X tk)) D σ H:=by
 obtain⟨W,ρ,D',px,⟨ps,hi,q⟩,k⟩:=h
 obtain⟨v,ev,a,rfl,wa,kvs,ea,e1,r⟩:=px.sl i _ hi
 refine⟨_,ev,a,rfl,.inr ⟨kvs,.inl ea⟩,W,ρ,_,px,q,?_⟩
 rintro kv H2 y g s ry ⟨kk,rfl,is,q⟩
 obtain⟨b,us,rfl,hb,rb⟩:=ry.sqT
 obtain rfl:=sD rb
 have ea2:=s _ _ ea
 refine⟨kvs,kk,b,ea2,rfl,hb,by rw[e1];exact is,λj v hj=>?_⟩
 rw[e1]at hj
 refine k.nx W σ _ _ ((Ev.same s).trans (Ev.upd wa)) ((px.mono s).updT hi ev wa ⟨?_,?_⟩) (q j hj)
 ·rw[Raw.mE,Raw.mE,e1]
 ·rw[Raw.mE,Raw.mE]
  exact ((r.same s λ_ z=>z).eraseIdx j).keep (.upd ea2 rfl λb m=>⟨k7 wa m,m⟩)
theorem bg7 (i:Nat){x:Str}{apos cpos xpos:Pos}(hu:X.A.units+1<cLine)(he:QE X e tk)(hm:M1 X (.Name x xpos) "pop" apos e cpos:=by exact⟨rfl,rfl,rfl,rfl⟩)(hN:X.N[i]? = some x:=by rfl)(hv:fU X.env.scope x:=by first|exact Or.inl rfl|exact Or.inr (Or.inl rfl)|exact Or.inr (Or.inr rfl))(hd:(x==("__debug__":Str))=false:=by decide)(hcd:(x==("__classdict__":Str))=false:=by decide)(hsw:swapsWith (.Call (.Attribute (.Name x xpos) "pop" apos) [e] [] cpos) none pos.line X.env=pure false:=by rfl):QS X (.Expr (.Call (.Attribute (.Name x xpos) "pop" apos) [e] [] cpos) pos) (A7 i tk):=
 dN (lQ (aV8 hu (iF hN hv hd hcd) he hm) hsw) λ_ _ _=>bg6
end
end PP
namespace Core
open PySem L2 PP
def lM:bF:=λxs Q=>∃c k:Int,xs = [.int c,.int k]/\0<=k/\k<=1000/\∀z:Int,0<=z->Q (.int z)
def ah5:aI:=(aF (bE 2 (cZ (xQ (fI (fI (cZ (a5 0) (qC (.int 1000000007))) (xQ (a5 1) (a5 1))) (qC (.int 1))) (qC (.int 48271))) (qC (.int 2147483647))))
 (bC (gE (cZ (xQ (a5 2) (a5 2)) (qC (.int 2147483647))) (qC (.int 8)))))
theorem bg8:bX ah5 ["cell","k","turn"] lM:=by
 rintro xs Q ⟨c,k,rfl,k0,k1,q⟩
 refine⟨_,rfl,_,_,rfl,rfl,(by show (0:Int)<1000000007;decide),_,rfl,_,rfl,_,_,rfl,rfl,.inl ⟨by show -(2^64)<k;omega,by show k<2^64;omega⟩,_,_,rfl,rfl,_,_,rfl,rfl,_,_,rfl,rfl,.inr ⟨by decide,by decide⟩,_,_,rfl,rfl,(by show (0:Int)<2147483647;decide),trivial,?_⟩
 dsimp only
 have t0:0<=(c%1000000007+k*k+1)*48271%2147483647:=bK4 _ (by decide)
 have t1:(c%1000000007+k*k+1)*48271%2147483647<2147483647:=bK3 _ (by decide)
 generalize (c%1000000007+k*k+1)*48271%2147483647=t at t0 t1
 refine⟨_,rfl,_,rfl,_,_,rfl,rfl,.inl ⟨by show -(2^64)<t;omega,by show t<2^64;omega⟩,_,_,rfl,rfl,(by show (0:Int)<2147483647;decide),_,_,rfl,rfl,⟨by decide,by decide⟩,trivial,q _ ?_⟩
 have:=bK4 (t*t) (show (2147483647:Int)≠0 by decide)
 omega
abbrev DK (n:Int)(ps:List (List aC×PV)):Prop:=DL n ps ps.length
theorem DL.dk {n:Int}{ps:List (List aC×PV)}{i:Nat}(h:DL n ps i):DK n ps:=⟨h.key,bA3 _,h.fl,h.nd⟩
theorem DK.nil (n:Int):DK n []:=⟨(λ_ h=>nomatch h),bA3 _,rfl,.nil⟩
theorem A8:∀(m:Nat) (l:List Nat),l.Nodup->(∀x∈l,x<m)->l.length<=m
 |0,[],_,_=>bA3 _
 |0,x::_,_,h=>absurd (h x bA4) (Nat.not_lt_zero _)
 |m+1,l,nd,h=>by
  by_cases hm:m∈l
  ·have h1:=A8 m (l.erase m) (nd.erase m) λx hx=>by
    obtain⟨h2,h3⟩:=(nd.mem_erase_iff).mp hx
    have:=h x h3
    omega
   rw[List.length_erase_of_mem hm]at h1
   omega
  ·have h1:=A8 m l nd λx hx=>by
    have:=h x hx
    have:x≠m:=λz=>hm (z▸hx)
    omega
   omega
theorem iA.seqTF {x:PV}{ns:af}(h:iA x ns):seqT x=some (intz ns):=by rcases h with rfl|rfl<;>rfl
theorem DK.put {n:Int}{ps:List (List aC×PV)}(h:DK n ps)(l:Int×Int)(hl:0<=l.1/\l.1<l.2/\l.2<n):DK n (cT ps (gI l) (.bl true)):=(DL.put h l hl).dk
theorem DK.cut {n:Int}{ps:List (List aC×PV)}(h:DK n ps)(j:Nat):DK n (ps.eraseIdx j):=
 ⟨λp hp=>h.key p (List.mem_of_mem_eraseIdx hp),bA3 _,by
  rw[Raw.mE]
  have:∀(j:Nat) {xs:List PV},flats xs=true->flats (xs.eraseIdx j)=true:=by
   intro j
   induction j with
   |zero=>
    intro xs h
    cases xs with
    |nil=>rfl
    |cons x r=>unfold flats at h;rw[bE5]at h;exact h.2
   |succ j ih=>
    intro xs h
    cases xs with
    |nil=>rfl
    |cons x r=>
     unfold flats at h
     rw[bE5]at h
     show (flat x&&flats (r.eraseIdx j))=true
     rw[h.1,ih h.2];rfl
  exact this j h.fl,(h.nd).sublist ((List.eraseIdx_sublist ps j).map _)⟩
def tT:bF:=λxs Q=>∃c n:Int,xs = [.int c,.int n]/\0<=n/\n<=40/\∀S,aX n.toNat S=true->Q (.tup (intz S))
def ah6:aI:=(aF (cI (aY (gQ (cZ (a5 0) (qC (.int 2))) (qC (.int 1)))) (bC (aB dW (a6 (cQ (k9 (a5 1)) [none,some 0] (bQ 0) (aY (gQ (cZ (aO4 (a5 1) (fI (a5 0) (qC (.int 1)))) (qC (.int 2))) (qC (.int 1)))) (a5 0)) a9))) cY)
 (bC (aB dW (a6 (cQ (k9 (a5 1)) [none,some 0] (bQ 0) (aY (jG (cZ (aB lM (a6 (a5 1) (a6 (a5 0) a9))) (qC (.int 8))) (fI (qC (.int 1)) (cZ (gE (a5 1) (qC (.int 2))) (qC (.int 7)))))) (a5 0)) a9))))
def gY (i:Nat)(S:af):Prop:=S.Pairwise (·<·)/\∀x∈S,0<=x/\x<(i:Int)
theorem gY.more {i:Nat}{S:af}(h:gY i S):gY (i+1) S:=⟨h.1,λx hx=>by have:=h.2 x hx;omega⟩
theorem gY.app {i:Nat}{S:af}(h:gY i S):gY (i+1) (S++[(0:Int)+(i:Int)]):=by
 refine⟨bF3.mpr ⟨h.1,bC9 _ _,λa ha b hb=>?_⟩,λx hx=>?_⟩
 ·rw[bA1.mp hb]
  have:=h.2 a ha
  omega
 ·rcases bB8.mp hx with hx|hx
  ·have:=h.2 x hx;omega
  ·rw[bA1.mp hx];omega
theorem gY.set {i:Nat}{S:af}(h:gY i S):aX i S=true:=by
 unfold aX
 rw[yZ h.1,Bool.true_and,bH9]
 intro b hb
 obtain⟨x,hx,rfl⟩:=bF0.mp hb
 have:=h.2 x hx
 unfold inB
 simp only[id,bE5,bC2]
 exact this
theorem bg9:bX ah6 ["cell","many"] tT:=by
 rintro xs Q ⟨c,n,rfl,n0,n1,q⟩
 refine⟨_,rfl,_,_,rfl,rfl,(by show (0:Int)<2;decide),.inl ⟨_,_,rfl,rfl,_,rfl,?_⟩⟩
 cases h1:(if false=true then !decide (c%2=1) else decide (c%2=1)) with
 |true=>
  refine b9 ⟨_,rfl,n,rfl,by omega,by omega,by rw[eZ];omega,λi acc=>∃S,acc=intz S/\gY i S,⟨[],rfl,.nil,λ_ h=>nomatch h⟩,?_,?_⟩
  ·rintro i y acc hy ⟨S,rfl,hS⟩
   obtain⟨rfl,hi⟩:=kK hy
   refine⟨_,rfl,_,rfl,_,_,rfl,rfl,_,_,rfl,rfl,(by show (0:Int)<=0+(i:Int)+1;omega),_,_,rfl,rfl,(by show (0:Int)<2;decide),.inl ⟨_,_,rfl,rfl,_,rfl,?_⟩⟩
   dsimp only
   generalize (if false=true then _ else _)=b
   cases b with
   |true=>exact b9 ⟨_,rfl,trivial,S++[(0:Int)+(i:Int)],by rw[eQ];rfl,hS.app⟩
   |false=>exact aT ⟨S,rfl,hS.more⟩
  ·rintro acc ⟨S,rfl,hS⟩
   rw[eZ]at hS
   exact⟨⟨_,_,rfl,rfl,cS _,trivial,q S hS.set⟩,λns z=>by cases z⟩
 |false=>
  refine aT ⟨_,rfl,n,rfl,by omega,by omega,by rw[eZ];omega,λi acc=>∃S,acc=intz S/\gY i S,⟨[],rfl,.nil,λ_ h=>nomatch h⟩,?_,?_⟩
  ·rintro i y acc hy ⟨S,rfl,hS⟩
   obtain⟨rfl,hi⟩:=kK hy
   refine⟨_,rfl,_,rfl,c,_,rfl,by omega,by omega,λz z0=>⟨_,_,rfl,rfl,(by show (0:Int)<8;decide),_,rfl,_,_,rfl,rfl,⟨by decide,by decide⟩,_,_,rfl,rfl,(by show (0:Int)<7;decide),_,_,rfl,rfl,_,_,rfl,rfl,_,rfl,?_⟩⟩
   dsimp only
   generalize decide ((_:Int)<_)=b
   cases b with
   |true=>exact b9 ⟨_,rfl,trivial,S++[(0:Int)+(i:Int)],by rw[eQ];rfl,hS.app⟩
   |false=>exact aT ⟨S,rfl,hS.more⟩
  ·rintro acc ⟨S,rfl,hS⟩
   rw[eZ]at hS
   exact⟨⟨_,_,rfl,rfl,cS _,trivial,q S hS.set⟩,λns z=>by cases z⟩
end Core
namespace PP
open PySem L2
section
variable {X:Cx}{a b e:Expr}{ta tb:aD}{tr:dB}{D:cP}{σ:St}{H:Hp}{pos p2 p3 p4:Pos}
def tV (i:Nat):aI:=λD ρ=>∃xs,ρ[i]? = some (some (.own (.lst xs)))/\D.nx (ρ.set i (some (.own (.lst xs.reverse))))
theorem Reps.rev {K:ad}{M:Addr->Prop}{H:Hp}:∀{us:List V}{xs:List PV},Reps K M H us xs->Reps K M H us.reverse xs.reverse
 |_,_,.nil=>.nil
 |_,_,.cons (v:=v) (x:=x) (vs:=vs) (xs:=xs) r t=>by
  rw[List.reverse_cons,List.reverse_cons]
  exact (Reps.rev t).append (.cons r .nil)
theorem bh0 {i:Nat}(h:LS X (tV i) D σ H):mR (vU X.K "list" N4 (hV i)) D σ H:=by
 obtain⟨W,ρ,D',px,⟨xs,hi,q⟩,k⟩:=h
 obtain⟨v,ev,a,rfl,wa,us,ea,r⟩:=px.sl i _ hi
 refine⟨_,ev,mX (aQ.of ea),a,us,rfl,rfl,ea,?_⟩
 exact k.nx W σ _ _ (Ev.upd wa) (px.updL hi ev wa (r.rev.keep (.upd ea rfl λb m=>⟨k7 wa m,m⟩))) q
theorem bh1 (i:Nat){x:Str}{apos cpos xpos:Pos}(hN:X.N[i]? = some x:=by rfl)(hv:fU X.env.scope x:=by first|exact Or.inl rfl|exact Or.inr (Or.inl rfl)|exact Or.inr (Or.inr rfl))(hd:(x==("__debug__":Str))=false:=by decide)(hcd:(x==("__classdict__":Str))=false:=by decide)(hbase:attributeBase (.Name x xpos) "reverse" X.env (eval (.Name x xpos) X.env)=eval (.Name x xpos) X.env:=by rfl)(hline:(apos.endLine==cpos.line)=true:=by rfl)(hsw:swapsWith (.Call (.Attribute (.Name x xpos) "reverse" apos) [] [] cpos) none pos.line X.env=pure false:=by rfl):QS X (.Expr (.Call (.Attribute (.Name x xpos) "reverse" apos) [] [] cpos) pos) (tV i):=
 dN (lQ (M8 bM3 PySem.F.slot_list_reverse PySem.F.type_list_reverse aD0 (iF hN hv hd hcd) hbase hline) hsw) λ_ _ _=>bh0
def oA (i:Nat)(ta tb:aD):aI:=λD ρ=>∃xs,ρ[i]? = some (some (.own (.lst xs)))/\ta ρ λx _=>∃k:Nat,x = .int k/\k<=xs.length/\xs.length<16000000/\tb ρ λy g=>Nw g y/\D.nx (ρ.set i (some (.own (.lst (xs.take k++y::xs.drop k)))))
theorem bh2 {i:Nat}(h:LS X (oA i ta tb) D σ H):mR (vV X.K "list" aa8 (hV i) (iH (LE X ta) (iH (LE X tb) kX))) D σ H:=by
 obtain⟨W,ρ,D',px,⟨xs,hi,q⟩,k⟩:=h
 obtain⟨v,ev,a,rfl,wa,us,ea,r⟩:=px.sl i _ hi
 refine⟨_,ev,mX (aQ.of ea),W,ρ,_,px,q,?_⟩
 rintro w H1 x g s rx ⟨j,rfl,hj,hl,q⟩
 cases rx
 refine⟨W,ρ,_,px.mono s,q,?_⟩
 rintro w H2 y g s2 ry ⟨n,q⟩
 have ea2:=s2 _ _ (s _ _ ea)
 have s3:=s.trans s2
 refine⟨a,us,w,j,rfl,rfl,ea2,by rw[r.length];exact hj,jY (by rw[r.length];omega),?_⟩
 refine k.nx W σ _ _ ((Ev.same s3).trans (Ev.upd wa)) ((px.mono s3).updL hi ev wa ?_) q
 have r2:=r.same s3 λ_ z=>z
 exact ((r2.take j).append (.cons (Nw.rep (px.mono s) n ry) (r2.drop j))).keep (.upd ea2 rfl λb m=>⟨k7 wa m,m⟩)
theorem ah7 (i:Nat){x:Str}{apos cpos xpos:Pos}(ha:QE X a ta)(hb:QE X b tb)(hN:X.N[i]? = some x:=by rfl)(hv:fU X.env.scope x:=by first|exact Or.inl rfl|exact Or.inr (Or.inl rfl)|exact Or.inr (Or.inr rfl))(hd:(x==("__debug__":Str))=false:=by decide)(hcd:(x==("__classdict__":Str))=false:=by decide)(hbase:attributeBase (.Name x xpos) "insert" X.env (eval (.Name x xpos) X.env)=eval (.Name x xpos) X.env:=by rfl)(hfew:((backTo cpos (starEach [a,b] X.env)).all (λx=>!x.1)&&(backToKw cpos (keywordEach [] X.env)).all (λx=>x.1.isSome)&&decide (([a,b]:List Expr).length+([]:List Keyword).length+(if ([]:List Keyword).isEmpty then 0 else 1)<30))=true:=by rfl)(hline:(apos.endLine==cpos.line)=true:=by rfl)(hs:starEach [a,b] X.env=(false,eval a X.env)::starEach [b] X.env:=by rfl)(hs2:starEach [b] X.env=(false,eval b X.env)::starEach [] X.env:=by rfl)(hplain:(backTo cpos (starEach [b] X.env)).any (·.1)=false:=by rfl)(hsw:swapsWith (.Call (.Attribute (.Name x xpos) "insert" apos) [a,b] [] cpos) none pos.line X.env=pure false:=by rfl) :
  QS X (.Expr (.Call (.Attribute (.Name x xpos) "insert" apos) [a,b] [] cpos) pos) (oA i ta tb):=
 dN (lQ (rC bM3 PySem.F.slot_list_insert PySem.F.type_list_insert aV9 (iF hN hv hd hcd) (eC ha (eC hb fW hs2) hs) hbase hfew hline hs hplain) hsw) λ_ _ _=>bh2
end
end PP
namespace Core
open PySem L2 PP
def tW:bF:=λxs Q=>∃(s:af) (n:Nat) (c:Int),xs = [.tup (intz s),.int n,.int c]/\aX n s=true/\s.length<=40/\∀ys,ys.length<=41->aX n ys=false->Q (.tup (intz ys))
def ah8:aI:=(aF (gB 3 (aB pM (a6 (a5 0) a9)))
 (aF (bE 4 (cZ (gE (a5 2) (qC (.int 1009))) (aO2 (qC (.int 10)) (qC (.int 30)))))
 (aF (bE 5 (cZ (gE (a5 2) (qC (.int 4))) (fI (aB dC (a6 (a5 3) a9)) (qC (.int 1)))))
 (aF (cI (gA (aY (gQ (cZ (a5 2) (qC (.int 4))) (qC (.int 0)))) (aY (jH (aB dC (a6 (a5 3) a9)) (qC (.int 0))))) (oA 3 (a5 5) (bZ (a5 3) (cZ (gE (a5 2) (qC (.int 64))) (aB dC (a6 (a5 3) a9))))) (cI (gA (aY (gQ (cZ (a5 2) (qC (.int 4))) (qC (.int 1)))) (aY (jH (aB dC (a6 (a5 3) a9)) (qC (.int 1))))) (tV 3) (oA 3 (a5 5) (bZ (i7 (a6 (m5 (qC (.int 1))) (a6 (a5 1) (a6 (iU (m5 (qC (.int 1))) (a5 4)) (a6 (fI (a5 1) (a5 4)) a9))))) (cZ (gE (a5 2) (qC (.int 64))) (qC (.int 4)))))))
 (bC (aB dW (a6 (a5 3) a9)))))))
theorem bh3 {n:Nat}{s:af}(h:1<s.length)(hs:aX n s=true):aX n s.reverse=false:=A4 λe=>by
 have p:=dJ (c8 hs).1
 have p2:=dJ (c8 e).1
 rw[List.pairwise_reverse]at p2
 cases s with
 |nil=>exact absurd h (by decide)
 |cons a r=>
  cases r with
  |nil=>exact absurd h (by show ¬1<1;decide)
  |cons b r=>
   have h1:=List.rel_of_pairwise_cons p (bA4 (a:=b))
   have h2:=List.rel_of_pairwise_cons p2 (bA4 (a:=b))
   omega
theorem bh4:bX ah8 ["some","many","cell","odd","far","spot"] tW:=by
 rintro xs Q ⟨s,n,c,rfl,hs,hl,q⟩
 refine⟨_,rfl,_,_,rfl,rfl,cS _,rfl,cS _,?_⟩
 refine⟨_,rfl,_,_,rfl,rfl,⟨by decide,by decide⟩,_,_,rfl,rfl,⟨by decide,by decide,by decide⟩,_,_,rfl,rfl,(by show (0:Int)<10^(30:Int).toNat;decide),trivial,?_⟩
 dsimp only
 have f0:0<=c/1009%10^(30:Int).toNat:=bK4 _ (by decide)
 generalize c/1009%10^(30:Int).toNat=f at f0
 refine⟨_,rfl,_,_,rfl,rfl,⟨by decide,by decide⟩,_,rfl,_,_,rfl,rfl,_,_,rfl,rfl,_,_,rfl,rfl,by omega,trivial,?_⟩
 dsimp only
 rw[bH]
 have k0:0<=c/4%((s.length:Int)+1):=bK4 _ (by omega)
 have k1:c/4%((s.length:Int)+1)<(s.length:Int)+1:=bK3 _ (by omega)
 generalize c/4%((s.length:Int)+1)=k at k0 k1
 obtain⟨k,rfl⟩:∃m:Nat,k=m:=⟨k.toNat,by omega⟩
 have fin:∀ys:af,ys.length<=41->aX n ys=false->bC (aB dW (a6 (a5 3) a9)) { nx:=λ_=>Q .non,rt:=Q } [some (.sh (flat (.tup (intz s))) (.tup (intz s))),si n,si c,some (.own (.lst (intz ys))),si f,si k]:=λys h1 h2=>
  ⟨_,rfl,⟨_,_,rfl,rfl,cS _,trivial,q ys h1 h2⟩,λns z=>by cases z⟩
 have ins:∀x:Int,aX n (s.take k++[x]++s.drop k)=false->bC (aB dW (a6 (a5 3) a9)) { nx:=λ_=>Q .non,rt:=Q } [some (.sh (flat (.tup (intz s))) (.tup (intz s))),si n,si c,some (.own (.lst ((intz s).take k++PV.int x::(intz s).drop k))),si f,si k]:=λx hx=>by
  have e:(intz s).take k++PV.int x::(intz s).drop k=intz (s.take k++[x]++s.drop k):=by
   unfold intz
   rw[bC3,bC3,List.map_take,List.map_drop,bC5]
   rfl
  rw[e]
  refine fin _ ?_ hx
  rw[bB1,bB1,bI3,bI5]
  show _+1+_<=41
  omega
 have third:oA 3 (a5 5) (bZ (i7 (a6 (m5 (qC (.int 1))) (a6 (a5 1) (a6 (iU (m5 (qC (.int 1))) (a5 4)) (a6 (fI (a5 1) (a5 4)) a9))))) (cZ (gE (a5 2) (qC (.int 64))) (qC (.int 4)))) { nx:=bC (aB dW (a6 (a5 3) a9)) { nx:=λ_=>Q .non,rt:=Q },rt:=Q }
   [some (.sh (flat (.tup (intz s))) (.tup (intz s))),si n,si c,some (.own (.lst (intz s))),si f,si k]:=by
  have j0:0<=c/64%4:=bK4 _ (by decide)
  have j1:c/64%4<4:=bK3 _ (by decide)
  have odd:∃x:Int,(x<0∨(n:Int)<=x)/\L2.atI [PV.int (-1),PV.int n,PV.int (-1-f),PV.int (n+f)] (c/64%4)=some (.int x):=by
   generalize c/64%4=j at j0 j1
   rcases (show j=0∨j=1∨j=2∨j=3 by omega) with rfl|rfl|rfl|rfl
   ·exact⟨-1,by omega,rfl⟩
   ·exact⟨n,by omega,rfl⟩
   ·exact⟨-1-f,by omega,rfl⟩
   ·exact⟨n+f,by omega,rfl⟩
  obtain⟨x,hx,at4⟩:=odd
  refine⟨_,rfl,_,rfl,k,rfl,by rw[bH];omega,by rw[bH];omega,?_⟩
  refine⟨_,rfl,_,rfl,_,rfl,_,rfl,_,_,rfl,rfl,_,rfl,_,rfl,_,_,rfl,rfl,(by show 4<=1000;decide),rfl,?_⟩
  refine⟨_,rfl,_,_,rfl,rfl,⟨by decide,by decide⟩,_,_,rfl,rfl,(by show (0:Int)<4;decide),?_⟩
  exact⟨_,_,_,rfl,rfl,at4,trivial,ins x (bg5 hx)⟩
 have second:cI (gA (aY (gQ (cZ (a5 2) (qC (.int 4))) (qC (.int 1)))) (aY (jH (aB dC (a6 (a5 3) a9)) (qC (.int 1))))) (tV 3) (oA 3 (a5 5) (bZ (i7 (a6 (m5 (qC (.int 1))) (a6 (a5 1) (a6 (iU (m5 (qC (.int 1))) (a5 4)) (a6 (fI (a5 1) (a5 4)) a9))))) (cZ (gE (a5 2) (qC (.int 64))) (qC (.int 4))))) { nx:=bC (aB dW (a6 (a5 3) a9)) { nx:=λ_=>Q .non,rt:=Q },rt:=Q }
   [some (.sh (flat (.tup (intz s))) (.tup (intz s))),si n,si c,some (.own (.lst (intz s))),si f,si k]:=by
  refine⟨_,rfl,_,_,rfl,rfl,(by show (0:Int)<4;decide),.inl ⟨_,_,rfl,rfl,_,rfl,?_⟩⟩
  cases h1:(if false=true then !decide (c%4=1) else decide (c%4=1)) with
  |false=>exact aT (aT third)
  |true=>
   refine b9 ⟨_,rfl,_,_,rfl,rfl,_,_,rfl,rfl,_,rfl,?_⟩
   rw[bH]
   by_cases h2:(1:Int)<(s.length:Int)
   ·dsimp only
    rw[bz9 h2]
    refine b9 ⟨_,rfl,?_⟩
    have e:(intz s).reverse=intz s.reverse:=(List.map_reverse).symm
    rw[e]
    exact fin _ (by rw[List.length_reverse];omega) (bh3 (by omega) hs)
   ·dsimp only
    rw[bA0 h2]
    exact aT third
 refine⟨_,rfl,_,_,rfl,rfl,(by show (0:Int)<4;decide),.inl ⟨_,_,rfl,rfl,_,rfl,?_⟩⟩
 cases h1:(if false=true then !decide (c%4=0) else decide (c%4=0)) with
 |false=>exact aT (aT second)
 |true=>
  refine b9 ⟨_,rfl,_,_,rfl,rfl,_,_,rfl,rfl,_,rfl,?_⟩
  rw[bH]
  by_cases h2:(0:Int)<(s.length:Int)
  ·dsimp only
   rw[bz9 h2]
   have j0:0<=c/64%(s.length:Int):=bK4 _ (by omega)
   have j1:c/64%(s.length:Int)<(s.length:Int):=bK3 _ h2
   have g:∃x,x∈s/\L2.atI (intz s) (c/64%(s.length:Int))=some (.int x):=by
    generalize c/64%(s.length:Int)=j at j0 j1
    have e:=bA6 (l:=s) (i:=j.toNat) (by omega)
    refine⟨_,bD7 e,?_⟩
    have:=jD (xs:=intz s) (j:=j.toNat) (by rw[bB6,e];rfl)
    rwa [show ((j.toNat:Nat):Int)=j by omega]at this
   obtain⟨x,hx,ax⟩:=g
   refine b9 ⟨_,rfl,_,rfl,k,rfl,by rw[bH];omega,by rw[bH];omega,?_⟩
   refine⟨_,rfl,_,rfl,_,_,rfl,rfl,⟨by decide,by decide⟩,_,rfl,_,_,rfl,rfl,_,_,rfl,rfl,by rw[bH];exact h2,?_⟩
   rw[bH]
   exact⟨_,_,_,rfl,rfl,ax,zN _ _,ins x (bg4 hx)⟩
  ·dsimp only
   rw[bA0 h2]
   exact aT second
end Core
namespace PP
open PySem L2
section
variable {X:Cx}{te:aD}{pos p2:Pos}{scope:Scope}{N:List Str}{fr:List (Option Nat)}{x:Str}{tp:Pos}{iter elt:Expr}{ti:eM}
theorem bh5 {ifs:List Expr}{tcs:cH}(he:∀(s:Shared) (H:Hp) (C:Addr) (fp:List Addr),QE (bM X scope N s H C fp c7) elt te)(hi:∀(s:Shared) (H:Hp) (C:Addr) (fp:List Addr),jV (bM X scope N s H C fp c7) ifs (LT (bM X scope N s H C fp c7) tcs))(hN:N.Nodup)(h0:N[0]? = some x)(hl:∀(s:Shared) (H:Hp) (C:Addr) (fp:List Addr),(bM X scope N s H C fp c7).env.scope.names.lookup x=some .cell)(ho:scope.names.lookup x=some .cell)(s:Shared)(H:Hp) :
  lU X scope N (.Name x tp) ifs elt s H (dL 0) (LT (X.frm H) tcs) (LE (X.frm H) te):=
 ⟨λC fp=>j9 (X:=bM X scope N s H C fp c7) hN h0 (.inr (hl s H C fp)) (.inl (show (scope.names.lookup x==some NameKind.cell)=true by rw[ho];rfl)),λC fp=>hi s H C fp,λC fp=>he s H C fp⟩
theorem bh6 {i:Nat}{z:Str}{zp:Pos}(nd:X.N.Nodup)(hi:QI X (.Name x tp) iter ti)(he:∀(s:Shared) (H:Hp) (C:Addr) (fp:List Addr),QE (bM X scope N s H C fp c7) elt te)(hz:X.N[i]? = some z:=by rfl)(hzl:X.env.scope.names.lookup z=some .local:=by rfl)(hsw:swapsWith (.ListComp elt [⟨.Name x tp,iter,[],0⟩] scope p2) (some (.Name z zp)) pos.line X.env=pure true:=by rfl)(hc:X.calm=true:=by rfl)(S:dM X scope N fr:=by exact dM.of rfl rfl)(hN:N.Nodup:=by decide +kernel)(h0:N[0]? = some x:=by rfl)(hl:∀(s:Shared) (H:Hp) (C:Addr) (fp:List Addr),(bM X scope N s H C fp c7).env.scope.names.lookup x=some .cell:=by intro _ _ _ _;rfl)(ho:scope.names.lookup x=some .cell:=by rfl)(hf:fr[0]? = some none:=by rfl)(hs:∀x,foldedSetIterable iter X.env x=pure x:=by intro _;rfl):QS X (.Assign [.Name z zp] (.ListComp elt [⟨.Name x tp,iter,[],0⟩] scope p2) pos) (bE i (cQ ti fr (bQ 0) eD te)):=
 dN (wM (gh:=λ_=>dL 0) (tch:=λH=>LT (X.frm H) eD) (teh:=λH=>LE (X.frm H) te) hc S hi (bh5 he (λ_ _ _ _=>yI) hN h0 hl ho) nd hz hzl hsw hs) λD σ H h=>nI (pR _ 0) (λi e=>by subst e;exact hf) (sA h)
end
section
variable {X:Cx}{e:Expr}{tr:dB}{pos p2:Pos}
def tX:List PV->(PV->Prop)->Prop:=λxs Q=>∃ys:ae,xs = [.lst (ys.map λr=>PV.tup (intz r))]/\ys.length<=4096/\(∀y∈ys,y.length=2)/\∀zs:ae,zs.Perm ys->zs.Pairwise (λu v=>HT.bP v u=false)->Q (.lst (zs.map λr=>PV.tup (intz r)))
theorem bh7:e8 X tX (aa1 X.K):=by
 rintro H vs xs Q Q' r ⟨ys,rfl,hl,hne,q⟩ k
 obtain⟨v,rfl,r1⟩:=r.one
 obtain⟨a,us,rfl,_,h,r2⟩:=r1.sqL
 obtain⟨h1,h2⟩:=zP r2
 have lr:=r2.length
 rw[bA5]at lr
 refine⟨a,us,kM H,rfl,aQ.of h,by omega,λy hy=>?_,λl zs hl' pm so=>?_⟩
 ·obtain⟨b,rfl,hb⟩:=h2 y hy
  refine⟨b,rfl,aH.of hb,hne _ ?_⟩
  rw[<- h1];exact bF0.mpr ⟨_,hy,rfl⟩
 ·have hz:∀u∈zs,∃b,u = .ref b/\H b=some (.tup ((kM H u).map V.int)):=λu hu=>h2 u (pm.mem_iff.mp hu)
  refine k _ _ _ (bK hl' _) (.lst hl' bJ ((zQ hz).same (bK hl' _) λ_ z=>z)) (q _ ?_ ?_)
  ·rw[<- h1];exact pm.map _
  ·rw[bG8];exact so
theorem ah9 (B:Bt X.mg)(ha:QA X [e] tr)(hg:Gl X "sorted":=by rfl)(he:starEach [e] X.env=(false,eval e X.env)::starEach [] X.env:=by rfl)(hpl:(backTo pos (starEach [] X.env)).any (·.1)=false:=by rfl):QE X (.Call (.Name "sorted" p2) [e] [] pos) (aB tX tr):=
 gS aT6 bh7 hg B.sorted bN6 ha (he:=he) (hpl:=hpl)
end
end PP
namespace Core
open PySem L2 PP
structure WL (n:Int)(ws:af)(ls:aa):Prop where
 many:(ws.length:Int)=n
 inn:∀l∈ls,0<=l.1/\l.1<l.2/\l.2<n
 most:ls.length<=1700
 ord:ls.Pairwise fC
 pos:∀w∈ws,0<=w
theorem WL.perm {n:Int}{ws:af}{ls ls':aa}(h1:(ws.length:Int)=n)(h2:∀l∈ls,0<=l.1/\l.1<l.2/\l.2<n)(h3:ls.length<=1700)(nd:ls.Nodup)(h4:∀w∈ws,0<=w)(p:ls'.Perm ls)(so:(ls'.map two).Pairwise λu v=>HT.bP v u=false):WL n ws ls':=
 ⟨h1,λl hl=>h2 l (p.mem_iff.mp hl),by rw[p.length_eq];exact h3,ad2 so (p.nodup_iff.mpr nd),h4⟩
theorem DK.few40 {n:Int}{ps:List (List aC×PV)}(h:DK n ps)(hn:n<=40):ps.length<=1600:=by
 obtain⟨ls,_,e2,e3,e4⟩:=DL.links h.key
 have nd:ls.Nodup:=by
  have:=h.nd
  rw[e4]at this
  exact (bG8.mp this).imp λh e=>h (congrArg gI e)
 have:=A8 1600 (ls.map λl=>(l.1*40+l.2).toNat) (by
  refine bG8.mpr (nd.imp_of_mem λ{a b} ha hb hab e=>hab ?_)
  have:=e2 a ha
  have:=e2 b hb
  exact Prod.ext (by omega) (by omega)) λx hx=>by
   obtain⟨l,hl,rfl⟩:=bF0.mp hx
   have:=e2 l hl
   omega
 rw[bA5,e3]at this
 omega
def tY:cR:=λEp xs Q=>∃ws ls x S,xs = [bL ws ls,x]/\Wb ws ls/\cX x S/\S.length<=1000/\(aX ws.length S=true->Q (.bl (decide (stay ws ls S=S))))/\(aX ws.length S=false->Ep "BadSet")
def ai0 (Ep:Str->Prop):aI:=(aF (bE 2 (fP Ep iD (a6 (a5 0) (a6 (a5 1) a9))))
 (bC (q2 (nJ 2 false) (aB tO (a6 (a5 0) (a6 (aB j4 (a6 (a5 0) a9)) (a6 (a5 2) a9)))) (a5 2))))
theorem bh8:gK ai0 ["web","block","chosen"] tY:=by
 rintro Ep xs Q ⟨ws,ls,x,S,rfl,wb,hx,hl,q,qe⟩
 refine⟨_,rfl,_,rfl,ws,ls,x,S,rfl,hx,hl,λhs=>⟨trivial,?_⟩,qe⟩
 have q:=q hs
 refine⟨_,rfl,_,rfl,ws,ls,rfl,wb,_,rfl,ws,ls,_,S,rfl,wb,.inl rfl,hs,_,rfl,.inl ⟨_,_,rfl,rfl⟩,V0 2 _ _,trivial,?_⟩
 show Q (.bl (cJ 3 (.tup (intz (stay ws ls S))) (.tup (intz S))))
 rw[U9];exact q
def tZ:bF:=λxs Q=>∃c:Int,xs = [.int c]/\∀z:Int,0<=z->z<=40->Q (.int z)
def ai1:aI:=(aF (cI (aY (gQ (cZ (gE (a5 0) (qC (.int 8))) (qC (.int 3))) (qC (.int 1)))) (bC (cZ (gE (a5 0) (qC (.int 24))) (qC (.int 41)))) cY)
 (bC (cZ (a5 0) (qC (.int 8)))))
theorem bh9:bX ai1 ["cell"] tZ:=by
 rintro xs Q ⟨c,rfl,q⟩
 refine⟨_,rfl,_,_,rfl,rfl,⟨by decide,by decide⟩,_,_,rfl,rfl,(by show (0:Int)<3;decide),.inl ⟨_,_,rfl,rfl,_,rfl,?_⟩⟩
 cases h:(if false=true then !decide (c/8%3=1) else decide (c/8%3=1)) with
 |true=>exact b9 ⟨_,rfl,_,_,rfl,rfl,⟨by decide,by decide⟩,_,_,rfl,rfl,(by show (0:Int)<41;decide),trivial,q _ (bK4 _ (by decide)) (by have:=bK3 (c/24) (show (0:Int)<41 by decide);omega)⟩
 |false=>exact aT ⟨_,rfl,_,_,rfl,rfl,(by show (0:Int)<8;decide),trivial,q _ (bK4 _ (by decide)) (by have:=bK3 c (show (0:Int)<8 by decide);omega)⟩
def qP (f:af->aa->af->(PV->Prop)->Prop):cR:=λEp xs Q=>∃ws ls x ns,xs = [bL ws ls,x]/\Wb ws ls/\cX x ns/\ns.length<=1000/\(aX ws.length ns=true->f ws ls ns Q)/\(aX ws.length ns=false->Ep "BadSet")
def u5:cR:=qP λws ls ns Q=>∀m,cP ws ls ns m->Q (.lst (tups (ns::after ws ls ns m)))
def u6:cR:=qP λws ls ns Q=>∀m,cP ws ls ns m->Q (.dK (kQ (ns::after ws ls ns m)))
def u7:cR:=qP λws ls ns Q=>∀ms m,cP ws ls ns m->ms.Perm (bA ws ls ns m)->ms.Pairwise (· <= ·)->Q (.tup (intz ms))
def u8:cR:=qP λws ls ns Q=>∀m,cP ws ls ns m->Q (.bl (decide (((bA ws ls ns m).length:Int)=(ws.length:Int))))
def ai2 (Ep:Str->Prop):aI:=(aF (gB 2 (i7 (a6 (fP Ep iD (a6 (a5 0) (a6 (a5 1) a9))) a9)))
 (aF (gB 3 (aB gU (a6 (bZ (a5 2) (qC (.int 0))) a9)))
 (aF (bE 4 (aB j4 (a6 (a5 0) a9)))
 (aF (bE 5 (aB qJ (a6 (a5 0) (a6 (a5 4) (a6 (a5 3) a9)))))
 (aF (nE (nF (a5 5))
  (aF (lB 2 (a5 5))
  (aF (xM 3 (aB gU (a6 (a5 5) a9)))
  (bE 5 (aB qJ (a6 (a5 0) (a6 (a5 4) (a6 (a5 3) a9))))))))
 (k8 2))))))
theorem bi0:gK ai2 ["web","seeds","told","burning","around","lit"] u5:=by
 rintro Ep xs Q ⟨ws,ls,x,ns,rfl,wb,hx,hl,q,qe⟩
 have few:=wb.few
 refine⟨_,rfl,_,rfl,ws,ls,x,ns,rfl,hx,hl,λhs=>?_,qe⟩
 have q:=q hs
 have ln:=kL hs
 refine⟨by show 1<=1000;decide,?_,rfl,?_,?_⟩
 ·show (flat (.tup (intz ns))&&true)=true
  rw[nY];rfl
 ·show (flat (.tup (intz ns))&&true)=true
  rw[nY];rfl
 refine⟨_,rfl,_,_,_,rfl,rfl,rfl,_,ns,rfl,.inl rfl,by omega,λps d=>⟨rfl,d.fl,?_⟩⟩
 refine⟨_,rfl,ws,ls,rfl,wb,trivial,?_⟩
 refine⟨_,rfl,_,rfl,_,rfl,ws,ls,ps,ns,rfl,wb,d,trivial,?_⟩
 refine⟨λn ρ=>∃k ps,ρ = [some (.sh (flat (bL ws ls)) (bL ws ls)),some (.sh (flat x) x),some (.own (.lst (tups (ns::after ws ls ns k)))),some (.own (.dK ps)),some (.sh true (.lst (eR ws.length ls))),some (.sh true (.tup (intz (nextOf ws ls (bA ws ls ns k)))))]/\
   n=cold ws (bA ws ls ns k)/\DS ps (bA ws ls ns k)/\∀j<k,nextOf ws ls (bA ws ls ns j)≠[],⟨_,0,ps,rfl,rfl,d,λ_ z=>absurd z (Nat.not_lt_zero _)⟩,?_⟩
 rintro n ρ ⟨k,ps,rfl,rfl,d,ne⟩
 refine⟨_,rfl,_,rfl,?_⟩
 cases hn:nextOf ws ls (bA ws ls ns k) with
 |nil=>exact aT ⟨_,rfl,trivial,q k ⟨ne,hn⟩⟩
 |cons y yr=>
  refine b9 ?_
  rw[<- hn]
  have cs:=zB ws ls (bA ws ls ns k)
  have nl:1<=(nextOf ws ls (bA ws ls ns k)).length:=by rw[hn];exact Nat.succ_le_succ (bE9 _)
  have nle:=aW2 ws ls (bA ws ls ns k)
  have sl:=zL (ls:=ls) hs k
  have dl:=d.len
  have ke:=ab0 k ne
  refine⟨_,rfl,_,rfl,trivial,?_,?_⟩
  ·rw[gV,bC7]
   unfold after
   rw[bA5,bI9];omega
  refine⟨_,rfl,_,rfl,_,_,rfl,.inl rfl,by omega,λmp dm=>⟨mp,rfl,.inl rfl,?_,?_⟩⟩
  ·have:=dm.len;omega
  have D7:DS (iS ps mp) (bA ws ls ns (k+1)):=d.merge dm
  refine⟨_,rfl,_,rfl,_,rfl,ws,ls,_,_,rfl,wb,D7,trivial,?_⟩
  refine⟨_,?_,k+1,iS ps mp,?_,rfl,D7,λj hj=>?_⟩
  ·show cold ws (bA ws ls ns k++nextOf ws ls (bA ws ls ns k))<_
   omega
  ·rw[aa9,<- List.cons_append]
   unfold tups
   rw[bC3];rfl
  ·by_cases e:j=k
   ·rw[e,hn];exact λz=>nomatch z
   ·exact ne j (by omega)
def ai3 (Ep:Str->Prop):aI:=(aF (gB 2 (qC (.dK [])))
 (aF (eN (tL (fP Ep u5 (a6 (a5 0) (a6 (a5 1) a9)))) (lZ 3 4)
  (eN (dD (a5 4)) (bQ 5)
   (pS 2 (a5 5) (a5 3))))
 (k8 2)))
theorem bi1:gK ai3 ["web","seeds","ranks","rank","lit","hearth"] u6:=by
 rintro Ep xs Q ⟨ws,ls,x,ns,rfl,wb,hx,hl,q,qe⟩
 have few:=wb.few
 refine⟨rfl,rfl,_,rfl,_,rfl,ws,ls,x,ns,rfl,wb,hx,hl,λhs m en=>⟨_,.inl rfl,λz=>(by cases z),?_⟩,qe⟩
 have q:=q hs
 have fl:=zE ws ls ns m
 have sl:=zL (ls:=ls) hs m
 have nd:=af1 (ls:=ls) hs m
 generalize hrs:ns::after ws ls ns m=rs at fl
 rw[<- fl]at sl nd
 refine⟨λi ρ=>∃y z u,ρ = [some (.sh (flat (bL ws ls)) (bL ws ls)),some (.sh (flat x) x),some (.own (.dK (kQ (rs.take i)))),y,z,u],⟨none,none,none,rfl⟩,?_,?_⟩
 ·rintro i y ρ hy ⟨y0,z0,u0,rfl⟩
  obtain⟨y,hy2,rfl⟩:=ae3 hy
  obtain⟨r,rfl,hr⟩:=t9 hy2
  have tk:rs.take (i+1)=rs.take i++[r]:=by rw[bD9,hr];rfl
  have il:(rs.take i).length=i:=by
   have:=(bB0.mp hr).1
   rw[bI3];omega
  have nd2:((rs.take i).flatten++r).Nodup/\((rs.take i).flatten++r).length<=rs.flatten.length:=by
   have e:rs.flatten=((rs.take i).flatten++r)++(rs.drop (i+1)).flatten:=by
    rw[<- List.flatten_singleton (l:=r),<- List.flatten_append,<- tk,<- List.flatten_append,bE3]
   rw[e]at nd ⊢
   exact⟨(bG9.mp nd).1,by rw[bB1 (as:=(rs.take i).flatten++r)];omega⟩
  refine⟨_,_,rfl,_,rfl,_,rfl,λz=>(by cases z),λj ρ=>∃u,ρ = [some (.sh (flat (bL ws ls)) (bL ws ls)),some (.sh (flat x) x),some (.own (.dK (kQ (rs.take i)++iC i (r.take j)))),some (.sh true (.int (i:Int))),some (.sh true (.tup (intz r))),u],⟨u0,?_⟩,?_,?_⟩
  ·rw[show iC i (r.take 0) = [] from rfl,bD5]
   rfl
  ·rintro j y ρ hy ⟨u1,rfl⟩
   obtain⟨n,rfl,hn⟩:=gH hy
   have ke:(kQ (rs.take i)++iC i (r.take j)).map (·.1)=((rs.take i).flatten++r.take j).map (Sum.inl:Int->aC):=by
    rw[bC3,bC3,ag1,af9]
   have nn:n∉(rs.take i).flatten++r.take j:=by
    have:=nd2.1
    rw[<- bE3 j r,List.drop_eq_getElem_cons (bB0.mp hn).1,(bB0.mp hn).2,<- bC5]at this
    exact λz=>(bG9.mp this).2.2 n z n bA4 rfl
   have le:(kQ (rs.take i)++iC i (r.take j)).length<=40:=by
    have e1:=congrArg List.length ke
    have e2:=nd2.2
    rw[bA5,bA5,bB1,bB1,bI3]at e1
    rw[bB1]at e2
    rw[bB1]
    omega
   refine⟨_,rfl,_,rfl,_,rfl,Sum.inl n,rfl,trivial,by omega,si n,?_⟩
   rw[ag2 ke nn,bd8 hn,bC5]
   rfl
  ·rintro ρ ⟨u,rfl⟩
   refine⟨some (.sh true (.int i)),some (.sh true (.tup (intz r))),u,?_⟩
   rw[bH,bD8,tk,bd7,il]
 ·rintro ρ ⟨y,z,u,rfl⟩
  rw[qM,gV,bD8,<- hrs]
  exact⟨_,rfl,trivial,q m en⟩
def ai4 (Ep:Str->Prop):aI:=(bC (aB dW (a6 (aB tP (a6 (fP Ep u6 (a6 (a5 0) (a6 (a5 1) a9))) a9)) a9)))
theorem bi2:gK ai4 ["web","seeds"] u7:=by
 rintro Ep xs Q ⟨ws,ls,x,ns,rfl,wb,hx,hl,q,qe⟩
 have few:=wb.few
 refine⟨_,rfl,_,rfl,ws,ls,x,ns,rfl,wb,hx,hl,λhs m en=>?_,qe⟩
 have sl:=zL (ls:=ls) hs m
 refine⟨_,bA ws ls ns m,rfl,?_,by omega,λms hp ho=>⟨⟨_,_,rfl,rfl,cS _,trivial,q hs ms m en hp ho⟩,λns z=>by cases z⟩⟩
 rw[ag1,zE]
def ai5 (Ep:Str->Prop):aI:=(bC (gQ (aB dC (a6 (fP Ep u7 (a6 (a5 0) (a6 (a5 1) a9))) a9)) (aB fN (a6 (a5 0) a9))))
theorem bi3:gK ai5 ["web","seeds"] u8:=by
 rintro Ep xs Q ⟨ws,ls,x,ns,rfl,wb,hx,hl,q,qe⟩
 refine⟨_,rfl,_,rfl,ws,ls,x,ns,rfl,wb,hx,hl,λhs ms m en hp ho=>⟨_,_,rfl,rfl,_,rfl,ws,ls,rfl,.inl ⟨_,_,rfl,rfl,trivial,?_⟩⟩,qe⟩
 rw[bH,hp.length_eq]
 exact q hs m en
def u9:bF:=λxs Q=>∃ws ls y ms,xs = [bL ws ls,y]/\cX y ms/\ms.length<=1000/\ws.length<=1000/\Q (.tup (intz (dA ws.length ms)))
def ai6:aI:=(bC (aB o9 (a6 (qK (aB fN (a6 (a5 0) a9))) (a6 (a5 1) a9))))
theorem bi4:bX ai6 ["web","some"] u9:=by
 rintro xs Q ⟨ws,ls,y,ms,rfl,hy,hm,hw,q⟩
 refine⟨_,rfl,ws,ls,rfl,_,rfl,by omega,by omega,?_⟩
 rw[tH]
 refine⟨_,rfl,_,rng ws.length,y,ms,rfl,.inr rfl,hy,by rw[eO];omega,hm,trivial,q⟩
theorem bi5 (ws:af)(S:af):(dA ws.length S).length=cold ws S:=rfl
end Core
namespace PP
open PySem L2
section
variable {X:Cx}{a:Expr}{tk:aD}{σ:St}{H:Hp}{Q':VK}{pos p2:Pos}
def A9 (tk:aD):aD:=λρ Q=>tk ρ λx _=>∃n:Int,x = .int n/\Q (.dK [(Sum.inl n,.bl true)]) .fr
theorem bi6 (h:LE X (A9 tk) σ H Q'):O9 [(LE X tk,tC (.bl true))] σ H Q':=by
 obtain⟨W,ρ,Q,px,q,k⟩:=h
 intro p hp
 refine⟨W,ρ,_,px.mono (bK hp _),q,?_⟩
 rintro v H1 x g s r ⟨n,rfl,q1⟩
 cases r
 have hp1:H1 p=some (.dK []):=s p _ bJ
 refine⟨hp1,[((Sum.inl n:aC),V.bl true)],rfl,by show 1<=15;decide,?_⟩
 have sm:aE H (upd H1 p (.dK (jE [] [((Sum.inl n:aC),V.bl true)]))):=λb o e=>by
  have nb:b≠p:=λz=>by rw[z,hp]at e;cases e
  rw[aW nb]
  exact s b o (by rw[aW nb];exact e)
 exact k _ _ _ .fr sm (.dK hp bJ rfl (.cons (.bl true) .nil)) q1
theorem bi7 {j:Nat}(ha:QE X a tk):QE X (.Dict [some a] [.Constant (.bool true) j p2] pos) (A9 tk):=
 cK (aE4 (aE3 ha E6 aE2) rfl rfl (by simp) (by show 1<=15;decide)) λ_ _ _=>bi6
theorem bi8 (hN:X.N.Nodup)(i j:Nat){x y:Str}{apos cpos xpos:Pos}(hi:X.N[i]? = some x:=by rfl)(hj:X.N[j]? = some y:=by rfl)(hv:fU X.env.scope x:=by first|exact Or.inl rfl|exact Or.inr (Or.inl rfl)|exact Or.inr (Or.inr rfl))(hd:(x==("__debug__":Str))=false:=by decide)(hcd:(x==("__classdict__":Str))=false:=by decide)(hbase:attributeBase (.Name x xpos) "pop" X.env (eval (.Name x xpos) X.env)=eval (.Name x xpos) X.env:=by rfl)(hline:(apos.endLine==cpos.line)=true:=by rfl)(hx:j8 X.env.scope y:=by first|exact Or.inl rfl|exact Or.inr rfl)(hs:swapsWith (.Call (.Attribute (.Name x xpos) "pop" apos) [] [] cpos) (some (.Name y p2)) pos.line X.env=pure false:=by rfl)(hf:X.fn y=true∨X.env.scope.names.lookup y=some .local:=by first|exact .inl rfl|exact .inr rfl) :
  QS X (.Assign [.Name y p2] (.Call (.Attribute (.Name x xpos) "pop" apos) [] [] cpos) pos) (xB i j):=
 dN (vA hN hj hx (M8 bM3 PySem.F.slot_list_pop PySem.F.type_list_pop aC9 (iF hi hv hd hcd) hbase hline) hs hf) λ_ _ _=>aL4
end
end PP
namespace Core
open PySem L2 PP
def gZ (R:af):List (aC×PV):=R.map λx=>((Sum.inl x:aC),PV.bl true)
theorem ai7 (R:af):(gZ R).map (·.1)=R.map (Sum.inl:Int->aC):=by unfold gZ;rw[bM7];rfl
theorem bi9 (R:af):(gZ R).length=R.length:=by unfold gZ;rw[bA5]
theorem bj0 (R:af)(n:Int):(bW (gZ R) (Sum.inl n:aC)).isSome=decide (n∈R):=by
 rw[<- qI,bF1,List.any_eq_true,bC2]
 unfold gZ
 refine⟨λ⟨p,hp,e⟩=>?_,λh=>⟨_,bF0.mpr ⟨n,h,rfl⟩,bz9 rfl⟩⟩
 obtain⟨x,hx,rfl⟩:=bF0.mp hp
 have e:(Sum.inl x:aC)=Sum.inl n:=bE6 e
 rw[<- Sum.inl.inj e];exact hx
theorem bj1 {R:af}{y:Int}(h:y∉R):cT (gZ R) (Sum.inl y:aC) (.bl true)=gZ (R++[y]):=by
 rw[ag2 (ai7 R) h]
 unfold gZ
 rw[bC3];rfl
structure B0 (n:Nat)(ls:aa)(S P:af):Prop where
 set:aX n P=true
 ne:P≠[]
 sub:∀x∈P,x∈S
 shut:∀x∈P,∀y∈aM ls x,y∈S->y∈P
 got:∀h∈S.head?,h∈P
 least:∀U:af,(∀x∈U,∀y∈aM ls x,y∈S->y∈U)->(∀h∈S.head?,h∈U)->∀x∈P,x∈U
def uA:bF:=λxs Q=>∃ws ls S,xs = [.lst (eR ws.length ls),.tup (intz S)]/\Wb ws ls/\aX ws.length S=true/\S≠[]/\∀P,B0 ws.length ls S P->Q (.tup (intz P))
def ai8:aI:=(aF (bE 2 (aB gU (a6 (a5 1) a9)))
 (aF (gB 3 (A9 (bZ (a5 1) (qC (.int 0)))))
 (aF (gB 4 (i7 (a6 (bZ (a5 1) (qC (.int 0))) a9)))
 (aF (nE (nF (a5 4))
  (aF (xB 4 5)
  (eN (dD (bZ (a5 0) (a5 5))) (bQ 6)
   (cI (gA (aY (iR false (a5 6) (a5 2))) (aY (iR true (a5 6) (a5 3)))) (aF (pS 3 (a5 6) (qC (.bl true)))
    (lB 4 (a5 6))) cY))))
 (bC (aB dW (a6 (aB tP (a6 (a5 3) a9)) a9)))))))
structure Way (ls:aa)(S R W:af)(E:Int->Prop):Prop where
 nd:R.Nodup
 ne:R≠[]
 sub:∀x∈R,x∈S
 wait:∀x∈W,x∈R
 shut:∀x∈R,x∉W->¬E x->∀y∈aM ls x,y∈S->y∈R
 got:∀h∈S.head?,h∈R
 least:∀U:af,(∀x∈U,∀y∈aM ls x,y∈S->y∈U)->(∀h∈S.head?,h∈U)->∀x∈R,x∈U
theorem bj2:bX ai8 ["around","hearths","inside","reached","waiting","hearth","other"] uA:=by
 rintro xs Q ⟨ws,ls,S,rfl,wb,hS,hne,q⟩
 have few:=wb.few
 have most:=wb.most
 have sl:=kL hS
 have snd:S.Nodup:=(dJ (c8 hS).1).imp λh=>bH1 h
 obtain⟨s0,sr,rfl⟩:∃s0 sr,S=s0::sr:=by
  cases S with
  |nil=>exact absurd rfl hne
  |cons a r=>exact⟨a,r,rfl⟩
 have i0:L2.atI (intz (s0::sr)) (0:Int)=some (.int s0):=jD (xs:=intz (s0::sr)) (j:=0) rfl
 generalize hSS:s0::sr=S at *
 have m0:s0∈S:=by rw[<- hSS];exact bA4
 have hd:∀h,h∈S.head?↔h=s0:=λh=>by rw[<- hSS];exact⟨λz=>by cases z;rfl,λz=>by rw[z];rfl⟩
 refine⟨_,rfl,_,S,rfl,.inl rfl,by omega,λpm dm=>⟨trivial,?_⟩⟩
 refine⟨_,rfl,_,_,_,rfl,rfl,i0,s0,rfl,rfl,rfl,?_⟩
 refine⟨_,rfl,_,_,_,rfl,rfl,i0,by show 1<=1000;decide,rfl,rfl,rfl,?_⟩
 refine⟨λn ρ=>∃(R W:af) (y5 y6:Option Slot),ρ = [some (.sh (flat (.lst (eR ws.length ls))) (.lst (eR ws.length ls))),some (.sh (flat (.tup (intz S))) (.tup (intz S))),some (.sh true (.dK pm)),some (.own (.dK (gZ R))),some (.own (.lst (intz W))),y5,y6]/\
   n=2*(S.length-R.length)+W.length/\n<=2*S.length/\Way ls S R W λ_=>False,⟨_,[s0],[s0],none,none,rfl,rfl,by rw[<- hSS];simp;omega,bC9 _ _,(λz=>nomatch z),(λx hx=>by rw[bA1.mp hx];exact m0),λ_ h=>h,λx hx hw=>absurd hx hw,λh hh=>bA1.mpr ((hd h).mp hh),λU _ hU x hx=>by rw[bA1.mp hx];exact hU s0 ((hd s0).mpr rfl)⟩,?_⟩
 rintro n ρ ⟨R,W,y5,y6,rfl,rfl,bd,wy⟩
 refine⟨_,rfl,_,rfl,?_⟩
 have rl:R.length<=S.length:=wy.nd.length_le_of_subset wy.sub
 rcases List.eq_nil_or_concat W with hW|⟨W',h,hW⟩
 ·subst hW
  refine aT ⟨_,rfl,_,R,rfl,ai7 R,by omega,λms pm so=>⟨⟨_,_,rfl,rfl,cS _,trivial,q ms ⟨?_,?_,?_,?_,λh hh=>pm.mem_iff.mpr (wy.got h hh),λU hU hh x hx=>wy.least U hU hh x (pm.mem_iff.mp hx)⟩⟩,λns z=>by cases z⟩⟩
  ·have nd:ms.Nodup:=pm.nodup_iff.mpr wy.nd
   have up:ms.Pairwise (·<·):=(List.Pairwise.and so nd).imp λz=>Int.lt_iff_le_and_ne.mpr ⟨z.1,z.2⟩
   have u:o7 (ws.length:Int) ms:=⟨up,λx hx=>(c8 hS).2 x (wy.sub x (pm.mem_iff.mp hx)),by rw[pm.length_eq];omega⟩
   exact u.set
  ·intro z;rw[z]at pm;exact wy.ne (List.nil_perm.mp pm)
  ·exact λx hx=>wy.sub x (pm.mem_iff.mp hx)
  ·exact λx hx y hy hyS=>pm.mem_iff.mpr (wy.shut x (pm.mem_iff.mp hx) (λz=>nomatch z) (λz=>z) y hy hyS)
 ·have hW:W=W'++[h]:=by rw[hW];simp
  subst hW
  have hR:h∈R:=wy.wait h (by simp)
  have hb:=(c8 hS).2 h (wy.sub h hR)
  have nz:(!(intz (W'++[h])).isEmpty)=true:=by rw[eQ];cases W'<;>rfl
  show if (!(intz (W'++[h])).isEmpty)=true then _ else _
  rw[nz]
  refine b9 ⟨intz W',.int h,by rw[eQ];rfl,?_⟩
  refine⟨_,rfl,_,rfl,_,_,_,rfl,rfl,zI hb.1 hb.2,_,rfl,(λz=>by cases z),λj ρ=>∃(R2 W2:af) (y6:Option Slot),ρ = [some (.sh (flat (.lst (eR ws.length ls))) (.lst (eR ws.length ls))),some (.sh (flat (.tup (intz S))) (.tup (intz S))),some (.sh true (.dK pm)),some (.own (.dK (gZ R2))),some (.own (.lst (intz W2))),si h,y6]/\
    2*(S.length-R2.length)+W2.length<2*(S.length-R.length)+(W'++[h]).length/\Way ls S R2 W2 (λx=>x=h)/\h∈R2/\∀y∈(aM ls h).take j,y∈S->y∈R2,
    ⟨R,W',y6,rfl,by rw[bB1,bF7];omega,⟨wy.nd,wy.ne,wy.sub,λx hx=>wy.wait x (bD2 _ hx),λx hx hw he=>wy.shut x hx (λz=>(bB8.mp z).elim hw λz=>he (bA1.mp z)) λz=>z,wy.got,wy.least⟩,hR,λy hy=>by rw[List.take_zero]at hy;cases hy⟩,?_,?_⟩
  ·rintro j y ρ hy ⟨R2,W2,y6,rfl,lt,wy2,hR2,seen⟩
   obtain⟨o,rfl,ho⟩:=gH hy
   have rl2:R2.length<=S.length:=wy2.nd.length_le_of_subset wy2.sub
   have tk:∀y,y∈(aM ls h).take (j+1)->y∈(aM ls h).take j∨y=o:=λy z=>by
    rw[bD9,ho]at z
    rcases bB8.mp z with z|z
    ·exact .inl z
    ·exact .inr (by simpa using z)
   refine kO ?_
   refine⟨_,rfl,_,rfl,_,.inl ⟨pm,Sum.inl o,rfl,rfl,rfl⟩,_,rfl,?_⟩
   show if (bW pm (Sum.inl o:aC)).isSome=true then _ else _
   rw[dm.has o]
   by_cases h1:o∈S
   ·rw[bz9 h1]
    refine b9 ⟨_,rfl,_,rfl,_,.inl ⟨gZ R2,Sum.inl o,rfl,rfl,rfl⟩,_,rfl,?_⟩
    show if (!(bW (gZ R2) (Sum.inl o:aC)).isSome)=true then _ else _
    rw[bj0]
    by_cases h2:o∈R2
    ·rw[bz9 h2]
     exact aT ⟨R2,W2,si o,rfl,lt,wy2,hR2,λy z zS=>(tk y z).elim (λz=>seen y z zS) λe=>by rw[e];exact h2⟩
    ·rw[bA0 h2]
     have nd3:(R2++[o]).Nodup:=bG9.mpr ⟨wy2.nd,bC9 _ _,λa ha b hb e=>h2 (by rw[bA1.mp hb]at e;rw[<- e];exact ha)⟩
     have sub3:∀x∈R2++[o],x∈S:=λx hx=>(bB8.mp hx).elim (wy2.sub x) λz=>by rw[bA1.mp z];exact h1
     have l3:(R2++[o]).length<=S.length:=nd3.length_le_of_subset sub3
     rw[bB1,bF7]at l3
     refine b9 ⟨_,rfl,_,rfl,Sum.inl o,rfl,trivial,by rw[bi9];omega,?_⟩
     rw[bj1 h2]
     refine⟨_,rfl,_,rfl,trivial,by rw[bH];omega,R2++[o],W2++[o],si o,?_,?_,⟨nd3,(λz=>by simp at z),sub3,λx hx=>?_,λx hx hw he y hy yS=>?_,λh hh=>bD2 _ (wy2.got h hh),λU hU hh x hx=>(bB8.mp hx).elim (wy2.least U hU hh x) λz=>by rw[bA1.mp z];exact hU h (wy2.least U hU hh h hR2) o (bD7 ho) h1⟩,bD2 _ hR2,λy z zS=>?_⟩
     ·rw[eQ];rfl
     ·simp only[bB1,bF7]at lt ⊢;omega
     ·rcases bB8.mp hx with z|z
      ·exact bD2 _ (wy2.wait x z)
      ·exact bD1 _ z
     ·rcases bB8.mp hx with z|z
      ·exact bD2 _ (wy2.shut x z (λz=>hw (bD2 _ z)) he y hy yS)
      ·exact absurd (bD1 _ z) hw
     ·rcases tk y z with z|e
      ·exact bD2 _ (seen y z zS)
      ·rw[e];exact bD1 _ (bA1.mpr rfl)
   ·rw[bA0 h1]
    exact aT (aT ⟨R2,W2,si o,rfl,lt,wy2,hR2,λy z zS=>(tk y z).elim (λz=>seen y z zS) λe=>absurd (e▸zS) h1⟩)
  ·rintro ρ ⟨R2,W2,y6,rfl,lt,wy2,hR2,seen⟩
   rw[bH,bD8]at seen
   refine⟨_,lt,R2,W2,si h,y6,rfl,rfl,by omega,wy2.nd,wy2.ne,wy2.sub,wy2.wait,λx hx hw _ y hy yS=>?_,wy2.got,wy2.least⟩
   by_cases e:x=h
   ·subst e;exact seen y hy yS
   ·exact wy2.shut x hx hw e y hy yS
def B1 (ws:af)(ls:aa)(S:af):Prop:=S≠[]/\stay ws ls S=S/\∀U,stay ws ls U=U->U≠[]->(∀x∈U,x∈S)->∀x∈S,x∈U
theorem bj3 {A B:af}:∀ns:af,(∀y∈ns,y∈A↔y∈B)->iB ns A=iB ns B:=λns h=>by
 unfold iB
 rw[bK9 λx hx=>show decide (x∈A)=decide (x∈B) by rw[decide_eq_decide];exact h x hx]
def ai9 (Ep:Str->Prop):aI:=(aF (bE 2 (aB j4 (a6 (a5 0) a9)))
 (aF (bE 3 (fP Ep iD (a6 (a5 0) (a6 (a5 1) a9))))
 (aF (gB 4 (i7 a9))
 (aF (nE (nF (a5 3))
  (aF (bE 5 (aB uA (a6 (a5 2) (a6 (a5 3) a9))))
  (aF (lB 4 (a5 5))
  (bE 3 (aB o9 (a6 (a5 3) (a6 (a5 5) a9)))))))
 (k8 4)))))
theorem aj0 (n:Nat):∀(a b:ae),((((tups a).zip (tups b)).all λp=>cJ (n+1) p.1 p.2)&&(tups a).length==(tups b).length)=decide (a=b)
 |[],[]=>rfl
 |[],_::_=>by simp[tups]
 |_::_,[]=>by simp[tups]
 |x::a,y::b=>by
  have ih:=aj0 n a b
  have e:∀(z:af) (c:ae),tups (z::c)=PV.tup (intz z)::tups c:=λ_ _=>rfl
  rw[e,e]
  simp only[bL8,bM4,bC7,U9]at ih ⊢
  by_cases h:x=y
  ·subst h
   have:((tups a).length+1==(tups b).length+1)=((tups a).length==(tups b).length):=by simp
   rw[this,bz9 rfl,Bool.true_and,ih]
   simp
  ·rw[bA0 h,bN9,bN9]
   simp[h]
theorem bj4 (n:Nat)(a b:ae):cJ (n+2) (.lst (tups a)) (.lst (tups b))=decide (a=b):=aj0 n a b
theorem aj1 (n:Nat):∀(a b:ae),dS (n+2) (.lst (tups a)) (.lst (tups b))=true
 |[],_=>by unfold dS tups;simp
 |_::_,[]=>by unfold dS tups;simp
 |x::a,y::b=>by
  have ih:=aj1 n a b
  show (((PV.tup (intz x)::tups a).zip (PV.tup (intz y)::tups b)).all λp=>dS (n+1) p.1 p.2)=true
  rw[bL8,bM4,V0,Bool.true_and]
  exact ih
theorem B2:∀(g:Bool) {x:PV},flat x=true->Nw (Slot.sh g x).tag x
 |true,_,_=>trivial
 |false,_,h=>h
def bO (hs:af):ae:=hs.foldl (λacc h=>acc++acc.map λp=>p++[h]) [[]]
theorem kS (hs:af)(h:Int):bO (hs++[h])=bO hs++(bO hs).map λp=>p++[h]:=by
 unfold bO;rw[List.foldl_append];rfl
theorem oB (n:Nat):rng (n+1)=rng n++[(n:Int)]:=by
 unfold rng;rw[List.range_succ,bC3];rfl
theorem aj2:∀hs:af,∀k,(bO (hs.take k)).length=2^min k hs.length:=by
 intro hs k
 induction k with
 |zero=>simp[bO]
 |succ k ih=>
  by_cases h:k<hs.length
  ·have tk:hs.take (k+1)=hs.take k++[hs[k]]:=by rw[bD9,bA6 h];rfl
   rw[tk,kS,bB1,bA5,ih,show min (k+1) hs.length=min k hs.length+1 by omega,Nat.pow_succ]
   omega
  ·rw[bE4 (by omega),show min (k+1) hs.length=min k hs.length by omega,<- ih,bE4 (by omega)]
theorem qQ (n:Nat):(bO (rng n)).length=2^n:=by
 have:=aj2 (rng n) n
 rw[bE4 (by rw[eO];exact bA3 _),eO,Nat.min_self]at this
 exact this
theorem qR (n:Nat):∀(p:Nat) (S:af),(bO (rng n))[p]? = some S->(∀x∈S,0<=x/\x<(n:Int))/\(p=0↔S = [])/\∀h∈S,2^h.toNat<=p/\(bO (rng n))[p-2^h.toNat]? = some (S.filter λz=>!decide (z=h)):=by
 induction n with
 |zero=>
  intro p S e
  have e0:bO (rng 0) = [[]]:=rfl
  rw[e0]at e
  cases p with
  |zero=>cases e;exact⟨(λ_ h=>by cases h),⟨λ_=>rfl,λ_=>rfl⟩,(λ_ h=>by cases h)⟩
  |succ p=>cases e
 |succ n ih=>
  intro p S e
  rw[oB,kS]at e
  have ln:=qQ n
  rcases bG0 p (2^n) with hp|hp
  ·rw[bF6 (by omega)]at e
   obtain⟨h1,h2,h3⟩:=ih p S e
   refine⟨λx hx=>by have:=h1 x hx;omega,h2,λh hh=>⟨(h3 h hh).1,?_⟩⟩
   rw[oB,kS,bF6 (by rw[ln];exact Nat.lt_of_le_of_lt (Nat.sub_le _ _) hp)]
   exact (h3 h hh).2
  ·rw[bI4 (by omega),ln,bB6]at e
   cases e2:(bO (rng n))[p-2^n]? with
   |none=>rw[e2]at e;cases e
   |some T=>
    rw[e2]at e
    have e:T++[(n:Int)]=S:=bE0 e
    subst e
    obtain⟨h1,h2,h3⟩:=ih _ T e2
    have nT:(n:Int)∉T:=λz=>by have:=h1 _ z;omega
    have p0:0<2^n:=Nat.pow_pos (by decide)
    refine⟨λx hx=>?_,⟨λz=>absurd z (by omega),λz=>by simp at z⟩,λh hh=>?_⟩
    ·rcases bB8.mp hx with z|z
     ·have:=h1 x z;omega
     ·rw[bA1.mp z];omega
    ·rcases bB8.mp hh with z|z
     ·have hb:=h1 h z
      obtain⟨a1,a2⟩:=h3 h z
      refine⟨by omega,?_⟩
      rw[oB,kS,bI4 (by omega),ln,bB6,show p-2^h.toNat-2^n=p-2^n-2^h.toNat by omega,a2,List.filter_append]
      have:([(n:Int)]:af).filter (λz=>!decide (z=h)) = [(n:Int)]:=by
       rw[bI7,bA0 (by omega:¬(n:Int)=h)];rfl
      rw[this];rfl
     ·have hn:h=(n:Int):=bA1.mp z
      subst hn
      rw[show ((n:Int)).toNat=n from rfl]
      refine⟨hp,?_⟩
      have lt:p-2^n<2^n:=by
       have:=(bB0.mp e2).1
       omega
      rw[oB,kS,bF6 (by omega),e2,List.filter_append]
      have a1:T.filter (λz=>!decide (z=(n:Int)))=T:=bG5.mpr λx hx=>by
       rw[bA0 (λz:x=(n:Int)=>nT (by rw[<- z];exact hx))];rfl
      have a2:([(n:Int)]:af).filter (λz=>!decide (z=(n:Int))) = []:=by
       rw[bI7,bz9 rfl];rfl
      rw[a1,a2,bD5]
theorem qS (n:Nat):∀S:af,S∈bO (rng n)↔S.Sublist (rng n):=by
 induction n with
 |zero=>
  intro S
  show S∈[[]]↔S.Sublist []
  rw[bA1,List.sublist_nil]
 |succ n ih=>
  intro S
  rw[oB,kS,bB8]
  refine⟨λh=>?_,λh=>?_⟩
  ·rcases h with h|h
   ·exact ((ih S).mp h).trans (List.sublist_append_left _ _)
   ·obtain⟨T,hT,rfl⟩:=bF0.mp h
    exact ((ih T).mp hT).append (List.Sublist.refl _)
  ·obtain⟨p1,p2,rfl,s1,s2⟩:=List.sublist_append_iff.mp h
   cases s2 with
   |cons _ s3=>rw[List.sublist_nil.mp s3,bD5];exact .inl ((ih p1).mpr s1)
   |cons_cons _ s3=>rw[List.sublist_nil.mp s3];exact .inr (bF0.mpr ⟨p1,(ih p1).mpr s1,rfl⟩)
theorem bj5 (n:Nat):(bO (rng n)).Nodup:=by
 induction n with
 |zero=>exact bC9 _ _
 |succ n ih=>
  rw[oB,kS]
  refine bG9.mpr ⟨ih,bG8.mpr (ih.imp λz e=>z (List.append_cancel_right e)),λa ha b hb e=>?_⟩
  obtain⟨p1,h1,rfl⟩:=bF0.mp hb
  have:=((qS n a).mp ha).subset (show (n:Int)∈a by rw[e];simp)
  have:=fB.mp this
  omega
theorem aj3 {n:Nat}{S:af}:S.Sublist (rng n)↔aX n S=true:=by
 refine⟨λh=>?_,λh=>?_⟩
 ·have up:(rng n).Pairwise (·<·):=by
   unfold rng
   rw[bG8]
   exact List.pairwise_lt_range.imp λh=>by omega
  have u:o7 (n:Int) S:=⟨up.sublist h,λx hx=>fB.mp (h.subset hx),by have:=h.length_le;rw[eO]at this;omega⟩
  exact u.set
 ·have e:S=(rng n).filter λx=>decide (x∈S):=by
   refine zU h ?_ λx=>?_
   ·exact qO (show aX n (rng n)=true by have:=af6 n [];unfold dA at this;rwa [bG5.mpr λx _=>by simp]at this) _
   ·rw[bB3,bC2]
    exact⟨λz=>⟨fB.mpr ((c8 h).2 x z),z⟩,λz=>z.2⟩
  rw[e];exact List.filter_sublist
section
variable {ws:af}{ls:aa}
def HC (ws:af)(ls:aa)(S:af):Prop:=∃U,stay ws ls U=U/\U≠[]/\∀x∈U,x∈S
theorem bj6 {U S:af}(hU:stay ws ls U=U)(h:∀x,x∈S↔x∈U):stay ws ls S=S:=by
 refine bG5.mpr λy hy=>?_
 have:=bG5.mp hU y ((h y).mp hy)
 unfold fO at this ⊢
 rw[bj3 (aM ls y) λz _=>h z]
 exact this
theorem aj4 (S:af):HC ws ls S↔(S≠[]/\stay ws ls S=S)∨∃h∈S,HC ws ls (S.filter λz=>!decide (z=h)):=by
 refine⟨λ⟨U,hU,nU,sub⟩=>?_,λh=>?_⟩
 ·by_cases all:∀x∈S,x∈U
  ·refine .inl ⟨λz=>?_,bj6 hU λx=>⟨all x,sub x⟩⟩
   cases hu:U with
   |nil=>exact nU hu
   |cons u r=>
    have:=sub u (by rw[hu];exact bA4)
    rw[z]at this;cases this
  ·obtain⟨h,hh⟩:=Classical.not_forall.mp all
   have hS:h∈S:=bK5 λz=>hh λy=>absurd y z
   have hU2:h∉U:=λz=>hh λ_=>z
   refine .inr ⟨h,hS,U,hU,nU,λx hx=>bB3.mpr ⟨sub x hx,?_⟩⟩
   rw[bA0 (λz:x=h=>hU2 (by rw[<- z];exact hx))];rfl
 ·rcases h with h|⟨h,hh,U,hU,nU,sub⟩
  ·exact⟨S,h.2,h.1,λ_ z=>z⟩
  ·exact⟨U,hU,nU,λx hx=>(bB3.mp (sub x hx)).1⟩
theorem bj7 (S:af):(HC ws ls S/\¬ ∃h∈S,HC ws ls (S.filter λz=>!decide (z=h)))↔B1 ws ls S:=by
 refine⟨λ⟨h1,h2⟩=>?_,λlb=>⟨⟨S,lb.2.1,lb.1,λ_ z=>z⟩,λ⟨h,hh,U,hU,nU,sub⟩=>?_⟩⟩
 ·rcases (aj4 S).mp h1 with z|z
  ·refine⟨z.1,z.2,λU hU nU sub x hx=>bK5 λy=>h2 ⟨x,hx,U,hU,nU,λu hu=>bB3.mpr ⟨sub u hu,?_⟩⟩⟩
   rw[bA0 (λz:u=x=>y (by rw[<- z];exact hu))];rfl
  ·exact absurd z h2
 ·have:=sub h (lb.2.2 U hU nU (λx hx=>(bB3.mp (sub x hx)).1) h hh)
  have:=(bB3.mp this).2
  rw[bz9 rfl]at this;cases this
end
def mH:bF:=λxs Q=>∃x hs,xs = [x]/\cX x hs/\hs.length<=12/\Q (.lst (tups (bO hs)))
def B3:aI:=(aF (bE 1 (i7 (a6 (iP a9) a9)))
 (aF (eN (dD (a5 0)) (bQ 2)
  (bE 1 (ad8 (a5 1) (cQ (dD (a5 1)) [none,some 2] (bQ 0) eD (ae9 (a5 0) (iP (a6 (a5 1) a9)))))))
 (k8 1)))
theorem aj5:bX B3 ["hearths","chosen","hearth"] mH:=by
 rintro xs Q ⟨x,S,rfl,hx,hl,q⟩
 refine⟨by decide,rfl,by show 1<=1000;decide,rfl,trivial,?_⟩
 refine⟨_,rfl,_,hx.seq,mF hx,λi ρ=>∃(y:Option Slot),ρ = [some (.sh (flat x) x),some (.sh true (.lst (tups (bO (S.take i))))),y],⟨none,rfl⟩,?_,?_⟩
 ·rintro i y ρ hy ⟨y0,rfl⟩
  obtain⟨h,rfl,hi⟩:=gH hy
  have il:i<S.length:=(bB0.mp hi).1
  have sl:=aj2 S i
  have p8:(bO (S.take i)).length<=4096:=by
   rw[sl]
   exact bE8 (bQ8 (by decide) (show min i S.length<=12 by omega)) (by decide)
  have shr:∀p∈bO (S.take i),p.length<=12:=by
   have gen:∀hs:af,∀p∈bO hs,p.length<=hs.length:=by
    intro hs
    have:∀(n:Nat) (hs:af),hs.length=n->∀p∈bO hs,p.length<=hs.length:=by
     intro n
     induction n with
     |zero=>intro hs e p hp;rw[List.eq_nil_of_length_eq_zero e]at hp ⊢;rw[bA1.mp (show p∈[[]] from hp)];exact bA3 _
     |succ n ih=>
      intro hs e p hp
      rcases List.eq_nil_or_concat hs with z|⟨l,a,z⟩
      ·rw[z]at e;cases e
      ·have z:hs=l++[a]:=by rw[z];simp
       subst z
       have le:l.length=n:=by simpa using e
       rw[kS]at hp
       rw[bB1,bF7]
       rcases bB8.mp hp with z|z
       ·have:=ih l le p z;omega
       ·obtain⟨r,hr,rfl⟩:=bF0.mp z
        have:=ih l le r hr
        rw[bB1,bF7];omega
    exact this hs.length hs rfl
   intro p hp
   have:=gen _ p hp
   rw[bI3]at this
   omega
  have tk:S.take (i+1)=S.take i++[h]:=by rw[bD9,hi];rfl
  refine kO ?_
  refine⟨_,rfl,_,rfl,_,rfl,(λz=>by cases z),by rw[gV];omega,λj acc=>acc=tups (((bO (S.take i)).take j).map λp=>p++[h]),rfl,?_,?_⟩
  ·rintro j z acc hz rfl
   obtain⟨p,rfl,hj⟩:=t9 hz
   refine⟨_,rfl,_,rfl,by show 1<=1000;decide,rfl,_,_,rfl,rfl,cS _,rfl,?_,trivial,?_⟩
   ·have:=shr p (bD7 hj)
    rw[bH]
    show p.length+1<=16000000
    omega
   ·show tups _++[PV.tup (intz p++intz [h])]=tups (((bO (S.take i)).take (j+1)).map λp=>p++[h])
    rw[bD9,hj,<- eQ]
    unfold tups
    rw[bC3,bC3]
    rfl
  ·rintro acc rfl
   rw[gV,bD8]
   refine⟨_,_,rfl,rfl,zK _,zK _,?_,trivial,some (.sh true (.int h)),?_⟩
   ·rw[gV,gV,bA5];omega
   ·rw[tk,kS]
    unfold tups
    rw[bC3];rfl
 ·rintro ρ ⟨y,rfl⟩
  rw[bH,bD8]
  exact⟨_,rfl,trivial,q⟩
abbrev fQ (bs:List Bool):List PV:=bs.map PV.bl
def mI (bs:List Bool)(p:Nat)(S:af):Bool:=S.any λh=>bs.getD (p-2^h.toNat) false
def oC:bF:=λxs Q=>∃(bs:List Bool) (p:Nat) (S:af),xs = [.lst (fQ bs),.int p,.tup (intz S)]/\S.length<=1000/\(∀h∈S,0<=h/\h<=12/\2^h.toNat<=p/\p-2^h.toNat<bs.length)/\Q (.bl (mI bs p S))
def aj6:aI:=(bC (aB zW (a6 (cQ (dD (a5 2)) [none,some 0,some 1] (bQ 0) eD (bZ (a5 1) (iU (a5 2) (aO3 (qC (.int 1)) (a5 0))))) a9)))
theorem bj8:bX aj6 ["holds","place","some"] oC:=by
 rintro xs Q ⟨bs,p,S,rfl,hl,hb,q⟩
 refine⟨_,rfl,_,rfl,(λ_=>nY S),by rw[bH];omega,λi acc=>acc=fQ ((S.take i).map λh=>bs.getD (p-2^h.toNat) false),rfl,?_,?_⟩
 ·rintro i z acc hz rfl
  obtain⟨h,rfl,hh⟩:=gH hz
  obtain⟨b1,b2,b3,b4⟩:=hb h (bD7 hh)
  have ix:L2.atI (fQ bs) ((p:Int)-1*2^h.toNat)=some (.bl (bs.getD (p-2^h.toNat) false)):=by
   have e:((p:Int)-1*2^h.toNat)=((p-2^h.toNat:Nat):Int):=by
    rw[Int.ofNat_sub b3];simp
   rw[e]
   exact jD (by rw[bB6,bB9,bA6 b4];rfl)
  refine⟨_,rfl,_,rfl,_,rfl,_,_,rfl,rfl,⟨b1,by omega,by decide⟩,_,_,rfl,rfl,_,_,_,rfl,rfl,ix,rfl,?_⟩
  dsimp only
  rw[bD9,hh,bC3]
  show _=List.map PV.bl (_++_)
  rw[bC3];rfl
 ·rintro acc rfl
  rw[bH,bD8]
  refine⟨_,rfl,trivial,?_⟩
  have e:(S.map λh=>bs.getD (p-2^h.toNat) false).any id=mI bs p S:=by
   unfold mI;rw[List.any_map];rfl
  rw[e];exact q
def uB:cR:=λEp xs Q=>∃ws ls,xs = [bL ws ls]/\ws.length<=40/\(ws.length<=12->Q (.lst (tups (bO (rng ws.length)))))/\(12<ws.length->Ep "TooMany")
def aj7 (Ep:Str->Prop):aI:=(aF (cI (aY (jH (aB fN (a6 (a5 0) a9)) (qC (.int 12)))) (tQ Ep "TooMany" (a6 (qC (.str "webs of at most 12 hearths are searched through")) a9)) cY)
 (bC (aB mH (a6 (qK (aB fN (a6 (a5 0) a9))) a9))))
theorem bj9:gK aj7 ["web"] uB:=by
 rintro Ep xs Q ⟨ws,ls,rfl,few,q,qe⟩
 refine⟨_,rfl,ws,ls,rfl,_,_,rfl,rfl,_,rfl,?_⟩
 by_cases h:(12:Int)<(ws.length:Int)
 ·dsimp only
  rw[bz9 h]
  exact b9 ⟨by decide,qe (by omega)⟩
 ·dsimp only
  rw[bA0 h]
  refine aT ⟨_,rfl,ws,ls,rfl,_,rfl,by omega,by omega,?_⟩
  rw[tH]
  exact⟨_,rng ws.length,rfl,.inr rfl,by rw[eO];omega,trivial,q (by omega)⟩
def uC:cR:=λEp xs Q=>∃ws ls,xs = [bL ws ls,.lst (tups (bO (rng ws.length)))]/\Wb ws ls/\ws.length<=12/\∀bs:List Bool,bs.length=2^ws.length->(∀p S,(bO (rng ws.length))[p]? = some S->(bs.getD p false=true↔HC ws ls S))->Q (.lst (fQ bs))
def aj8 (Ep:Str->Prop):aI:=(aF (gB 2 (i7 (a6 (qC (.bl false)) a9)))
 (aF (eN (sB (qC (.int 1)) (aB dC (a6 (a5 1) a9))) (bQ 3)
  (lB 2 (x4 (aB oC (a6 (a5 2) (a6 (a5 3) (a6 (bZ (a5 1) (a5 3)) a9)))) (fP Ep tY (a6 (a5 0) (a6 (bZ (a5 1) (a5 3)) a9))))))
 (k8 2)))
theorem aj9 {ws:af}{ls:aa}{bs:List Bool}{p:Nat}{S:af}(at_:(bO (rng ws.length))[p]? = some S)(hb:∀q S,q<p->(bO (rng ws.length))[q]? = some S->(bs.getD q false=true↔HC ws ls S)) :
  mI bs p S=true↔∃h∈S,HC ws ls (S.filter λz=>!decide (z=h)):=by
 obtain⟨h1,h2,h3⟩:=qR _ p S at_
 unfold mI
 rw[List.any_eq_true]
 refine⟨λ⟨h,hh,e⟩=>⟨h,hh,?_⟩,λ⟨h,hh,e⟩=>⟨h,hh,?_⟩⟩
 ·have:=Nat.pow_pos (n:=h.toNat) (show 0<2 by decide)
  exact (hb _ _ (by have:=(h3 h hh).1;omega) (h3 h hh).2).mp e
 ·have:=Nat.pow_pos (n:=h.toNat) (show 0<2 by decide)
  exact (hb _ _ (by have:=(h3 h hh).1;omega) (h3 h hh).2).mpr e
theorem ak0 {n:Nat}{bs:List Bool}{p:Nat}{S:af}(hn:n<=12)(at_:(bO (rng n))[p]? = some S)(hb:p<=bs.length):S.length<=1000/\∀h∈S,0<=h/\h<=12/\2^h.toNat<=p/\p-2^h.toNat<bs.length:=by
 obtain⟨h1,h2,h3⟩:=qR _ p S at_
 have sl:=((qS n S).mp (bD7 at_)).length_le
 rw[eO]at sl
 refine⟨by omega,λh hh=>?_⟩
 have:=Nat.pow_pos (n:=h.toNat) (show 0<2 by decide)
 have a:=(h3 h hh).1
 have b:=h1 h hh
 exact⟨b.1,by omega,a,by omega⟩
theorem bk0:gK aj8 ["web","chosen","holds","place"] uC:=by
 rintro Ep xs Q ⟨ws,ls,rfl,wb,few,q⟩
 have ln:=qQ ws.length
 have l0:0<2^ws.length:=Nat.pow_pos (by decide)
 have l12:2^ws.length<=4096:=bE8 (bQ8 (by decide) few) (by decide)
 generalize hC:bO (rng ws.length)=C at ln q
 have cat:∀{p:Nat}{S:af},C[p]? = some S->(bO (rng ws.length))[p]? = some S:=λ{p S} e=>by rw[hC];exact e
 have tac:∀{p:Nat}{S:af},(bO (rng ws.length))[p]? = some S->C[p]? = some S:=λ{p S} e=>by rw[<- hC];exact e
 refine⟨by decide,rfl,rfl,rfl,?_⟩
 refine⟨_,rfl,_,_,rfl,rfl,1,(C.length:Int),rfl,by rw[gV],⟨by omega,by omega,by omega,by omega⟩,λi ρ=>∃(bs:List Bool) (y:Option Slot),ρ = [some (.sh (flat (bL ws ls)) (bL ws ls)),some (.sh (flat (.lst (tups C))) (.lst (tups C))),some (.own (.lst (fQ bs))),y]/\bs.length=i+1/\∀p S,p<i+1->C[p]? = some S->(bs.getD p false=true↔HC ws ls S),⟨[false],none,rfl,rfl,λp S hp hS=>?_⟩,?_,?_⟩
 ·have e:p=0:=by omega
  subst e
  obtain⟨_,h2,_⟩:=qR _ 0 S (cat hS)
  rw[h2.mp rfl]
  refine⟨λz=>(by cases z),λ⟨U,_,nU,sub⟩=>?_⟩
  cases hu:U with
  |nil=>exact absurd hu nU
  |cons u r=>
   have:=sub u (by rw[hu];exact bA4)
   cases this
 ·rintro i y ρ hy ⟨bs,y0,rfl,bl,hb⟩
  obtain⟨rfl,hi⟩:=kK hy
  have hp:i+1<C.length:=by omega
  obtain⟨S,hS⟩:∃S,C[i+1]? = some S:=⟨C[i+1],bA6 hp⟩
  have ix:L2.atI (tups C) (1+(i:Int))=some (.tup (intz S)):=by
   have:=jD (xs:=tups C) (j:=i+1) (by unfold tups;rw[bB6,hS];rfl)
   rwa [show (((i+1:Nat)):Int)=1+(i:Int) by omega]at this
  obtain⟨k1,k2⟩:=ak0 (bs:=bs) few (cat hS) (by omega)
  have sub:=(qS _ S).mp (bD7 (cat hS))
  have sS:=aj3.mp sub
  have ne:S≠[]:=λz=>by have:=(qR _ _ S (cat hS)).2.1.mpr z;omega
  have hi2:=aj9 (bs:=bs) (cat hS) λp S hp e=>hb p S hp (tac e)
  have st:=aj4 (ws:=ws) (ls:=ls) S
  refine kO ?_
  have fin:∀v:Bool,(v=true↔HC ws ls S)->∃(bs':List Bool) (y:Option Slot),[some (.sh (flat (bL ws ls)) (bL ws ls)),some (.sh (flat (.lst (tups C))) (.lst (tups C))),some (.own (.lst (fQ bs++[.bl v]))),si (1+(i:Int))] = [some (.sh (flat (bL ws ls)) (bL ws ls)),some (.sh (flat (.lst (tups C))) (.lst (tups C))),some (.own (.lst (fQ bs'))),y]/\bs'.length=i+1+1/\∀p S,p<i+1+1->C[p]? = some S->(bs'.getD p false=true↔HC ws ls S):=λv hv=>by
   refine⟨bs++[v],si (1+(i:Int)),by rw[show fQ (bs++[v])=fQ bs++[.bl v] from bC3],by rw[bB1,bl];rfl,λp T hp hT=>?_⟩
   rcases bG0 p (i+1) with z|z
   ·rw[bB9,bF6 (by omega),<- bB9]
    exact hb p T z hT
   ·have e:p=i+1:=by omega
    subst e
    rw[hS]at hT
    cases hT
    rw[bB9,bI4 (by omega),bl,Nat.sub_self]
    exact hv
  refine⟨_,rfl,_,rfl,_,rfl,_,rfl,_,rfl,_,_,_,rfl,rfl,ix,bs,i+1,S,?_,k1,k2,_,rfl,?_⟩
  ·show [PV.lst (fQ bs),PV.int (1+(i:Int)),PV.tup (intz S)] = [PV.lst (fQ bs),PV.int (((i+1:Nat)):Int),PV.tup (intz S)]
   rw[show (((i+1:Nat)):Int)=1+(i:Int) by omega]
  have bl2:(fQ bs).length<16000000:=by show (List.map PV.bl bs).length<_;rw[bA5];omega
  cases hw:mI bs (i+1) S with
  |true=>exact b9 ⟨trivial,bl2,fin true ⟨λ_=>st.mpr (.inr (hi2.mp hw)),λ_=>rfl⟩⟩
  |false=>
   refine aT ⟨_,rfl,_,rfl,_,rfl,_,_,_,rfl,rfl,ix,ws,ls,_,S,rfl,wb,.inl rfl,k1,λ_=>⟨trivial,bl2,fin _ ?_⟩,λz=>by rw[sS]at z;cases z⟩
   rw[bC2]
   refine⟨λz=>st.mpr (.inl ⟨ne,z⟩),λz=>?_⟩
   rcases st.mp z with z|z
   ·exact z.2
   ·rw[hi2.mpr z]at hw;cases hw
 ·rintro ρ ⟨bs,y,rfl,bl,hb⟩
  rw[eZ]at bl hb
  refine⟨_,rfl,trivial,q bs (by omega) λp S hS=>hb p S ?_ hS⟩
  have:=(bB0.mp hS).1
  omega
open Classical in
noncomputable def gL (ws:af)(ls:aa)(S:af):Bool:=decide (B1 ws ls S)
theorem oD {ws:af}{ls:aa}{S:af}:gL ws ls S=true↔B1 ws ls S:=by unfold gL;exact @decide_eq_true_iff _ (Classical.propDecidable _)
noncomputable def lN (ws:af)(ls:aa):ae:=(bO (rng ws.length)).filter (gL ws ls)
def ak1:cR:=λEp xs Q=>∃ws ls,xs = [bL ws ls]/\Wb ws ls/\(ws.length<=12->(lN ws ls).length<64/\∀Z:ae,Z.Perm (lN ws ls)->Z.Pairwise (λu v=>HT.bP v u=false)->Q (.lst (tups Z)))/\(12<ws.length->Ep "TooMany")
section
variable {ws:af}{ls:aa}
def cne (ws:af)(ls:aa)(S:af):Bool:=!decide (S = [])&&decide (stay ws ls S=S)
theorem bk1 {a b:ae}(h:a.Perm b)(ha:a.Pairwise λu v=>HT.bP v u=false)(hb:b.Pairwise λu v=>HT.bP v u=false):a=b:=
 h.eq_of_pairwise (λx y _ _ h1 h2=>R4 h2 h1) ha hb
theorem ak2 (h:ws.length<=6):(lN ws ls).length<64:=by
 have nd:(lN ws ls++[[]]).Nodup:=bG9.mpr ⟨(bj5 ws.length).filter _,bC9 _ _,λa ha b hb e=>by
  rw[bA1.mp hb]at e
  exact (oD.mp (bB3.mp ha).2).1 e⟩
 have sub:∀S∈lN ws ls++[[]],S∈bO (rng ws.length):=λS hS=>by
  rcases bB8.mp hS with z|z
  ·exact (bB3.mp z).1
  ·rw[bA1.mp z];exact (qS _ _).mpr (List.nil_sublist _)
 have:=nd.length_le_of_subset sub
 rw[qQ,bB1,bF7]at this
 have:2^ws.length<=2^6:=bQ8 (by decide) h
 omega
end
def far (ns S:af):Bool:=decide (((S.filter λx=>decide (x∈ns)).length:Int)=0)
theorem bk2 {ws:af}{ls:aa}{S:af}{k:Nat}(hS:aX ws.length S=true):decide (((bA ws ls S k).length:Int)=(ws.length:Int))=decide (dA ws.length (bA ws ls S k) = []):=by
 have len:(bA ws ls S k).length+(dA ws.length (bA ws ls S k)).length<=ws.length:=by
  have h1:=zC ws ls S k
  have h2:=zD (dJ (c8 hS).1) (c8 hS).2
  rw[bi5];omega
 rw[bF1,bC2,bC2]
 refine⟨λz=>List.eq_nil_of_length_eq_zero (by omega),λz=>?_⟩
 have all:∀x∈rng ws.length,x∈bA ws ls S k:=λx hx=>Decidable.byContradiction λy=>by
  have:=gJ.mpr ⟨hx,y⟩
  rw[z]at this;cases this
 have:=(ad0 ws.length).length_le_of_subset all
 rw[eO]at this
 omega
def jM (ls:aa)(S U:af):Prop:=∀x∈U,∀y∈aM ls x,y∈S->y∈U
noncomputable def comp (ls:aa)(S:af)(h:Int):af:=S.filter λx=>@decide (∀U:af,jM ls S U->h∈U->x∈U) (Classical.propDecidable _)
section
variable {ws:af}{ls:aa}{S:af}{n:Nat}{h x:Int}
theorem hG:x∈comp ls S h↔x∈S/\∀U,jM ls S U->h∈U->x∈U:=by
 unfold comp
 rw[bB3]
 exact⟨λz=>⟨z.1,@bE6 _ (Classical.propDecidable _) z.2⟩,λz=>⟨z.1,@bz9 _ (Classical.propDecidable _) z.2⟩⟩
theorem bk3:∀x∈comp ls S h,x∈S:=λx hx=>(hG.mp hx).1
theorem oE (hh:h∈S):h∈comp ls S h:=hG.mpr ⟨hh,λ_ _ z=>z⟩
theorem B4:jM ls S (comp ls S h):=λx hx y hy yS=>hG.mpr ⟨yS,λU hU z=>hU x ((hG.mp hx).2 U hU z) y hy yS⟩
theorem mJ (hS:aX n S=true):aX n (comp ls S h)=true:=qO hS _
theorem B5 {P:af}(hS:aX n S=true)(hP:aX n P=true)(hs:∀x∈P,x∈S)(hh:h∈P)(sh:jM ls S P)(le:∀U,jM ls S U->h∈U->∀x∈P,x∈U):P=comp ls S h:=
 zU hP (mJ hS) λx=>⟨λhx=>hG.mpr ⟨hs x hx,λU hU z=>le U hU z x hx⟩,λhx=>(hG.mp hx).2 P sh hh⟩
theorem qT (hS:aX n S=true)(hx:x∈comp ls S h)(hh:h∈S):comp ls S x=comp ls S h:=by
 have back:h∈comp ls S x:=by
  refine hG.mpr ⟨hh,λU hU xU=>?_⟩
  refine bK5 λhn=>?_
  have sv:jM ls S (S.filter λz=>!decide (z∈U)):=λa ha b hb bS=>by
   rw[bB3]at ha ⊢
   refine⟨bS,?_⟩
   by_cases bU:b∈U
   ·have:=hU b bU a (mY hb) ha.1
    rw[bz9 this]at ha;exact absurd ha.2 (by decide)
   ·rw[bA0 bU];rfl
  have:=(hG.mp hx).2 _ sv (bB3.mpr ⟨hh,by rw[bA0 hn];rfl⟩)
  rw[bB3,bz9 xU]at this
  exact absurd this.2 (by decide)
 exact zU (mJ hS) (mJ hS) λy=>⟨λhy=>(hG.mp hy).2 _ B4 hx,λhy=>(hG.mp hy).2 _ B4 back⟩
theorem uD {L:af}{a:Int}(hL:aX n L=true)(ha:L.head? = some a):a∈L/\∀x∈L,a=x∨a<x:=by
 cases L with
 |nil=>cases ha
 |cons b r=>
  cases ha
  refine⟨bA4,λx hx=>?_⟩
  rcases bA7.mp hx with e|hx
  ·exact .inl e.symm
  ·exact .inr ((bM1.mp (dJ (c8 hL).1)).1 x hx)
theorem ak3 {L:af}{a:Int}(hL:aX n L=true)(ha:a∈L)(hl:∀x∈L,a<=x):L.head? = some a:=by
 cases L with
 |nil=>cases ha
 |cons b r=>
  rcases bA7.mp ha with e|e
  ·rw[e];rfl
  ·have h1:=(bM1.mp (dJ (c8 hL).1)).1 a e
   have h2:=hl b bA4
   omega
noncomputable def lO (ls:aa)(S:af)(h:Int):Bool:=decide ((comp ls S h).head? = some h)
noncomputable def cA (ls:aa)(S:af):af:=S.filter (lO ls S)
theorem bk4 {A B:af}(ua:A.Pairwise (·<·))(ub:B.Pairwise (·<·))(h:∀x,x∈A↔x∈B):A=B:=
 ad3 ((List.perm_ext_iff_of_nodup (ua.imp λz=>bH1 z) (ub.imp λz=>bH1 z)).mpr h) (ua.imp λz=>bQ4 z) (ub.imp λz=>bQ4 z)
theorem bk5 {L:af}{a:Int}(hS:aX n S=true)(hL:aX n L=true)(sub:∀x∈L,x∈S)(ha:L.head? = some a)(pl:∀x∈comp ls S a,x∈L)(lt:∀h∈(cA ls S).filter (λz=>!decide (z∈L)),∀x∈L,h<x) :
  (cA ls S).filter (λz=>!decide (z∈L.filter λz=>!decide (z∈comp ls S a)))=(cA ls S).filter (λz=>!decide (z∈L))++[a]:=by
 obtain⟨aL,al⟩:=uD hL ha
 have aS:=sub a aL
 have hu:(cA ls S).Pairwise (·<·):=dJ (c8 (qO hS (lO ls S))).1
 have hd:(comp ls S a).head? = some a:=ak3 (mJ hS) (oE aS) λx hx=>by rcases al x (pl x hx) with e|e<;>omega
 refine bk4 (hu.sublist List.filter_sublist) (bF3.mpr ⟨hu.sublist List.filter_sublist,bC9 _ _,λx hx y hy=>by rw[bA1.mp hy];exact lt x hx a aL⟩) λx=>?_
 simp only[bB8,bA1,bB3,Bool.not_eq_true',bI6,not_and,Decidable.not_not]
 constructor
 ·rintro⟨hx,hn⟩
  by_cases xL:x∈L
  ·refine .inr ?_
   have xc:=hn xL
   have h1:(comp ls S x).head? = some x:=bE6 (bB3.mp hx).2
   rw[qT hS xc aS,hd]at h1
   cases h1;rfl
  ·exact .inl ⟨hx,xL⟩
 ·rintro (⟨hx,xL⟩|rfl)
  ·exact⟨hx,λz=>absurd z xL⟩
  ·exact⟨bB3.mpr ⟨aS,bz9 hd⟩,λ_=>oE aS⟩
theorem B0.comp {L P:af}{a:Int}(hS:aX n S=true)(sub:∀x∈L,x∈S)(sh:jM ls S L)(ha:L.head? = some a)(pc:B0 n ls L P):P=comp ls S a:=by
 have ea:∀z,z∈L.head?->z=a:=λz hz=>by rw[ha]at hz;cases hz;rfl
 exact B5 hS pc.set (λx hx=>sub x (pc.sub x hx)) (pc.got a ha) (λx hx y hy yS=>pc.shut x hx y hy (sh x (pc.sub x hx) y hy yS))
  λU hU aU=>pc.least U (λx hx y hy yL=>hU x hx y hy (sub y yL)) λz hz=>by rw[ea z hz];exact aU
end
abbrev bk6:=ai9
noncomputable def oF (ls:aa)(S:af):ae:=(cA ls S).map (comp ls S)
def uE:cR:=qP λws ls S Q=>Q (.lst (tups (oF ls S)))
theorem bk7:gK ai9 ["web","block","around","left","pieces","piece"] uE:=by
 rintro Ep xs Q ⟨ws,ls,x,S,rfl,wb,hx,hl,q,qe⟩
 have few:=wb.few
 refine⟨_,rfl,ws,ls,rfl,wb,trivial,?_⟩
 refine⟨_,rfl,_,rfl,ws,ls,x,S,rfl,hx,hl,λhs=>⟨trivial,?_⟩,qe⟩
 have q:Q (.lst (tups (oF ls S))):=q hs
 have sl:=kL hs
 refine⟨by decide,rfl,rfl,rfl,?_⟩
 refine⟨λn ρ=>∃(L:af) (Ps:ae) (y5:Option Slot),ρ = [some (.sh (flat (bL ws ls)) (bL ws ls)),some (.sh (flat x) x),some (.sh true (.lst (eR ws.length ls))),some (.sh true (.tup (intz L))),some (.own (.lst (tups Ps))),y5]/\
   n=L.length/\aX ws.length L=true/\Ps.length+L.length<=S.length/\(∀x∈L,x∈S)/\jM ls S L/\Ps=((cA ls S).filter λz=>!decide (z∈L)).map (comp ls S)/\∀h∈(cA ls S).filter (λz=>!decide (z∈L)),∀x∈L,h<x,⟨_,S,[],none,rfl,rfl,hs,by simp,λ_ h=>h,λ_ _ _ _ h=>h,?_,?_⟩,?_⟩
 ·rw[List.filter_eq_nil_iff.mpr λz hz=>?_];rfl
  rw[bz9 (bB3.mp hz).1];decide
 ·intro h hh
  have:=bB3.mp hh
  rw[bz9 (bB3.mp this.1).1]at this
  exact absurd this.2 (by decide)
 rintro n ρ ⟨L,Ps,y5,rfl,rfl,lset,bd,sub,sh,eP,lt⟩
 refine⟨_,rfl,_,rfl,?_⟩
 cases hL:L with
 |nil=>
  refine aT ⟨_,rfl,trivial,?_⟩
  have e:(cA ls S).filter (λz=>!decide (z∈L))=cA ls S:=bG5.mpr λz _=>by rw[hL];rfl
  rw[e]at eP
  rw[eP];exact q
 |cons a r=>
  rw[<- hL]
  have ne:(!(intz L).isEmpty)=true:=by rw[hL];rfl
  have nl:L≠[]:=by rw[hL];exact λz=>nomatch z
  have hd:L.head? = some a:=by rw[hL];rfl
  show if (!(intz L).isEmpty)=true then _ else _
  rw[ne]
  refine b9 ?_
  have ll:=kL lset
  refine⟨_,rfl,_,rfl,ws,ls,L,rfl,wb,lset,nl,λP pc=>⟨trivial,?_⟩⟩
  have pn:P.Nodup:=(dJ (c8 pc.set).1).imp λh=>bH1 h
  have pl:P.length<=L.length:=pn.length_le_of_subset pc.sub
  refine⟨_,rfl,_,rfl,trivial,by rw[gV];omega,?_⟩
  refine⟨_,rfl,_,rfl,_,L,_,P,rfl,.inl rfl,.inl rfl,by omega,by omega,trivial,?_⟩
  have aP:=pc.got a hd
  obtain⟨aL,al⟩:=uD lset hd
  have lt2:(L.filter λz=>!decide (z∈P)).length<L.length:=by
   rcases bG0 (L.filter λz=>!decide (z∈P)).length L.length with z|z
   ·exact z
   ·have:=bG5.mp (List.filter_sublist.eq_of_length_le z) a aL
    rw[bz9 aP]at this;cases this
  have ec:=pc.comp hs sub sh hd
  have hn:=bk5 hs lset sub hd (λx hx=>pc.sub x (by rw[ec];exact hx)) lt
  rw[<- ec]at hn
  refine⟨_,lt2,L.filter (λz=>!decide (z∈P)),Ps++[P],some (.sh true (.tup (intz P))),?_,rfl,qO lset _,by rw[bB1,bF7];omega,λx hx=>sub x (bB3.mp hx).1,?_,?_,?_⟩
  ·unfold tups
   rw[bC3];rfl
  ·intro x hx y hy yS
   rw[bB3]at hx ⊢
   refine⟨sh x hx.1 y hy yS,?_⟩
   by_cases yP:y∈P
   ·have:=pc.shut y yP x (mY hy) hx.1
    rw[bz9 this]at hx;exact absurd hx.2 (by decide)
   ·rw[bA0 yP];rfl
  ·rw[hn,bC3,<- eP,ec];rfl
  ·rw[hn]
   intro h hh x hx
   rw[bB3]at hx
   rcases bB8.mp hh with hh|hh
   ·exact lt h hh x hx.1
   ·rw[bA1.mp hh]
    rcases al x hx.1 with e|e
    ·rw[<- e,bz9 aP]at hx;exact absurd hx.2 (by decide)
    ·exact e
def ak4 (ws:af)(ls:aa):af->af->Bool
 |_,[]=>true
 |B,h::R=>inB ws.length h&&(kin ws ls B h&&ak4 ws ls (B++[h]) R)
section
variable {ws:af}{ls:aa}{ns S:af}
def dF (S:af)(h:Int):af:=S.filter λz=>!decide (z∈[h])
theorem mK {h x:Int}:x∈dF S h↔x∈S/\x≠h:=by unfold dF;rw[bB3];simp
theorem qU {n:Nat}{h:Int}(hs:aX n S=true):aX n (dF S h)=true:=qO hs _
end
theorem B6 (n:Nat):aX n (rng n)=true:=gY.set ⟨bf1 n,λx hx=>fB.mp hx⟩
def wQ (ws:af)(ls:aa)(ns R:af):Prop:=ak4 ws ls ns R=true/\bc0 ws ls (ns++R)
end Core
namespace PP
open PySem L2
section
variable {X:Cx}{a b:Expr}{ta tb:aD}{pos:Pos}
def ak5:PV->Tg->PV->Tg->PK->Prop:=λx _ y _ Q=>∃ns ms:af,x = .tup (intz ns)/\y = .tup (intz ms)/\Q (.bl (HT.bP ns ms)) .fr
theorem bk8:eL X ak5 (vP X.K):=by
 rintro W Hs H u v x y g g' Q Q' s n r1 r2 ⟨ns,ms,rfl,rfl,q⟩ k
 obtain⟨p1,us,rfl,h1,r1⟩:=r1.sqT
 obtain⟨p2,vs,rfl,h2,r2⟩:=r2.sqT
 obtain rfl:=r1.ofInts
 obtain rfl:=r2.ofInts
 exact⟨p1,p2,ns,ms,rfl,rfl,aH.of h1,aH.of h2,k _ _ _ _ (aE.refl _) (.bl _) q⟩
end
end PP
namespace L2
open PySem PySem.Spec PyProof.Rows PP
section
variable {prog:Program}{w:World}{A:Around}{R:Result→Shared→Prop}{I S:Addr}{n:Nat}{l:Addr}{its:Array Value}{s0:Shared}{bt:Nat→Nat→Bool}
abbrev at_ (s:Shared)(h:Heap)(k:Nat):Shared:={ s with heap:=h,toks:=k }
abbrev bk9 (g h:Heap):Prop:=∀b o,g.get? b=some o->h.get? b=some o
def cW (prog:Program)(w:World)(A:Around)(s0:Shared)(its:Array Value)(bt:Nat->Nat->Bool):Prop:=
 ∀(i j:Nat) (v u:Value) (h:Heap) (k:Nat) (Q E:Value->Shared->Prop),its[i]? = some v->its[j]? = some u->bk9 s0.heap h->Q (.bool (bt i j)) (at_ s0 h k)->wpAny (model prog w) A (richCompare .Lt v u) Q E (at_ s0 h k)
end
end L2
namespace Core
open PySem L2 PP
theorem ak6 (ps:af):fH (intz ps) (some 1) none=intz (ps.drop 1):=by
 unfold fH
 have e1:HT.b7 (intz ps).length 0 (some 1)=min 1 ps.length:=by
  rw[bH]
  show (if (1:Int)<0 then ((1:Int)+(ps.length:Int)).toNat else min (1:Int).toNat ps.length)=_
  rw[if_neg (by decide)];rfl
 rw[e1]
 show ((intz ps).drop (min 1 ps.length)).take ((intz ps).length-min 1 ps.length)=_
 rw[bE4 (by rw[bI5];exact bA3 _)]
 show (List.map PV.int ps).drop _=List.map PV.int _
 cases ps with
 |nil=>rfl
 |cons x xs=>rw[show min 1 (x::xs).length=1 by simp];rfl
def Bd (ws:af)(ls:aa)(wts:af)(b:Int):Prop:=∃zs,bf0 ws ls wts zs/\b=(ws.length:Int)-(be8 zs wts.sum:Int)
noncomputable def B7 (ws:af)(ls:aa)(wts:af):Int:=Classical.epsilon (Bd ws ls wts)
def FB (L:ae)(f:af->Int)(r:af):Prop:=∃i,L[i]? = some r/\(∀(j:Nat) (s:af),j<i->L[j]? = some s->f s<f r)/\∀s∈L,f s<=f r
end Core
namespace L2
open PySem PySem.Spec PyProof.Rows
section
variable {prog:Program}{w:World}{A:Around}{E:Value→Shared→Prop}{s:Shared}{l:Addr}{xs:Array (Int×Tok)}
theorem ak7 {Q:Value->Shared->Prop}(hl:s.heap.IsTuple l (intItems xs))(h:∀h2:Heap,(h2.IsTupleIter s.heap.objs.size l 0/\h2.IsTuple l (intItems xs))->(∀b∈[s.heap.objs.size,l],b<h2.objs.size)->l≠s.heap.objs.size->(∀b o,s.heap.get? b=some o->b∉[s.heap.objs.size]/\h2.get? b=some o)->Q (.ref s.heap.objs.size) { s with heap:=h2 }):wpAny (model prog w) A (pyIter (.ref l)) Q E s:=by
 have lb:l<s.heap.objs.size:=by obtain⟨_,e,_⟩:=hl;exact bB2 e
 refine bL7 hl (h _ ⟨⟨_,bB4 _ rfl,rfl,rfl⟩,hl.push _⟩ (λb hb=>?_) (bD4 lb) λb o e=>⟨λhm=>?_,bz8 _ e⟩)
 ·rw[bL2]
  rcases bA7.mp hb with rfl|hb
  ·exact Nat.lt_succ_self _
  ·rw[bA1.mp hb];exact Nat.lt_succ_of_lt lb
 ·rw[bA1.mp hm]at e
  exact absurd (bB2 e) (bF9 _)
theorem bl0 {Q:Value->Shared->Prop}(hh:A.handled=none)(hl:s.heap.IsTuple l (intItems xs))(hne:0<xs.size)(h:∀v h' tk,(intItems xs)[argBest (λi j=>decide (numAt xs i>numAt xs j)) (xs.size-1)]? = some v->(∀b o,s.heap.get? b=some o->h'.get? b=some o)->Q v { s with heap:=h',toks:=tk }):wpAny (model prog w) A (call (.builtin "max") [.ref l]) Q E s:=by
 refine call_max_walk (ak7 hl λh2 st hfp ne old=>?_)
 exact⟨_,_,_,_,_,_,_,rfl,Walks.tuple (A:=A.in1) hh _ l ne (intItems xs),st,hfp,by simpa[intItems] using hne,CmpOf.ints_gt (numAt xs) (λ_ _=>intItems_at),λv h' tk hP hk=>h v h' tk (by simpa[intItems] using hP) λb o e=>hk b o (old b o e).1 (old b o e).2⟩
theorem bl1 {Q:Value->Shared->Prop}(hh:A.handled=none)(hl:s.heap.IsTuple l (intItems xs))(hne:0<xs.size)(h:∀v h' tk,(intItems xs)[argBest (λi j=>decide (numAt xs i<numAt xs j)) (xs.size-1)]? = some v->(∀b o,s.heap.get? b=some o->h'.get? b=some o)->Q v { s with heap:=h',toks:=tk }):wpAny (model prog w) A (call (.builtin "min") [.ref l]) Q E s:=by
 refine call_min_walk (ak7 hl λh2 st hfp ne old=>?_)
 exact⟨_,_,_,_,_,_,_,rfl,Walks.tuple (A:=A.in1) hh _ l ne (intItems xs),st,hfp,by simpa[intItems] using hne,CmpOf.ints_lt (numAt xs) (λ_ _=>intItems_at),λv h' tk hP hk=>h v h' tk (by simpa[intItems] using hP) λb o e=>hk b o (old b o e).1 (old b o e).2⟩
end
section
variable {X:Cx}
theorem bl3 (hc:X.calm=true):cN X (.builtin "max") (λxs H Q=>∃(a:Addr) (ns:af),xs = [.ref a]/\aH X.K H a (ns.map V.int)/\ns≠[]/\∀M:Int,M∈ns->(∀x∈ns,x<=M)->Q (.int M) H):=by
 intro pins s σ H xs us Q I r h
 obtain⟨a,ns,rfl,hq,ne,q⟩:=h
 obtain⟨u,rfl,ru⟩:=eU r
 cases ru
 obtain⟨its,rv,p,hz⟩:=I.tuple hq
 have ia:=jC rv
 obtain⟨ys,ey⟩:=ia.allInts.items
 have en:ns=ys.toList.map (·.1):=by
  have e1:=nums_intItems ys
  rw[<- ey]at e1
  exact ia.numsOf.symm.trans e1
 have pos:0<ys.size:=Nat.pos_of_ne_zero λz=>ne (by rw[en,Array.eq_empty_of_size_eq_zero z];rfl)
 have hl:s.heap.IsTuple a (intItems ys):=by rw[<- ey];exact p
 refine bl0 (I.ok.hd hc) hl pos λv h' tk ev old=>?_
 obtain⟨t,rfl⟩:=intItems_at ev
 have best:=argBest_gt (numAt ys) (ys.size-1)
 have mem:∀x:Int,x∈ns↔∃j,j<ys.size/\numAt ys j=x:=λx=>by
  rw[en]
  constructor
  ·intro z
   obtain⟨j,hj,e⟩:=mem_getD z
   exact⟨j,by simpa using hj,by rw[numAt_eq];exact e⟩
  ·rintro⟨j,hj,rfl⟩
   rw[numAt_eq]
   exact getD_mem (by simpa using hj)
 refine⟨.int _,H,I.kept (t':=tk) (h':=h') old,⟨t,rfl⟩,q _ ?_ λx hx=>?_⟩
 ·exact (mem _).mpr ⟨_,by have:=best.1;omega,rfl⟩
 ·obtain⟨j,hj,rfl⟩:=(mem x).mp hx
  exact best.2 j (by omega)
theorem bl4 (hc:X.calm=true):cN X (.builtin "min") (λxs H Q=>∃(a:Addr) (ns:af),xs = [.ref a]/\aH X.K H a (ns.map V.int)/\ns≠[]/\∀M:Int,M∈ns->(∀x∈ns,M<=x)->Q (.int M) H):=by
 intro pins s σ H xs us Q I r h
 obtain⟨a,ns,rfl,hq,ne,q⟩:=h
 obtain⟨u,rfl,ru⟩:=eU r
 cases ru
 obtain⟨its,rv,p,hz⟩:=I.tuple hq
 have ia:=jC rv
 obtain⟨ys,ey⟩:=ia.allInts.items
 have en:ns=ys.toList.map (·.1):=by
  have e1:=nums_intItems ys
  rw[<- ey]at e1
  exact ia.numsOf.symm.trans e1
 have pos:0<ys.size:=Nat.pos_of_ne_zero λz=>ne (by rw[en,Array.eq_empty_of_size_eq_zero z];rfl)
 have hl:s.heap.IsTuple a (intItems ys):=by rw[<- ey];exact p
 refine bl1 (I.ok.hd hc) hl pos λv h' tk ev old=>?_
 obtain⟨t,rfl⟩:=intItems_at ev
 have best:=argBest_lt (numAt ys) (ys.size-1)
 have mem:∀x:Int,x∈ns↔∃j,j<ys.size/\numAt ys j=x:=λx=>by
  rw[en]
  constructor
  ·intro z
   obtain⟨j,hj,e⟩:=mem_getD z
   exact⟨j,by simpa using hj,by rw[numAt_eq];exact e⟩
  ·rintro⟨j,hj,rfl⟩
   rw[numAt_eq]
   exact getD_mem (by simpa using hj)
 refine⟨.int _,H,I.kept (t':=tk) (h':=h') old,⟨t,rfl⟩,q _ ?_ λx hx=>?_⟩
 ·exact (mem _).mpr ⟨_,by have:=best.1;omega,rfl⟩
 ·obtain⟨j,hj,rfl⟩:=(mem x).mp hx
  exact best.2 j (by omega)
end
end L2
namespace PP
open PySem L2
section
variable {X:Cx}{a b e:Expr}{ta tb:aD}{tr:dB}{pos p2:Pos}
def B8:List PV->(PV->Prop)->Prop:=λxs Q=>∃ns:af,xs = [.tup (intz ns)]/\ns≠[]/\∀M:Int,M∈ns->(∀x∈ns,x<=M)->Q (.int M)
def B9:List PV->(PV->Prop)->Prop:=λxs Q=>∃ns:af,xs = [.tup (intz ns)]/\ns≠[]/\∀M:Int,M∈ns->(∀x∈ns,M<=x)->Q (.int M)
theorem bl5:e8 X B8 (λxs H Q=>∃(a:Addr) (ns:af),xs = [.ref a]/\aH X.K H a (ns.map V.int)/\ns≠[]/\∀M:Int,M∈ns->(∀x∈ns,x<=M)->Q (.int M) H):=by
 rintro H vs xs Q Q' r ⟨ns,rfl,ne,q⟩ k
 obtain⟨v,rfl,r1⟩:=r.one
 obtain⟨a,us,rfl,h,r2⟩:=r1.sqT
 rw[r2.ofInts]at h
 exact⟨a,ns,rfl,aH.of h,ne,λM m1 m2=>k _ _ _ (aE.refl _) (.int M) (q M m1 m2)⟩
theorem bl6:e8 X B9 (λxs H Q=>∃(a:Addr) (ns:af),xs = [.ref a]/\aH X.K H a (ns.map V.int)/\ns≠[]/\∀M:Int,M∈ns->(∀x∈ns,M<=x)->Q (.int M) H):=by
 rintro H vs xs Q Q' r ⟨ns,rfl,ne,q⟩ k
 obtain⟨v,rfl,r1⟩:=r.one
 obtain⟨a,us,rfl,h,r2⟩:=r1.sqT
 rw[r2.ofInts]at h
 exact⟨a,ns,rfl,aH.of h,ne,λM m1 m2=>k _ _ _ (aE.refl _) (.int M) (q M m1 m2)⟩
theorem bl7 (B:Bt X.mg)(hc:X.calm=true)(ha:QA X [e] tr)(hg:Gl X "max":=by rfl)(he:starEach [e] X.env=(false,eval e X.env)::starEach [] X.env:=by rfl)(hpl:(backTo pos (starEach [] X.env)).any (·.1)=false:=by rfl):QE X (.Call (.Name "max" p2) [e] [] pos) (aB B8 tr):=
 gS (bl3 hc) bl5 hg B.max PyProof.Rows.boot_max ha (he:=he) (hpl:=hpl)
theorem bl8 (B:Bt X.mg)(hc:X.calm=true)(ha:QA X [e] tr)(hg:Gl X "min":=by rfl)(he:starEach [e] X.env=(false,eval e X.env)::starEach [] X.env:=by rfl)(hpl:(backTo pos (starEach [] X.env)).any (·.1)=false:=by rfl):QE X (.Call (.Name "min" p2) [e] [] pos) (aB B9 tr):=
 gS (bl4 hc) bl6 hg B.min PyProof.Rows.boot_min ha (he:=he) (hpl:=hpl)
def ak8 (K:ad):R2:=λx y H Q=>jB (λi j=>.bl (decide (i<j))) x y H Q∨vP K x y H Q
theorem bl9 (hu:X.A.units<cLine):c9 X (compareOp .Lt) (ak8 X.K):=by
 intro pins s σ H x y v u Q I rx ry h
 rcases h with h|h
 ·exact vG pins s σ H x y v u Q I rx ry h
 ·exact aB1 hu pins s σ H x y v u Q I rx ry h
def uF:PV->Tg->PV->Tg->PK->Prop:=λx g y g' Q=>fG (λi j=>.bl (decide (i<j))) x g y g' Q∨ak5 x g y g' Q
theorem bm0:eL X uF (ak8 X.K):=by
 intro W Hs H u v x y g g' Q Q' s n r1 r2 h k
 rcases h with h|h
 ·exact .inl (nC W Hs H u v x y g g' Q Q' s n r1 r2 h k)
 ·exact .inr (bk8 W Hs H u v x y g g' Q Q' s n r1 r2 h k)
theorem bm1 (hu:X.A.units+1<cLine)(ha:QE X a ta)(hb:QE X b tb):QE X (.Compare a [.Lt] [b] pos) (q2 uF ta tb):=pW (bl9 (by omega)) bm0 ha hb (iG _)
end
end PP
namespace L2
open PySem PySem.Spec PyProof.Rows
section
variable {X:Cx}
def ak9 (K:ad)(ta:TA):TI:=λσ H R=>ta σ H λvs H1=>∃a b,vs = [.ref a,.ref b]/\((∃xs ys,aH K H1 a xs/\aH K H1 b ys/\R (wY K a b) H1)∨∃xs ys,aQ K H1 a xs/\aQ K H1 b ys/\R (x3 K a b) H1)
theorem bm2 {elts:List Expr}{kt:Nat}{pt:Pos}{a b:Expr}{ta:TA}{p pos:Pos}(hg:Gl X "zip")(hm:X.mg "zip" = none)(ha:PA X [a,b] ta)(hs:starEach [a,b] X.env = [(false,eval a X.env),(false,eval b X.env)]:=by rfl)(hs2:starEach [b] X.env = [(false,eval b X.env)]:=by rfl) :
  PI X (.Tuple elts kt pt) (.Call (.Name "zip" p) [a,b] [] pos) (ak9 X.K ta):=by
 intro pins s σ H R I h
 refine Call_ (kU I hg hm PyProof.Rows.boot_zip (bK0 (aR (ha pos pins s σ H _ I h) λus s1 ⟨vs,H1,I1,r1,q1⟩=>?_) (by rw[hs,hs2]) (by rw[hs2];rfl)))
 obtain⟨a',b',e,q1⟩:=q1
 subst e
 obtain⟨u1,u2,rfl,r,r'⟩:=aO.two r1
 cases r
 cases r'
 have fresh:∀k,H1 (s1.heap.objs.size+k)=none:=λk=>I1.hok.fresh (bN4 _ _)
 have fp:∀c∈[s1.heap.objs.size+4,s1.heap.objs.size+2,s1.heap.objs.size+3,s1.heap.objs.size,s1.heap.objs.size+1],gM X pins H1 c:=λc hc=>by
  simp only[bA7,bB7,bF2]at hc
  rcases hc with rfl|rfl|rfl|rfl|rfl
  ·exact I1.fpOk (bN4 _ _) (fresh 4)
  ·exact I1.fpOk (bN4 _ _) (fresh 2)
  ·exact I1.fpOk (bN4 _ _) (fresh 3)
  ·exact I1.fpOk (bA3 _) (fresh 0)
  ·exact I1.fpOk (bN4 _ _) (fresh 1)
 rcases q1 with⟨xs,ys,h1,h2,q⟩|⟨xs,ys,h1,h2,q⟩
 ·obtain⟨us,_,p1,_⟩:=I1.tuple h1
  obtain⟨ws,_,p2,_⟩:=I1.tuple h2
  refine Zp.aH9 p1 p2 λh' z ti to s1' s2' kp=>wpAny_pyIter_zip z ?_
  exact⟨s1.heap.objs.size+4,[s1.heap.objs.size+4,s1.heap.objs.size+2,s1.heap.objs.size+3,s1.heap.objs.size,s1.heap.objs.size+1],_,_,H1,rfl,I1.kept (t':=s1.toks) kp,aI2 a' b' _ _ _ _ _ (by simp),⟨z,ti,⟨_,_,to⟩,s1',s2'⟩,fp,q⟩
 ·obtain⟨us,_,p1,_⟩:=I1.list h1
  obtain⟨ws,_,p2,_⟩:=I1.list h2
  refine call_zip_2 p1.isList p2.isList λh' z ti to s1' s2' _ kp=>wpAny_pyIter_zip z ?_
  exact⟨s1.heap.objs.size+4,[s1.heap.objs.size+4,s1.heap.objs.size+2,s1.heap.objs.size+3,s1.heap.objs.size,s1.heap.objs.size+1],_,_,H1,rfl,I1.kept (t':=s1.toks) kp,aI8 a' b' _ _ _ _ _ (by simp),⟨z,ti,⟨_,_,to⟩,s1',s2'⟩,fp,q⟩
end
end L2
namespace PP
open PySem L2
theorem bm3 {K:ad}{H0:Hp}{W:Addr->Prop}{g:Bool}{H1:Hp}{a b:Addr}{us vs:List V}{xs ys:List PV}(tw:∀a,W a->∃o,H1 a=some o/\g9 o=true)(ha:∀W' H',Ev W H1 W' H'->aQ K H' a us)(hb:∀W' H',Ev W H1 W' H'->aQ K H' b vs)(r:Reps K (Ms H0 W g) H1 us xs)(r':Reps K (Ms H0 W g) H1 vs ys):lC K H0 W g H1 (x3 K a b) (jL xs ys):=by
 have lr:=r.length
 have lr':=r'.length
 have ll:=zX xs ys
 refine⟨λW' H' i e hi=>⟨us,vs,us[i]'(by omega),vs[i]'(by omega),ha W' H' e,hb W' H' e,by simp,by simp⟩,λW' H' i v H2 e y hi=>?_,λW' H' e=>⟨us,vs,ha W' H' e,hb W' H' e,by omega⟩⟩
 obtain⟨T,x,y',hT,rfl,rfl,y⟩:=y
 obtain⟨h1,h2⟩:=y us vs (ha W' _ e) (hb W' _ e)
 obtain⟨z,hz,rz⟩:=r.get h1
 obtain⟨z',hz',rz'⟩:=r'.get h2
 have sm:=bK hT (HO.tup [x,y'])
 exact⟨sm,_,ag5 hz hz',.tup bJ (.cons ((rz.keep (e.keep tw)).same sm λ_ q=>q) (.cons ((rz'.keep (e.keep tw)).same sm λ_ q=>q) .nil))⟩
section
variable {X:Cx}{σ:L2.St}{H:Hp}{ta tb:aD}{R:It→Hp→Prop}
def C0 (ta tb:aD):eM:=λρ Q=>ta ρ λx g0=>tb ρ λy g=>∃xs ys,((x = .tup xs/\y = .tup ys)∨(x = .lst xs/\y = .lst ys/\g0≠.rd/\g≠.rd))/\flats xs=true/\flats ys=true/\Q (jL xs ys) true
theorem al0 {K:ad}{H0 Hs:Hp}{W:Addr->Prop}{σ:L2.St}{ρ:bN}{g:Tg}{b:Addr}(px:PX K H0 W σ ρ Hs)(ng:g≠.rd)(m:Mg H0 W Hs g b):¬W b:=by
 cases g with
 |fr=>exact (px.new m).1
 |nw=>exact m.1
 |sh=>exact m
 |rd=>exact absurd rfl ng
theorem bm4 (h:LI X (C0 ta tb) σ H R):ak9 X.K (iH (LE X ta) (iH (LE X tb) kX)) σ H R:=by
 obtain⟨W,ρ,Q,px,q,k⟩:=h
 refine⟨W,ρ,_,px,q,λv0 H0 x0 g0 s0 r0 q0=>⟨W,ρ,_,px.mono s0,q0,?_⟩⟩
 rintro v H1 x g s r ⟨xs,ys,c,fx,fy,q⟩
 have S:=s0.trans s
 have px1:=px.mono S
 have tw:∀a,W a->∃o,H1 a=some o/\g9 o=true:=λa z=>(px1.wm a z).2
 rcases c with⟨rfl,rfl⟩|⟨rfl,rfl,n0,n1⟩
 ·obtain⟨a,us,rfl,h1,ra⟩:=(r0.same (M':=λ_=>True) s λ_ _=>trivial).sqT
  obtain⟨b,vs,rfl,h2,rb⟩:=r.sqT
  have sta:∀{c us},H1 c=some (.tup us)->∀W' H',Ev W H1 W' H'->aH X.K H' c us:=λ{c us} hc W' H' e=>aH.of (e _ _ hc λz=>by obtain⟨o,h',mu⟩:=tw _ z;rw[hc]at h';cases h';cases mu).1
  exact⟨a,b,rfl,.inl ⟨us,vs,aH.of h1,aH.of h2,k _ _ _ _ S (be6 tw (sta h1) (sta h2) (ra.flat fx) (rb.flat fy)) q⟩⟩
 ·obtain⟨a,us,rfl,m0,h1,ra⟩:=(r0.same s λ_ z=>z).sqL
  obtain⟨b,vs,rfl,m1,h2,rb⟩:=r.sqL
  have w0:=al0 px n0 m0
  have w1:=al0 (px.mono s0) n1 m1
  exact⟨a,b,rfl,.inr ⟨us,vs,aQ.of h1,aQ.of h2,k _ _ _ _ S (bm3 tw (λW' H' e=>aQ.of (e _ _ h1 w0).1) (λW' H' e=>aQ.of (e _ _ h2 w1).1) (ra.flat fx) (rb.flat fy)) q⟩⟩
theorem bm5 {elts:List Expr}{kt:Nat}{pt p2 pos:Pos}{a b:Expr}(B:Bt X.mg)(ha:QE X a ta)(hb:QE X b tb)(hg:Gl X "zip":=by rfl)(hs:starEach [a,b] X.env = [(false,eval a X.env),(false,eval b X.env)]:=by rfl)(hs2:starEach [b] X.env = [(false,eval b X.env)]:=by rfl):QI X (.Tuple elts kt pt) (.Call (.Name "zip" p2) [a,b] [] pos) (C0 ta tb):=
 pV (bm2 hg B.zip (eC ha (eC hb fW hs2) (by rw[hs,hs2])) hs hs2) λ_ _ _=>bm4
end
end PP
namespace Core
open PySem L2 PP
theorem bm6 (xs:List PV):fH xs (some 1) none=xs.drop 1:=by
 unfold fH
 have e1:HT.b7 xs.length 0 (some 1)=min 1 xs.length:=by
  show (if (1:Int)<0 then ((1:Int)+(xs.length:Int)).toNat else min (1:Int).toNat xs.length)=_
  rw[if_neg (by decide)];rfl
 rw[e1]
 show (xs.drop (min 1 xs.length)).take (xs.length-min 1 xs.length)=_
 rw[bE4 (by rw[bI5];exact bA3 _)]
 cases xs with
 |nil=>rfl
 |cons x xs=>rw[show min 1 (x::xs).length=1 by simp]
def uG {α:Type}(lt:α->α->Bool)(A:List α):Bool:=((A.zip (A.drop 1)).map λp=>lt p.1 p.2).all id
def oG:bF:=λxs Q=>∃x,xs = [x]/\((∃ns,cX x ns/\ns.length<=1000/\Q (.bl (iZ ns)))∨∃ls:aa,x = .lst (bD ls)/\ls.length<=4096/\∀b:Bool,(b=true↔ls.Pairwise fC)->Q (.bl b))
def C1:aI:=(bC (aB pN (a6 (cQ (C0 (a5 0) (sH (a5 0) (sG (qC (.int 1))) sF)) [none,none] (lZ 0 1) eD (q2 uF (a5 0) (a5 1))) a9)))
theorem al1 {α:Type}(f:α->PV)(lt:α->α->Bool)(fl:∀a,flat (f a)=true)(hlt:∀(a b:α) (g g':Tg) (K:PK),K (.bl (lt a b)) .fr->uF (f a) g (f b) g' K)(A:List α)(la:A.length<=10000)(x:PV)(hx:x = .tup (A.map f)∨x = .lst (A.map f)){Q:PV->Prop}(q:Q (.bl (uG lt A))) :
  C1 { nx:=λ_=>Q .non,rt:=Q } [some (.sh (flat x) x)]:=by
 have fls:∀B:List α,flats (B.map f)=true:=λB=>by
  induction B with
  |nil=>rfl
  |cons b B ih=>show (flat (f b)&&flats (B.map f))=true;rw[fl,ih];rfl
 have sx:seqT x=some (A.map f):=by rcases hx with rfl|rfl<;>rfl
 have cut:fH (A.map f) (some 1) none=(A.drop 1).map f:=by rw[bm6,List.map_drop]
 refine⟨_,rfl,_,rfl,_,rfl,_,sx,fls A,?_⟩
 rw[cut]
 refine⟨A.map f,(A.drop 1).map f,?_,fls A,fls _,?_⟩
 ·rcases hx with rfl|rfl
  ·exact .inl ⟨rfl,rfl⟩
  ·refine .inr ⟨rfl,rfl,?_,λz=>by cases z⟩
   cases flat (.lst (A.map f))<;>intro z<;>cases z
 have zl:(jL (A.map f) ((A.drop 1).map f)).length=A.length-1:=by rw[zX,bA5,bA5,bI5];omega
 refine⟨by rw[zl];omega,λi acc=>acc=fQ (((A.zip (A.drop 1)).take i).map λp=>lt p.1 p.2),rfl,?_,?_⟩
 ·rintro i y acc hy rfl
  obtain⟨u,v,h1,h2,rfl⟩:=be5 hy
  rw[bB6]at h1 h2
  cases ha:A[i]? with
  |none=>rw[ha]at h1;cases h1
  |some a=>
   cases hb:(A.drop 1)[i]? with
   |none=>rw[hb]at h2;cases h2
   |some b=>
    rw[ha]at h1
    rw[hb]at h2
    cases h1
    cases h2
    have hz:(A.zip (A.drop 1))[i]? = some (a,b):=List.getElem?_zip_eq_some.mpr ⟨ha,hb⟩
    refine⟨_,_,rfl,_,rfl,_,rfl,hlt a b _ _ _ ⟨trivial,?_⟩⟩
    dsimp only
    rw[bD9,hz,bC3]
    unfold fQ
    rw[bC3];rfl
 ·rintro acc rfl
  rw[bE4 (by rw[zl,List.length_zip,bI5];omega)]
  exact⟨_,rfl,trivial,q⟩
theorem bm7 (ls:aa):uG (λa b=>HT.bP [a.1,a.2] [b.1,b.2]) ls=true↔ls.Pairwise fC:=by
 have lt2:∀a b:Int×Int,HT.bP [a.1,a.2] [b.1,b.2]=true↔fC a b:=λa b=>by
  unfold fC
  rw[HT.iI,HT.iI,HT.vO]
  by_cases h1:a.1=b.1
  ·rw[if_pos h1]
   by_cases h2:a.2=b.2
   ·rw[if_pos h2]
    exact⟨λz=>(by cases z),λz=>(by omega)⟩
   ·rw[if_neg h2,bC2];omega
  ·rw[if_neg h1,bC2];omega
 induction ls with
 |nil=>exact⟨λ_=>.nil,λ_=>rfl⟩
 |cons a r ih=>
  cases r with
  |nil=>exact⟨λ_=>bC9 _ _,λ_=>rfl⟩
  |cons b r=>
   have e:uG (λa b:Int×Int=>HT.bP [a.1,a.2] [b.1,b.2]) (a::b::r)=(HT.bP [a.1,a.2] [b.1,b.2]&&uG (λa b:Int×Int=>HT.bP [a.1,a.2] [b.1,b.2]) (b::r)):=rfl
   rw[e,bE5,lt2,bM1]
   refine⟨λ⟨h1,h2⟩=>⟨λc hc=>?_,ih.mp h2⟩,λ⟨h1,h2⟩=>⟨h1 b bA4,ih.mpr h2⟩⟩
   rcases bA7.mp hc with rfl|hc
   ·exact h1
   ·have:=(bM1.mp (ih.mp h2)).1 c hc
    unfold fC at *;omega
theorem bm8:bX C1 ["things"] oG:=by
 rintro xs Q ⟨x,rfl,⟨ns,hx,hl,q⟩|⟨ls,rfl,hl,q⟩⟩
 ·exact al1 PV.int (λa b=>decide (a<b)) (λ_=>rfl) (λa b g g' K h=>.inl ⟨_,_,rfl,rfl,h⟩) ns (by omega) x hx q
 ·exact al1 (λl:Int×Int=>PV.tup [.int l.1,.int l.2]) (λa b=>HT.bP [a.1,a.2] [b.1,b.2]) (λ_=>rfl) (λa b g g' K h=>.inr ⟨_,_,rfl,rfl,h⟩) ls (by omega) _ (.inr rfl) (q _ (bm7 ls))
abbrev C2:bF:=zF
def al2:aI:=(bC (lY (aB oG (a6 (a5 1) a9)) (aB pN (a6 (cQ (dD (a5 1)) [none,some 0] (bQ 0) eD (aB qH (a6 (a5 1) (a6 (a5 0) a9)))) a9))))
theorem bm9:bX al2 ["web","numbers"] C2:=by
 intro xs Q h
 have h2:=aW7 xs Q h
 obtain⟨m,e,x,ns,r1,r2,r3,r4⟩:=h2
 exact⟨m,e,x,r1,.inl ⟨ns,r2,r3,r4⟩⟩
def fR (l:Int×Int):Int×Int:=(min l.1 l.2,max l.1 l.2)
def uH:bF:=λxs Q=>∃(n:Nat) (l:Int×Int),xs = [.int n,.tup [.int l.1,.int l.2]]/\0<=l.1/\l.1<(n:Int)/\0<=l.2/\l.2<(n:Int)/\l.1≠l.2/\Q (.tup [.int (fR l).1,.int (fR l).2])
def al3:aI:=(aF (bE 2 (aB B9 (a6 (a5 1) a9)))
 (aF (bE 3 (aB B8 (a6 (a5 1) a9)))
 (aF (cI (lA (aY (jG (a5 2) (qC (.int 0)))) (aY (xR (a5 3) (a5 0)))) dU cY)
 (aF (cI (aY (gQ (a5 2) (a5 3))) dU cY)
 (bC (iP (a6 (a5 2) (a6 (a5 3) a9))))))))
theorem bn0:bX al3 ["many","link","one","other"] uH:=by
 rintro xs Q ⟨n,l,rfl,a0,a1,b0,b1,ne,q⟩
 refine⟨_,rfl,[l.1,l.2],rfl,(λz=>by cases z),λm m1 m2=>⟨trivial,?_⟩⟩
 refine⟨_,rfl,[l.1,l.2],rfl,(λz=>by cases z),λM M1 M2=>⟨trivial,?_⟩⟩
 have hm:m=(fR l).1:=by
  have h1:=m2 l.1 (by simp)
  have h2:=m2 l.2 (by simp)
  show m=min l.1 l.2
  rcases bA7.mp m1 with z|z
  ·omega
  ·have:=bA1.mp z;omega
 have hM:M=(fR l).2:=by
  have h1:=M2 l.1 (by simp)
  have h2:=M2 l.2 (by simp)
  show M=max l.1 l.2
  rcases bA7.mp M1 with z|z
  ·omega
  ·have:=bA1.mp z;omega
 have e1:(fR l).1=min l.1 l.2:=rfl
 have e2:(fR l).2=max l.1 l.2:=rfl
 subst hm hM
 refine⟨_,rfl,_,_,rfl,rfl,_,rfl,?_⟩
 dsimp only
 rw[bA0 (by omega)]
 refine aT ⟨_,rfl,_,rfl,_,_,rfl,rfl,_,rfl,?_⟩
 dsimp only
 rw[bA0 (by omega)]
 refine aT ⟨_,rfl,_,rfl,.inl ⟨_,_,rfl,rfl,_,rfl,?_⟩⟩
 show if decide ((fR l).1=(fR l).2)=true then _ else _
 rw[bA0 (by omega)]
 exact aT ⟨_,rfl,_,rfl,by show 2<=1000;decide,rfl,trivial,q⟩
def uI:bF:=λxs Q=>∃x y ws ls,xs = [x,y]/\cX x ws/\ws.length<=40/\(∀w∈ws,0<=w/\w<=60)/\(y = .tup (bD ls)∨y = .lst (bD ls))/\ls.length<=1700/\(∀l∈ls,0<=l.1/\l.1<(ws.length:Int)/\0<=l.2/\l.2<(ws.length:Int)/\l.1≠l.2)/\(ls.map fR).Nodup/\∀ls',ls'.Perm (ls.map fR)->WL (ws.length:Int) ws ls'->Q (bL ws ls')
def al4:aI:=(aF (cI (aY (jH (aB dC (a6 (a5 0) a9)) (qC (.int 40)))) dU cY)
 (aF (eN (dD (a5 0)) (bQ 2)
  (cI (lA (aY (jG (a5 2) (qC (.int 0)))) (aY (jH (a5 2) (qC (.int 60))))) dU cY))
 (aF (bE 3 (aB tX (a6 (cQ (dD (a5 1)) [none,some 0] (bQ 0) eD (aB uH (a6 (aB dC (a6 (a5 1) a9)) (a6 (a5 0) a9)))) a9)))
 (aF (cI (k6 (aY (aB oG (a6 (a5 3) a9)))) dU cY)
 (bC (iP (a6 (aB dW (a6 (a5 0) a9)) (a6 (aB dW (a6 (a5 3) a9)) a9))))))))
theorem bn1:bX al4 ["wants","links","want","pairs"] uI:=by
 rintro xs Q ⟨x,y,ws,ls,rfl,hx,few,hw,hy,l17,inn,nd,q⟩
 have sy:iQ y=some (bD ls):=by rcases hy with rfl|rfl<;>rfl
 have fy:flats (bD ls)=true:=qG ls
 have pl:(bD ls).length=ls.length:=bA5 _
 refine⟨_,rfl,_,_,rfl,hx.len,_,_,rfl,rfl,_,rfl,?_⟩
 dsimp only
 rw[bA0 (by omega)]
 refine aT ?_
 refine⟨_,rfl,_,hx.seq,mF hx,λi ρ=>∃y2,ρ = [some (.sh (flat x) x),some (.sh (flat y) y),y2,none],⟨none,rfl⟩,?_,?_⟩
 ·rintro i z ρ hz ⟨y2,rfl⟩
  obtain⟨n,rfl,hn⟩:=gH hz
  have:=hw n (bD7 hn)
  refine kO ?_
  refine⟨_,rfl,_,_,rfl,rfl,_,rfl,?_⟩
  dsimp only
  rw[bA0 (by omega)]
  refine aT ⟨_,rfl,_,_,rfl,rfl,_,rfl,?_⟩
  dsimp only
  rw[bA0 (by omega)]
  exact aT ⟨_,rfl⟩
 rintro ρ ⟨y2,rfl⟩
 refine⟨_,rfl,_,sy,(λz=>?_),by rw[pl];omega,λi acc=>acc=bD ((ls.take i).map fR),rfl,?_,?_⟩
 ·cases h:flat y with
  |true=>exact h
  |false=>rw[h]at z;cases z
 ·rintro i z acc hz rfl
  obtain⟨l,rfl,hl⟩:=tF hz
  obtain⟨a0,a1,b0,b1,ne⟩:=inn l (bD7 hl)
  refine⟨_,rfl,_,_,rfl,hx.len,_,rfl,ws.length,l,rfl,a0,a1,b0,b1,ne,trivial,?_⟩
  dsimp only
  rw[bD9,hl,bC3]
  unfold bD
  rw[bC3];rfl
 rintro acc rfl
 rw[pl,bD8]
 refine⟨(ls.map fR).map two,by rw[tI];rfl,by rw[bA5,bA5];omega,λr hr=>by obtain⟨l,_,rfl⟩:=bF0.mp hr;rfl,λZ pz so=>⟨trivial,?_⟩⟩
 obtain⟨ls',rfl,pp⟩:=ad1 pz
 have wl:WL (ws.length:Int) ws ls':=WL.perm rfl (λl hl=>by
  obtain⟨m,hm,rfl⟩:=bF0.mp hl
  obtain⟨a0,a1,b0,b1,ne⟩:=inn m hm
  show 0<=min m.1 m.2/\min m.1 m.2<max m.1 m.2/\max m.1 m.2<(ws.length:Int)
  omega) (by rw[bA5];exact l17) nd (λw h=>(hw w h).1) pp so
 have ll:=pp.length_eq
 rw[bA5]at ll
 rw[show ((ls'.map two).map λr=>PV.tup (intz r))=bD ls' from (tI ls').symm]
 refine⟨_,rfl,_,rfl,.inr ⟨ls',rfl,by omega,λb hb=>?_⟩⟩
 refine⟨_,rfl,?_⟩
 rw[hb.mpr wl.ord]
 refine aT ?_
 refine⟨_,rfl,⟨_,_,rfl,hx.seqT,cS _,?_⟩,hx.noscr⟩
 refine⟨_,rfl,⟨_,_,rfl,rfl,qG _,?_⟩,λ_ z=>by cases z⟩
 exact⟨by show 2<=1000;decide,ab2 ws ls',trivial,q ls' pp wl⟩
def eS (n:Nat)(ls:aa):Prop:=(∀l∈ls,0<=l.1/\l.1<l.2/\l.2<(n:Int))/\ls.length<=1700/\ls.Pairwise fC
theorem bn2 {l:Int×Int}(h:l.1<l.2):fR l=l:=by
 unfold fR
 rw[show min l.1 l.2=l.1 by omega,show max l.1 l.2=l.2 by omega]
theorem bn3 {a b:aa}(p:a.Perm b)(ha:a.Pairwise fC)(hb:b.Pairwise fC):a=b:=
 p.eq_of_pairwise (λx y _ _ h1 h2=>by unfold fC at h1 h2;omega) ha hb
theorem al5:∀n:Nat,(List.replicate n [PV.int 0]).flatten=intz (List.replicate n 0)
 |0=>rfl
 |n+1=>by rw[bJ8,bK8,bJ8];show PV.int 0::_=PV.int 0::_;rw[al5 n];rfl
def uJ:bF:=λxs Q=>∃(n:Nat) (ls:aa),xs = [.int n,.lst (bD ls)]/\n<=40/\eS n ls/\Q (bL (List.replicate n 0) ls)
def al6:aI:=(aF (cI (lA (aY (jG (a5 0) (qC (.int 0)))) (aY (jH (a5 0) (qC (.int 40))))) dU cY)
 (bC (aB uI (a6 (ae7 (i7 (a6 (qC (.int 0)) a9)) (a5 0)) (a6 (a5 1) a9)))))
theorem bn4:bX al6 ["many","links"] uJ:=by
 rintro xs Q ⟨n,ls,rfl,n40,⟨inn,l17,ord⟩,q⟩
 refine⟨_,rfl,_,_,rfl,rfl,_,rfl,?_⟩
 dsimp only
 rw[bA0 (by omega)]
 refine aT ⟨_,rfl,_,_,rfl,rfl,_,rfl,?_⟩
 dsimp only
 rw[bA0 (by omega)]
 refine aT ?_
 have nl:ls.map fR=ls:=by
  conv=>rhs;rw[<- List.map_id ls]
  exact List.map_congr_left λl hl=>bn2 (inn l hl).2.1
 have nd:ls.Nodup:=ord.imp λ{a b} h e=>by rw[e]at h;unfold fC at h;omega
 have rp:(List.replicate (n:Int).toNat [PV.int 0]).flatten=intz (List.replicate n 0):=by rw[bK7];exact al5 n
 refine⟨by show 1<=1000;decide,rfl,_,rfl,_,_,rfl,rfl,rfl,by omega,by omega,by decide,_,rfl,?_⟩
 have rl:(List.replicate n (0:Int)).length=n:=bP8
 refine⟨_,_,List.replicate n 0,ls,rfl,.inr (by show PV.lst (List.replicate (n:Int).toNat [PV.int 0]).flatten=_;rw[rp]),by omega,λw hw=>by rw[List.eq_of_mem_replicate hw];decide,.inr rfl,l17,λl hl=>by rw[rl];have:=inn l hl;omega,by rw[nl];exact nd,λls' pp wl=>⟨trivial,?_⟩⟩
 rw[nl]at pp
 rw[bn3 pp wl.ord ord]
 exact q
def bn5:aI:=(bC (iP (a6 (aB dW (a6 (cQ (dD (aB j4 (a6 (a5 0) a9))) [none,some 1] (bQ 0) eD (aB pO (a6 (qC (.int 0)) (a6 (iU (aB dC (a6 (a5 0) a9)) (a5 1)) a9)))) a9)) (a6 (bZ (a5 0) (qC (.int 1))) a9))))
def kT (S:af)(l:Int×Int):Bool:=decide (l.1∈S)&&decide (l.2∈S)
def uK:bF:=λxs Q=>∃x ns,∃n:Nat,xs = [x,.int n]/\iA x ns/\ns.length<=63/\n<=40/\∀ls,eS n ls->Q (.lst (bD ls))
def C3:aI:=(aF (eN (dD (a5 0)) (bQ 3)
  (cI (aY (jH (a5 1) (qC (.int 1)))) (aF (bE 6 (aB lM (a6 (a5 3) (a6 (qC (.int 0)) a9))))
   (aF (bE 4 (cZ (a5 6) (a5 1)))
   (aF (bE 5 (cZ (fI (fI (a5 4) (qC (.int 1))) (cZ (gE (a5 6) (qC (.int 64))) (iU (a5 1) (qC (.int 1))))) (a5 1)))
   (aF (bE 7 (iP (a6 (aB xF (a6 (a5 4) (a6 (a5 5) a9))) (a6 (aB pO (a6 (a5 4) (a6 (a5 5) a9))) a9))))
   (cI (gA (aY (iR false (a5 7) (a5 2))) (aY (gQ (cZ (gE (a5 6) (qC (.int 4096))) (qC (.int 2))) (qC (.int 0))))) (A7 2 (a5 7)) (pT 2 (a5 7) (qC (.bl true)))))))) cY))
 (bC (aB tX (a6 (aB zM (a6 (a5 2) a9)) a9))))
def al7:aI:=(aF (gB 2 (qC (.dT [])))
 (aF (cI (gA (aY (jH (aB dC (a6 (a5 0) a9)) (qC (.int 0)))) (aY (gQ (cZ (bZ (a5 0) (qC (.int 0))) (qC (.int 2))) (qC (.int 1))))) (aF (bE 3 (gE (bZ (a5 0) (qC (.int 0))) (qC (.int 2))))
  (aF (eN (k9 (a5 1)) (bQ 4)
   (eN (sB (fI (a5 4) (qC (.int 1))) (a5 1)) (bQ 5)
    (aF (cI (aY (gQ (cZ (a5 3) (qC (.int 2))) (qC (.int 1)))) (pT 2 (iP (a6 (a5 4) (a6 (a5 5) a9))) (qC (.bl true))) cY)
    (bE 3 (gE (a5 3) (qC (.int 2)))))))
  (bE 0 (sH (a5 0) (sG (qC (.int 1))) sF)))) cY)
 C3))
theorem bn6 {n one t:Int}(h:1<n)(o0:0<=one)(o1:one<n)(t0:0<=t):(one+1+t%(n-1))%n≠one:=by
 have r0:0<=t%(n-1):=bK4 _ (by omega)
 have r1:t%(n-1)<n-1:=bK3 _ (by omega)
 generalize t%(n-1)=r at r0 r1
 by_cases c:one+1+r<n
 ·rw[Int.emod_eq_of_lt (by omega) c];omega
 ·rw[show one+1+r=(one+1+r-n)+n by omega,Int.add_emod_right,Int.emod_eq_of_lt (by omega) (by omega)];omega
theorem al8 {x:PV}{ns:af}{n:Nat}{g:Bool}{ps:List (List aC×PV)}{y3 y4 y5:Option Slot}{Q:PV->Prop}(hx:iA x ns)(hg:(Slot.sh g x).tag = .rd->flat x=true)(n1:n<=40)(dk:DK (n:Int) ps)(q:∀ls,eS n ls->Q (.lst (bD ls))) :
  C3 { nx:=λ_=>Q .non,rt:=Q } [some (.sh g x),si (n:Nat),some (.own (.dT ps)),y3,y4,y5,none,none]:=by
 refine⟨_,rfl,_,hx.seq,hg,λi ρ=>∃(a b c d e:Option Slot) (ps:List (List aC×PV)),ρ = [some (.sh g x),si (n:Nat),some (.own (.dT ps)),a,b,c,d,e]/\DK (n:Int) ps,⟨y3,y4,y5,none,none,ps,rfl,dk⟩,?_,?_⟩
 ·rintro i y ρ hy ⟨a,b,c,d,e,ps,rfl,dk⟩
  obtain⟨cell,rfl,hc⟩:=gH hy
  have few:=dk.few40 (by omega)
  refine kO ?_
  refine⟨_,rfl,_,_,rfl,rfl,_,rfl,?_⟩
  by_cases h1:(n:Int)>1
  ·dsimp only
   rw[bz9 h1]
   refine b9 ⟨_,rfl,cell,0,rfl,by decide,by decide,λt t0=>⟨trivial,?_⟩⟩
   refine⟨_,rfl,_,rfl,_,_,rfl,rfl,(by show (0:Int)<(n:Int);omega),trivial,?_⟩
   dsimp only
   generalize hone:t%(n:Int)=one
   have o1:0<=one/\one<n:=by rw[<- hone];exact⟨bK4 _ (by omega),bK3 _ (by omega)⟩
   refine⟨_,rfl,_,_,rfl,rfl,_,rfl,_,_,rfl,rfl,⟨by decide,by decide⟩,_,rfl,_,_,rfl,rfl,_,_,rfl,rfl,(by show (0:Int)<(n:Int)-1;omega),_,_,rfl,rfl,_,rfl,_,_,rfl,rfl,(by show (0:Int)<(n:Int);omega),trivial,?_⟩
   dsimp only
   have ne:=bn6 h1 o1.1 o1.2 (Int.ediv_nonneg t0 (by decide:(0:Int)<=64))
   generalize hoth:(one+1+t/64%((n:Int)-1))%(n:Int)=oth
   have o2:0<=oth/\oth<n:=by rw[<- hoth];exact⟨bK4 _ (by omega),bK3 _ (by omega)⟩
   rw[hoth]at ne
   have lk:0<=(if oth<one then oth else one)/\(if oth<one then oth else one)<(if oth>one then oth else one)/\(if oth>one then oth else one)<(n:Int):=by
    split<;>split<;>omega
   refine⟨_,rfl,_,rfl,_,_,rfl,_,rfl,_,rfl,_,_,rfl,by show 2<=1000;decide,rfl,trivial,?_⟩
   dsimp only
   revert lk
   generalize (if oth<one then oth else one)=mn
   generalize (if oth>one then oth else one)=mx
   intro lk
   have put:∀D:jF,(∀ρ,(∃(a b c d e:Option Slot) (ps:List (List aC×PV)),ρ = [some (.sh g x),si (n:Nat),some (.own (.dT ps)),a,b,c,d,e]/\DK (n:Int) ps)->D.nx ρ)->(pT 2 (a5 7) (qC (.bl true))) D [some (.sh g x),si (n:Nat),some (.own (.dT ps)),si cell,si one,si oth,si t,some (.sh true (.tup [.int mn,.int mx]))]:=λD hD=>
    ⟨ps,rfl,_,rfl,gI (mn,mx),rfl,trivial,by omega,hD _ ⟨_,_,_,_,_,_,rfl,dk.put (mn,mx) lk⟩⟩
   refine⟨_,rfl,_,rfl,_,.inr ⟨ps,gI (mn,mx),rfl,rfl,rfl⟩,_,rfl,?_⟩
   cases hv:(bW ps (gI (mn,mx))).isSome with
   |false=>exact aT (aT (put _ λρ h=>h))
   |true=>
    have is:∃j:Nat,(ps.map (·.1))[j]? = some (gI (mn,mx)):=by
     rw[<- qI]at hv
     obtain⟨p,hp,e⟩:=List.any_eq_true.mp hv
     have e:=bE6 e
     obtain⟨j,hj,ej⟩:=bO6 hp
     exact⟨j,by rw[bB6,bA6 hj,ej];exact congrArg some e⟩
    refine b9 ⟨_,rfl,_,_,rfl,rfl,⟨by decide,by decide⟩,_,_,rfl,rfl,(by show (0:Int)<2;decide),.inl ⟨_,_,rfl,rfl,_,rfl,?_⟩⟩
    dsimp only
    cases (if false=true then !decide (t/4096%2=0) else decide (t/4096%2=0)) with
    |true=>exact b9 ⟨ps,rfl,_,rfl,gI (mn,mx),rfl,is,λj hj=>⟨_,_,_,_,_,_,rfl,dk.cut j⟩⟩
    |false=>exact aT (put _ λρ h=>h)
  ·dsimp only
   rw[bA0 h1]
   exact aT ⟨_,_,_,_,_,ps,rfl,dk⟩
 rintro ρ ⟨a,b,c,d,e,ps,rfl,dk⟩
 have few:=dk.few40 (by omega)
 obtain⟨ls,e1,e2,e3,e4⟩:=DL.links dk.key
 have lnd:ls.Nodup:=by
  have:=dk.nd
  rw[e4]at this
  exact (bG8.mp this).imp λh e=>h (congrArg gI e)
 refine⟨_,rfl,ps,rfl,ls.map two,?_,by rw[bA5];omega,?_,λus pz so=>?_⟩
 ·show [PV.lst (ps.map λp=>PV.tup (p.1.map kP))]=_
  rw[e1,tI]
 ·intro y hy
  obtain⟨l,_,rfl⟩:=bF0.mp hy
  rfl
 obtain⟨ls',rfl,pl⟩:=ad1 pz
 rw[<- tI]
 exact⟨trivial,q ls' ⟨λl hl=>e2 l (pl.mem_iff.mp hl),by rw[pl.length_eq];omega,ad2 so (pl.nodup_iff.mpr lnd)⟩⟩
theorem bn7:bX al7 ["flow","many","links","cell","one","other","turn","pair"] uK:=by
 rintro xs Q ⟨x,ns,n,rfl,hx,hns,n1,q⟩
 refine⟨rfl,rfl,?_⟩
 have last:C3 { nx:=λ_=>Q .non,rt:=Q } [some (.sh (flat x) x),si (n:Nat),some (.own (.dT [])),none,none,none,none,none]:=al8 hx (aY8 hx) n1 (DK.nil n) q
 refine⟨_,rfl,_,_,rfl,hx.len,_,_,rfl,rfl,_,rfl,?_⟩
 by_cases h1:(0:Int)<(ns.length:Int)
 ·dsimp only
  rw[bz9 h1]
  have g0:ns[0]? = some (ns[0]'(by omega)):=bA6 (by omega)
  have i0:L2.atI (intz ns) (0:Int)=some (.int (ns[0]'(by omega))):=jD (xs:=intz ns) (j:=0) (by rw[bB6,g0];rfl)
  refine b9 ⟨_,rfl,_,_,_,hx.seq,rfl,i0,_,_,rfl,rfl,(by show (0:Int)<2;decide),.inl ⟨_,_,rfl,rfl,_,rfl,?_⟩⟩
  cases h2:(if false=true then !decide (ns[0]'(by omega)%2=1) else decide (ns[0]'(by omega)%2=1)) with
  |false=>exact aT last
  |true=>
   refine b9 ⟨_,rfl,_,_,_,hx.seq,rfl,i0,_,_,rfl,rfl,⟨by decide,by decide⟩,trivial,?_⟩
   refine⟨_,rfl,(n:Int),rfl,by omega,by omega,λi ρ=>∃(c:Int) (y z:Option Slot) (ps:List (List aC×PV)),ρ = [some (.sh (flat x) x),si (n:Nat),some (.own (.dT ps)),si c,y,z,none,none]/\DK (n:Int) ps,⟨_,none,none,[],rfl,DK.nil n⟩,?_,?_⟩
   ·rintro i y ρ hy ⟨c,y1,z1,ps,rfl,dl⟩
    obtain⟨rfl,hi⟩:=kK hy
    refine kO ?_
    refine⟨_,rfl,_,_,rfl,rfl,_,rfl,_,(n:Int),rfl,rfl,⟨by omega,by omega,by omega,by omega⟩,λj ρ=>∃(c:Int) (z:Option Slot) (ps:List (List aC×PV)),ρ = [some (.sh (flat x) x),si (n:Nat),some (.own (.dT ps)),si c,si (0+(i:Int)),z,none,none]/\DK (n:Int) ps,⟨c,z1,ps,rfl,dl⟩,?_,?_⟩
    ·rintro j y ρ hy ⟨c,z2,ps,rfl,dl⟩
     obtain⟨rfl,hj⟩:=kK hy
     have few:=dl.few40 (by omega)
     refine kO ?_
     refine⟨_,rfl,_,_,rfl,rfl,(by show (0:Int)<2;decide),.inl ⟨_,_,rfl,rfl,_,rfl,?_⟩⟩
     cases h:(if false=true then !decide (c%2=1) else decide (c%2=1)) with
     |true=>
      refine b9 ⟨_,rfl,_,rfl,_,rfl,by show 2<=1000;decide,rfl,gI (0+(i:Int),0+(i:Int)+1+(j:Int)),rfl,trivial,by omega,?_⟩
      refine⟨_,rfl,_,_,rfl,rfl,⟨by decide,by decide⟩,trivial,c/2,si (0+(i:Int)+1+(j:Int)),_,rfl,?_⟩
      exact dl.put _ ⟨by show (0:Int)<=0+(i:Int);omega,by show (0:Int)+(i:Int)<0+(i:Int)+1+(j:Int);omega,by show (0:Int)+(i:Int)+1+(j:Int)<n;omega⟩
     |false=>exact aT ⟨_,rfl,_,_,rfl,rfl,⟨by decide,by decide⟩,trivial,c/2,si (0+(i:Int)+1+(j:Int)),ps,rfl,dl⟩
    ·rintro ρ ⟨c,z2,ps,rfl,dl⟩
     exact⟨c,si (0+(i:Int)),z2,ps,rfl,dl⟩
   ·rintro ρ ⟨c,y1,z1,ps,rfl,dl⟩
    refine⟨_,rfl,_,rfl,_,hx.seqTF,cS _,trivial,?_⟩
    have hc:iA (xP x (fH (intz ns) (some 1) none)) (ns.drop 1):=by
     rcases hx with rfl|rfl
     ·exact .inr (by show PV.lst (fH (intz ns) (some 1) none)=_;rw[ak6])
     ·exact .inr (by show PV.lst (fH (intz ns) (some 1) none)=_;rw[ak6])
    exact al8 (g:=true) hc (λz=>by cases z) n1 dl q
 ·dsimp only
  rw[bA0 h1]
  exact aT (aT last)
abbrev C4:cR:=ak1
def al9 (Ep:Str->Prop):aI:=(aF (bE 1 (fP Ep uB (a6 (a5 0) a9)))
 (aF (bE 2 (fP Ep uC (a6 (a5 0) (a6 (a5 1) a9))))
 (aF (bE 3 (cQ (tL (a5 1)) [none,none,some 2] (lZ 0 1) (gA (nF (bZ (a5 2) (a5 0))) (k6 (aY (aB oC (a6 (a5 2) (a6 (a5 0) (a6 (a5 1) a9))))))) (a5 1)))
 (bC (aB tD (a6 (a5 3) a9))))))
theorem bn8:gK al9 ["web","chosen","holds","found"] C4:=by
 rintro Ep xs Q ⟨ws,ls,rfl,wb,q,qe⟩
 refine⟨_,rfl,ws,ls,rfl,wb.few,λfew=>⟨trivial,?_⟩,qe⟩
 obtain⟨q1,q⟩:=q few
 have ln:=qQ ws.length
 have l12:2^ws.length<=4096:=bE8 (bQ8 (by decide) few) (by decide)
 refine⟨_,rfl,_,rfl,ws,ls,rfl,wb,few,λbs bl hb=>⟨trivial,?_⟩⟩
 unfold lN at q1 q
 have cat:∀{p:Nat}{S:af},(bO (rng ws.length))[p]? = some S->(bs.getD p false=true↔HC ws ls S):=λ{p S} e=>hb p S e
 have sat:=λp S=>qR ws.length p S
 have hok:=λ(p:Nat) (S:af) (e:(bO (rng ws.length))[p]? = some S) (h:p<=bs.length)=>ak0 (bs:=bs) few e h
 have hif:=λ(p:Nat) (S:af) (e:(bO (rng ws.length))[p]? = some S)=>aj9 (bs:=bs) (ls:=ls) e λq T _ e=>hb q T e
 generalize bO (rng ws.length)=C at *
 refine⟨_,rfl,_,.inl rfl,(λz=>by cases z),by rw[qM,gV];omega,λi acc=>acc=tups ((C.take i).filter (gL ws ls)),rfl,?_,?_⟩
 ·rintro i y acc hy rfl
  obtain⟨y,hy2,rfl⟩:=ae3 hy
  obtain⟨S,rfl,hS⟩:=t9 hy2
  have il:=(bB0.mp hS).1
  have tk:(C.take (i+1)).filter (gL ws ls)=(C.take i).filter (gL ws ls)++(if gL ws ls S=true then [S] else []):=by
   rw[bD9,hS,List.filter_append]
   congr 1
   show List.filter _ [S]=_
   simp only[bI7,List.filter_nil]
  have ix:L2.atI (fQ bs) (i:Int)=some (.bl (bs.getD i false)):=jD (by show (List.map PV.bl bs)[i]? = _;rw[bB6,bB9,bA6 (by omega)];rfl)
  obtain⟨k1,k2⟩:=hok i S hS (by omega)
  have hw:=hif i S hS
  have le:=bj7 (ws:=ws) (ls:=ls) S
  refine⟨_,_,rfl,_,rfl,_,rfl,_,_,_,rfl,rfl,ix,_,rfl,?_⟩
  cases hbi:bs.getD i false with
  |false=>
   have:gL ws ls S=false:=by
    cases z:gL ws ls S with
    |false=>rfl
    |true=>
     have:=(cat hS).mpr (le.mpr (oD.mp z)).1
     rw[hbi]at this;cases this
   rw[this]at tk
   refine aT (aT ?_)
   dsimp only
   rw[tk];simp
  |true=>
   refine b9 ⟨_,rfl,_,rfl,_,rfl,bs,i,S,rfl,k1,k2,_,rfl,?_⟩
   cases hwb:mI bs i S with
   |true=>
    have:gL ws ls S=false:=by
     cases z:gL ws ls S with
     |false=>rfl
     |true=>exact absurd (hw.mp hwb) (le.mpr (oD.mp z)).2
    rw[this]at tk
    refine aT ?_
    dsimp only
    rw[tk];simp
   |false=>
    have:gL ws ls S=true:=oD.mpr (le.mp ⟨(cat hS).mp hbi,λz=>by rw[hw.mpr z]at hwb;cases hwb⟩)
    rw[this]at tk
    refine b9 ⟨_,rfl,B2 _ (nY S),?_⟩
    dsimp only
    rw[tk]
    unfold tups
    rw[bC3];rfl
 rintro acc rfl
 rw[qM,gV,bD8]
 refine⟨trivial,?_⟩
 refine⟨_,rfl,C.filter (gL ws ls),rfl,q1,λy hy=>(oD.mp (bB3.mp hy).2).1,λZ pz so=>⟨trivial,q Z pz so⟩⟩
structure Moved (ws os ws':af):Prop where
 len:ws'.length=ws.length
 at_:∀h:Nat,h<ws.length->ws'[(os.getD h 0).toNat]? = ws[h]?
def C5 (r c:Int)(l:Int×Int):Bool:=decide (0<=l.1)&&(decide (l.1<r)&&(decide (0<=l.2)&&decide (l.2<c)))
def bn9 (l:Int×Int):aa:=[(l.1-1,l.2),(l.1,l.2-1),(l.1,l.2+1),(l.1+1,l.2)]
def C6 (r c:Int)(l:Int×Int):aa:=(bn9 l).filter (C5 r c)
theorem jN:∀{l m:af},l.Nodup->(∀x∈l,x∈m)->l.length<=m.length
 |[],_,_,_=>bE9 _
 |a::r,m,nd,h=>by
  have hm:=h a bA4
  have:=jN (l:=r) (m:=m.erase a) (bJ6.mp nd).2 λx hx=>(List.mem_erase_of_ne (show x≠a from λe=>(bJ6.mp nd).1 (by rw[<- e];exact hx))).mpr (h x (bA9 _ hx))
  rw[List.length_erase_of_mem hm]at this
  have:=List.length_pos_of_mem hm
  rw[bC7];omega
section
variable {ls:aa}{n:Nat}{B:af}
def ins (ls:aa)(S:af)(h:Int):Nat:=((aM ls h).filter λx=>decide (x∈S)).length
def mL (ls:aa)(S:af):Prop:=∀h∈S,2<=ins ls S h
theorem bo0 {S:af}{h a b:Int}(ha:a∈aM ls h)(hb:b∈aM ls h)(sa:a∈S)(sb:b∈S)(ne:a≠b):2<=ins ls S h:=by
 unfold ins
 have m1:a∈(aM ls h).filter λx=>decide (x∈S):=bB3.mpr ⟨ha,bz9 sa⟩
 have m2:b∈(aM ls h).filter λx=>decide (x∈S):=bB3.mpr ⟨hb,bz9 sb⟩
 cases e:(aM ls h).filter λx=>decide (x∈S) with
 |nil=>rw[e]at m1;cases m1
 |cons x r=>
  cases r with
  |nil=>
   rw[e]at m1 m2
   rw[bA1.mp m1,bA1.mp m2]at ne
   exact absurd rfl ne
  |cons y z=>simp
theorem bo1 {S:af}{h:Int}(nd:(aM ls h).Nodup)(t:2<=ins ls S h):∃a b,a∈aM ls h/\b∈aM ls h/\a∈S/\b∈S/\a≠b:=by
 unfold ins at t
 have n2:=nd.filter (λx=>decide (x∈S))
 have mem:∀x∈(aM ls h).filter λx=>decide (x∈S),x∈aM ls h/\x∈S:=λx hx=>⟨(bB3.mp hx).1,bE6 (bB3.mp hx).2⟩
 cases e:(aM ls h).filter λx=>decide (x∈S) with
 |nil=>rw[e]at t;simp at t
 |cons x r=>
  cases r with
  |nil=>rw[e]at t;simp at t
  |cons y z=>
   rw[e]at n2 mem
   have h1:=mem x bA4
   have h2:=mem y (bA9 _ bA4)
   exact⟨x,y,h1.1,h2.1,h1.2,h2.2,λz=>(bJ6.mp n2).1 (by rw[z];exact bA4)⟩
def hJ (ls:aa):af->Prop
 |a::b::r=>b∈aM ls a/\hJ ls (b::r)
 |_=>True
theorem bo2 {a:Int}:∀{r:af},hJ ls (a::r)->hJ ls r
 |[],_=>trivial
 |_::_,h=>h.2
theorem C7:∀{c z:af},hJ ls (c++z)->hJ ls c
 |[],_,_=>trivial
 |[_],_,_=>trivial
 |_::_::_,_,h=>⟨h.1,C7 h.2⟩
theorem am0:∀(k:Nat) {c:af},hJ ls c->hJ ls (c.drop k)
 |0,_,h=>h
 |k+1,[],_=>trivial
 |k+1,_::_,h=>am0 k (bo2 h)
theorem bo3 {c:af}(k:Nat)(h:hJ ls c):hJ ls (c.take k):=C7 (z:=c.drop k) (by rw[bE3];exact h)
theorem am1 {a:Int}:∀{r:af}{b:Int},hJ ls r->r.getLast? = some b->a∈aM ls b->hJ ls (r++[a])
 |[],_,_,h,_=>by simp at h
 |[x],b,_,h,ha=>by
  simp at h
  subst h
  exact⟨ha,trivial⟩
 |x::y::r,b,h,hl,ha=>⟨h.1,am1 (r:=y::r) h.2 (by simpa using hl) ha⟩
structure j5 (ls:aa)(c:af):Prop where
 len:3<=c.length
 nd:c.Nodup
 ch:hJ ls c
 cl:∃a b,c.head? = some a/\c.getLast? = some b/\a∈aM ls b
theorem bo4 {a:Int}{r:af}(h:j5 ls (a::r)):j5 ls (r++[a]):=by
 obtain⟨x,y,hx,hy,hxy⟩:=h.cl
 have hl:=h.len
 cases r with
 |nil=>simp at hl
 |cons b r=>
  cases hx
  have hy2:(b::r).getLast? = some y:=by simpa using hy
  refine⟨by simpa using hl,?_,am1 h.ch.2 hy2 hxy,b,a,rfl,List.getLast?_concat,h.ch.1⟩
  have:=h.nd
  exact (bN1 (l₁:=[a]) (l₂:=b::r)).nodup_iff.mp this
theorem am2 {x:Int}:∀{A Z:af},j5 ls (A++x::Z)->∃r,j5 ls (x::r)/\(x::r).Perm (A++x::Z)
 |[],Z,h=>⟨Z,h,List.Perm.refl _⟩
 |a::A,Z,h=>by
  have h2:=bo4 (a:=a) (r:=A++x::Z) h
  rw[bC5,List.cons_append]at h2
  obtain⟨r,h3,p⟩:=am2 h2
  refine⟨r,h3,p.trans ?_⟩
  have:(A++x::(Z++[a]))=(A++x::Z)++[a]:=by rw[bC5,List.cons_append]
  rw[this]
  exact bN1
theorem am3 {c:af}{x:Int}(h:j5 ls c)(hx:x∈c):∃r,j5 ls (x::r)/\(x::r).Perm c:=by
 obtain⟨A,Z,rfl⟩:=List.append_of_mem hx
 exact am2 h
theorem am4 {c:af}(h:j5 ls c):mL ls c:=λx hx=>by
 obtain⟨r,h2,p⟩:=am3 h hx
 have hl:=h2.len
 obtain⟨u,v,hu,hv,huv⟩:=h2.cl
 cases hu
 cases r with
 |nil=>simp at hl
 |cons a r=>
  cases r with
  |nil=>simp at hl
  |cons b r=>
   have hv2:(b::r).getLast? = some v:=by simpa using hv
   have vm:v∈b::r:=List.mem_of_getLast? hv2
   have nd:=h2.nd
   refine bo0 (a:=a) (b:=v) h2.ch.1 (mY huv) (p.mem_iff.mp (bA9 _ bA4)) (p.mem_iff.mp (bA9 _ (bA9 _ vm))) λe=>?_
   rw[e]at nd
   exact (bJ6.mp (bJ6.mp nd).2).1 vm
theorem am5 (nnd:∀h,(aM ls h).Nodup)(irr:∀h,h∉aM ls h)(t:mL ls B):∀(k:Nat) (v:Int) (r:af),(v::r).Nodup->(∀x∈v::r,x∈B)->hJ ls (v::r)->B.length<(v::r).length+k->B.Nodup->∃c,j5 ls c/\∀x∈c,x∈B
 |0,v,r,nd,sub,_,hk,B7=>by
  have:=jN nd sub
  omega
 |k+1,v,r,nd,sub,ch,hk,B7=>by
  have hv:=sub v bA4
  by_cases ex:∃x,x∈aM ls v/\x∈B/\x∉v::r
  ·obtain⟨x,h1,h2,h3⟩:=ex
   exact am5 nnd irr t k x (v::r) (bJ6.mpr ⟨h3,nd⟩) (λy hy=>by
    rcases bA7.mp hy with rfl|hy
    ·exact h2
    ·exact sub y hy) ⟨mY h1,ch⟩ (by rw[bC7]at hk ⊢;rw[bC7];omega) B7
  ·have all:∀x,x∈aM ls v->x∈B->x∈r:=λx h1 h2=>by
    rcases bA7.mp (bK5 λz=>ex ⟨x,h1,h2,z⟩) with rfl|h
    ·exact absurd h1 (irr x)
    ·exact h
   obtain⟨a,b,ha,hb,sa,sb,ne⟩:=bo1 (nnd v) (t v hv)
   have ra:=all a ha sa
   have rb:=all b hb sb
   cases r with
   |nil=>cases ra
   |cons u r'=>
    obtain⟨w,hw,wr⟩:∃w,w∈aM ls v/\w∈r':=by
     rcases bA7.mp ra with rfl|ra
     ·rcases bA7.mp rb with rfl|rb
      ·exact absurd rfl ne
      ·exact⟨b,hb,rb⟩
     ·exact⟨a,ha,ra⟩
    obtain⟨A,Z,rfl⟩:=List.append_of_mem wr
    have e:v::u::(A++w::Z)=(v::u::(A++[w]))++Z:=by simp
    rw[e]at nd ch sub
    refine⟨v::u::(A++[w]),⟨by simp,(bG9.mp nd).1,C7 ch,v,w,rfl,List.getLast?_concat (l:=v::u::A),mY hw⟩,λx hx=>sub x (bD2 _ hx)⟩
end
section
variable {ls:aa}{B:af}
structure uL (ls:aa)(B:af):Prop where
 ne:B≠[]
 nd:B.Nodup
 two:mL ls B
 least:∀U,mL ls U->(∀x∈U,x∈B)->U≠[]->∀x∈B,x∈U
structure iE (ls:aa):Prop where
 lt:∀l∈ls,l.1<l.2
 ord:ls.Pairwise fC
theorem iE.nnd (f:iE ls)(h:Int):(aM ls h).Nodup:=ag3 f.lt f.ord
theorem iE.irr (f:iE ls)(h:Int):h∉aM ls h:=λz=>by
 rcases L2.lW.mp z with z|z<;>exact absurd (f.lt _ z) (Int.lt_irrefl _)
theorem bo5 (f:iE ls)(m:uL ls B):∃c,j5 ls c/\c.Perm B:=by
 obtain⟨b0,hb⟩:=List.exists_mem_of_ne_nil B m.ne
 obtain⟨c,h,sub⟩:=am5 f.nnd f.irr m.two (B.length) b0 [] (bC9 _ _) (λx hx=>by rw[bA1.mp hx];exact hb) trivial (by simp) m.nd
 have cne:c≠[]:=λz=>by have:=h.len;rw[z]at this;simp at this
 exact⟨c,h,(List.perm_ext_iff_of_nodup h.nd m.nd).mpr λx=>⟨sub x,m.least c (am4 h) sub cne x⟩⟩
theorem bo6 (m:uL ls B){c:af}(h:j5 ls c)(p:c.Perm B){i j:Nat}{a b:Int}(hi:c[i]? = some a)(hj:c[j]? = some b)(ij:i<j)(ab:b∈aM ls a):j=i+1∨(i=0/\j+1=c.length):=by
 by_cases e:j=i+1
 ·exact .inl e
 ·refine .inr ?_
  have jl:=(bB0.mp hj).1
  have sl:((c.drop i).take (j-i+1)).length=j-i+1:=by rw[bI3,bI5];omega
  have snd:((c.drop i).take (j-i+1)).Nodup:=(h.nd.sublist (List.drop_sublist _ _)).sublist (List.take_sublist _ _)
  have cyc:j5 ls ((c.drop i).take (j-i+1)):=by
   refine⟨by omega,snd,bo3 _ (am0 _ h.ch),a,b,?_,?_,mY ab⟩
   ·rw[List.head?_take,if_neg (by omega),List.head?_drop,hi]
   ·rw[List.getLast?_eq_getElem?,sl,List.getElem?_take_of_lt (by omega),List.getElem?_drop,show i+(j-i+1-1)=j by omega,hj]
  have sub:∀x∈(c.drop i).take (j-i+1),x∈B:=λx hx=>p.mem_iff.mp (List.mem_of_mem_drop (bQ6 hx))
  have all:=m.least _ (am4 cyc) sub (λz=>by rw[z]at sl;simp at sl)
  have:=jN h.nd λx hx=>all x (p.mem_iff.mp hx)
  omega
end
def dP (d:Int):Int:=if d-1>0 then d-1 else 0
def cB (n:Nat)(ls:aa):af:=(List.range n).map λ(k:Nat)=>dP ((aM ls (k:Int)).length:Int)
theorem mM {n:Nat}{ls:aa}:(cB n ls).length=n:=by unfold cB;rw[bA5,bI9]
theorem bo7 {n:Nat}{ls:aa}{x:Int}(h0:0<=x)(h1:x<(n:Int)):(cB n ls).getD x.toNat 0=dP ((aM ls x).length:Int):=by
 unfold cB
 rw[bB9,bB6,bM9 (by omega)]
 show dP ((aM ls ((x.toNat:Nat):Int)).length:Int)=_
 rw[show ((x.toNat:Nat):Int)=x by omega]
theorem am6 {n:Nat}{ls:aa}{S:af}{h:Int}(h0:0<=h)(h1:h<(n:Int)):fO (cB n ls) ls S h=decide (2<=ins ls S h):=by
 unfold fO
 rw[bo7 h0 h1,bF1,bC2,bC2]
 unfold iB dP ins
 have:=bJ9 (λx=>decide (x∈S)) (aM ls h)
 split<;>omega
theorem oH {n:Nat}{ls:aa}{S:af}(hs:∀x∈S,0<=x/\x<(n:Int)):stay (cB n ls) ls S=S↔mL ls S:=by
 unfold stay
 rw[bG5]
 constructor
 ·intro h x hx
  have:=h x hx
  rw[am6 (hs x hx).1 (hs x hx).2]at this
  exact bE6 this
 ·intro h x hx
  rw[am6 (hs x hx).1 (hs x hx).2]
  exact bz9 (h x hx)
def mO (ls:aa)(S:af):Prop:=∀U,mL ls U->(∀x∈U,x∈S)->U = []
theorem bo8 {n:Nat}{ls:aa}{S G:af}(hs:∀x∈S,0<=x/\x<(n:Int))(g:af5 (cB n ls) ls S G):G = []↔mO ls S:=by
 constructor
 ·intro e U tU sub
  have:=g.most U ((oH λx hx=>hs x (sub x hx)).mpr tU) sub
  rw[e]at this
  exact List.eq_nil_iff_forall_not_mem.mpr λx hx=>nomatch this x hx
 ·intro no
  exact no G ((oH λx hx=>hs x (g.sub x hx)).mp g.cold) g.sub
def oI:bF:=λxs Q=>∃ws ls,xs = [bL ws ls,.int 1]/\Wb ws ls/\Q (bL (cB ws.length ls) ls)
abbrev am7:aI:=bn5
theorem bo9:bX am7 ["web","few"] oI:=by
 rintro xs Q ⟨ws,ls,rfl,wb,q⟩
 have few:=wb.few
 have nl:(eR ws.length ls).length=ws.length:=by unfold eR;rw[bA5,bI9]
 have get:∀i y,(eR ws.length ls)[i]? = some y->i<ws.length/\y = .lst (intz (aM ls (i:Int))):=λi y h=>by
  unfold eR at h
  rw[bB6]at h
  by_cases hi:i<ws.length
  ·rw[bM9 hi]at h;cases h;exact⟨hi,rfl⟩
  ·rw[List.getElem?_eq_none (by rw[bI9];omega)]at h;cases h
 refine⟨_,rfl,ws,ls,rfl,wb,_,rfl,(λz=>by cases z),by rw[nl];omega,λi acc=>acc=intz ((cB ws.length ls).take i),rfl,?_,?_⟩
 ·rintro i y acc hy rfl
  obtain⟨hi,rfl⟩:=get i y hy
  have dg:(cB ws.length ls)[i]? = some (dP ((aM ls (i:Int)).length:Int)):=by unfold cB;rw[bB6,bM9 hi];rfl
  refine⟨_,rfl,_,_,rfl,rfl,_,rfl,_,_,rfl,rfl,_,_,rfl,trivial,?_⟩
  dsimp only
  rw[bH,bD9,dg,eQ]
  rfl
 rintro acc rfl
 rw[nl,bE4 (by rw[mM];exact bA3 _)]
 exact⟨⟨_,_,rfl,rfl,cS _,_,rfl,_,_,_,rfl,rfl,rfl,by show 2<=1000;decide,ab2 (cB ws.length ls) ls,trivial,q⟩,λns z=>by cases z⟩
def uM:bF:=λxs Q=>∃(n:Nat) (ls:aa),xs = [.int n,.lst (bD ls)]/\n<=40/\eS n ls/\Q (bL (cB n ls) ls)
def am8:aI:=(bC (aB oI (a6 (aB uJ (a6 (a5 0) (a6 (a5 1) a9))) (a6 (qC (.int 1)) a9))))
theorem bp0:bX am8 ["many","links"] uM:=by
 rintro xs Q ⟨n,ls,rfl,hn,lk,q⟩
 have lr:(List.replicate n (0:Int)).length=n:=bP8
 refine⟨_,rfl,_,rfl,n,ls,rfl,hn,lk,List.replicate n 0,ls,rfl,⟨by rw[lr];omega,lk.2.1,λl hl=>by have:=lk.1 l hl;rw[lr];omega⟩,trivial,?_⟩
 rw[lr];exact q
theorem eS.fit {n:Nat}{ls:aa}(lk:eS n ls):iE ls:=⟨λl hl=>(lk.1 l hl).2.1,lk.2.2⟩
def e9 (L:af)(h:Int)(l:Int×Int):Bool:=decide (h∈[l.1,l.2])&&(decide (l.1∈L)&&decide (l.2∈L))
theorem C8 {L:af}{h:Int}(hh:h∈L):∀{ls:aa},(∀l∈ls,l.1≠l.2)->(ls.filter (e9 L h)).length=ins ls L h
 |[],_=>rfl
 |l::r,ne=>by
  have ih:=C8 hh (ls:=r) λm hm=>ne m (bA9 _ hm)
  have e:aM (l::r) h=((if l.1=h then [l.2] else [])++(if l.2=h then [l.1] else []))++aM r h:=rfl
  have n0:=ne l bA4
  unfold ins at ih ⊢
  rw[e,List.filter_append,bB1,<- ih]
  by_cases a:l.1=h
  ·have b:¬l.2=h:=λz=>n0 (a.trans z.symm)
   have a1:l.1∈L:=by rw[a];exact hh
   have a2:h∈[l.1,l.2]:=by rw[a];exact bA4
   rw[if_pos a,if_neg b,bD5]
   by_cases c:l.2∈L
   ·rw[List.filter_cons_of_pos (by unfold e9;rw[bz9 a2,bz9 a1,bz9 c];rfl),List.filter_cons_of_pos (by simpa using c),bC7]
    show _=1+_
    omega
   ·rw[bO1 (by unfold e9;rw[bA0 c,bK2,bK2];decide),bO1 (by simpa using c)]
    show _=0+_
    omega
  ·by_cases b:l.2=h
   ·have a1:l.2∈L:=by rw[b];exact hh
    have a2:h∈[l.1,l.2]:=by rw[b];exact bA9 _ bA4
    rw[if_neg a,if_pos b,List.nil_append]
    by_cases c:l.1∈L
    ·rw[List.filter_cons_of_pos (by unfold e9;rw[bz9 a2,bz9 a1,bz9 c];rfl),List.filter_cons_of_pos (by simpa using c),bC7]
     show _=1+_
     omega
    ·rw[bO1 (by unfold e9;rw[bA0 c,bN9,bK2];decide),bO1 (by simpa using c)]
     show _=0+_
     omega
   ·have a2:h∉[l.1,l.2]:=λz=>by
     simp only[bA7,bB7,bF2]at z
     rcases z with z|z
     ·exact a z.symm
     ·exact b z.symm
    rw[if_neg a,if_neg b,bO1 (by unfold e9;rw[bA0 a2,bN9];decide)]
    show _=0+_
    omega
def keep2 (ls:aa)(L:af):af:=L.filter λh=>decide (2<=ins ls L h)
theorem bp1 {n:Nat}{ls:aa}{S:af}{m:Nat}(n40:n<=40)(lk:eS n ls)(hS:aX n S=true)(en:cP (cB n ls) ls S m):decide (((bA (cB n ls) ls S m).length:Int)=((cB n ls).length:Int))=true↔mO ls (dA n S):=by
 have dl:=mM (n:=n) (ls:=ls)
 have wb:Wb (cB n ls) ls:=⟨by rw[dl];omega,by have:=lk.2.1;omega,λl hl=>by rw[dl];have:=lk.1 l hl;omega⟩
 have g:=bd1 wb en
 rw[bk2 (by rw[dl];exact hS),bC2]
 rw[dl]at g ⊢
 exact bo8 (λx hx=>fB.mp (gJ.mp hx).1) g
end Core
namespace L2
open PySem PySem.Spec PyProof.Rows SO
abbrev kk (l:Int×Int):List aC:=[Sum.inl l.1,Sum.inl l.2]
end L2
namespace Core
open PySem L2 PP
inductive qV (r c:Int)(S:aa):Int×Int->Prop
 |seed {x:Int×Int}:x∈S->qV r c S x
 |kin {x a b:Int×Int}:C5 r c x=true->a∈C6 r c x->b∈C6 r c x->a≠b->qV r c S a->qV r c S b->qV r c S x
def nbC (r c:Int)(P:aa)(x:Int×Int):Nat:=(P.filter λp=>decide (x∈C6 r c p)).length
structure Wk (r c:Int)(S K P:aa):Prop where
 nd:K.Nodup
 ndP:P.Nodup
 sub:∀x∈P,x∈K
 brn:∀x∈K,qV r c S x
 sd:∀x∈S,x∈K
 bd:∀x∈K,C5 r c x=true
 low:∀x,x∉K->nbC r c P x<2
structure Bx where
 t:Int
 l:Int
 b:Int
 r:Int
deriving DecidableEq
def Bx.k (x:Bx):af:=[x.t,x.l,x.b,x.r]
def okX (x:Bx):Prop:=x.t<=x.b/\x.l<=x.r
def inX (x:Bx)(p:Int×Int):Prop:=x.t<=p.1/\p.1<=x.b/\x.l<=p.2/\p.2<=x.r
def am9 (x a:Int×Int):Prop:=(a.1=x.1/\(a.2=x.2-1∨a.2=x.2+1))∨(a.2=x.2/\(a.1=x.1-1∨a.1=x.1+1))
def Clo (B:Bx)(U:Int×Int->Prop):Prop:=∀x a b,inX B x->am9 x a->am9 x b->a≠b->U a->U b->U x
section
variable {B:Bx}{U:Int×Int→Prop}
variable {t l b r:Int}
section
variable (cl:Clo B U){p1 p2:Int}(u:U (p1, p2))(ip:inX B (p1, p2))
include cl u ip
end
end
theorem bp2 {i:Nat}{x:PV}{g:Bool}{ρ:bN}{Q:bN->Prop}(f:flat x=true)(q:Q (ρ.set i (some (.sh true x)))):bQ i x g ρ Q:=by
 unfold bQ
 rw[f,Bool.or_true]
 exact q
theorem oJ {b:Bool}{x:PV}{P:Prop}(h:(Slot.sh b x).tag = .rd):P:=by cases b<;>cases h
theorem an0 {α:Type}(p q:α->Bool):∀l:List α,(l.filter p).length=(l.filter λx=>p x&&!q x).length+(l.filter λx=>q x&&p x).length
 |[]=>rfl
 |a::r=>by
  have ih:=an0 p q r
  rw[bI7,bI7,bI7]
  cases p a<;>cases q a<;>simp<;>omega
section
variable {ls:aa}{n:Nat}{U:af}{v:Int}
theorem bp3 (hv:v∈U)(ne:∀l∈ls,l.1≠l.2):(ls.filter (kT U)).length=(ls.filter (kT (dF U v))).length+ins ls U v:=by
 rw[<- C8 hv ne,an0 (kT U) (λl=>decide (v∈[l.1,l.2])) ls]
 congr 2
 refine bK9 λl _=>?_
 unfold kT
 rw[bF1]
 simp only[bE5,Bool.not_eq_true',bC2,bI6,mK,bA7,bB7,bF2,not_or]
 constructor
 ·rintro⟨⟨a,b⟩,c,d⟩;exact⟨⟨a,λz=>c z.symm⟩,b,λz=>d z.symm⟩
 ·rintro⟨⟨a,c⟩,b,d⟩;exact⟨⟨a,b⟩,λz=>c z.symm,λz=>d z.symm⟩
theorem an1 {h:Int}(x:Int)(hx:x∈comp ls (dF U v) h):x∈comp ls U h:=by
 obtain⟨h1,h2⟩:=hG.mp hx
 exact hG.mpr ⟨(mK.mp h1).1,λW hW hh=>h2 W (λa ha b hb bS=>hW a ha b hb (mK.mp bS).1) hh⟩
theorem qW {S:af}{h:Int}:h∈cA ls S↔h∈S/\(comp ls S h).head? = some h:=by
 unfold cA lO
 rw[bB3]
 exact⟨λz=>⟨z.1,@bE6 _ _ z.2⟩,λz=>⟨z.1,@bz9 _ _ z.2⟩⟩
theorem C9 (hU:aX n U=true){h:Int}(hh:h∈cA ls U)(ne:h≠v):h∈cA ls (dF U v):=by
 obtain⟨h1,h2⟩:=qW.mp hh
 have hb:h∈dF U v:=mK.mpr ⟨h1,ne⟩
 refine qW.mpr ⟨hb,ak3 (mJ (qU hU)) (oE hb) λx hx=>?_⟩
 have:=(uD (mJ hU) h2).2 x (an1 x hx)
 omega
theorem bp4 (hU:aX n U=true):(cA ls U).Nodup:=by
 have:U.Nodup:=(dJ (c8 hU).1).imp λh=>bH1 h
 exact this.filter _
theorem bp5 (f:iE ls)(hU:aX n U=true)(hv:v∈U):(cA ls U).length<=(cA ls (dF U v)).length+(if ins ls U v=0 then 1 else 0):=by
 have nd:=bp4 (ls:=ls) hU
 by_cases hh:v∈cA ls U
 ·by_cases i0:ins ls U v=0
  ·rw[if_pos i0]
   have:=jN nd (m:=v::cA ls (dF U v)) λx hx=>by
    by_cases e:x=v
    ·rw[e];exact bA4
    ·exact bA9 _ (C9 hU hx e)
   rw[bC7]at this
   exact this
  ·rw[if_neg i0]
   obtain⟨w,hw⟩:∃w,w∈(aM ls v).filter λx=>decide (x∈U):=by
    cases e:(aM ls v).filter λx=>decide (x∈U) with
    |nil=>exact absurd (show ins ls U v=0 by unfold ins;rw[e];rfl) i0
    |cons a r=>exact⟨a,bA4⟩
   obtain⟨w1,w2⟩:=bB3.mp hw
   have w2:w∈U:=bE6 w2
   have wv:w≠v:=λe=>f.irr v (e▸w1)
   have wb:w∈dF U v:=mK.mpr ⟨w2,wv⟩
   have cs:=mJ (ls:=ls) (h:=w) (qU (h:=v) hU)
   obtain⟨a,ha⟩:∃a,(comp ls (dF U v) w).head? = some a:=by
    cases e:comp ls (dF U v) w with
    |nil=>have:=oE (ls:=ls) wb;rw[e]at this;cases this
    |cons a r=>exact⟨a,rfl⟩
   have am:=(uD cs ha).1
   have ab:=bk3 a am
   have ahd:a∈cA ls (dF U v):=qW.mpr ⟨ab,by rw[qT (qU hU) am wb];exact ha⟩
   have wc:w∈comp ls U v:=B4 v (oE hv) w w1 w2
   have ac:a∈comp ls U v:=by rw[<- qT hU wc hv];exact an1 a am
   have an:a∉cA ls U:=λz=>by
    have h1:=(qW.mp z).2
    rw[qT hU ac hv,(qW.mp hh).2]at h1
    exact (mK.mp ab).2 (bE0 h1).symm
   have nd2:(a::(cA ls U).erase v).Nodup:=bJ6.mpr ⟨λz=>an (List.mem_of_mem_erase z),nd.erase v⟩
   have:=jN nd2 (m:=cA ls (dF U v)) λx hx=>by
    rcases bA7.mp hx with rfl|hx
    ·exact ahd
    ·have h2:=(nd.mem_erase_iff).mp hx
     exact C9 hU h2.2 h2.1
   rw[bC7,List.length_erase_of_mem hh]at this
   have:=List.length_pos_of_mem hh
   omega
 ·have:=jN nd (m:=cA ls (dF U v)) λx hx=>C9 hU hx λe=>hh (e▸hx)
  omega
noncomputable def mu (ls:aa)(U:af):Int:=((ls.filter (kT U)).length:Int)-(U.length:Int)+((cA ls U).length:Int)
theorem an2 (nd:U.Nodup)(hv:v∈U):(dF U v).length+1=U.length:=by
 have e:dF U v=U.erase v:=by
  unfold dF
  rw[nd.erase_eq_filter]
  refine bK9 λx _=>?_
  by_cases h:x=v<;>simp[h]
 rw[e,List.length_erase_of_mem hv]
 have:=List.length_pos_of_mem hv
 omega
theorem an3 (f:iE ls)(hU:aX n U=true)(hv:v∈U):mu ls U<=mu ls (dF U v)+dP (ins ls U v:Int):=by
 have a:=bp3 hv (λl hl=>bH1 (f.lt l hl))
 have b:=bp5 f hU hv
 have c:=an2 ((dJ (c8 hU).1).imp λh=>bH1 h) hv
 unfold mu dP
 by_cases i0:ins ls U v=0
 ·rw[if_pos i0]at b
  rw[if_neg (by omega)];omega
 ·rw[if_neg i0]at b
  by_cases i1:(ins ls U v:Int)-1>0
  ·rw[if_pos i1];omega
  ·rw[if_neg i1];omega
theorem E1 (f:iE ls):∀(k:Nat) (T:af),T.length<=k->aX n T=true->mO ls T->mu ls T<=0
 |0,T,hl,_,_=>by
  have:T = []:=List.length_eq_zero_iff.mp (by omega)
  subst this
  have:ls.filter (kT []) = []:=List.filter_eq_nil_iff.mpr λl _=>by simp[kT]
  unfold mu
  rw[this]
  show (0:Int)-0+((([]:af).filter _).length:Int)<=0
  simp
 |k+1,T,hl,hT,no=>by
  by_cases e:T = []
  ·exact E1 f k T (by rw[e];simp) hT no
  ·obtain⟨v,hv,hi⟩:∃v,v∈T/\ins ls T v<2:=bK5 λz=>e (no T (λh hh=>bP3 λq=>z ⟨h,hh,q⟩) λ_ h=>h)
   have nd:T.Nodup:=(dJ (c8 hT).1).imp λh=>bH1 h
   have bl:=an2 nd hv
   have ih:=E1 f k (dF T v) (by omega) (qU hT) λU hU sub=>no U hU λx hx=>(mK.mp (sub x hx)).1
   have st:=an3 f hT hv
   have:dP (ins ls T v:Int)=0:=by unfold dP;rw[if_neg (by omega)]
   omega
def mP (ls:aa):af->Int
 |[]=>0
 |a::r=>dP ((aM ls a).length:Int)+mP ls r
theorem bp6 {a b:Int}(h:a<=b):dP a<=dP b:=by unfold dP;split<;>split<;>omega
theorem bp7 (a:Int):0<=dP a:=by unfold dP;split<;>omega
theorem an4 (f:iE ls):∀(A U:af),aX n U=true->mu ls U<=mP ls A+mu ls (U.filter λx=>!decide (x∈A))
 |[],U,hU=>by
  rw[show (U.filter λx=>!decide (x∈([]:af)))=U from bG5.mpr λx _=>by simp]
  unfold mP;omega
 |a::A,U,hU=>by
  have ih:=an4 f A (dF U a) (qU hU)
  have e:(dF U a).filter (λx=>!decide (x∈A))=U.filter λx=>!decide (x∈a::A):=by
   unfold dF
   rw[List.filter_filter]
   refine bK9 λx _=>?_
   simp only[bA7,bB7,bF2]
   by_cases h:x=a<;>by_cases h2:x∈A<;>simp[h,h2]
  rw[e]at ih
  have nn:=bp7 ((aM ls a).length:Int)
  show _<=dP ((aM ls a).length:Int)+mP ls A+_
  by_cases ha:a∈U
  ·have st:=an3 f hU ha
   have:dP (ins ls U a:Int)<=dP ((aM ls a).length:Int):=bp6 (by have:ins ls U a<=(aM ls a).length:=bJ9 _ _;omega)
   omega
  ·have:dF U a=U:=bG5.mpr λx hx=>by
    have:x≠a:=λe=>ha (e▸hx)
    simp[this]
   rw[this]at ih
   omega
theorem bp8 (f:iE ls){A:af}(no:mO ls (dA n A)):mu ls (rng n)<=mP ls A:=by
 have a:=an4 f A (rng n) (B6 n)
 have b:=E1 f _ (dA n A) (bA3 _) (af6 n A) no
 have e:dA n A=(rng n).filter λx=>!decide (x∈A):=rfl
 rw[<- e]at a
 omega
end
section
variable {ls:aa}{n:Nat}{B:af}
noncomputable def fS (ls:aa)(B:af):Bool:=decide (3<=B.length)&&(decide (comp ls B (B.headD 0)=B)&&B.all λh=>decide (ins ls B h=2))
theorem bp9 (f:iE ls)(hB:aX n B=true)(m:uL ls B):fS ls B=true:=by
 obtain⟨c,cy,p⟩:=bo5 f m
 have l3:3<=B.length:=by rw[<- p.length_eq];exact cy.len
 have hd:B.headD 0∈B:=by
  cases B with
  |nil=>simp at l3
  |cons a r=>exact bA4
 have cn:comp ls B (B.headD 0)=B:=by
  refine (B5 hB hB (λ_ h=>h) hd (λx _ y _ yS=>yS) λU hU hh x hx=>?_).symm
  have two:mL ls (B.filter λz=>decide (z∈U)):=λh hh2=>by
   obtain⟨h1,h2⟩:=bB3.mp hh2
   have h2:=bE6 h2
   have t:=m.two h h1
   have:ins ls (B.filter λz=>decide (z∈U)) h=ins ls B h:=by
    unfold ins
    congr 1
    refine bK9 λy hy=>?_
    rw[bF1,bC2,bC2,bB3,bC2]
    exact⟨λz=>z.1,λz=>⟨z,hU h h2 y hy z⟩⟩
   omega
  have:=m.least _ two (λx hx=>(bB3.mp hx).1) (λz=>by
   have:B.headD 0∈B.filter λz=>decide (z∈U):=bB3.mpr ⟨hd,bz9 hh⟩
   rw[z]at this;cases this) x hx
  exact bE6 (bB3.mp this).2
 have two:∀h∈B,ins ls B h=2:=λh hh=>by
  have ge:=m.two h hh
  obtain⟨r,c2,p2⟩:=am3 cy (p.mem_iff.mpr hh)
  have pB:=p2.trans p
  have len:=c2.len
  have le:ins ls B h<=2:=by
   unfold ins
   have nd:=(f.nnd h).filter λx=>decide (x∈B)
   refine jN nd (m:=[(h::r).getD 1 0,(h::r).getD ((h::r).length-1) 0]) λx hx=>?_
   obtain⟨h1,h2⟩:=bB3.mp hx
   have h2:=bE6 h2
   obtain⟨j,hj⟩:=List.getElem?_of_mem (pB.mem_iff.mpr h2)
   have j0:0<j:=by
    rcases Nat.eq_zero_or_pos j with z|z
    ·subst z
     have:h=x:=by simpa using hj
     exact absurd (this▸h1) (f.irr h)
    ·exact z
   rcases bo6 m c2 pB (show (h::r)[0]? = some h from rfl) hj j0 h1 with e|⟨_,e⟩
   ·rw[e]at hj
    have:x=(h::r).getD 1 0:=by rw[bB9,hj];rfl
    rw[this];exact bA4
   ·have:x=(h::r).getD ((h::r).length-1) 0:=by rw[bB9,show (h::r).length-1=j by omega,hj];rfl
    rw[this];exact bA9 _ bA4
  omega
 unfold fS
 rw[bz9 l3,bz9 cn,bH9.mpr λh hh=>bz9 (two h hh)];rfl
theorem bq0 (hB:aX n B=true)(r:fS ls B=true):uL ls B:=by
 unfold fS at r
 rw[bE5,bE5,bC2,bC2,bH9]at r
 obtain⟨l3,cn,two⟩:=r
 have two:∀h∈B,ins ls B h=2:=λh hh=>bE6 (two h hh)
 have hd:B.headD 0∈B:=by
  cases B with
  |nil=>simp at l3
  |cons a r=>exact bA4
 refine⟨λe=>by rw[e]at l3;simp at l3,(dJ (c8 hB).1).imp λh=>bH1 h,λh hh=>by rw[two h hh];decide,λU tU sub une x hx=>?_⟩
 obtain⟨u,hu⟩:=List.exists_mem_of_ne_nil U une
 have cl:jM ls B U:=λa ha b hb bS=>by
  refine bK5 λhn=>?_
  have h2:=tU a ha
  have h3:=two a (sub a ha)
  have sub2:((aM ls a).filter λx=>decide (x∈U)).length<((aM ls a).filter λx=>decide (x∈B)).length:=by
   have e:(aM ls a).filter (λx=>decide (x∈U))=((aM ls a).filter λx=>decide (x∈B)).filter λx=>decide (x∈U):=by
    rw[List.filter_filter]
    refine bK9 λy _=>?_
    by_cases hy:y∈U
    ·rw[bz9 hy,bz9 (sub y hy)];rfl
    ·rw[bA0 hy];rfl
   rw[e]
   refine Nat.lt_of_le_of_ne (bJ9 _ _) λz=>?_
   have:=List.length_filter_eq_length_iff.mp z b (bB3.mpr ⟨hb,bz9 bS⟩)
   exact hn (bE6 this)
  unfold ins at h2 h3
  omega
 have ub:=sub u hu
 have e:comp ls B u=B:=by
  rw[<- cn]at ub
  rw[qT hB ub hd,cn]
 have:x∈comp ls B u:=by rw[e];exact hx
 exact (hG.mp this).2 U cl hu
theorem bq1 (lk:eS n ls)(hB:aX n B=true):gL (cB n ls) ls B=fS ls B:=by
 have inn:=(c8 hB).2
 rw[bF1,oD]
 constructor
 ·intro l
  refine bp9 lk.fit hB ⟨l.1,(dJ (c8 hB).1).imp λh=>bH1 h,(oH inn).mp l.2.1,λU tU sub une x hx=>?_⟩
  exact l.2.2 U ((oH λy hy=>inn y (sub y hy)).mpr tU) une sub x hx
 ·intro r
  have m:=bq0 hB r
  exact⟨m.ne,(oH inn).mpr m.two,λU cU une sub x hx=>m.least U ((oH λy hy=>inn y (sub y hy)).mp cU) sub une x hx⟩
end
def uN:bF:=λxs Q=>∃ws ls,xs = [bL ws ls]/\Wb ws ls/\Q (.lst (tups (oF ls (rng ws.length))))
def an5:aI:=(bC (aB (uE λ_=>False) (a6 (a5 0) (a6 (aB u9 (a6 (a5 0) (a6 (iP a9) a9))) a9))))
theorem bq2:bX an5 ["web"] uN:=by
 rintro xs Q ⟨ws,ls,rfl,wb,q⟩
 have few:=wb.few
 have e:dA ws.length []=rng ws.length:=bG5.mpr λx _=>by simp
 have rs:=B6 ws.length
 refine⟨_,rfl,_,rfl,by show 0<=1000;decide,rfl,ws,ls,_,[],rfl,.inl rfl,by decide,by omega,ws,ls,_,dA ws.length [],rfl,wb,.inl rfl,?_,λ_=>⟨trivial,?_⟩,λz=>?_⟩
 ·rw[e,eO];omega
 ·rw[e];exact q
 ·rw[e,rs]at z;cases z
def qX:bF:=λxs Q=>∃ws ls,xs = [bL ws ls]/\Wb ws ls/\Q (.int ((ls.length:Int)-(ws.length:Int)+((cA ls (rng ws.length)).length:Int)))
def an6:aI:=(bC (fI (iU (aB dC (a6 (bZ (a5 0) (qC (.int 1))) a9)) (aB fN (a6 (a5 0) a9))) (aB dC (a6 (aB uN (a6 (a5 0) a9)) a9))))
theorem bq3:bX an6 ["web"] qX:=by
 rintro xs Q ⟨ws,ls,rfl,wb,q⟩
 refine⟨_,rfl,_,_,_,rfl,rfl,rfl,_,_,rfl,rfl,_,rfl,ws,ls,rfl,_,_,rfl,rfl,_,rfl,ws,ls,rfl,wb,_,_,rfl,rfl,_,_,rfl,rfl,trivial,?_⟩
 have a:(bD ls).length=ls.length:=bA5 _
 have b:(tups (oF ls (rng ws.length))).length=(cA ls (rng ws.length)).length:=by rw[gV];unfold oF;rw[bA5]
 show Q (.int (((bD ls).length:Int)-(ws.length:Int)+((tups (oF ls (rng ws.length))).length:Int)))
 rw[a,b]
 exact q
def oK:bF:=λxs Q=>∃(n:Nat) (ls:aa) (x:PV) (S:af) (h:Int),xs = [.lst (bD ls),x,.int h]/\cX x S/\eS n ls/\aX n S=true/\S.length<=40/\h∈S/\Q (.lst (intz (comp ls S h)))
def an7:aI:=(aF (bE 6 (iU (fI (bZ (a5 5) (qC (.int 0))) (bZ (a5 5) (qC (.int 1)))) (bZ (a5 3) (a5 4))))
   (cI (gA (aY (q2 (iT false) (bZ (a5 3) (a5 4)) (a5 5))) (gA (aY (q2 (iT false) (a5 6) (a5 1))) (aY (q2 (iT true) (a5 6) (a5 3))))) (lB 3 (a5 6)) cY))
def an8:aI:=(aF (gB 3 (i7 (a6 (a5 2) a9)))
 (aF (bE 4 (qC (.int 0)))
 (aF (nE (aY (jG (a5 4) (aB dC (a6 (a5 3) a9))))
  (aF (eN (dD (a5 0)) (bQ 5)
   an7)
  (bE 4 (fI (a5 4) (qC (.int 1))))))
 (bC (aB xE (a6 (a5 3) a9))))))
section
variable {n:Nat}{ls:aa}{x:PV}{S F G:af}{h f:Int}{k:Nat}{l:Int×Int}{D:jF}{y6:Option Slot}{b0:Bool}
theorem bq4 (hx:cX x S)(lm:l.1≠l.2)(hf:F[k]? = some f)(k1:f∈[l.1,l.2]->l.1+l.2-f∈S->l.1+l.2-f∉F++G->(F++G).length<=1000/\∀y5 y6,D.nx [some (.sh b0 (.lst (bD ls))),some (.sh (flat x) x),si h,some (.own (.lst (intz (F++(G++[l.1+l.2-f]))))),si k,y5,y6])(k2:(f∈[l.1,l.2]->l.1+l.2-f∈S->l.1+l.2-f∈F++G)->∀y5 y6,D.nx [some (.sh b0 (.lst (bD ls))),some (.sh (flat x) x),si h,some (.own (.lst (intz (F++G)))),si k,y5,y6]) :
  an7 D [some (.sh b0 (.lst (bD ls))),some (.sh (flat x) x),si h,some (.own (.lst (intz (F++G)))),si k,some (.sh true (.tup [.int l.1,.int l.2])),y6]:=by
 have kl:=(bB0.mp hf).1
 have fi:L2.atI (intz (F++G)) (k:Int)=some (.int f):=jD (by unfold intz;rw[bB6,bF6 kl,hf];rfl)
 refine⟨_,rfl,_,_,_,rfl,rfl,rfl,_,rfl,_,_,_,rfl,rfl,rfl,l.1,l.2,rfl,rfl,_,rfl,_,rfl,_,_,_,rfl,rfl,fi,_,_,rfl,rfl,trivial,?_⟩
 dsimp only
 refine⟨_,rfl,_,rfl,_,_,_,rfl,rfl,fi,_,rfl,f,[l.1,l.2],rfl,rfl,_,rfl,?_⟩
 show if decide (f∈[l.1,l.2])=true then _ else _
 by_cases h1:f∈[l.1,l.2]
 ·rw[bz9 h1]
  refine b9 ⟨_,rfl,_,rfl,_,S,rfl,hx.seq,_,rfl,?_⟩
  show if decide (l.1+l.2-f∈S)=true then _ else _
  by_cases h2:l.1+l.2-f∈S
  ·rw[bz9 h2]
   refine b9 ⟨_,rfl,_,rfl,_,F++G,rfl,rfl,_,rfl,?_⟩
   show if (!decide (l.1+l.2-f∈F++G))=true then _ else _
   by_cases h3:l.1+l.2-f∈F++G
   ·rw[bz9 h3]
    exact aT (k2 (λ_ _=>h3) _ _)
   ·rw[bA0 h3]
    obtain⟨c1,c2⟩:=k1 h1 h2 h3
    refine b9 ⟨_,rfl,_,rfl,trivial,by rw[bH];omega,?_⟩
    have:=c2 (some (.sh true (.tup [.int l.1,.int l.2]))) (si (l.1+l.2-f))
    rw[<- bC5,eQ]at this
    exact this
  ·rw[bA0 h2]
   exact aT (aT (k2 (λ_ z=>absurd z h2) _ _))
 ·rw[bA0 h1]
  exact aT (aT (k2 (λz=>absurd z h1) _ _))
end
theorem bq5:bX an8 ["links","some","first","found","at","pair","other"] oK:=by
 rintro xs Q ⟨n,ls,x,S,h,rfl,hx,lk,hS,few,hh,q⟩
 have ne:∀l∈ls,l.1≠l.2:=λl hl=>bH1 (lk.1 l hl).2.1
 refine⟨_,rfl,by show 1<=1000;decide,rfl,rfl,rfl,?_⟩
 refine⟨trivial,?_⟩
 refine⟨λm ρ=>∃(F:af) (k:Nat) (y5 y6:Option Slot),ρ = [some (.sh false (.lst (bD ls))),some (.sh (flat x) x),si h,some (.own (.lst (intz F))),si k,y5,y6]/\
   m=S.length-k/\k<=F.length/\F.Nodup/\h∈F/\(∀x∈F,x∈S)/\(∀x∈F.take k,∀y∈aM ls x,y∈S->y∈F)/\∀U,jM ls S U->h∈U->∀x∈F,x∈U,⟨_,[h],0,none,none,rfl,rfl,bE9 _,bC9 _ _,bO0 _,(λx hx=>by rw[bA1.mp hx];exact hh),(λx hx=>by cases hx),λU _ hU x hx=>by rw[bA1.mp hx];exact hU⟩,?_⟩
 rintro m ρ ⟨F,k,y5,y6,rfl,rfl,kl,fnd,hF,sub,done,least⟩
 have fl:F.length<=S.length:=fnd.length_le_of_subset sub
 refine⟨_,rfl,_,rfl,_,_,rfl,rfl,_,_,rfl,rfl,_,rfl,?_⟩
 show if decide ((k:Int)<((intz F).length:Nat))=true then _ else _
 rw[bH]
 by_cases hk:k<F.length
 ·rw[bz9 (by omega)]
  refine b9 ?_
  have hf:F[k]? = some F[k]:=bA6 hk
  generalize F[k]=f at hf
  have fF:=bD7 hf
  refine⟨_,rfl,bD ls,rfl,oJ,λj ρ=>∃(G:af) (y5 y6:Option Slot),ρ = [some (.sh false (.lst (bD ls))),some (.sh (flat x) x),si h,some (.own (.lst (intz (F++G)))),si k,y5,y6]/\(F++G).Nodup/\(∀y∈G,y∈aM ls f/\y∈S)/\∀l∈ls.take j,f∈[l.1,l.2]->l.1+l.2-f∈S->l.1+l.2-f∈F++G,⟨[],y5,y6,by rw[bD5],by rw[bD5];exact fnd,(λy hy=>by cases hy),λl hl=>by rw[List.take_zero]at hl;cases hl⟩,?_,?_⟩
  ·rintro j z ρ hz ⟨G,y5,y6,rfl,gnd,gm,dn⟩
   obtain⟨l,rfl,hl⟩:=tF hz
   have lm:=bD7 hl
   have gl:(F++G).length<=S.length:=gnd.length_le_of_subset λy hy=>(bB8.mp hy).elim (sub y) λz=>(gm y z).2
   have tk:ls.take (j+1)=ls.take j++[l]:=by rw[bD9,hl];rfl
   refine bp2 rfl ?_
   refine bq4 (b0:=false) hx (ne l lm) hf (λh1 h2 h3=>⟨by omega,λy5 y6=>⟨G++[l.1+l.2-f],y5,y6,rfl,?_,λy hy=>?_,λl' hl' hf' hs'=>?_⟩⟩) λh3 y5 y6=>⟨G,y5,y6,rfl,gnd,gm,λl' hl' hf' hs'=>?_⟩
   ·rw[<- bC5]
    exact bG9.mpr ⟨gnd,bC9 _ _,λa ha b hb e=>h3 (by rw[bA1.mp hb]at e;rw[<- e];exact ha)⟩
   ·rcases bB8.mp hy with hy|hy
    ·exact gm y hy
    ·rw[bA1.mp hy]
     refine⟨L2.lW.mpr ?_,h2⟩
     simp only[bA7,bB7,bF2]at h1
     rcases h1 with e|e
     ·left
      rw[show l.1+l.2-f=l.2 by omega,e];exact lm
     ·right
      rw[show l.1+l.2-f=l.1 by omega,e];exact lm
   ·rw[<- bC5]
    rw[tk]at hl'
    rcases bB8.mp hl' with hl'|hl'
    ·exact bD2 _ (dn l' hl' hf' hs')
    ·rw[bA1.mp hl'];exact bD1 _ (bO0 _)
   ·rw[tk]at hl'
    rcases bB8.mp hl' with hl'|hl'
    ·exact dn l' hl' hf' hs'
    ·rw[bA1.mp hl']at hf' hs' ⊢;exact h3 hf' hs'
  ·rintro ρ ⟨G,y5,y6,rfl,gnd,gm,dn⟩
   rw[show (bD ls).length=ls.length from bA5 _,bD8]at dn
   have fs:∀x∈F++G,x∈S:=λx hx=>(bB8.mp hx).elim (sub x) λz=>(gm x z).2
   have fl2:(F++G).length<=S.length:=gnd.length_le_of_subset fs
   rw[bB1]at fl2
   refine⟨_,rfl,_,_,rfl,rfl,trivial,S.length-(k+1),by omega,F++G,k+1,y5,y6,rfl,rfl,by rw[bB1];omega,gnd,bD2 _ hF,fs,λx hx y hy yS=>?_,λU hU hh x hx=>?_⟩
   ·rw[List.take_append_of_le_length (by omega),bD9,hf]at hx
    rcases bB8.mp hx with hx|hx
    ·exact bD2 _ (done x hx y hy yS)
    ·have e:x=f:=by simpa using hx
     subst e
     rcases L2.lW.mp hy with z|z
     ·have:=dn _ z (by simp) (by rw[show x+y-x=y by omega];exact yS)
      rw[show x+y-x=y by omega]at this;exact this
     ·have:=dn _ z (by simp) (by rw[show y+x-x=y by omega];exact yS)
      rw[show y+x-x=y by omega]at this;exact this
   ·rcases bB8.mp hx with hx|hx
    ·exact least U hU hh x hx
    ·exact hU f (least U hU hh f fF) x (gm x hx).1 (gm x hx).2
 ·rw[bA0 (by omega)]
  have ek:k=F.length:=by omega
  subst ek
  rw[bD8]at done
  refine aT ⟨_,rfl,F,rfl,by omega,λms pm so=>⟨trivial,?_⟩⟩
  have mnd:ms.Nodup:=pm.nodup_iff.mpr fnd
  have up:ms.Pairwise (·<·):=(List.Pairwise.and so mnd).imp λz=>Int.lt_iff_le_and_ne.mpr ⟨z.1,z.2⟩
  have u:aX n ms=true:=gY.set ⟨up,λx hx=>(c8 hS).2 x (sub x (pm.mem_iff.mp hx))⟩
  rw[B5 hS u (λx hx=>sub x (pm.mem_iff.mp hx)) (pm.mem_iff.mpr hF) (λx hx y hy yS=>pm.mem_iff.mpr (done x (pm.mem_iff.mp hx) y hy yS)) λU hU hh x hx=>least U hU hh x (pm.mem_iff.mp hx)]
  exact q
def uO:cR:=λEp xs Q=>∃ws ls x S,xs = [bL ws ls,x]/\Wb ws ls/\cX x S/\S.length<=1000/\aX ws.length S=false/\Ep "BadSet"
abbrev uP:cR:=uO
abbrev uQ:cR:=uO
abbrev uR:cR:=uO
abbrev uS:cR:=uO
def an9 (Ep:Str->Prop):aI:=(aF (bE 2 (aB j4 (a6 (a5 0) a9)))
 (aF (bE 3 (fP Ep iD (a6 (a5 0) (a6 (a5 1) a9))))
 (aF dU
 (aF dU
 dU))))
theorem bq6:gK an9 ["web","some","around","left","kept"] uP:=by
 rintro Ep xs Q ⟨ws,ls,x,S,rfl,wb,hx,hl,hs,q⟩
 exact⟨_,rfl,ws,ls,rfl,wb,trivial,_,rfl,_,rfl,ws,ls,x,S,rfl,hx,hl,(λz=>by rw[hs]at z;cases z),λ_=>q⟩
def ao0 (Ep:Str->Prop):aI:=(aF (bE 2 (fP Ep uP (a6 (a5 0) (a6 (a5 1) a9))))
 (aF dU
 (aF dU
 dU)))
theorem bq7:gK ao0 ["web","some","whole","left","hearth","smaller"] uQ:=by
 rintro Ep xs Q ⟨ws,ls,x,S,rfl,wb,hx,hl,hs,q⟩
 exact⟨_,rfl,_,rfl,ws,ls,x,S,rfl,wb,hx,hl,hs,q⟩
def ao1 (Ep:Str->Prop):aI:=(aF (bE 2 (fP Ep uQ (a6 (aB oI (a6 (a5 0) (a6 (qC (.int 1)) a9))) (a6 (a5 1) a9))))
 (aF dU
 (aF dU
 (aF dU
 (aF dU
 (aF dU
 dU))))))
theorem bq8:gK ao1 ["web","some","block","inside","around","row","left"] uR:=by
 rintro Ep xs Q ⟨ws,ls,x,S,rfl,wb,hx,hl,hs,q⟩
 have dl:=mM (n:=ws.length) (ls:=ls)
 exact⟨_,rfl,ws,ls,rfl,wb,_,rfl,cB ws.length ls,ls,x,S,rfl,⟨by rw[dl];exact wb.few,wb.most,λl hl=>by rw[dl];exact wb.links l hl⟩,hx,hl,by rw[dl];exact hs,q⟩
def ao2 (Ep:Str->Prop):aI:=(aF (bE 2 (aB gU (a6 (fP Ep iD (a6 (a5 0) (a6 (a5 1) a9))) a9)))
 (aF dU
 dU))
theorem bq9:gK ao2 ["web","some","inside","link"] uS:=by
 rintro Ep xs Q ⟨ws,ls,x,S,rfl,wb,hx,hl,hs,q⟩
 exact⟨_,rfl,_,rfl,ws,ls,x,S,rfl,hx,hl,(λz=>by rw[hs]at z;cases z),λ_=>q⟩
def qY:bF:=λxs Q=>∃(ws:af) (ls:aa) (S:af) (w:Int),xs = [bL ws ls,.tup (intz S),.int w]/\ws.length<=40/\eS ws.length ls/\S.length<=1000/\aX ws.length S=false/\Q (.bl true)
def ao3:aI:=(aF (bE 3 (qC (.bl false)))
 (aF (A0 "HearthError" 4 (ag8 (aY (gQ (a5 2) (qC (.int 0)))) (zZ uS (a6 (a5 0) (a6 (a5 1) a9))) (zZ uR (a6 (a5 0) (a6 (a5 1) a9)))) (bE 3 (A2 "BadSet" (a5 4))))
 (k8 3)))
theorem br0:bX ao3 ["web","some","way","caught","e"] qY:=by
 rintro xs Q ⟨ws,ls,S,w,rfl,n40,lk,hl,hs,q⟩
 have wb:Wb ws ls:=⟨by omega,by have:=lk.2.1;omega,λl hl=>by have:=lk.1 l hl;omega⟩
 refine⟨trivial,?_⟩
 refine⟨_,rfl,.inl ⟨_,_,rfl,rfl,_,rfl,?_⟩⟩
 generalize decide (w=0)=d
 show if d=true then _ else _
 cases d with
 |true=>exact b9 ⟨_,rfl,_,rfl,ws,ls,_,S,rfl,wb,.inl rfl,hl,hs,by decide,_,rfl,true,(by decide),trivial,_,rfl,trivial,q⟩
 |false=>exact aT ⟨_,rfl,_,rfl,ws,ls,_,S,rfl,wb,.inl rfl,hl,hs,by decide,_,rfl,true,(by decide),trivial,_,rfl,trivial,q⟩
def uT:bF:=λxs Q=>∃(n:Nat) (ls:aa) (B:af),xs = [.lst (bD ls),.tup (intz B)]/\n<=40/\eS n ls/\aX n B=true/\Q (.bl (fS ls B))
def ao4:aI:=(aF (cI (lA (aY (jG (aB dC (a6 (a5 1) a9)) (qC (.int 3)))) (aY (q2 (nJ 2 true) (aB oK (a6 (a5 0) (a6 (a5 1) (a6 (bZ (a5 1) (qC (.int 0))) a9)))) (aB pM (a6 (a5 1) a9))))) (bC (qC (.bl false))) cY)
 (aF (eN (dD (a5 1)) (bQ 2)
  (cI (aY (xS (aB dC (a6 (cQ (dD (a5 0)) [none,some 2,some 1] (bQ 0) (gA (aY (q2 (iT false) (a5 1) (a5 0))) (gA (aY (q2 (iT false) (bZ (a5 0) (qC (.int 0))) (a5 2))) (aY (q2 (iT false) (bZ (a5 0) (qC (.int 1))) (a5 2))))) (a5 0)) a9)) (qC (.int 2)))) (bC (qC (.bl false))) cY))
 (bC (qC (.bl true)))))
theorem br1:bX ao4 ["links","part","hearth"] uT:=by
 rintro xs Q ⟨n,ls,B,rfl,n40,lk,hB,q⟩
 have bl:=kL hB
 have ne:∀l∈ls,l.1≠l.2:=λl hl=>bH1 (lk.1 l hl).2.1
 have lm:=lk.2.1
 have pl:(bD ls).length=ls.length:=bA5 _
 unfold fS at q
 refine⟨_,rfl,_,_,rfl,rfl,_,_,rfl,rfl,_,rfl,?_⟩
 show if decide (((intz B).length:Int)<3)=true then _ else _
 rw[bH]
 by_cases l3:3<=B.length
 rotate_left
 ·rw[bz9 (by omega)]
  rw[bA0 l3]at q
  exact b9 ⟨trivial,q⟩
 rw[bA0 (by omega)]
 rw[bz9 l3]at q
 obtain⟨a,r,rfl⟩:∃a r,B=a::r:=by
  cases B with
  |nil=>simp at l3
  |cons a r=>exact⟨a,r,rfl⟩
 have ix0:L2.atI (intz (a::r)) 0=some (.int a):=jD (j:=0) rfl
 refine aT ⟨_,rfl,_,rfl,_,rfl,_,_,_,rfl,rfl,ix0,n,ls,_,a::r,a,rfl,.inl rfl,lk,hB,by omega,bA4,_,rfl,_,_,rfl,rfl,cS _,.inr ⟨_,_,rfl,rfl⟩,aO1 2 _ _,_,rfl,?_⟩
 show if (!cJ 3 (.lst (intz (comp ls (a::r) a))) (.lst (intz (a::r))))=true then _ else _
 rw[aO0]
 have hd:(a::r).headD 0=a:=rfl
 rw[hd]at q
 cases hc:decide (comp ls (a::r) a=a::r) with
 |false=>rw[hc]at q;exact b9 ⟨trivial,q⟩
 |true=>
 rw[hc]at q
 refine aT ?_
 generalize a::r=B at q hB bl
 refine⟨_,rfl,_,rfl,oJ,λi ρ=>(∀x∈B.take i,ins ls B x=2)/\∃y,ρ = [some (.sh false (.lst (bD ls))),some (.sh (flat (.tup (intz B))) (.tup (intz B))),y],⟨λx hx=>(by rw[List.take_zero]at hx;cases hx),none,rfl⟩,?_,?_⟩
 ·rintro i z ρ hz ⟨inv,y,rfl⟩
  obtain⟨h,rfl,hh⟩:=gH hz
  have hL:=bD7 hh
  refine kO ?_
  refine⟨_,rfl,bD ls,rfl,oJ,by rw[pl];omega,λj acc=>acc=bD ((ls.take j).filter (e9 B h)),rfl,?_,?_⟩
  ·rintro j w acc hw rfl
   obtain⟨l,rfl,hl⟩:=tF hw
   have tk2:=lJ (p:=e9 B h) hl
   refine⟨_,rfl,_,rfl,_,[l.1,l.2],rfl,rfl,_,rfl,?_⟩
   show if decide (h∈[l.1,l.2])=true then _ else _
   have no:e9 B h l=false->bD ((ls.take j).filter (e9 B h))=bD ((ls.take (j+1)).filter (e9 B h)):=λe=>by
    rw[e,if_neg (by decide),bD5]at tk2
    rw[tk2]
   by_cases m0:h∈[l.1,l.2]
   ·rw[bz9 m0]
    refine b9 ⟨_,rfl,_,_,_,rfl,rfl,rfl,_,rfl,_,B,rfl,rfl,_,rfl,?_⟩
    show if decide (l.1∈B)=true then _ else _
    by_cases m1:l.1∈B
    ·rw[bz9 m1]
     refine b9 ⟨_,rfl,_,_,_,rfl,rfl,rfl,_,rfl,_,B,rfl,rfl,_,rfl,?_⟩
     show if decide (l.2∈B)=true then _ else _
     by_cases m2:l.2∈B
     ·rw[bz9 m2]
      have b:e9 B h l=true:=by unfold e9;rw[bz9 m0,bz9 m1,bz9 m2];rfl
      rw[b,if_pos rfl]at tk2
      refine b9 ⟨_,rfl,trivial,?_⟩
      dsimp only
      rw[tk2]
      unfold bD
      rw[bC3];rfl
     ·rw[bA0 m2]
      exact aT (no (by unfold e9;rw[bA0 m2,bK2,bK2]))
    ·rw[bA0 m1]
     exact aT (aT (no (by unfold e9;rw[bA0 m1,bN9,bK2])))
   ·rw[bA0 m0]
    exact aT (aT (no (by unfold e9;rw[bA0 m0];rfl)))
  rintro acc rfl
  rw[pl,bD8]
  refine⟨_,_,rfl,rfl,.inl ⟨_,_,rfl,rfl,_,rfl,?_⟩⟩
  show if (!decide (((bD (ls.filter (e9 B h))).length:Int)=2))=true then _ else _
  rw[show (bD (ls.filter (e9 B h))).length=(ls.filter (e9 B h)).length from bA5 _,C8 hL ne]
  by_cases i2:ins ls B h=2
  ·rw[bz9 (by omega)]
   refine aT ⟨λx hx=>?_,_,rfl⟩
   rw[bD9,hh]at hx
   rcases bB8.mp hx with hx|hx
   ·exact inv x hx
   ·have:x=h:=by simpa using hx
    rw[this];exact i2
  ·rw[bA0 (by omega)]
   have:(B.all λh=>decide (ins ls B h=2))=false:=List.all_eq_false.mpr ⟨h,hL,by rw[bA0 i2];decide⟩
   rw[this]at q
   exact b9 ⟨trivial,q⟩
 ·rintro ρ ⟨inv,y,rfl⟩
  rw[bH,bD8]at inv
  have:(B.all λh=>decide (ins ls B h=2))=true:=bH9.mpr λx hx=>bz9 (inv x hx)
  rw[this]at q
  exact⟨trivial,q⟩
def E2:bF:=ad4
def ao5:aI:=(aF (cI (aY (jH (a5 1) (qC (.int 6)))) (bC (qC (.bl true))) cY)
 (bC (q2 (nJ 2 false) (aB (ak1 λ_=>False) (a6 (a5 3) a9)) (aB tD (a6 (cQ (dD (aB mH (a6 (qK (a5 1)) a9))) [none,some 2] (bQ 0) (aY (aB uT (a6 (a5 1) (a6 (a5 0) a9)))) (a5 0)) a9)))))
def ao6:aI:=(aF (bE 9 (aB tW (a6 (aB dW (a6 (aB tK (a6 (a5 6) a9)) a9)) (a6 (a5 1) (a6 (aB o4 (a6 (a5 0) (a6 (qC (.int 2)) a9))) a9)))))
 (aF (cI (lA (k6 (aY (aB qY (a6 (a5 3) (a6 (a5 9) (a6 (qC (.int 0)) a9)))))) (k6 (aY (aB qY (a6 (a5 3) (a6 (a5 9) (a6 (qC (.int 1)) a9))))))) (bC (qC (.bl false))) cY)
 ao5))
def ao7:aI:=(aF (xA 6 (bE 8 (cQ (dD (a5 6)) [none,some 2] (bQ 0) eD (aB dC (a6 (cQ (dD (a5 1)) [none,some 0] (bQ 0) (aY (q2 (iT false) (a5 1) (a5 0))) (a5 0)) a9)))))
 (aF (cI (aY (jG (aB zV (a6 (cQ (dD (a5 8)) [none] (bQ 0) eD (aB pO (a6 (qC (.int 0)) (a6 (iU (a5 0) (qC (.int 1))) a9)))) a9)) (a5 5))) (bC (qC (.bl false))) cY)
 ao6))
def ao8:aI:=(aF (gB 6 (aB pM (a6 (aB tT (a6 (aB o4 (a6 (a5 0) (a6 (qC (.int 1)) a9))) (a6 (a5 1) a9))) a9)))
 (aF (eN (k9 (a5 1)) (bQ 7)
  (cI (gA (aY (q2 (iT true) (a5 7) (a5 6))) (k6 (aY (aB (u8 λ_=>False) (a6 (a5 3) (a6 (aB dW (a6 (aB tK (a6 (a5 6) a9)) a9)) a9)))))) (lB 6 (a5 7)) cY))
 ao7))
def ao9:aI:=(aF (bE 1 (aB tZ (a6 (aB o4 (a6 (a5 0) (a6 (qC (.int 0)) a9))) a9)))
 (aF (bE 2 (aB uK (a6 (sH (a5 0) (sG (qC (.int 3))) sF) (a6 (a5 1) a9))))
 (aF (bE 3 (aB uM (a6 (a5 1) (a6 (a5 2) a9))))
 (aF (bE 4 (cQ (k9 (a5 1)) [none,some 2,some 1] (bQ 0) (aY (gQ (bZ (aB oK (a6 (a5 1) (a6 (qK (a5 2)) (a6 (a5 0) a9)))) (qC (.int 0))) (a5 0))) (a5 0)))
 (aF (bE 5 (aB qX (a6 (iP (a6 (aB dW (a6 (cQ (k9 (a5 1)) [none] (bQ 0) eD (cZ (aB lM (a6 (a5 0) (a6 (a5 0) a9))) (qC (.int 5)))) a9)) (a6 (bZ (a5 3) (qC (.int 1))) a9))) a9)))
 (aF (cI (aY (xS (aB qX (a6 (a5 3) a9)) (a5 5))) (bC (qC (.bl false))) cY)
 (aF (cI (lA (k6 (aY (aB tE (a6 (a5 5) a9)))) (aY (xS (a5 5) (fI (iU (aB dC (a6 (a5 2) a9)) (a5 1)) (aB dC (a6 (a5 4) a9)))))) (bC (qC (.bl false))) cY)
 ao8)))))))
theorem uU {n:Nat}{ls:aa}(n40:n<=40)(lk:eS n ls){ws:af}(dl:ws.length=n):Wb ws ls:=⟨by rw[dl];omega,by have:=lk.2.1;omega,λl hl=>by rw[dl];have:=lk.1 l hl;omega⟩
theorem br2 {n:Nat}{A B:af}(p:A.Perm B):dA n A=dA n B:=by
 unfold dA
 refine bK9 λx _=>?_
 rw[show decide (x∈A)=decide (x∈B) by rw[bF1,bC2,bC2];exact p.mem_iff]
theorem ap0 {n:Nat}{A ms:af}(nd:A.Nodup)(sub:∀x∈A,x∈rng n)(pm:ms.Perm A)(so:ms.Pairwise (· <= ·)):aX n ms=true:=by
 have mnd:ms.Nodup:=pm.nodup_iff.mpr nd
 exact gY.set ⟨(List.Pairwise.and so mnd).imp λz=>Int.lt_iff_le_and_ne.mpr ⟨z.1,z.2⟩,λx hx=>fB.mp (sub x (pm.mem_iff.mp hx))⟩
theorem ap1 {h:Int}:∀{ls:aa},(∀l∈ls,l.1≠l.2)->(ls.filter λl=>decide (h∈[l.1,l.2])).length=(aM ls h).length
 |[],_=>rfl
 |l::r,ne=>by
  have ih:=ap1 (h:=h) (ls:=r) λl hl=>ne l (bA9 _ hl)
  have e:aM (l::r) h=((if l.1=h then [l.2] else [])++(if l.2=h then [l.1] else []))++aM r h:=rfl
  have n1:=ne l bA4
  rw[e,bB1,<- ih,bI7]
  by_cases h1:l.1=h
  ·have h2:¬l.2=h:=λz=>n1 (h1.trans z.symm)
   rw[if_pos h1,if_neg h2,bz9 (by rw[<- h1];exact bA4)]
   rw[if_pos rfl,bC7]
   show _=1+_
   omega
  ·by_cases h2:l.2=h
   ·rw[if_neg h1,if_pos h2,bz9 (by rw[<- h2];exact bA9 _ bA4)]
    rw[if_pos rfl,bC7]
    show _=1+_
    omega
   ·rw[if_neg h1,if_neg h2,bA0 (λz=>by
     simp only[bA7,bB7,bF2]at z
     rcases z with z|z
     ·exact h1 z.symm
     ·exact h2 z.symm)]
    rw[if_neg (by decide)]
    show _=0+_
    omega
theorem ap2 (ls:aa):∀A:af,(A.map λh=>dP ((aM ls h).length:Int)).sum=mP ls A
 |[]=>rfl
 |a::r=>by
  rw[bF4,List.sum_cons,ap2 ls r];rfl
theorem br3 {n:Nat}{ls:aa}(lk:eS n ls):mu ls (rng n)=(ls.length:Int)-(n:Int)+((cA ls (rng n)).length:Int):=by
 have:ls.filter (kT (rng n))=ls:=bG5.mpr λl hl=>by
  have:=lk.1 l hl
  unfold kT
  rw[bz9 (fB.mpr ⟨by omega,by omega⟩),bz9 (fB.mpr ⟨by omega,by omega⟩)];rfl
 unfold mu
 rw[this,eO]
section
variable {ns:af}{n:Nat}{ls:aa}{A:af}{F:Int}{Q:PV→Prop}{y4 y7 y8 y9:Option Slot}{s6:Option Slot}
theorem br4 (n40:n<=40)(lk:eS n ls)(q:Q (.bl true)) :
  ao5 { nx:=λ_=>Q .non,rt:=Q } [some (.sh true (.scr ns)),si n,some (.sh true (.lst (bD ls))),some (.sh true (bL (cB n ls) ls)),y4,si F,s6,y7,y8,y9]:=by
 have dl:=mM (n:=n) (ls:=ls)
 have wb:=uU n40 lk dl
 refine⟨_,rfl,_,_,rfl,rfl,_,rfl,?_⟩
 show if decide (6<(n:Int))=true then _ else _
 by_cases g6:6<(n:Int)
 ·rw[bz9 g6];exact b9 ⟨trivial,q⟩
 rw[bA0 g6]
 refine aT ⟨_,rfl,cB n ls,ls,rfl,wb,λ_=>⟨ak2 (by rw[dl];omega),λZ pz so=>?_⟩,λz=>absurd z (by rw[dl];omega)⟩
 have lns:=qQ n
 have l6:2^n<=2^6:=bQ8 (by decide) (by omega)
 have st:∀S∈bO (rng n),aX n S=true:=λS hS=>aj3.mp ((qS _ S).mp hS)
 have el:lN (cB n ls) ls=(bO (rng n)).filter (fS ls):=by
  unfold lN
  rw[dl]
  exact bK9 λS hS=>bq1 lk (st S hS)
 have few:((bO (rng n)).filter (fS ls)).length<64:=by rw[<- el];exact ak2 (by rw[dl];omega)
 have ne0:∀S∈(bO (rng n)).filter (fS ls),S≠[]:=λS hS e=>by
  have:=(bB3.mp hS).2
  rw[e]at this;simp[fS]at this
 rw[el]at pz
 refine⟨_,rfl,(n:Int),rfl,by omega,by omega,_,rng n,rfl,.inr (by rw[bK7,tH]),by rw[eO];omega,?_⟩
 generalize bO (rng n)=C at lns st few ne0 pz
 refine⟨_,rfl,(λz=>by cases z),by rw[gV];omega,λi acc=>acc=tups ((C.take i).filter (fS ls)),rfl,?_,?_⟩
 ·rintro i y acc hy rfl
  obtain⟨p,rfl,hi⟩:=t9 hy
  have tk:=lJ (p:=fS ls) hi
  refine⟨_,rfl,_,rfl,n,ls,p,rfl,n40,lk,st p (bD7 hi),_,rfl,?_⟩
  cases r:fS ls p with
  |true=>
   rw[r]at tk
   refine b9 ⟨_,rfl,B2 _ (nY p),?_⟩
   dsimp only
   rw[tk]
   unfold tups
   rw[bC3];rfl
  |false=>
   rw[r]at tk
   refine aT ?_
   dsimp only
   rw[tk];simp
 rintro acc rfl
 rw[gV,bD8]
 refine⟨C.filter (fS ls),rfl,few,ne0,λY py sy=>?_⟩
 have e:Z=Y:=bk1 (pz.trans py.symm) so sy
 refine⟨.inr ⟨_,_,rfl,rfl⟩,aj1 1 Z Y,trivial,?_⟩
 show Q (.bl (cJ 3 (.lst (tups Z)) (.lst (tups Y))))
 rw[bj4,bz9 e]
 exact q
theorem br5 (n40:n<=40)(lk:eS n ls)(nd:A.Nodup)(sub:∀x∈A,x∈rng n)(q:Q (.bl true)) :
  ao6 { nx:=λ_=>Q .non,rt:=Q } [some (.sh true (.scr ns)),si n,some (.sh true (.lst (bD ls))),some (.sh true (bL (cB n ls) ls)),y4,si F,some (.sh true (.lst (intz A))),y7,y8,y9]:=by
 have dl:=mM (n:=n) (ls:=ls)
 have al:A.length<=n:=by have:=jN nd sub;rw[eO]at this;exact this
 refine⟨_,rfl,_,A,rfl,rfl,by omega,λms pm so=>⟨⟨_,_,rfl,rfl,cS _,?_⟩,λns z=>by cases z⟩⟩
 have hm:=ap0 nd sub pm so
 have ml:=kL hm
 refine⟨_,rfl,_,rfl,_,ns,2,rfl,.inl rfl,by decide,ms,n,_,rfl,hm,by omega,λys yl yn=>⟨trivial,?_⟩⟩
 refine⟨_,rfl,_,rfl,cB n ls,ls,ys,0,rfl,by rw[dl];exact n40,by rw[dl];exact lk,by omega,by rw[dl];exact yn,_,rfl,aT ?_⟩
 refine⟨_,rfl,_,rfl,cB n ls,ls,ys,1,rfl,by rw[dl];exact n40,by rw[dl];exact lk,by omega,by rw[dl];exact yn,_,rfl,aT ?_⟩
 exact br4 n40 lk q
theorem br6 (n40:n<=40)(lk:eS n ls)(nd:A.Nodup)(sub:∀x∈A,x∈rng n)(no:mO ls (dA n A))(eF:F=(ls.length:Int)-(n:Int)+((cA ls (rng n)).length:Int))(q:Q (.bl true)) :
  ao7 { nx:=λ_=>Q .non,rt:=Q } [some (.sh true (.scr ns)),si n,some (.sh true (.lst (bD ls))),some (.sh true (bL (cB n ls) ls)),y4,si F,some (.own (.lst (intz A))),y7,none,none]:=by
 have ne:∀l∈ls,l.1≠l.2:=λl hl=>bH1 (lk.1 l hl).2.1
 have lm:=lk.2.1
 have pl:(bD ls).length=ls.length:=bA5 _
 have al:A.length<=n:=by have:=jN nd sub;rw[eO]at this;exact this
 refine⟨_,rfl,?_⟩
 refine⟨_,rfl,_,rfl,oJ,by rw[bH];omega,λi acc=>acc=intz ((A.take i).map λh=>((aM ls h).length:Int)),rfl,?_,?_⟩
 ·rintro i y acc hy rfl
  obtain⟨h,rfl,hh⟩:=gH hy
  refine⟨_,rfl,bD ls,rfl,oJ,by rw[pl];omega,λj acc=>acc=bD ((ls.take j).filter λl=>decide (h∈[l.1,l.2])),rfl,?_,?_⟩
  ·rintro j w acc hw rfl
   obtain⟨l,rfl,hl⟩:=tF hw
   have tk:=lJ (p:=λl:Int×Int=>decide (h∈[l.1,l.2])) hl
   refine⟨_,rfl,_,rfl,h,[l.1,l.2],rfl,rfl,_,rfl,?_⟩
   show if decide (h∈[l.1,l.2])=true then _ else _
   cases hm:decide (h∈[l.1,l.2]) with
   |true=>
    rw[hm]at tk
    refine b9 ⟨_,rfl,B2 _ rfl,?_⟩
    dsimp only
    rw[tk]
    unfold bD
    rw[bC3];rfl
   |false=>
    rw[hm]at tk
    refine aT ?_
    dsimp only
    rw[tk];simp
  rintro acc rfl
  rw[pl,bD8]
  refine⟨_,_,rfl,rfl,trivial,?_⟩
  rw[show (bD (ls.filter λl=>decide (h∈[l.1,l.2]))).length=(ls.filter λl=>decide (h∈[l.1,l.2])).length from bA5 _,ap1 ne]
  dsimp only
  rw[bD9,hh,bC3,eQ];rfl
 rintro acc rfl
 rw[bH,bD8]
 refine⟨trivial,?_⟩
 refine⟨_,rfl,_,rfl,oJ,by rw[bH,bA5];omega,λi acc=>acc=intz (((A.map λh=>((aM ls h).length:Int)).take i).map dP),rfl,?_,?_⟩
 ·rintro i y acc hy rfl
  obtain⟨d,rfl,hd⟩:=gH hy
  refine⟨_,rfl,_,_,rfl,rfl,_,_,rfl,trivial,?_⟩
  dsimp only
  rw[bD9,hd,bC3,eQ];rfl
 rintro acc rfl
 rw[bH,bD8,bM7]
 refine⟨_,_,rfl,rfl,_,rfl,_,_,rfl,rfl,_,rfl,?_⟩
 have e:(A.map (dP ∘ λh=>((aM ls h).length:Int))).sum=mP ls A:=ap2 ls A
 show if decide ((A.map (dP ∘ λh=>((aM ls h).length:Int))).sum<F)=true then _ else _
 have mul:=bp8 lk.fit no
 rw[br3 lk]at mul
 rw[e,bA0 (by omega)]
 exact aT (br5 n40 lk nd sub q)
theorem br7 (n40:n<=40)(lk:eS n ls)(eF:F=(ls.length:Int)-(n:Int)+((cA ls (rng n)).length:Int))(q:Q (.bl true)) :
  ao8 { nx:=λ_=>Q .non,rt:=Q } [some (.sh true (.scr ns)),si n,some (.sh true (.lst (bD ls))),some (.sh true (bL (cB n ls) ls)),y4,si F,none,none,none,none]:=by
 have dl:=mM (n:=n) (ls:=ls)
 have wb:=uU n40 lk dl
 refine⟨_,rfl,_,ns,1,rfl,.inl rfl,by decide,_,rfl,_,n,rfl,by omega,by omega,λS hS=>⟨_,_,rfl,rfl,cS _,rfl,cS _,?_⟩⟩
 have hS:aX n S=true:=hS
 refine⟨_,rfl,(n:Int),rfl,by omega,by omega,λi ρ=>∃(A:af) (y7:Option Slot),ρ = [some (.sh true (.scr ns)),si n,some (.sh true (.lst (bD ls))),some (.sh true (bL (cB n ls) ls)),y4,si F,some (.own (.lst (intz A))),y7,none,none]/\A.Nodup/\(∀x∈A,x∈rng n)/\(mO ls (dA n A)∨∀k:Nat,k<i->(k:Int)∈A),
  ⟨S,none,rfl,(dJ (c8 hS).1).imp λh=>bH1 h,λx hx=>fB.mpr ((c8 hS).2 x hx),.inr λk hk=>absurd hk (Nat.not_lt_zero _)⟩,?_,?_⟩
 ·rintro i y ρ hy ⟨A,y7,rfl,nd,sub,inv⟩
  obtain⟨rfl,hi⟩:=kK hy
  have hi:i<n:=by omega
  have al:A.length<=n:=by have:=jN nd sub;rw[eO]at this;exact this
  refine kO ?_
  rw[Int.zero_add]
  refine⟨_,rfl,_,rfl,(i:Int),A,rfl,rfl,_,rfl,?_⟩
  show if (!decide ((i:Int)∈A))=true then _ else _
  by_cases hA:(i:Int)∈A
  ·rw[bz9 hA]
   refine aT (aT ⟨A,_,rfl,nd,sub,inv.imp_right λh k hk=>?_⟩)
   by_cases e:k=i
   ·rw[e];exact hA
   ·exact h k (by omega)
  rw[bA0 hA]
  refine b9 ⟨_,rfl,_,rfl,_,A,rfl,rfl,by omega,λms pm so=>⟨⟨_,_,rfl,rfl,cS _,?_⟩,λns z=>by cases z⟩⟩
  have hm:=ap0 nd sub pm so
  have ml:=kL hm
  refine⟨cB n ls,ls,_,ms,rfl,wb,.inl rfl,by omega,λ_ m en=>⟨_,rfl,?_⟩,λz=>by rw[dl,hm]at z;cases z⟩
  have li:=bp1 n40 lk hm en
  rw[br2 pm]at li
  cases hd:decide (((bA (cB n ls) ls ms m).length:Int)=((cB n ls).length:Int)) with
  |true=>exact aT ⟨A,_,rfl,nd,sub,.inl (li.mp hd)⟩
  |false=>
   have nn:¬mO ls (dA n A):=λz=>by rw[li.mpr z]at hd;cases hd
   refine b9 ⟨_,rfl,_,rfl,trivial,by rw[bH];omega,A++[(i:Int)],_,by rw[eQ];rfl,?_,λx hx=>?_,.inr λk hk=>?_⟩
   ·exact bG9.mpr ⟨nd,bC9 _ _,λa ha b hb e=>hA (by rw[bA1.mp hb]at e;rw[<- e];exact ha)⟩
   ·rcases bB8.mp hx with hx|hx
    ·exact sub x hx
    ·rw[bA1.mp hx];exact fB.mpr ⟨by omega,by omega⟩
   ·by_cases e:k=i
    ·rw[e];exact bD1 _ (bO0 _)
    ·exact bD2 _ (inv.resolve_left nn k (by omega))
 ·rintro ρ ⟨A,y7,rfl,nd,sub,inv⟩
  rw[eZ,bK7]at inv
  refine br6 n40 lk nd sub (inv.elim id λh=>?_) eF q
  have:dA n A = []:=List.eq_nil_iff_forall_not_mem.mpr λx hx=>by
   obtain⟨h1,h2⟩:=gJ.mp hx
   have b:=fB.mp h1
   have:=h x.toNat (by omega)
   rw[show ((x.toNat:Nat):Int)=x by omega]at this
   exact h2 this
  rw[this]
  exact λU _ us=>List.eq_nil_iff_forall_not_mem.mpr λx hx=>nomatch us x hx
end
theorem br8:bX ao9 ["script","many","links","web","pieces","found","seeds","hearth","degrees","odd"] E2:=by
 rintro xs Q ⟨ns,rfl,hl,q⟩
 refine⟨_,rfl,_,ns,0,rfl,.inl rfl,by decide,_,rfl,λM m0 m1=>⟨trivial,?_⟩⟩
 obtain⟨n,rfl⟩:∃n:Nat,M=n:=⟨M.toNat,by omega⟩
 have n40:n<=40:=by omega
 have hc:iA (xP (.scr ns) (fH (intz ns) (some 3) none)) (ns.drop 3):=.inr (by show PV.lst (fH (intz ns) (some 3) none)=_;rw[aY9 ns (by decide)];rfl)
 refine⟨_,rfl,_,rfl,_,rfl,cS _,_,rfl,_,_,n,rfl,hc,by rw[bI5];omega,n40,λls lk=>⟨trivial,?_⟩⟩
 refine⟨_,rfl,_,rfl,n,ls,rfl,n40,lk,trivial,?_⟩
 have dl:=mM (n:=n) (ls:=ls)
 refine⟨_,rfl,(n:Int),rfl,by omega,by omega,by rw[eZ];omega,λi acc=>acc=intz (((rng n).take i).filter (lO ls (rng n))),rfl,?_,?_⟩
 ·rintro i y acc hy rfl
  obtain⟨rfl,hi⟩:=kK hy
  have hi':i<n:=by omega
  have tk:=lJ (p:=lO ls (rng n)) (ab1 hi')
  have e0:(0:Int)+(i:Int)=(i:Int):=by omega
  rw[e0]
  have im:(i:Int)∈rng n:=fB.mpr ⟨by omega,by omega⟩
  obtain⟨a,r,er⟩:∃a r,comp ls (rng n) (i:Int)=a::r:=by
   cases e:comp ls (rng n) (i:Int) with
   |nil=>have:=oE (ls:=ls) im;rw[e]at this;cases this
   |cons a r=>exact⟨a,r,rfl⟩
  have hd:lO ls (rng n) (i:Int)=decide (a=(i:Int)):=by
   unfold lO
   rw[er,bF1,bC2,bC2]
   exact⟨λz=>bE0 z,λz=>congrArg some z⟩
  rw[hd]at tk
  refine⟨_,rfl,_,rfl,(n:Int),rfl,by omega,by omega,_,rfl,n,ls,_,rng n,(i:Int),rfl,.inr (by rw[bK7,tH]),lk,B6 n,by rw[eO];omega,im,?_⟩
  rw[er]
  have ix0:L2.atI (intz (a::r)) 0=some (.int a):=jD (j:=0) rfl
  refine⟨_,_,_,rfl,rfl,ix0,_,rfl,.inl ⟨_,_,rfl,rfl,_,rfl,?_⟩⟩
  show if decide (a=(i:Int))=true then _ else _
  cases hb:decide (a=(i:Int)) with
  |true=>
   rw[hb]at tk
   refine b9 ⟨_,rfl,zN _ _,?_⟩
   dsimp only
   rw[tk,eQ];rfl
  |false=>
   rw[hb]at tk
   refine aT ?_
   dsimp only
   rw[tk];simp
 rintro acc rfl
 rw[eZ,bE4 (by rw[eO];omega)]
 refine⟨trivial,?_⟩
 have eh:(rng n).filter (lO ls (rng n))=cA ls (rng n):=rfl
 rw[eh]
 refine⟨_,rfl,(n:Int),rfl,by omega,by omega,by rw[eZ];omega,λi acc=>∃W:af,acc=intz W/\W.length=i,⟨[],rfl,rfl⟩,?_,?_⟩
 ·rintro i y acc hy ⟨W,rfl,wl⟩
  obtain⟨rfl,hi⟩:=kK hy
  have hi':i<n:=by omega
  refine⟨_,rfl,_,rfl,_,_,rfl,by omega,by omega,λz z0=>⟨_,_,rfl,rfl,(by show (0:Int)<5;decide),trivial,W++[z%5],by rw[eQ];rfl,by rw[bB1,wl];rfl⟩⟩
 rintro acc ⟨W,rfl,wl⟩
 rw[eZ,bK7]at wl
 refine⟨⟨_,_,rfl,rfl,cS _,?_⟩,λns z=>by cases z⟩
 have fw:flats [PV.tup (intz W),.tup (bD ls)]=true:=by
  show (flats (intz W)&&(flats (bD ls)&&true))=true
  rw[cS,show flats (bD ls)=true from qG ls];rfl
 refine⟨_,rfl,_,_,_,rfl,rfl,rfl,by show 2<=1000;decide,fw,W,ls,rfl,uU n40 lk wl,trivial,?_⟩
 rw[wl]
 refine⟨_,rfl,cB n ls,ls,rfl,uU n40 lk dl,_,rfl,.inl ⟨_,_,rfl,rfl,_,rfl,?_⟩⟩
 rw[dl]
 generalize hF:(ls.length:Int)-(n:Int)+((cA ls (rng n)).length:Int)=F
 show if (!decide (F=F))=true then _ else _
 rw[bz9 rfl]
 refine aT ⟨_,rfl,F,rfl,_,rfl,aT ⟨_,rfl,_,rfl,_,_,rfl,rfl,_,rfl,_,_,rfl,rfl,_,rfl,_,_,rfl,rfl,_,_,rfl,rfl,.inl ⟨_,_,rfl,rfl,_,rfl,?_⟩⟩⟩
 show if (!decide (F=((bD ls).length:Int)-(n:Int)+((intz (cA ls (rng n))).length:Int)))=true then _ else _
 rw[bH,show (bD ls).length=ls.length from bA5 _,hF,bz9 rfl]
 exact aT (br7 n40 lk hF.symm q)
end Core
namespace K_k78
open PySem PySem.W L2 PP Core
theorem _root_.L2.FnScope.au {N P:List Str}{s:Scope}(a:s.kind=.function:=by rfl)(b:s.isCoroutine=false:=by rfl)(c:s.isGenerator=false:=by rfl)(d:N.Nodup:=by decide +kernel)(e:N.take P.length=P:=by rfl)(f:∀x∈P,s.names.lookup x=some .local∨s.names.lookup x=some .cell:=by decide +kernel)(g:∀y∈s.names,y.2≠.free:=by decide +kernel):FnScope N P s:=⟨a,b,c,d,e,f,g⟩
def aZ (i:Nat):Stmt:=PySem.Challenge.pw_kindleweb_k78_whole_measures.main.body.getD i (.Pass ⟨0,0,0,0⟩)
structure FK (K:Frag)(n:Str)(i:Nat)(f:Addr)(d:FuncData):Prop where
 a:nsIn K mainGlobals n=some (some (.ref f))
 F:fX K n n (aZ i) f d
structure FM (K:Frag)(mg:Str->Option Value)(n:Str)(i:Nat)(f:Addr)(d:FuncData):Prop where
 F:fX K n n (aZ i) f d
 m:mg n=some (.ref f)
theorem FK.M {K:Frag}{mg:Str->Option Value}{n:Str}{i:Nat}{f:Addr}{d:FuncData}{h:Heap}(z:FK K n i f d)(X:K.In h)(G:h.Ns mainGlobals mg):FM K mg n i f d:=⟨z.F,mg_of X G z.a⟩
abbrev Hb (x:Str)(ps:List Str)(i:Nat):Prop:=∀(kV doc pm:Value) (an:Option Addr) (cdv ct:Value) (us:List Value),us.length=ps.length->bindArgs (fnOf x x (jT (aZ i)) (eV (aZ i)) (aV (aZ i)) .none kV doc pm an cdv ct) ⟨us,[]⟩=pure (ps.zip us)
theorem E3 {A:Around}{k:Nat}(hr:cF k A):A.units+3<cLine:=by have:=hr.units;omega
section
variable {P:Program}{w:World}{K:Frag}{mg:Str→Option Value}{base:Heap}{f:Addr}{fd:FuncData}{k i:Nat}{x:Str}{ps N:List Str}
theorem Df.au {p:bF}(F:FM K mg x i f fd)(S:FnScope N ps (aV (aZ i)))(body:∀(cdv:Value) (A:Around) (outer:List Env) (s:Shared) (H:Hp) (E:XK),cF k (A.deeper (PyProof.Rows.envOfC x (aV (aZ i)) s.heap.objs.size f cdv))->∃t,fA (dR eW P w K mg base N x (aV (aZ i)) f cdv A outer s H E).nox (eV (aZ i)) t/\∀xs Q,p xs Q->t { nx:=λ_=>Q .non,rt:=Q } (gD N xs))(hb:Hb x ps i:=by intro _ _ _ _ _ _ us hl;first|(obtain⟨_,rfl⟩:=tS hl;rfl)|(obtain⟨_,_,rfl⟩:=A5 hl;rfl)|(obtain⟨_,_,_,rfl⟩:=A6 hl;rfl)|(obtain⟨_,_,_,_,rfl⟩:=us4 hl;rfl)|(obtain⟨_,_,_,_,_,rfl⟩:=us5 hl;rfl))(len:∀xs Q,p xs Q->xs.length=ps.length:=by intro xs Q h;repeat (first|(obtain⟨rfl,_⟩:=h;rfl)|(obtain⟨_,h⟩:=h))):Df P w K mg base (k+1) x ps p:=
 Df.of F.F F.m S hb len body
theorem bB.au {p:cR}(F:FM K mg x i f fd)(S:FnScope N ps (aV (aZ i)))(t:(Str->Prop)->aI)(rd:∀Ep xs Q,p Ep xs Q->t Ep { nx:=λ_=>Q .non,rt:=Q } (gD N xs))(body:∀(cdv:Value) (A:Around) (outer:List Env) (s:Shared) (H:Hp) (E:XK) (Ep:Str->Prop),cF k (A.deeper (PyProof.Rows.envOfC x (aV (aZ i)) s.heap.objs.size f cdv))->nX (dR (eI P w) P w K mg base N x (aV (aZ i)) f cdv A outer s H E) (EX K H Ep)->fA (dR (eI P w) P w K mg base N x (aV (aZ i)) f cdv A outer s H E) (eV (aZ i)) (t Ep))(hb:Hb x ps i:=by intro _ _ _ _ _ _ us hl;first|(obtain⟨_,rfl⟩:=tS hl;rfl)|(obtain⟨_,_,rfl⟩:=A5 hl;rfl)|(obtain⟨_,_,_,rfl⟩:=A6 hl;rfl)|(obtain⟨_,_,_,_,rfl⟩:=us4 hl;rfl)|(obtain⟨_,_,_,_,_,rfl⟩:=us5 hl;rfl))(len:∀Ep xs Q,p Ep xs Q->xs.length=ps.length:=by intro Ep xs Q h;repeat (first|(obtain⟨rfl,_⟩:=h;rfl)|(obtain⟨_,h⟩:=h))):bB P w K mg base (k+1) x ps p:=
 bB.of F.F F.m S hb t len rd body
end
section
variable {P:Program}{w:World}{K:Frag}{mg:Str→Option Value}{base:Heap}{f:Addr}{fd:FuncData}
abbrev ap3:Stmt:=aZ 12
theorem uV:FnScope ["web","around","one","other"] ["web"] (aV ap3):=.au
theorem br9 (F:fX K "near_lists" "near_lists" ap3 f fd):dQ P w K mg base eW 1 f fd ["web"] ac7:=by
 refine F.ok uV (λvs H Q E h=>?_) (λcdv A outer s H vs Q E hr h=>?_)
 ·obtain⟨v,ws,ls,rfl,_⟩:=h
  rfl
 obtain⟨v,ws,ls,rfl,W,hn,hm,hin,q⟩:=h
 refine⟨_,r6 (aF8 (i:=1) (N:=["want"]) (fr:=[none]) rfl (dM.of rfl rfl) (G2 (oY vS (pv 0) uZ (λ_ _=>rfl)))
   ⟨λ_ _ _ _=>j9 (i:=0) (bC9 _ _) rfl (Or.inl rfl) (.inr rfl),λ_ _ _ _=>P6,λ_ _ _ _=>K2 fW⟩ uV.nd rfl rfl rfl)
  (r6 (G7 PassesOwn.never rfl (G2 (oY vS (pv 0) uZ (λ_ _=>rfl))) (v9 (n:=2) rfl (mS (j9 (i:=2) uV.nd rfl (Or.inl rfl) (.inr rfl)) (mS (j9 (i:=3) uV.nd rfl (Or.inl rfl) (.inr rfl)) v8)) )
   (r6 (lQ (rC bM3 PySem.F.slot_list_append PySem.F.type_list_append rD (oY vR (pv 1) (pv 2) (λ_ _=>rfl)) (eC (pv 3) fW)))
   (v3 (lQ (rC bM3 PySem.F.slot_list_append PySem.F.type_list_append rD (oY vR (pv 1) (pv 3) (λ_ _=>rfl)) (eC (pv 2) fW))))))
  (v3 (v7 (pv 1)))),?_⟩
 obtain⟨a,p,q',ys,rfl,ha,hp,hq,hL⟩:=W.at_
 have lw:(ws.map V.int).length=ws.length:=bA5 _
 refine⟨_,rfl,a,_,_,_,rfl,rfl,aH.of ha,rfl,p,rfl,⟨_,aH.of hp⟩,aG0 (aF9 (aH.of hp)) (λi acc H'=>∃bs:List Addr,acc=bs.map V.ref/\bs.length=i/\bs.Nodup/\∀b∈bs,H b=none/\H' b=some (.lst [])) (by rw[lw];exact bH0 (pG hn))
  (λD hD=>⟨[],rfl,rfl,List.nodup_nil,λ_ z=>nomatch z⟩) (λi x acc D H' hx c hPv=>?_) (λD acc H' hD sm hDa hlen hPv=>?_)⟩
 ·obtain⟨bs,rfl,hbl,nd,hb⟩:=hPv
  refine⟨wk0 (n:=none),aH6 ⟨bE9 _,λr hr'=>?_⟩⟩
  have hrD:r≠D:=λz=>by rw[z,c.acc]at hr';cases hr'
  have hrH:H r=none:=c.same.free hr'
  refine c.yes (bK hr' _) ⟨bs++[r],by simp,by simp[hbl],?_,λb hm=>?_⟩
  ·refine bG9.mpr ⟨nd,bC9 _ _,λb hb1 b' hb2 e=>?_⟩
   rw[bA1.mp hb2]at e
   rw[e]at hb1
   rw[(hb r hb1).2]at hr';cases hr'
  ·rcases bB8.mp hm with hm|hm
   ·have hbD:b≠D:=λz=>by
     rw[z]at hm
     have:=(hb D hm).2
     rw[c.acc]at this
     have:bs.map V.ref = []:=by injection this with e1;injection e1
     have:bs = []:=List.map_eq_nil_iff.mp this
     rw[this]at hm;simp at hm
    refine⟨(hb b hm).1,?_⟩
    rw[aW hbD,aW (cM (hb b hm).2 hr')]
    exact (hb b hm).2
   ·rw[bA1.mp hm]
    exact⟨hrH,by rw[aW hrD,bJ]⟩
 ·obtain⟨bs,rfl,hbl,nd,hb⟩:=hPv
  rw[lw]at hbl
  have R0:jX H H' D bs (λk=>aM (ls.take 0) k):=by
   refine⟨hD,λb hm=>⟨(hb b hm).1,λz=>?_⟩,nd,hDa,λk b hk=>(hb b (bD7 hk)).2,sm⟩
   rw[z]at hm
   have:=(hb D hm).2
   rw[hDa]at this
   have:bs.map V.ref = []:=by injection this with e1;injection e1
   have:bs = []:=List.map_eq_nil_iff.mp this
   rw[this]at hm;simp at hm
  have lL:=hL.length
  refine⟨_,rfl,a,_,_,_,rfl,rfl,aH.of (sm _ _ ha),rfl,q',rfl,⟨_,aH.of (sm _ _ hq)⟩,aw1 (K:=K) (a:=q') (xs:=ys) (λi σ H2=>∃x y:Option V,σ = [some (.ref a),some (.ref D),x,y]/\jX H H2 D bs (λk=>aM (ls.take i) k))
   ⟨none,none,rfl,R0⟩ (λi σ H2 _ ⟨_,_,_,R⟩=>aH.of (R.same _ _ hq)) ?_ ?_⟩
  ·rintro i y σ H2 hi ⟨x1,x2,rfl,R⟩
   obtain⟨l,b,hl,rfl,hbt⟩:=hL.get hi
   have hlm:l∈ls:=bD7 hl
   obtain⟨⟨h1,h2⟩,h3,h4⟩:=hin l hlm
   have k1:l.1.toNat<bs.length:=by omega
   have k2:l.2.toNat<bs.length:=by omega
   have e1:bs[l.1.toNat]? = some (bs[l.1.toNat]):=bA6 k1
   have e2:bs[l.2.toNat]? = some (bs[l.2.toNat]):=bA6 k2
   refine⟨b,_,rfl,aH.of (R.same _ _ hbt),rfl,_,_,rfl,_,_,rfl,rfl,?_⟩
   refine⟨_,rfl,_,rfl,D,_,_,.ref bs[l.1.toNat],rfl,rfl,aQ.of R.row,rT h1 (by rw[bB6,e1];rfl),mX (aQ.of (R.rows _ _ e1)),_,rfl,_,_,_,rfl,rfl,R.rows _ _ e1,?_,?_⟩
   ·rw[bA5]
    have:=rS (ls.take i) (l.1.toNat:Nat)
    rw[bI3]at this
    exact jY (by omega)
   ·have R1:=R.app e1 l.2
    refine⟨_,rfl,_,rfl,D,_,_,.ref bs[l.2.toNat],rfl,rfl,aQ.of R1.row,rT h3 (by rw[bB6,e2];rfl),mX (aQ.of (R1.rows _ _ e2)),_,rfl,_,_,_,rfl,rfl,R1.rows _ _ e2,?_,?_⟩
    ·rw[bA5]
     have:=rS (ls.take i) (l.2.toNat:Nat)
     rw[bI3]at this
     split
     ·rw[bB1,bF7];exact jY (by omega)
     ·exact jY (by omega)
    ·have R2:=R1.app e2 l.1
     refine⟨_,_,rfl,R2.congr λk hk=>?_⟩
     rw[aH5 hl]
     have c1:(k=l.1.toNat)↔l.1=(k:Int):=by omega
     have c2:(k=l.2.toNat)↔l.2=(k:Int):=by omega
     by_cases d1:k=l.1.toNat
     ·by_cases d2:k=l.2.toNat
      ·rw[if_pos d2,if_pos d1,if_pos (c1.mp d1),if_pos (c2.mp d2)];simp
      ·rw[if_neg d2,if_pos d1,if_pos (c1.mp d1),if_neg (λz=>d2 (c2.mpr z))];simp
     ·by_cases d2:k=l.2.toNat
      ·rw[if_pos d2,if_neg d1,if_neg (λz=>d1 (c1.mpr z)),if_pos (c2.mp d2)];simp
      ·rw[if_neg d2,if_neg d1,if_neg (λz=>d1 (c1.mpr z)),if_neg (λz=>d2 (c2.mpr z))];simp
  ·
   rintro σ H2 ⟨x1,x2,rfl,R⟩
   refine⟨_,rfl,q D bs H2 hbl ?_⟩
   rw[lL,bD8]at R
   exact R
theorem ap4:FnScope ["many","link","one","other"] ["many","link"] (aV (aZ 9)):=.au
theorem bs0 (B:Bt mg)(F:FM K mg "lesser_first" 9 f fd) :Df P w K mg base 1 "lesser_first" ["many","link"] uH:=
 Df.au F ap4 (λcdv A outer s H E hr=>by
  have nd:=ap4.nd
  exact⟨(al3),(aG (bI (i:=2) nd (bl8 B rfl (a8 (qv 1) aA)))
   (aG (bI (i:=3) nd (bl7 B rfl (a8 (qv 1) aA)))
   (aG (cV (fJ (nN (kC (qv 2) aK) (nM (aP0 (qv 3) (qv 0))))) (aN dX) dE)
   (aG (cV (iW (qv 2) (qv 3)) (aN dX) dE)
   (aN (bG (iY (a8 (qv 2) (a8 (qv 3) aA))))))))),bn0⟩)
theorem bs1:FnScope ["things"] ["things"] (aV (aZ 10)):=.au
theorem bs2 (B:Bt mg)(F:FM K mg "rises" 10 f fd) :Df P w K mg base 1 "rises" ["things"] oG:=
 Df.au F bs1 (λcdv A outer s H E hr=>by
  have hu:=l8 hr
  exact⟨(C1),(aN (bG (W5 B rfl (a8 (bb4 (N:=["ahead","behind"]) (fr:=[none,none]) (bm5 B (qv 0) (yF (qv 0) (yE aK) yD)) (λ_ _ _ _=>(bm1 hu (qv 0) (qv 1)))) aA)))),bm8⟩)
theorem bs3:FnScope ["web"] ["web"] (aV (aZ 11)):=.au
theorem bs4 (B:Bt mg)(F:FM K mg "hearths_in" 11 f fd) :Df P w K mg base 1 "hearths_in" ["web"] fN:=
 Df.au F bs3 (λcdv A outer s H E hr=>by
  exact⟨(ab3),(aN (bG (dO B (a8 (cC (qv 0) aK) aA)))),aW3⟩)
theorem ap5:FnScope ["hearths","chosen","hearth"] ["hearths"] (aV (aZ 16)):=.au
theorem bs5 (B:Bt mg)(F:FM K mg "sets_among" 16 f fd) :Df P w K mg base 1 "sets_among" ["hearths"] mH:=
 Df.au F ap5 (λcdv A outer s H E hr=>by
  have nd:=ap5.nd
  exact⟨(B3),(aG (bI (i:=1) nd (kG (a8 (iY aA) aA)))
   (aG (gT 2 nd (dH (qv 0))
    (aN (bI (i:=1) nd (ad9 (qv 1) (lG (N:=["some","hearth"]) (fr:=[none,some 2]) (dH (qv 1)) (λ_ _ _ _=>(af0 (qv 0) (iY (a8 (qv 1) aA)))))))))
   (aN (lF 1)))),aj5⟩)
theorem ap6:FnScope ["hearths","inside","hearth"] ["hearths"] (aV (aZ 17)):=.au
theorem bs6 (B:Bt mg)(F:FM K mg "marked" 17 f fd) :Df P w K mg base 1 "marked" ["hearths"] gU:=
 Df.au F ap6 (λcdv A outer s H E hr=>by
  have nd:=ap6.nd
  have hu:=l8 hr
  exact⟨(ab9),(aG (i9 (i:=1) nd V7)
   (aG (gT 2 nd (dH (qv 0))
    (aN (xZ hu (i:=1) (qv 2) gF)))
   (aN (lF 1)))),aX0⟩)
theorem bs7:FnScope ["hearths","inside"] ["hearths","inside"] (aV (aZ 18)):=.au
theorem bs8 (B:Bt mg)(F:FM K mg "count_inside" 18 f fd) :Df P w K mg base 1 "count_inside" ["hearths","inside"] nZ:=
 Df.au F bs7 (λcdv A outer s H E hr=>by
  have hu:=l8 hr
  exact⟨(ac0),(aN (bG (dO B (a8 (kI (N:=["hearth","inside"]) (fr:=[none,some 1]) (dH (qv 0)) (λ_ _ _ _=>(xX hu (qv 0) (qv 1))) (λ_ _ _ _=>(qv 0))) aA)))),aX1⟩)
theorem bs9:FnScope ["holds","place","some"] ["holds","place","some"] (aV (aZ 41)):=.au
theorem bt0 (B:Bt mg)(F:FM K mg "holds_without_one" 41 f fd) :Df P w K mg base 1 "holds_without_one" ["holds","place","some"] oC:=
 Df.au F bs9 (λcdv A outer s H E hr=>by
  exact⟨(aj6),(aN (bG (be4 B rfl (a8 (lG (N:=["hearth","holds","place"]) (fr:=[none,some 0,some 1]) (dH (qv 2)) (λ_ _ _ _=>(cC (qv 1) (kB (qv 2) (aO6 aK (qv 0)))))) aA)))),bj8⟩)
theorem bt1:FnScope ["script","k"] ["script","k"] (aV (aZ 52)):=.au
theorem bt2 (B:Bt mg)(F:FM K mg "_law_cell_at" 52 f fd) :Df P w K mg base 1 "_law_cell_at" ["script","k"] o4:=
 Df.au F bt1 (λcdv A outer s H E hr=>by
  exact⟨(ac3),(aG (cV (kC (qv 1) (dO B (a8 (qv 0) aA))) (aN (bG (cC (qv 0) (qv 1)))) dE)
   (aN (bG aK))),aX4⟩)
theorem bt3:FnScope ["found"] ["found"] (aV (aZ 53)):=.au
theorem bt4 (B:Bt mg)(F:FM K mg "_law_whole" 53 f fd) :Df P w K mg base 1 "_law_whole" ["found"] tE:=
 Df.au F bt3 (λcdv A outer s H E hr=>by
  exact⟨(ac4 K),(aN (bG (sJ (aQ2 B (qv 0)) (pX (aP3 (aQ3 B (qv 0))))))),aX5 (ad5 K).ii (ad5 K).ib⟩)
theorem ap7:FnScope ["cell","k","turn"] ["cell","k"] (aV (aZ 54)):=.au
theorem bt5 (B:Bt mg)(F:FM K mg "_law_stir" 54 f fd) :Df P w K mg base 1 "_law_stir" ["cell","k"] lM:=
 Df.au F ap7 (λcdv A outer s H E hr=>by
  have nd:=ap7.nd
  exact⟨(ah5),(aG (bI (i:=2) nd (dG (xV (gR (gR (dG (qv 0) aK) (xV (qv 1) (qv 1))) aK) aK) aK))
   (aN (bG (i8 (dG (xV (qv 2) (qv 2)) aK) aK)))),bg8⟩)
theorem bt6:FnScope ["cell"] ["cell"] (aV (aZ 56)):=.au
theorem bt7 (B:Bt mg)(F:FM K mg "_law_many" 56 f fd) :Df P w K mg base 1 "_law_many" ["cell"] tZ:=
 Df.au F bt6 (λcdv A outer s H E hr=>by
  exact⟨(ai1),(aG (cV (iW (dG (i8 (qv 0) aK) aK) aK) (aN (bG (dG (i8 (qv 0) aK) aK))) dE)
   (aN (bG (dG (qv 0) aK)))),bh9⟩)
theorem ap8:FnScope ["some","many","cell","odd","far","spot"] ["some","many","cell"] (aV (aZ 58)):=.au
theorem bt8 (B:Bt mg)(F:FM K mg "_law_odd_set" 58 f fd) :Df P w K mg base 1 "_law_odd_set" ["some","many","cell"] tW:=
 Df.au F ap8 (λcdv A outer s H E hr=>by
  have nd:=ap8.nd
  exact⟨(ah8),(aG (i9 (i:=3) nd (yA B (a8 (qv 0) aA)))
   (aG (bI (i:=4) nd (dG (i8 (qv 2) aK) (aO5 aK aK)))
   (aG (bI (i:=5) nd (dG (i8 (qv 2) aK) (gR (dO B (a8 (qv 3) aA)) aK)))
   (aG (cV (fJ (iX (iW (dG (qv 2) aK) aK) (kF (kD (dO B (a8 (qv 3) aA)) aK)))) (aN (ah7 3 (qv 5) (cC (qv 3) (dG (i8 (qv 2) aK) (dO B (a8 (qv 3) aA)))))) (aN (cV (fJ (iX (iW (dG (qv 2) aK) aK) (kF (kD (dO B (a8 (qv 3) aA)) aK)))) (aN (bh1 3)) (aN (ah7 3 (qv 5) (cC (kG (a8 (W6 aK) (a8 (qv 1) (a8 (kB (W6 aK) (qv 4)) (a8 (gR (qv 1) (qv 4)) aA))))) (dG (i8 (qv 2) aK) aK)))))))
   (aN (bG (fL B (a8 (qv 3) aA)))))))),bh4⟩)
theorem ap9:FnScope ["links","some","first","found","at","pair","other"] ["links","some","first"] (aV (aZ 59)):=.au
theorem bt9 (B:Bt mg)(F:FM K mg "_law_piece" 59 f fd) :Df P w K mg base 1 "_law_piece" ["links","some","first"] oK:=
 Df.au F ap9 (λcdv A outer s H E hr=>by
  have nd:=ap9.nd
  exact⟨(an8),(aG (i9 (i:=3) nd (kG (a8 (qv 2) aA)))
   (aG (bI (i:=4) nd aK)
   (aG (sK PassesOwn.never (kC (qv 4) (dO B (a8 (qv 3) aA)))
    (aG (gT 5 nd (dH (qv 0))
     (aG (bI (i:=6) nd (kB (gR (cC (qv 5) aK) (cC (qv 5) aK)) (cC (qv 3) (qv 4))))
     (aN (cV (fJ (iX (nP (cC (qv 3) (qv 4)) (qv 5)) (iX (nP (qv 6) (qv 1)) (kF (X0 (qv 6) (qv 3)))))) (aN (nO 3 (qv 6))) dE))))
    (aN (bI (i:=4) nd (gR (qv 4) aK)))))
   (aN (bG (aP8 B (a8 (qv 3) aA))))))),bq5⟩)
theorem aq0:FnScope ["some","found","hearth"] ["some"] (aV (aZ 60)):=.au
theorem bu0 (B:Bt mg)(F:FM K mg "_law_parts" 60 f fd) :Df P w K mg base 1 "_law_parts" ["some"] mH:=
 Df.au F aq0 (λcdv A outer s H E hr=>by
  have nd:=aq0.nd
  exact⟨(B3),(aG (bI (i:=1) nd (kG (a8 (iY aA) aA)))
   (aG (gT 2 nd (dH (qv 0))
    (aN (bI (i:=1) nd (ad9 (qv 1) (lG (N:=["part","hearth"]) (fr:=[none,some 2]) (dH (qv 1)) (λ_ _ _ _=>(af0 (qv 0) (iY (a8 (qv 1) aA)))))))))
   (aN (lF 1)))),aj5⟩)
theorem aq1:FnScope ["wants","links","want","pairs"] ["wants","links"] (aV (aZ 8)):=.au
theorem bu1 (B:Bt mg)(F:FM K mg "made_web" 8 f fd)(d_lesser_first:Df P w K mg base 1 "lesser_first" ["many","link"] uH)(d_rises:Df P w K mg base 1 "rises" ["things"] oG){u_MOST_HEARTHS:Nat}(m_MOST_HEARTHS:mg "MOST_HEARTHS" = some (.int 40 u_MOST_HEARTHS)){u_MOST_WANTED:Nat}(m_MOST_WANTED:mg "MOST_WANTED" = some (.int 60 u_MOST_WANTED)):Df P w K mg base 2 "made_web" ["wants","links"] uI:=
 Df.au F aq1 (λcdv A outer s H E hr=>by
  have nd:=aq1.nd
  exact⟨(al4),(aG (cV (kD (dO B (a8 (qv 0) aA)) (tM rfl m_MOST_HEARTHS)) (aN dX) dE)
   (aG (gT 2 nd (dH (qv 0))
    (aN (cV (fJ (nN (kC (qv 2) aK) (nM (kD (qv 2) (tM rfl m_MOST_WANTED))))) (aN dX) dE)))
   (aG (bI (i:=3) nd (ah9 B (a8 (lG (N:=["link","wants"]) (fr:=[none,some 0]) (dH (qv 1)) (λ_ _ _ _=>(b8 d_lesser_first hr (a8 (dO B (a8 (qv 1) aA)) (a8 (qv 0) aA))))) aA)))
   (aG (cV (m6 (kE (b8 d_rises hr (a8 (qv 3) aA)))) (aN dX) dE)
   (aN (bG (iY (a8 (fL B (a8 (qv 0) aA)) (a8 (fL B (a8 (qv 3) aA)) aA))))))))),bn1⟩)
theorem bu2:FnScope ["web","number"] ["web","number"] (aV (aZ 13)):=.au
theorem bu3 (B:Bt mg)(F:FM K mg "is_hearth" 13 f fd)(d_hearths_in:Df P w K mg base 1 "hearths_in" ["web"] fN):Df P w K mg base 2 "is_hearth" ["web","number"] qH:=
 Df.au F bu2 (λcdv A outer s H E hr=>by
  exact⟨(ab4),(aN (bG (sJ (V5 (qv 1) aK) (pX (aO8 (qv 1) (b8 d_hearths_in hr (a8 (qv 0) aA))))))),aW5⟩)
theorem bu4:FnScope ["hearths","inside"] ["hearths","inside"] (aV (aZ 19)):=.au
theorem bu5 (B:Bt mg)(F:FM K mg "count_outside" 19 f fd)(d_count_inside:Df P w K mg base 1 "count_inside" ["hearths","inside"] nZ):Df P w K mg base 2 "count_outside" ["hearths","inside"] tN:=
 Df.au F bu4 (λcdv A outer s H E hr=>by
  exact⟨(af2),(aN (bG (kB (dO B (a8 (qv 0) aA)) (b8 d_count_inside hr (a8 (qv 0) (a8 (qv 1) aA)))))),bc4⟩)
theorem aq2:FnScope ["hearths","some","gone"] ["hearths","some"] (aV (aZ 20)):=.au
theorem bu6 (B:Bt mg)(F:FM K mg "without" 20 f fd)(d_marked:Df P w K mg base 1 "marked" ["hearths"] gU):Df P w K mg base 2 "without" ["hearths","some"] o9:=
 Df.au F aq2 (λcdv A outer s H E hr=>by
  have nd:=aq2.nd
  have hu:=l8 hr
  exact⟨(af3),(aG (bI (i:=2) nd (b8 d_marked hr (a8 (qv 1) aA)))
   (aN (bG (fL B (a8 (kI (N:=["hearth","gone"]) (fr:=[none,some 2]) (dH (qv 0)) (λ_ _ _ _=>(V6 hu (qv 0) (qv 1))) (λ_ _ _ _=>(qv 0))) aA))))),bc5⟩)
theorem bu7:FnScope ["web","around","burning","hearth"] ["web","around","burning","hearth"] (aV (aZ 25)):=.au
theorem bu8 (B:Bt mg)(F:FM K mg "can_kindle" 25 f fd)(d_count_inside:Df P w K mg base 1 "count_inside" ["hearths","inside"] nZ):Df P w K mg base 2 "can_kindle" ["web","around","burning","hearth"] t8:=
 Df.au F bu7 (λcdv A outer s H E hr=>by
  have hu:=l8 hr
  exact⟨(ac1),(aN (bG (sJ (aP1 hu (qv 3) (qv 2)) (pX (V5 (b8 d_count_inside hr (a8 (cC (qv 1) (qv 3)) (a8 (qv 2) aA))) (cC (cC (qv 0) aK) (qv 3))))))),aX2⟩)
theorem aq3:FnScope ["around","hearths","inside","reached","waiting","hearth","other"] ["around","hearths"] (aV (aZ 34)):=.au
theorem bu9 (B:Bt mg)(F:FM K mg "first_piece" 34 f fd)(d_marked:Df P w K mg base 1 "marked" ["hearths"] gU):Df P w K mg base 2 "first_piece" ["around","hearths"] uA:=
 Df.au F aq3 (λcdv A outer s H E hr=>by
  have nd:=aq3.nd
  have hu:=l8 hr
  exact⟨(ai8),(aG (bI (i:=2) nd (b8 d_marked hr (a8 (qv 1) aA)))
   (aG (i9 (i:=3) nd (bi7 (cC (qv 1) aK)))
   (aG (i9 (i:=4) nd (kG (a8 (cC (qv 1) aK) aA)))
   (aG (sK PassesOwn.never (sI (qv 4))
    (aG (bi8 nd 4 5)
    (aN (gT 6 nd (dH (cC (qv 0) (qv 5)))
     (aN (cV (fJ (iX (xX hu (qv 6) (qv 2)) (kF (V6 hu (qv 6) (qv 3))))) (aG (xZ hu (i:=3) (qv 6) gF)
      (aN (nO 4 (qv 6)))) dE))))))
   (aN (bG (fL B (a8 (af8 B rfl (a8 (qv 3) aA)) aA)))))))),bj2⟩)
theorem bv0:FnScope ["web"] ["web"] (aV (aZ 39)):=.au
theorem bv1 (B:Bt mg)(F:FM K mg "searched_sets" 39 f fd)(d_hearths_in:Df P w K mg base 1 "hearths_in" ["web"] fN)(d_sets_among:Df P w K mg base 1 "sets_among" ["hearths"] mH)(x_TooMany:Xc K mg base "TooMany"){u_MOST_SEARCHED:Nat}(m_MOST_SEARCHED:mg "MOST_SEARCHED" = some (.int 12 u_MOST_SEARCHED)):bB P w K mg base 2 "searched_sets" ["web"] uB:=
 bB.au F bv0 aj7 bj9 (λcdv A outer s H E Ep hr hX=>by
  exact (aG (cV (kD (b8 d_hearths_in hr (a8 (qv 0) aA)) (tM rfl m_MOST_SEARCHED)) (aN (ag7 hX x_TooMany (a8 V4 aA))) dE)
   (aN (bG (b8 d_sets_among hr (a8 (tG B (b8 d_hearths_in hr (a8 (qv 0) aA))) aA))))))
theorem bv2:FnScope ["web","few"] ["web","few"] (aV (aZ 47)):=.au
theorem bv3 (B:Bt mg)(F:FM K mg "wanting_all_but" 47 f fd)(d_near_lists:Df P w K mg base 1 "near_lists" ["web"] j4):Df P w K mg base 2 "wanting_all_but" ["web","few"] oI:=
 Df.au F bv2 (λcdv A outer s H E hr=>by
  exact⟨(am7),(aN (bG (iY (a8 (fL B (a8 (lG (N:=["beside","few"]) (fr:=[none,some 1]) (dH (b8 d_near_lists hr (a8 (qv 0) aA))) (λ_ _ _ _=>(yB B rfl (a8 aK (a8 (kB (dO B (a8 (qv 0) aA)) (qv 1)) aA))))) aA)) (a8 (cC (qv 0) aK) aA))))),bo9⟩)
theorem bv4:FnScope ["cell","many"] ["cell","many"] (aV (aZ 55)):=.au
theorem bv5 (B:Bt mg)(F:FM K mg "_law_some" 55 f fd)(d__law_stir:Df P w K mg base 1 "_law_stir" ["cell","k"] lM):Df P w K mg base 2 "_law_some" ["cell","many"] tT:=
 Df.au F bv4 (λcdv A outer s H E hr=>by
  exact⟨(ah6),(aG (cV (iW (dG (qv 0) aK) aK) (aN (bG (fL B (a8 (kI (N:=["k","cell"]) (fr:=[none,some 0]) (m7 rfl B.range (qv 1)) (λ_ _ _ _=>(iW (dG (aO7 (qv 1) (gR (qv 0) aK)) aK) aK)) (λ_ _ _ _=>(qv 0))) aA)))) dE)
   (aN (bG (fL B (a8 (kI (N:=["k","cell"]) (fr:=[none,some 0]) (m7 rfl B.range (qv 1)) (λ_ _ _ _=>(kC (dG (b8 d__law_stir hr (a8 (qv 1) (a8 (qv 0) aA))) aK) (gR aK (dG (i8 (qv 1) aK) aK)))) (λ_ _ _ _=>(qv 0))) aA))))),bg9⟩)
theorem aq4:FnScope ["flow","many","links","cell","one","other","turn","pair"] ["flow","many"] (aV (aZ 57)):=.au
theorem bv6 (B:Bt mg)(F:FM K mg "_law_links" 57 f fd)(d__law_stir:Df P w K mg base 1 "_law_stir" ["cell","k"] lM):Df P w K mg base 2 "_law_links" ["flow","many"] uK:=
 Df.au F aq4 (λcdv A outer s H E hr=>by
  have nd:=aq4.nd
  have hu:=l8 hr
  exact⟨(al7),(aG (i9 (i:=2) nd aP4)
   (aG (cV (fJ (iX (kD (dO B (a8 (qv 0) aA)) aK) (kF (iW (dG (cC (qv 0) aK) aK) aK)))) (aG (bI (i:=3) nd (i8 (cC (qv 0) aK) aK))
    (aG (gT 4 nd (m7 rfl B.range (qv 1))
     (aN (gT 5 nd (V9 rfl B.range (gR (qv 4) aK) (qv 1))
      (aG (cV (iW (dG (qv 3) aK) aK) (aN (V8 hu (i:=2) (iY (a8 (qv 4) (a8 (qv 5) aA))) gF)) dE)
      (aN (bI (i:=3) nd (i8 (qv 3) aK)))))))
    (aN (bI (i:=0) nd (yF (qv 0) (yE aK) yD))))) dE)
   (aG (gT 3 nd (dH (qv 0))
    (aN (cV (kD (qv 1) aK) (aG (bI (i:=6) nd (b8 d__law_stir hr (a8 (qv 3) (a8 aK aA))))
     (aG (bI (i:=4) nd (dG (qv 6) (qv 1)))
     (aG (bI (i:=5) nd (dG (gR (gR (qv 4) aK) (dG (i8 (qv 6) aK) (kB (qv 1) aK))) (qv 1)))
     (aG (bI (i:=7) nd (iY (a8 (aP9 B rfl (a8 (qv 4) (a8 (qv 5) aA))) (a8 (yB B rfl (a8 (qv 4) (a8 (qv 5) aA))) aA))))
     (aN (cV (fJ (iX (xX hu (qv 7) (qv 2)) (kF (iW (dG (i8 (qv 6) aK) aK) aK)))) (aN (bg7 2 hu (qv 7))) (aN (V8 hu (i:=2) (qv 7) gF)))))))) dE)))
   (aN (bG (ah9 B (a8 (aY1 B rfl (a8 (qv 2) aA)) aA))))))),bn7⟩)
theorem aq5:FnScope ["links","part","hearth"] ["links","part"] (aV (aZ 61)):=.au
theorem bv7 (B:Bt mg)(F:FM K mg "_law_is_round" 61 f fd)(d__law_piece:Df P w K mg base 1 "_law_piece" ["links","some","first"] oK):Df P w K mg base 2 "_law_is_round" ["links","part"] uT:=
 Df.au F aq5 (λcdv A outer s H E hr=>by
  have nd:=aq5.nd
  have hu3:=E3 hr
  exact⟨(ao4),(aG (cV (fJ (nN (kC (dO B (a8 (qv 1) aA)) aK) (nM (aQ6 hu3 (b8 d__law_piece hr (a8 (qv 0) (a8 (qv 1) (a8 (cC (qv 1) aK) aA)))) (yA B (a8 (qv 1) aA)))))) (aN (bG gF)) dE)
   (aG (gT 2 nd (dH (qv 1))
    (aN (cV (xW (dO B (a8 (kI (N:=["pair","hearth","part"]) (fr:=[none,some 2,some 1]) (dH (qv 0)) (λ_ _ _ _=>(fJ (iX (nP (qv 1) (qv 0)) (iX (nP (cC (qv 0) aK) (qv 2)) (kF (nP (cC (qv 0) aK) (qv 2))))))) (λ_ _ _ _=>(qv 0))) aA)) aK) (aN (bG gF)) dE)))
   (aN (bG gF)))),br1⟩)
theorem bv8:FnScope ["web","numbers"] ["web","numbers"] (aV (aZ 14)):=.au
theorem bv9 (B:Bt mg)(F:FM K mg "is_set" 14 f fd)(d_rises:Df P w K mg base 1 "rises" ["things"] oG)(d_is_hearth:Df P w K mg base 2 "is_hearth" ["web","number"] qH):Df P w K mg base 3 "is_set" ["web","numbers"] C2:=
 Df.au F bv8 (λcdv A outer s H E hr=>by
  exact⟨(al2),(aN (bG (sJ (b8 d_rises hr (a8 (qv 1) aA)) (pX (W5 B rfl (a8 (lG (N:=["number","web"]) (fr:=[none,some 0]) (dH (qv 1)) (λ_ _ _ _=>(b8 d_is_hearth hr (a8 (qv 1) (a8 (qv 0) aA))))) aA)))))),bm9⟩)
theorem bw0:FnScope ["web","some"] ["web","some"] (aV (aZ 21)):=.au
theorem bw1 (B:Bt mg)(F:FM K mg "all_but" 21 f fd)(d_without:Df P w K mg base 2 "without" ["hearths","some"] o9)(d_hearths_in:Df P w K mg base 1 "hearths_in" ["web"] fN):Df P w K mg base 3 "all_but" ["web","some"] u9:=
 Df.au F bw0 (λcdv A outer s H E hr=>by
  exact⟨(ai6),(aN (bG (b8 d_without hr (a8 (tG B (b8 d_hearths_in hr (a8 (qv 0) aA))) (a8 (qv 1) aA))))),bi4⟩)
theorem bw2:FnScope ["web","around","burning"] ["web","around","burning"] (aV (aZ 24)):=.au
theorem bw3 (B:Bt mg)(F:FM K mg "kindling" 24 f fd)(d_hearths_in:Df P w K mg base 1 "hearths_in" ["web"] fN)(d_can_kindle:Df P w K mg base 2 "can_kindle" ["web","around","burning","hearth"] t8):Df P w K mg base 3 "kindling" ["web","around","burning"] qJ:=
 Df.au F bw2 (λcdv A outer s H E hr=>by
  exact⟨(ac2),(aN (bG (fL B (a8 (kI (N:=["hearth","web","around","burning"]) (fr:=[none,some 0,some 1,some 2]) (m7 rfl B.range (b8 d_hearths_in hr (a8 (qv 0) aA))) (λ_ _ _ _=>(kE (b8 d_can_kindle hr (a8 (qv 1) (a8 (qv 2) (a8 (qv 3) (a8 (qv 0) aA))))))) (λ_ _ _ _=>(qv 0))) aA)))),aX3⟩)
theorem aq6:FnScope ["web","around","block","inside"] ["web","around","block"] (aV (aZ 32)):=.au
theorem bw4 (B:Bt mg)(F:FM K mg "staying" 32 f fd)(d_marked:Df P w K mg base 1 "marked" ["hearths"] gU)(d_count_outside:Df P w K mg base 2 "count_outside" ["hearths","inside"] tN):Df P w K mg base 3 "staying" ["web","around","block"] tO:=
 Df.au F aq6 (λcdv A outer s H E hr=>by
  have nd:=aq6.nd
  exact⟨(af4),(aG (bI (i:=3) nd (b8 d_marked hr (a8 (qv 2) aA)))
   (aN (bG (fL B (a8 (kI (N:=["hearth","inside","around","web"]) (fr:=[none,some 3,some 1,some 0]) (dH (qv 2)) (λ_ _ _ _=>(kC (b8 d_count_outside hr (a8 (cC (qv 2) (qv 0)) (a8 (qv 1) aA))) (cC (cC (qv 3) aK) (qv 0)))) (λ_ _ _ _=>(qv 0))) aA))))),bc6⟩)
theorem bw5:FnScope ["many","links"] ["many","links"] (aV (aZ 46)):=.au
theorem bw6 (B:Bt mg)(F:FM K mg "linked_web" 46 f fd)(d_made_web:Df P w K mg base 2 "made_web" ["wants","links"] uI){u_MOST_HEARTHS:Nat}(m_MOST_HEARTHS:mg "MOST_HEARTHS" = some (.int 40 u_MOST_HEARTHS)):Df P w K mg base 3 "linked_web" ["many","links"] uJ:=
 Df.au F bw5 (λcdv A outer s H E hr=>by
  exact⟨(al6),(aG (cV (fJ (nN (kC (qv 0) aK) (nM (kD (qv 0) (tM rfl m_MOST_HEARTHS))))) (aN dX) dE)
   (aN (bG (b8 d_made_web hr (a8 (bb7 (kG (a8 aK aA)) (qv 0)) (a8 (qv 1) aA)))))),bn4⟩)
theorem bw7:FnScope ["web","hearths"] ["web","hearths"] (aV (aZ 15)):=.au
theorem bw8 (B:Bt mg)(F:FM K mg "made_set" 15 f fd)(d_is_set:Df P w K mg base 3 "is_set" ["web","numbers"] C2)(x_BadSet:Xc K mg base "BadSet"):bB P w K mg base 4 "made_set" ["web","hearths"] iD:=
 bB.au F bw7 ah4 bg3 (λcdv A outer s H E Ep hr hX=>by
  exact (aG (cV (m6 (kE (b8 d_is_set hr (a8 (qv 0) (a8 (qv 1) aA))))) (aN (ag7 hX x_BadSet (a8 V4 aA))) dE)
   (aN (bG (fL B (a8 (qv 1) aA))))))
theorem bw9:FnScope ["many","links"] ["many","links"] (aV (aZ 45)):=.au
theorem bx0 (B:Bt mg)(F:FM K mg "nearly_full_web" 45 f fd)(d_wanting_all_but:Df P w K mg base 2 "wanting_all_but" ["web","few"] oI)(d_linked_web:Df P w K mg base 3 "linked_web" ["many","links"] uJ):Df P w K mg base 4 "nearly_full_web" ["many","links"] uM:=
 Df.au F bw9 (λcdv A outer s H E hr=>by
  exact⟨(am8),(aN (bG (b8 d_wanting_all_but hr (a8 (b8 d_linked_web hr (a8 (qv 0) (a8 (qv 1) aA))) (a8 aK aA))))),bp0⟩)
theorem aq7:FnScope ["web","seeds","told","burning","around","lit"] ["web","seeds"] (aV (aZ 23)):=.au
theorem bx1 (B:Bt mg)(F:FM K mg "rounds" 23 f fd)(d_made_set:bB P w K mg base 4 "made_set" ["web","hearths"] iD)(d_marked:Df P w K mg base 1 "marked" ["hearths"] gU)(d_near_lists:Df P w K mg base 1 "near_lists" ["web"] j4)(d_kindling:Df P w K mg base 3 "kindling" ["web","around","burning"] qJ):bB P w K mg base 5 "rounds" ["web","seeds"] u5:=
 bB.au F aq7 ai2 bi0 (λcdv A outer s H E Ep hr hX=>by
  have nd:=aq7.nd
  exact (aG (i9 (i:=2) nd (kG (a8 (gX hX d_made_set hr (a8 (qv 0) (a8 (qv 1) aA))) aA)))
   (aG (i9 (i:=3) nd (b8 d_marked hr (a8 (cC (qv 2) aK) aA)))
   (aG (bI (i:=4) nd (b8 d_near_lists hr (a8 (qv 0) aA)))
   (aG (bI (i:=5) nd (b8 d_kindling hr (a8 (qv 0) (a8 (qv 4) (a8 (qv 3) aA)))))
   (aG (sK hX.own (sI (qv 5))
    (aG (nO 2 (qv 5))
    (aG (aQ9 3 (b8 d_marked hr (a8 (qv 5) aA)))
    (aN (bI (i:=5) nd (b8 d_kindling hr (a8 (qv 0) (a8 (qv 4) (a8 (qv 3) aA)))))))))
   (aN (lF 2))))))))
theorem aq8:FnScope ["web","block","chosen"] ["web","block"] (aV (aZ 30)):=.au
theorem bx2 (B:Bt mg)(F:FM K mg "is_cold" 30 f fd)(d_made_set:bB P w K mg base 4 "made_set" ["web","hearths"] iD)(d_staying:Df P w K mg base 3 "staying" ["web","around","block"] tO)(d_near_lists:Df P w K mg base 1 "near_lists" ["web"] j4):bB P w K mg base 5 "is_cold" ["web","block"] tY:=
 bB.au F aq8 ai0 bh8 (λcdv A outer s H E Ep hr hX=>by
  have nd:=aq8.nd
  have hu3:=E3 hr
  exact (aG (bI (i:=2) nd (gX hX d_made_set hr (a8 (qv 0) (a8 (qv 1) aA))))
   (aN (bG (X4 hu3 (b8 d_staying hr (a8 (qv 0) (a8 (b8 d_near_lists hr (a8 (qv 0) aA)) (a8 (qv 2) aA)))) (qv 2))))))
theorem aq9:FnScope ["web","some","around","left","kept"] ["web","some"] (aV (aZ 31)):=.au
theorem bx3 (B:Bt mg)(F:FM K mg "cold_within" 31 f fd)(d_near_lists:Df P w K mg base 1 "near_lists" ["web"] j4)(d_made_set:bB P w K mg base 4 "made_set" ["web","hearths"] iD):bB P w K mg base 5 "cold_within" ["web","some"] uP:=
 bB.au F aq9 an9 bq6 (λcdv A outer s H E Ep hr hX=>by
  have nd:=aq9.nd
  exact (aG (bI (i:=2) nd (b8 d_near_lists hr (a8 (qv 0) aA)))
   (aG (bI (i:=3) nd (gX hX d_made_set hr (a8 (qv 0) (a8 (qv 1) aA))))
   (aG dX
   (aG dX
   (aN dX))))))
theorem ar0:FnScope ["web","block","around","left","pieces","piece"] ["web","block"] (aV (aZ 33)):=.au
theorem bx4 (B:Bt mg)(F:FM K mg "cold_pieces" 33 f fd)(d_near_lists:Df P w K mg base 1 "near_lists" ["web"] j4)(d_made_set:bB P w K mg base 4 "made_set" ["web","hearths"] iD)(d_first_piece:Df P w K mg base 2 "first_piece" ["around","hearths"] uA)(d_without:Df P w K mg base 2 "without" ["hearths","some"] o9):bB P w K mg base 5 "cold_pieces" ["web","block"] uE:=
 bB.au F ar0 bk6 bk7 (λcdv A outer s H E Ep hr hX=>by
  have nd:=ar0.nd
  exact (aG (bI (i:=2) nd (b8 d_near_lists hr (a8 (qv 0) aA)))
   (aG (bI (i:=3) nd (gX hX d_made_set hr (a8 (qv 0) (a8 (qv 1) aA))))
   (aG (i9 (i:=4) nd (kG aA))
   (aG (sK hX.own (sI (qv 3))
    (aG (bI (i:=5) nd (b8 d_first_piece hr (a8 (qv 2) (a8 (qv 3) aA))))
    (aG (nO 4 (qv 5))
    (aN (bI (i:=3) nd (b8 d_without hr (a8 (qv 3) (a8 (qv 5) aA))))))))
   (aN (lF 4)))))))
theorem ar1:FnScope ["web","some","inside","link"] ["web","some"] (aV (aZ 48)):=.au
theorem bx5 (B:Bt mg)(F:FM K mg "link_in" 48 f fd)(d_marked:Df P w K mg base 1 "marked" ["hearths"] gU)(d_made_set:bB P w K mg base 4 "made_set" ["web","hearths"] iD):bB P w K mg base 5 "link_in" ["web","some"] uS:=
 bB.au F ar1 ao2 bq9 (λcdv A outer s H E Ep hr hX=>by
  have nd:=ar1.nd
  exact (aG (bI (i:=2) nd (b8 d_marked hr (a8 (gX hX d_made_set hr (a8 (qv 0) (a8 (qv 1) aA))) aA)))
   (aG dX
   (aN dX))))
theorem ar2:FnScope ["web","seeds","ranks","rank","lit","hearth"] ["web","seeds"] (aV (aZ 26)):=.au
theorem bx6 (B:Bt mg)(F:FM K mg "ranks_of" 26 f fd)(d_rounds:bB P w K mg base 5 "rounds" ["web","seeds"] u5):bB P w K mg base 6 "ranks_of" ["web","seeds"] u6:=
 bB.au F ar2 ai3 bi1 (λcdv A outer s H E Ep hr hX=>by
  have nd:=ar2.nd
  have hu:=l8 hr
  exact (aG (i9 (i:=2) nd V7)
   (aG (aQ7 3 4 (hp:=hX.own) nd (ae4 rfl B.enum (gX hX d_rounds hr (a8 (qv 0) (a8 (qv 1) aA))))
    (aN (gT 5 (hp:=hX.own) nd (dH (qv 4))
     (aN (xZ hu (i:=2) (qv 5) (qv 3))))))
   (aN (lF 2)))))
theorem ar3:FnScope ["web","some","whole","left","hearth","smaller"] ["web","some"] (aV (aZ 37)):=.au
theorem bx7 (B:Bt mg)(F:FM K mg "least_within" 37 f fd)(d_cold_within:bB P w K mg base 5 "cold_within" ["web","some"] uP):bB P w K mg base 6 "least_within" ["web","some"] uQ:=
 bB.au F ar3 ao0 bq7 (λcdv A outer s H E Ep hr hX=>by
  have nd:=ar3.nd
  exact (aG (bI (i:=2) nd (gX hX d_cold_within hr (a8 (qv 0) (a8 (qv 1) aA))))
   (aG dX
   (aG dX
   (aN dX)))))
theorem ar4:FnScope ["web","chosen","holds","place"] ["web","chosen"] (aV (aZ 40)):=.au
theorem bx8 (B:Bt mg)(F:FM K mg "holding_cold" 40 f fd)(d_holds_without_one:Df P w K mg base 1 "holds_without_one" ["holds","place","some"] oC)(d_is_cold:bB P w K mg base 5 "is_cold" ["web","block"] tY):bB P w K mg base 6 "holding_cold" ["web","chosen"] uC:=
 bB.au F ar4 aj8 bk0 (λcdv A outer s H E Ep hr hX=>by
  have nd:=ar4.nd
  exact (aG (i9 (i:=2) nd (kG (a8 gF aA)))
   (aG (gT 3 (hp:=hX.own) nd (V9 rfl B.range aK (dO B (a8 (qv 1) aA)))
    (aN (nO 2 (aP2 (b8 d_holds_without_one hr (a8 (qv 2) (a8 (qv 3) (a8 (cC (qv 1) (qv 3)) aA)))) (pX (gX hX d_is_cold hr (a8 (qv 0) (a8 (cC (qv 1) (qv 3)) aA))))))))
   (aN (lF 2)))))
theorem bx9:FnScope ["web"] ["web"] (aV (aZ 43)):=.au
theorem by0 (B:Bt mg)(F:FM K mg "all_pieces" 43 f fd)(d_cold_pieces:bB P w K mg base 5 "cold_pieces" ["web","block"] uE)(d_all_but:Df P w K mg base 3 "all_but" ["web","some"] u9):Df P w K mg base 6 "all_pieces" ["web"] uN:=
 Df.au F bx9 (λcdv A outer s H E hr=>by
  exact⟨(an5),(aN (bG (zY d_cold_pieces hr (a8 (qv 0) (a8 (b8 d_all_but hr (a8 (qv 0) (a8 (iY aA) aA))) aA))))),bq2⟩)
theorem by1:FnScope ["web","seeds"] ["web","seeds"] (aV (aZ 27)):=.au
theorem by2 (B:Bt mg)(F:FM K mg "burnt" 27 f fd)(d_ranks_of:bB P w K mg base 6 "ranks_of" ["web","seeds"] u6):bB P w K mg base 7 "burnt" ["web","seeds"] u7:=
 bB.au F by1 ai4 bi2 (λcdv A outer s H E Ep hr hX=>by
  exact (aN (bG (fL B (a8 (af8 B rfl (a8 (gX hX d_ranks_of hr (a8 (qv 0) (a8 (qv 1) aA))) aA)) aA)))))
theorem ar5:FnScope ["web","chosen","holds","found"] ["web"] (aV (aZ 38)):=.au
theorem by3 (B:Bt mg)(F:FM K mg "least_colds" 38 f fd)(d_searched_sets:bB P w K mg base 2 "searched_sets" ["web"] uB)(d_holding_cold:bB P w K mg base 6 "holding_cold" ["web","chosen"] uC)(d_holds_without_one:Df P w K mg base 1 "holds_without_one" ["holds","place","some"] oC):bB P w K mg base 7 "least_colds" ["web"] C4:=
 bB.au F ar5 al9 bn8 (λcdv A outer s H E Ep hr hX=>by
  have nd:=ar5.nd
  exact (aG (bI (i:=1) nd (gX hX d_searched_sets hr (a8 (qv 0) aA)))
   (aG (bI (i:=2) nd (gX hX d_holding_cold hr (a8 (qv 0) (a8 (qv 1) aA))))
   (aG (bb5 (i:=3) nd (N:=["place","some","holds"]) (fr:=[none,none,some 2]) (ae4 rfl B.enum (qv 1)) (λ_ _ _ _=>(fJ (iX (sI (cC (qv 2) (qv 0))) (kF (m6 (kE (b8 d_holds_without_one hr (a8 (qv 2) (a8 (qv 0) (a8 (qv 1) aA)))))))))) (λ_ _ _ _=>(qv 1)))
   (aN (bG (ac6 B (a8 (qv 3) aA))))))))
theorem ar6:FnScope ["web","some","block","inside","around","row","left"] ["web","some"] (aV (aZ 49)):=.au
theorem by4 (B:Bt mg)(F:FM K mg "round_in" 49 f fd)(d_least_within:bB P w K mg base 6 "least_within" ["web","some"] uQ)(d_wanting_all_but:Df P w K mg base 2 "wanting_all_but" ["web","few"] oI):bB P w K mg base 7 "round_in" ["web","some"] uR:=
 bB.au F ar6 ao1 bq8 (λcdv A outer s H E Ep hr hX=>by
  have nd:=ar6.nd
  exact (aG (bI (i:=2) nd (gX hX d_least_within hr (a8 (b8 d_wanting_all_but hr (a8 (qv 0) (a8 aK aA))) (a8 (qv 1) aA))))
   (aG dX
   (aG dX
   (aG dX
   (aG dX
   (aG dX
   (aN dX))))))))
theorem by5:FnScope ["web"] ["web"] (aV (aZ 50)):=.au
theorem by6 (B:Bt mg)(F:FM K mg "measure_of" 50 f fd)(d_hearths_in:Df P w K mg base 1 "hearths_in" ["web"] fN)(d_all_pieces:Df P w K mg base 6 "all_pieces" ["web"] uN):Df P w K mg base 7 "measure_of" ["web"] qX:=
 Df.au F by5 (λcdv A outer s H E hr=>by
  exact⟨(an6),(aN (bG (gR (kB (dO B (a8 (cC (qv 0) aK) aA)) (b8 d_hearths_in hr (a8 (qv 0) aA))) (dO B (a8 (b8 d_all_pieces hr (a8 (qv 0) aA)) aA))))),bq3⟩)
theorem by7:FnScope ["web","seeds"] ["web","seeds"] (aV (aZ 28)):=.au
theorem by8 (B:Bt mg)(F:FM K mg "lights_all" 28 f fd)(d_burnt:bB P w K mg base 7 "burnt" ["web","seeds"] u7)(d_hearths_in:Df P w K mg base 1 "hearths_in" ["web"] fN):bB P w K mg base 8 "lights_all" ["web","seeds"] u8:=
 bB.au F by7 ai5 bi3 (λcdv A outer s H E Ep hr hX=>by
  exact (aN (bG (aO9 (dO B (a8 (gX hX d_burnt hr (a8 (qv 0) (a8 (qv 1) aA))) aA)) (b8 d_hearths_in hr (a8 (qv 0) aA))))))
theorem ar7:FnScope ["web","some","way","caught","e"] ["web","some","way"] (aV (aZ 62)):=.au
theorem by9 (B:Bt mg)(F:FM K mg "_law_refused" 62 f fd)(d_link_in:bB P w K mg base 5 "link_in" ["web","some"] uS)(d_round_in:bB P w K mg base 7 "round_in" ["web","some"] uR)(cat_HearthError:A1 K mg "HearthError")(is_BadSet:A3 K mg "BadSet"):Df P w K mg base 8 "_law_refused" ["web","some","way"] qY:=
 Df.au F ar7 (λcdv A outer s H E hr=>by
  have nd:=ar7.nd
  exact⟨(ao3),(aG (bI (i:=3) nd gF)
   (aG (bf5 4 cat_HearthError nd (bf3 (λ_=>(iW (qv 2) aK)) (ag9 d_link_in hr (λ_=>(a8 (qv 0) (a8 (qv 1) aA)))) (ag9 d_round_in hr (λ_=>(a8 (qv 0) (a8 (qv 1) aA))))) (λ_=>(aN (bI (i:=3) nd (bg0 B is_BadSet (qv 4))))))
   (aN (lF 3)))),br0⟩)
theorem ar8:FnScope ["script","many","links","web","pieces","found","seeds","hearth","degrees","odd"] ["script"] (aV (aZ 63)):=.au
theorem bz0 (B:Bt mg)(F:fX K "law" "law" (aZ 63) f fd)(d__law_many:Df P w K mg base 1 "_law_many" ["cell"] tZ)(d__law_cell_at:Df P w K mg base 1 "_law_cell_at" ["script","k"] o4)(d__law_links:Df P w K mg base 2 "_law_links" ["flow","many"] uK)(d_nearly_full_web:Df P w K mg base 4 "nearly_full_web" ["many","links"] uM)(d__law_piece:Df P w K mg base 1 "_law_piece" ["links","some","first"] oK)(d_measure_of:Df P w K mg base 7 "measure_of" ["web"] qX)(d__law_stir:Df P w K mg base 1 "_law_stir" ["cell","k"] lM)(d__law_whole:Df P w K mg base 1 "_law_whole" ["found"] tE)(d__law_some:Df P w K mg base 2 "_law_some" ["cell","many"] tT)(d_lights_all:bB P w K mg base 8 "lights_all" ["web","seeds"] u8)(d__law_odd_set:Df P w K mg base 1 "_law_odd_set" ["some","many","cell"] tW)(d__law_refused:Df P w K mg base 8 "_law_refused" ["web","some","way"] qY)(d_least_colds:bB P w K mg base 7 "least_colds" ["web"] C4)(d__law_parts:Df P w K mg base 1 "_law_parts" ["some"] mH)(d__law_is_round:Df P w K mg base 2 "_law_is_round" ["links","part"] uT):dQ P w K mg base eW 9 f fd ["script"] (pP K E2):=
 aZ1 F ar8 (λxs Q h=>by unfold E2 at h;repeat (first|(obtain⟨rfl,_⟩:=h;rfl)|(obtain⟨_,h⟩:=h))) (λcdv A outer s H E hr=>by
  have nd:=ar8.nd
  have hu3:=E3 hr
  exact⟨(ao9),(aG (bI (i:=1) nd (b8 d__law_many hr (a8 (b8 d__law_cell_at hr (a8 (qv 0) (a8 aK aA))) aA)))
   (aG (bI (i:=2) nd (b8 d__law_links hr (a8 (yF (qv 0) (yE aK) yD) (a8 (qv 1) aA))))
   (aG (bI (i:=3) nd (b8 d_nearly_full_web hr (a8 (qv 1) (a8 (qv 2) aA))))
   (aG (aQ8 (i:=4) nd (N:=["hearth","links","many"]) (fr:=[none,some 2,some 1]) (m7 rfl B.range (qv 1)) (λ_ _ _ _=>(iW (cC (b8 d__law_piece hr (a8 (qv 1) (a8 (tG B (qv 2)) (a8 (qv 0) aA)))) aK) (qv 0))) (λ_ _ _ _=>(qv 0)))
   (aG (bI (i:=5) nd (b8 d_measure_of hr (a8 (iY (a8 (fL B (a8 (lG (N:=["k"]) (fr:=[none]) (m7 rfl B.range (qv 1)) (λ_ _ _ _=>(dG (b8 d__law_stir hr (a8 (qv 0) (a8 (qv 0) aA))) aK))) aA)) (a8 (cC (qv 3) aK) aA))) aA)))
   (aG (cV (xW (b8 d_measure_of hr (a8 (qv 3) aA)) (qv 5)) (aN (bG gF)) dE)
   (aG (cV (fJ (nN (m6 (kE (b8 d__law_whole hr (a8 (qv 5) aA)))) (nM (xW (qv 5) (gR (kB (dO B (a8 (qv 2) aA)) (qv 1)) (dO B (a8 (qv 4) aA))))))) (aN (bG gF)) dE)
   (aG (i9 (i:=6) nd (yA B (a8 (b8 d__law_some hr (a8 (b8 d__law_cell_at hr (a8 (qv 0) (a8 aK aA))) (a8 (qv 1) aA))) aA)))
   (aG (gT 7 nd (m7 rfl B.range (qv 1))
    (aN (cV (fJ (iX (X0 (qv 7) (qv 6)) (kF (m6 (kE (zY d_lights_all hr (a8 (qv 3) (a8 (fL B (a8 (ad6 B (a8 (qv 6) aA)) aA)) aA)))))))) (aN (nO 6 (qv 7))) dE)))
   (aG (aP5 6 (bh6 (i:=8) nd (N:=["hearth","links"]) (fr:=[none,some 2]) (dH (qv 6)) (λ_ _ _ _=>(dO B (a8 (kI (N:=["pair","hearth"]) (fr:=[none,some 0]) (dH (qv 1)) (λ_ _ _ _=>(nP (qv 1) (qv 0))) (λ_ _ _ _=>(qv 0))) aA)))))
   (aG (cV (kC (be2 B rfl (a8 (lG (N:=["degree"]) (fr:=[none]) (dH (qv 8)) (λ_ _ _ _=>(yB B rfl (a8 aK (a8 (kB (qv 0) aK) aA))))) aA)) (qv 5)) (aN (bG gF)) dE)
   (aG (bI (i:=9) nd (b8 d__law_odd_set hr (a8 (fL B (a8 (ad6 B (a8 (qv 6) aA)) aA)) (a8 (qv 1) (a8 (b8 d__law_cell_at hr (a8 (qv 0) (a8 aK aA))) aA)))))
   (aG (cV (fJ (nN (m6 (kE (b8 d__law_refused hr (a8 (qv 3) (a8 (qv 9) (a8 aK aA)))))) (nM (m6 (kE (b8 d__law_refused hr (a8 (qv 3) (a8 (qv 9) (a8 aK aA))))))))) (aN (bG gF)) dE)
   (aG (cV (kD (qv 1) aK) (aN (bG gF)) dE)
   (aN (bG (X4 hu3 (zY d_least_colds hr (a8 (qv 3) aA)) (ac6 B (a8 (kI (N:=["part","links"]) (fr:=[none,some 2]) (dH (b8 d__law_parts hr (a8 (tG B (qv 1)) aA))) (λ_ _ _ _=>(kE (b8 d__law_is_round hr (a8 (qv 1) (a8 (qv 0) aA))))) (λ_ _ _ _=>(qv 0))) aA))))))))))))))))))),br8⟩)
end
set_option autoImplicit true in
theorem bz1 {l:OpenLaw}{w:World}{K:Frag}{h:Heap}{mg:Str->Option Value}(X:K.In h)(G:h.Ns mainGlobals mg)(hfa:mg "law" = some (.ref fa))(h0:FK K "lesser_first" 9 f0 d0)(h1:FK K "rises" 10 f1 d1)(h2:FK K "hearths_in" 11 f2 d2)(h3:FK K "near_lists" 12 f3 d3)(h4:FK K "sets_among" 16 f4 d4)(h5:FK K "marked" 17 f5 d5)(h6:FK K "count_inside" 18 f6 d6)(h7:FK K "holds_without_one" 41 f7 d7)(h8:FK K "_law_cell_at" 52 f8 d8)(h9:FK K "_law_whole" 53 f9 d9)(h10:FK K "_law_stir" 54 f10 d10)(h11:FK K "_law_many" 56 f11 d11)(h12:FK K "_law_odd_set" 58 f12 d12)(h13:FK K "_law_piece" 59 f13 d13)(h14:FK K "_law_parts" 60 f14 d14)(h15:FK K "made_web" 8 f15 d15)(h16:FK K "is_hearth" 13 f16 d16)(h17:FK K "count_outside" 19 f17 d17)(h18:FK K "without" 20 f18 d18)(h19:FK K "can_kindle" 25 f19 d19)(h20:FK K "first_piece" 34 f20 d20)(h21:FK K "searched_sets" 39 f21 d21)(h22:FK K "wanting_all_but" 47 f22 d22)(h23:FK K "_law_some" 55 f23 d23)(h24:FK K "_law_links" 57 f24 d24)(h25:FK K "_law_is_round" 61 f25 d25)(h26:FK K "is_set" 14 f26 d26)(h27:FK K "all_but" 21 f27 d27)(h28:FK K "kindling" 24 f28 d28)(h29:FK K "staying" 32 f29 d29)(h30:FK K "linked_web" 46 f30 d30)(h31:FK K "made_set" 15 f31 d31)(h32:FK K "nearly_full_web" 45 f32 d32)(h33:FK K "rounds" 23 f33 d33)(h34:FK K "is_cold" 30 f34 d34)(h35:FK K "cold_within" 31 f35 d35)(h36:FK K "cold_pieces" 33 f36 d36)(h37:FK K "link_in" 48 f37 d37)(h38:FK K "ranks_of" 26 f38 d38)(h39:FK K "least_within" 37 f39 d39)(h40:FK K "holding_cold" 40 f40 d40)(h41:FK K "all_pieces" 43 f41 d41)(h42:FK K "burnt" 27 f42 d42)(h43:FK K "least_colds" 38 f43 d43)(h44:FK K "round_in" 49 f44 d44)(h45:FK K "measure_of" 50 f45 d45)(h46:FK K "lights_all" 28 f46 d46)(h47:FK K "_law_refused" 62 f47 d47)(a48:nsIn K mainGlobals "law" = some (some (.ref f48)))(l48:K.lookup f48=some ⟨oc48,od48,.func (fnOf "law" "law" (jT (aZ 63)) (eV (aZ 63)) (aV (aZ 63)) .none kV48 dc48 pm48 an48 cd48 ct48),sl48⟩)(c48:codeIn K cd48 "law" = true)(k48:keepIn K (.ref f48)=true)(z_len:nsIn K mainGlobals "len" = some none)(z_range:nsIn K mainGlobals "range" = some none)(z_tuple:nsIn K mainGlobals "tuple" = some none)(z_list:nsIn K mainGlobals "list" = some none)(z_sorted:nsIn K mainGlobals "sorted" = some none)(z_all:nsIn K mainGlobals "all" = some none)(z_any:nsIn K mainGlobals "any" = some none)(z_zip:nsIn K mainGlobals "zip" = some none)(z_min:nsIn K mainGlobals "min" = some none)(z_max:nsIn K mainGlobals "max" = some none)(z_sum:nsIn K mainGlobals "sum" = some none)(z_isinstance:nsIn K mainGlobals "isinstance" = some none)(z_int:nsIn K mainGlobals "int" = some none)(z_bool:nsIn K mainGlobals "bool" = some none)(z_enumerate:nsIn K mainGlobals "enumerate" = some none){u_MOST_HEARTHS:Nat}(z_MOST_HEARTHSx:nsIn K mainGlobals "MOST_HEARTHS" = some (some (.int 40 u_MOST_HEARTHS))){u_MOST_SEARCHED:Nat}(z_MOST_SEARCHEDx:nsIn K mainGlobals "MOST_SEARCHED" = some (some (.int 12 u_MOST_SEARCHED))){u_MOST_WANTED:Nat}(z_MOST_WANTEDx:nsIn K mainGlobals "MOST_WANTED" = some (some (.int 60 u_MOST_WANTED))){C_HearthError C_BadWeb C_BadSet C_TooMany:Addr}(aX_HE:nsIn K mainGlobals "HearthError" = some (some (.ref C_HearthError)))(aX_BW:nsIn K mainGlobals "BadWeb" = some (some (.ref C_BadWeb)))(aX_BS:nsIn K mainGlobals "BadSet" = some (some (.ref C_BadSet)))(aX_TM:nsIn K mainGlobals "TooMany" = some (some (.ref C_TooMany)))(zX_BO:nsIn K mainGlobals "BadOrder" = some none)(zX_BP:nsIn K mainGlobals "BadPrices" = some none)(zX_BB:nsIn K mainGlobals "BadBoard" = some none)(zX_BD:nsIn K mainGlobals "BadDeed" = some none)(zX_NW:nsIn K mainGlobals "NotWood" = some none)(zX_NP:nsIn K mainGlobals "NoPaper" = some none)(zX_NS:nsIn K mainGlobals "NoSuch" = some none)(zX_NT:nsIn K mainGlobals "NoText" = some none)(zX_OR:nsIn K mainGlobals "OddRound" = some none)(y_fg:specialIn K (.builtin "object.__class__") "__get__" = some (some (.builtin "getset_descriptor.__get__")))(y_ft:takesIn K (.builtin "object.__class__")=some true)(z_VE:nsIn K mainGlobals "ValueError" = some none)(y1_HE:isClsIn K C_HearthError=true)(y2_HE:typeIn K (.ref C_HearthError)=some (.type "type"))(y3_HE:findIn K (.ref C_HearthError) "__getattribute__" = some (some (.builtin "BaseException.__getattribute__")))(y4_HE:findIn K (.ref C_HearthError) "__getattr__" = some none)(y5_HE:findIn K (.ref C_HearthError) "__class__" = some (some (.builtin "object.__class__")))(y6_HE:mroIn K C_HearthError (.type "object")=some true)(y7_HE:mroIn K C_HearthError (.type "BaseException")=some true)(y1_BW:isClsIn K C_BadWeb=true)(y2_BW:typeIn K (.ref C_BadWeb)=some (.type "type"))(y3_BW:findIn K (.ref C_BadWeb) "__getattribute__" = some (some (.builtin "BaseException.__getattribute__")))(y4_BW:findIn K (.ref C_BadWeb) "__getattr__" = some none)(y5_BW:findIn K (.ref C_BadWeb) "__class__" = some (some (.builtin "object.__class__")))(y6_BW:mroIn K C_BadWeb (.type "object")=some true)(y7_BW:mroIn K C_BadWeb (.type "BaseException")=some true)(y1_BS:isClsIn K C_BadSet=true)(y2_BS:typeIn K (.ref C_BadSet)=some (.type "type"))(y3_BS:findIn K (.ref C_BadSet) "__getattribute__" = some (some (.builtin "BaseException.__getattribute__")))(y4_BS:findIn K (.ref C_BadSet) "__getattr__" = some none)(y5_BS:findIn K (.ref C_BadSet) "__class__" = some (some (.builtin "object.__class__")))(y6_BS:mroIn K C_BadSet (.type "object")=some true)(y7_BS:mroIn K C_BadSet (.type "BaseException")=some true)(y1_TM:isClsIn K C_TooMany=true)(y2_TM:typeIn K (.ref C_TooMany)=some (.type "type"))(y3_TM:findIn K (.ref C_TooMany) "__getattribute__" = some (some (.builtin "BaseException.__getattribute__")))(y4_TM:findIn K (.ref C_TooMany) "__getattr__" = some none)(y5_TM:findIn K (.ref C_TooMany) "__class__" = some (some (.builtin "object.__class__")))(y6_TM:mroIn K C_TooMany (.type "object")=some true)(y7_TM:mroIn K C_TooMany (.type "BaseException")=some true)(sB_HE:subIn K (.ref C_HearthError) (.type "BaseException")=some true)(s_BW_HE:subIn K (.ref C_BadWeb) (.ref C_HearthError)=some true)(s_BS_HE:subIn K (.ref C_BadSet) (.ref C_HearthError)=some true)(s_TM_HE:subIn K (.ref C_TooMany) (.ref C_HearthError)=some true)(sN_BS:subIn K (.type "NoneType") (.ref C_BadSet)=some false)(s_BW_BS:subIn K (.ref C_BadWeb) (.ref C_BadSet)=some false)(n_BW_BS:(C_BadWeb==C_BadSet)=false)(s_TM_BS:subIn K (.ref C_TooMany) (.ref C_BadSet)=some false)(n_TM_BS:(C_TooMany==C_BadSet)=false)(q_BS:excIn K C_BadSet [.type "ValueError",.type "Exception",.type "BaseException",.type "object"] "ValueError.__new__" = true)(q_TM:excIn K C_TooMany [.type "ValueError",.type "Exception",.type "BaseException",.type "object"] "ValueError.__new__" = true)
 :∃fd:FuncData,(∀(s:Shared) (v:Value),BindsTo s fd ⟨[v],[]⟩ [("script",v)])/\∀base:Heap,K.In base->base.Ns mainGlobals mg->dQ l.prog w K mg base eW 9 fa fd ["script"] (tJ K):=by
 have e:=hfa.symm.trans (mg_of X G a48)
 cases e
 have F48:=aF0 (st:=aZ 63) l48 c48 k48
 have m48:=mg_of X G a48
 have B:Bt mg:=⟨mg_none_of X G z_len,mg_none_of X G z_range,mg_none_of X G z_tuple,mg_none_of X G z_list,mg_none_of X G z_sorted,mg_none_of X G z_all,mg_none_of X G z_any,mg_none_of X G z_zip,mg_none_of X G z_min,mg_none_of X G z_max,mg_none_of X G z_sum,mg_none_of X G z_isinstance,mg_none_of X G z_int,mg_none_of X G z_bool,mg_none_of X G z_enumerate⟩
 have m_MOST_HEARTHS:=mg_of X G z_MOST_HEARTHSx
 have m_MOST_SEARCHED:=mg_of X G z_MOST_SEARCHEDx
 have m_MOST_WANTED:=mg_of X G z_MOST_WANTEDx
 refine⟨fnOf "law" "law" (jT (aZ 63)) (eV (aZ 63)) (aV (aZ 63)) .none kV48 dc48 pm48 an48 cd48 ct48,λs v=>.of_eq rfl,λbase KB _=>?_⟩
 have XK_HearthError:lK K C_HearthError:=⟨y1_HE,y2_HE,y3_HE,y4_HE,y5_HE,y_fg,y_ft,y6_HE,y7_HE⟩
 have XK_BadWeb:lK K C_BadWeb:=⟨y1_BW,y2_BW,y3_BW,y4_BW,y5_BW,y_fg,y_ft,y6_BW,y7_BW⟩
 have XK_BadSet:lK K C_BadSet:=⟨y1_BS,y2_BS,y3_BS,y4_BS,y5_BS,y_fg,y_ft,y6_BS,y7_BS⟩
 have XK_TooMany:lK K C_TooMany:=⟨y1_TM,y2_TM,y3_TM,y4_TM,y5_TM,y_fg,y_ft,y6_TM,y7_TM⟩
 have cat_HearthError:A1 K mg "HearthError":=⟨C_HearthError,mg_of X G aX_HE,⟨y1_HE,y2_HE,sB_HE⟩,λn C h2 h1=>by
  obtain⟨hm,hb⟩:=ah2 h2
  simp only[tR,bA7,bB7,bF2]at hm
  rcases hm with rfl|rfl|rfl|rfl|rfl|rfl|rfl|rfl|rfl|rfl|rfl|rfl
  ·rw[aX_BW]at h1;cases h1;exact s_BW_HE
  ·rw[aX_BS]at h1;cases h1;exact s_BS_HE
  ·rw[zX_BO]at h1;cases h1
  ·rw[zX_BP]at h1;cases h1
  ·rw[zX_BB]at h1;cases h1
  ·rw[zX_BD]at h1;cases h1
  ·rw[zX_NW]at h1;cases h1
  ·rw[zX_NP]at h1;cases h1
  ·rw[zX_NS]at h1;cases h1
  ·rw[aX_TM]at h1;cases h1;exact s_TM_HE
  ·rw[zX_NT]at h1;cases h1
  ·rw[zX_OR]at h1;cases h1⟩
 have is_BadSet:A3 K mg "BadSet":=⟨C_BadSet,mg_of X G aX_BS,λz=>(by cases z),(λn C b h1 h2=>by
  obtain⟨hm,hb⟩:=ah2 h2
  simp only[tR,bA7,bB7,bF2]at hm
  rcases hm with rfl|rfl|rfl|rfl|rfl|rfl|rfl|rfl|rfl|rfl|rfl|rfl
  ·rw[aX_BW]at h1;cases h1;rw[hb,show (("BadWeb":Str)=="BadSet"||("BadSet":Str)=="HearthError"||("BadSet":Str)=="ValueError")=false by decide];exact⟨XK_BadWeb.exc,ah3 XK_BadSet n_BW_BS s_BW_BS⟩
  ·rw[aX_BS]at h1;cases h1;rw[hb,show (("BadSet":Str)=="BadSet"||("BadSet":Str)=="HearthError"||("BadSet":Str)=="ValueError")=true by decide];exact⟨XK_BadSet.exc,bg1⟩
  ·rw[zX_BO]at h1;cases h1
  ·rw[zX_BP]at h1;cases h1
  ·rw[zX_BB]at h1;cases h1
  ·rw[zX_BD]at h1;cases h1
  ·rw[zX_NW]at h1;cases h1
  ·rw[zX_NP]at h1;cases h1
  ·rw[zX_NS]at h1;cases h1
  ·rw[aX_TM]at h1;cases h1;rw[hb,show (("TooMany":Str)=="BadSet"||("BadSet":Str)=="HearthError"||("BadSet":Str)=="ValueError")=false by decide];exact⟨XK_TooMany.exc,ah3 XK_BadSet n_TM_BS s_TM_BS⟩
  ·rw[zX_NT]at h1;cases h1
  ·rw[zX_OR]at h1;cases h1),bg2 XK_BadSet sN_BS⟩
 have x_BadSet:Xc K mg base "BadSet":=⟨C_BadSet,_,_,_,_,ah1 KB (mg_of X G aX_BS) q_BS,PySem.F.excBase_ValueError,aX_BS⟩
 have x_TooMany:Xc K mg base "TooMany":=⟨C_TooMany,_,_,_,_,ah1 KB (mg_of X G aX_TM) q_TM,PySem.F.excBase_ValueError,aX_TM⟩
 have D0:=bs0 (P:=l.prog) (w:=w) (base:=base) B (h0.M X G)
 have D1:=bs2 (P:=l.prog) (w:=w) (base:=base) B (h1.M X G)
 have D2:=bs4 (P:=l.prog) (w:=w) (base:=base) B (h2.M X G)
 have D3:=aY5 (br9 (P:=l.prog) (w:=w) (mg:=mg) (base:=base) h3.F) (h3.F.binds (ps:=["web"]) λ_ _ _ _ _ _ us hl=>by obtain⟨_,rfl⟩:=tS hl;rfl) h3.F.kp (mg_of X G h3.a)
 have D4:=bs5 (P:=l.prog) (w:=w) (base:=base) B (h4.M X G)
 have D5:=bs6 (P:=l.prog) (w:=w) (base:=base) B (h5.M X G)
 have D6:=bs8 (P:=l.prog) (w:=w) (base:=base) B (h6.M X G)
 have D7:=bt0 (P:=l.prog) (w:=w) (base:=base) B (h7.M X G)
 have D8:=bt2 (P:=l.prog) (w:=w) (base:=base) B (h8.M X G)
 have D9:=bt4 (P:=l.prog) (w:=w) (base:=base) B (h9.M X G)
 have D10:=bt5 (P:=l.prog) (w:=w) (base:=base) B (h10.M X G)
 have D11:=bt7 (P:=l.prog) (w:=w) (base:=base) B (h11.M X G)
 have D12:=bt8 (P:=l.prog) (w:=w) (base:=base) B (h12.M X G)
 have D13:=bt9 (P:=l.prog) (w:=w) (base:=base) B (h13.M X G)
 have D14:=bu0 (P:=l.prog) (w:=w) (base:=base) B (h14.M X G)
 have D15:=bu1 (P:=l.prog) (w:=w) (base:=base) B (h15.M X G) D0 D1 m_MOST_HEARTHS m_MOST_WANTED
 have D16:=bu3 (P:=l.prog) (w:=w) (base:=base) B (h16.M X G) D2
 have D17:=bu5 (P:=l.prog) (w:=w) (base:=base) B (h17.M X G) D6
 have D18:=bu6 (P:=l.prog) (w:=w) (base:=base) B (h18.M X G) D5
 have D19:=bu8 (P:=l.prog) (w:=w) (base:=base) B (h19.M X G) D6
 have D20:=bu9 (P:=l.prog) (w:=w) (base:=base) B (h20.M X G) D5
 have D21:=bv1 (P:=l.prog) (w:=w) (base:=base) B (h21.M X G) D2 D4 x_TooMany m_MOST_SEARCHED
 have D22:=bv3 (P:=l.prog) (w:=w) (base:=base) B (h22.M X G) D3
 have D23:=bv5 (P:=l.prog) (w:=w) (base:=base) B (h23.M X G) D10
 have D24:=bv6 (P:=l.prog) (w:=w) (base:=base) B (h24.M X G) D10
 have D25:=bv7 (P:=l.prog) (w:=w) (base:=base) B (h25.M X G) D13
 have D26:=bv9 (P:=l.prog) (w:=w) (base:=base) B (h26.M X G) D1 D16
 have D27:=bw1 (P:=l.prog) (w:=w) (base:=base) B (h27.M X G) D18 D2
 have D28:=bw3 (P:=l.prog) (w:=w) (base:=base) B (h28.M X G) D2 D19
 have D29:=bw4 (P:=l.prog) (w:=w) (base:=base) B (h29.M X G) D5 D17
 have D30:=bw6 (P:=l.prog) (w:=w) (base:=base) B (h30.M X G) D15 m_MOST_HEARTHS
 have D31:=bw8 (P:=l.prog) (w:=w) (base:=base) B (h31.M X G) D26 x_BadSet
 have D32:=bx0 (P:=l.prog) (w:=w) (base:=base) B (h32.M X G) D22 D30
 have D33:=bx1 (P:=l.prog) (w:=w) (base:=base) B (h33.M X G) D31 D5 D3 D28
 have D34:=bx2 (P:=l.prog) (w:=w) (base:=base) B (h34.M X G) D31 D29 D3
 have D35:=bx3 (P:=l.prog) (w:=w) (base:=base) B (h35.M X G) D3 D31
 have D36:=bx4 (P:=l.prog) (w:=w) (base:=base) B (h36.M X G) D3 D31 D20 D18
 have D37:=bx5 (P:=l.prog) (w:=w) (base:=base) B (h37.M X G) D5 D31
 have D38:=bx6 (P:=l.prog) (w:=w) (base:=base) B (h38.M X G) D33
 have D39:=bx7 (P:=l.prog) (w:=w) (base:=base) B (h39.M X G) D35
 have D40:=bx8 (P:=l.prog) (w:=w) (base:=base) B (h40.M X G) D7 D34
 have D41:=by0 (P:=l.prog) (w:=w) (base:=base) B (h41.M X G) D36 D27
 have D42:=by2 (P:=l.prog) (w:=w) (base:=base) B (h42.M X G) D38
 have D43:=by3 (P:=l.prog) (w:=w) (base:=base) B (h43.M X G) D21 D40 D7
 have D44:=by4 (P:=l.prog) (w:=w) (base:=base) B (h44.M X G) D39 D22
 have D45:=by6 (P:=l.prog) (w:=w) (base:=base) B (h45.M X G) D2 D41
 have D46:=by8 (P:=l.prog) (w:=w) (base:=base) B (h46.M X G) D42 D2
 have D47:=by9 (P:=l.prog) (w:=w) (base:=base) B (h47.M X G) D37 D44 cat_HearthError is_BadSet
 exact aZ2 (bz0 B F48 D11 D8 D24 D32 D13 D45 D10 D9 D23 D46 D12 D47 D43 D14 D25)
theorem bz2 {l:OpenLaw}{q:Program}{loose:List Str}{XP:(Str->Option Value)->Heap->Prop}{YP:World->Heap->Prop}{d:DefRec}{K:Params->Frag}(hn:l.most=some 63)(hdf:d.params.defaults = [])(hY:∀(w:World) (h:Heap),YP w h->(K w.params).In h)(F:∀(w:World) (mg:Str->Option Value) (fa:Addr) (h:Heap),(K w.params).In h->h.Ns mainGlobals mg->mg d.name=some (.ref fa)->
   ∃fd:FuncData,(∀(s:Shared) (u:Value),BindsTo s fd ⟨[u],[]⟩ [("script",u)])/\∀base:Heap,(K w.params).In base->base.Ns mainGlobals mg->dQ l.prog w (K w.params) mg base eW 9 fa fd ["script"] (tJ (K w.params))) :
  WalkO q loose XP YP l.row.toRowW d [] (λf vs=>PySem.call f vs):=
 L2.aE8 (n:=63) (k:=9) (x:="script") (CX:=λ_=>eW) (sp:=λw=>tJ (K w.params)) hn (by decide) hdf ⟨rfl,by decide,by decide⟩ hY F (λ_ _ a ns hl hO hS=>⟨a,ns,rfl,aZ3 hO hS,hl,λ_=>rfl⟩) λ_ _ _ _ _ z=>z
end K_k78
open PySem PySem.W PyProof.Rows
theorem PySem.W.Fast.te13052408679150730464 : True := trivial
theorem PySem.W.Fast.te16555476440528808052 : True := trivial
theorem PySem.W.Fast.te5369427470323729400 : True := trivial
set_option maxRecDepth 100000 in
set_option maxHeartbeats 0 in
theorem PySem.Challenge.cw_kindleweb_k78_whole_measures_holds : PySem.Challenge.rw_kindleweb_k78_whole_measures.Holds := by
 w_on;o_law;k_head;(case hw => w_witness2)
 k_fill
 refine K_k78.bz2 (l := PySem.Challenge.rw_kindleweb_k78_whole_measures) rfl rfl (λw h Y => PySem.W.kIn_of Y) ?F
 case F =>
  intro w mg fa h KX G hmg
  refine' K_k78.bz1 KX G hmg ?h0 ?h1 ?h2 ?h3 ?h4 ?h5 ?h6 ?h7 ?h8 ?h9 ?h10 ?h11 ?h12 ?h13 ?h14 ?h15 ?h16 ?h17 ?h18 ?h19 ?h20 ?h21 ?h22 ?h23 ?h24 ?h25 ?h26 ?h27 ?h28 ?h29 ?h30 ?h31 ?h32 ?h33 ?h34 ?h35 ?h36 ?h37 ?h38 ?h39 ?h40 ?h41 ?h42 ?h43 ?h44 ?h45 ?h46 ?h47 ?a48 ?l48 ?c48 ?k48 ?z_len ?z_range ?z_tuple ?z_list ?z_sorted ?z_all ?z_any ?z_zip ?z_min ?z_max ?z_sum ?z_isinstance ?z_int ?z_bool ?z_enumerate ?z_MOST_HEARTHSx ?z_MOST_SEARCHEDx ?z_MOST_WANTEDx ?aX_HE ?aX_BW ?aX_BS ?aX_TM ?zX_BO ?zX_BP ?zX_BB ?zX_BD ?zX_NW ?zX_NP ?zX_NS ?zX_NT ?zX_OR ?y_fg ?y_ft ?z_VE ?y1_HE ?y2_HE ?y3_HE ?y4_HE ?y5_HE ?y6_HE ?y7_HE ?y1_BW ?y2_BW ?y3_BW ?y4_BW ?y5_BW ?y6_BW ?y7_BW ?y1_BS ?y2_BS ?y3_BS ?y4_BS ?y5_BS ?y6_BS ?y7_BS ?y1_TM ?y2_TM ?y3_TM ?y4_TM ?y5_TM ?y6_TM ?y7_TM ?sB_HE ?s_BW_HE ?s_BS_HE ?s_TM_HE ?sN_BS ?s_BW_BS ?n_BW_BS ?s_TM_BS ?n_TM_BS ?q_BS ?q_TM
  (case h0|h1|h2|h3|h4|h5|h6|h7|h8|h9|h10|h11|h12|h13|h14|h15|h16|h17|h18|h19|h20|h21|h22|h23|h24|h25|h26|h27|h28|h29|h30|h31|h32|h33|h34|h35|h36|h37|h38|h39|h40|h41|h42|h43|h44|h45|h46|h47 => exact⟨by k_is, ⟨⟨_, _, _, _, _, _, _, _, _, rfl, by k_is, by k_is⟩, by k_is⟩⟩)
  (case a48|l48|c48|k48|z_len|z_range|z_tuple|z_list|z_sorted|z_all|z_any|z_zip|z_min|z_max|z_sum|z_isinstance|z_int|z_bool|z_enumerate|z_MOST_HEARTHSx|z_MOST_SEARCHEDx|z_MOST_WANTEDx|aX_HE|aX_BW|aX_BS|aX_TM|zX_BO|zX_BP|zX_BB|zX_BD|zX_NW|zX_NP|zX_NS|zX_NT|zX_OR|y_fg|y_ft|z_VE|y1_HE|y2_HE|y3_HE|y4_HE|y5_HE|y6_HE|y7_HE|y1_BW|y2_BW|y3_BW|y4_BW|y5_BW|y6_BW|y7_BW|y1_BS|y2_BS|y3_BS|y4_BS|y5_BS|y6_BS|y7_BS|y1_TM|y2_TM|y3_TM|y4_TM|y5_TM|y6_TM|y7_TM|sB_HE|s_BW_HE|s_BS_HE|s_TM_HE|sN_BS|s_BW_BS => k_is)
  (case n_BW_BS => decide)
  (case s_TM_BS => k_is)
  (case n_TM_BS => decide)
  (case q_BS|q_TM => k_exc)


