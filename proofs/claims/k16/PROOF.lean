import PyProof.Rows.All
import Wide.All
import OpenK.AllK
import Wide.FinOn
import Lean
import PyProof.EqAt
import PyProof.EqKinds
import PyProof.TupleCall
import PyProof.NeKinds
import PyProof.Draws
import PyProof.ZipIter
import PyProof.DictUpdate
import PyProof.AutoSeq1
import PyProof.ListRange
import PyProof.ListMulRoad
import PyProof.FactsAll.tuple_2
import PyProof.Rows.SortShell
import PyProof.EnumFor
import PyProof.EnumMake
import PyProof.EnumStmt
import PyProof.Rows.SortWalk
import KE.KDictList
import PyProof.SumAny
import PyProof.ConsumeWalk
import PyProof.WalksMore
import PyProof.Rows.TupAssign
import PyProof.ExcArgsOwn
import PySem.Challenge.RW_kindleweb_k16_whole_causes_judged
set_option Elab.async false
set_option linter.all false
set_option maxRecDepth 100000
set_option maxHeartbeats 4000000
section
open PySem PySem.Spec PyProof.Rows
noncomputable def aT3:=@wpAny_bind
noncomputable def aT5:=@Heap.get?_push_of_some
noncomputable def aT6:=@wpAny_pure
noncomputable def aT7:=@List.getElem?_eq_getElem
noncomputable def aT8:=@List.size_toArray
noncomputable def aT9:=@Nat.le_refl
noncomputable def aU0:=@Heap.get?_push_size
noncomputable def aU1:=@decide_eq_false
noncomputable def aU2:=@List.mem_cons
noncomputable def aU3:=@List.mem_singleton
noncomputable def aU4:=@List.getD_eq_getElem?_getD
noncomputable def aU5:=@decide_eq_true
noncomputable def aU6:=@List.length_append
noncomputable def aU7:=@List.length_map
noncomputable def aU8:=@Heap.lt_size
noncomputable def aU9:=@Nat.lt_of_lt_of_le
noncomputable def aV0:=@List.getElem?_eq_some_iff
noncomputable def aV1:=@List.not_mem_nil
noncomputable def aV2:=@List.mem_cons_self
noncomputable def aV3:=@List.mem_cons_of_mem
noncomputable def aV5:=@List.getElem?_map
noncomputable def aV6:=@Bool.false_ne_true
noncomputable def aV7:=@Array.length_toList
noncomputable def aW1:=@Bool.false_eq_true
noncomputable def aW2:=@wpAny_newObj_type
noncomputable def aW3:=@List.getElem?_set_ne
noncomputable def aW4:=@Option.some.inj
noncomputable def aW5:=@wpAny_call_entry
noncomputable def aW6:=@Nat.ne_of_lt
noncomputable def aW7:=@wpAny_callSpecial?_slot
noncomputable def aW8:=@List.mem_append
noncomputable def aX0:=@Nat.zero_le
noncomputable def aX1:=@Int.emod_lt_of_pos
noncomputable def aX2:=@List.append_nil
noncomputable def aX3:=@Bool.and_eq_true
noncomputable def aX4:=@Array.getElem?_eq_getElem
noncomputable def aX5:=@Int.emod_nonneg
noncomputable def aX6:=@Heap.get?_update_self
noncomputable def aX7:=@List.length_singleton
noncomputable def aX8:=@Nat.le_trans
noncomputable def aX9:=@wpAny_field
noncomputable def aY0:=@List.pairwise_singleton
noncomputable def aY1:=@List.mem_append_right
noncomputable def aY3:=@List.all_eq_true
noncomputable def aY4:=@List.mem_of_getElem?
noncomputable def aY5:=@or_false
noncomputable def aY7:=@PyProof.Rows.callWith_type1
noncomputable def aY9:=@List.length_drop
noncomputable def aZ0:=@List.mem_filter
noncomputable def aZ1:=@List.length_set
noncomputable def aZ2:=@List.replicate_succ
noncomputable def aZ3:=@Heap.SameBut.update
noncomputable def aZ4:=@Nat.lt_irrefl
noncomputable def aZ6:=@List.length_cons
noncomputable def aZ7:=@PySem.mem_of_lookup
noncomputable def aZ9:=@Heap.get?_update_other
noncomputable def ba1:=@List.map_cons
noncomputable def ba3:=@Nat.le_of_lt
noncomputable def ba4:=@Array.getElem?_toList
noncomputable def ba5:=@wpAny_holding
noncomputable def ba7:=@PySem.W.kia_one
noncomputable def ba8:=@List.length_take
noncomputable def ba9:=@List.lookup_cons
noncomputable def bb0:=@Nat.le_add_right
noncomputable def bb1:=@List.take_length
noncomputable def bb2:=@Nat.ne_of_gt
noncomputable def bb3:=@of_decide_eq_true
noncomputable def bb5:=@wpAny_setField_rec
noncomputable def bb6:=@if_false
noncomputable def bb8:=@Bool.eq_iff_iff
noncomputable def bb9:=@beq_self_eq_true
noncomputable def bc0:=@Bool.eq_false_iff
noncomputable def bc1:=@List.pairwise_iff_getElem
noncomputable def bc3:=@List.getElem?_set_self
noncomputable def bc4:=@wpAny_mono
noncomputable def bc6:=@List.take_of_length_le
noncomputable def bc7:=@wpAny_setField
noncomputable def bc8:=@List.getElem_mem
noncomputable def bc9:=@wpAny_attempt
noncomputable def bd1:=@builtinLookup_eq_fast
noncomputable def bd2:=@Int.toNat_natCast
noncomputable def bd3:=@List.mem_map
noncomputable def bd4:=@List.getElem?_cons_succ
noncomputable def bd5:=@PySem.F.plainAttrs_list
noncomputable def bd6:=@Heap.size_push
noncomputable def bd8:=@List.map_append
noncomputable def bd9:=@codeAny_builtin
noncomputable def be1:=@List.flatten_cons
noncomputable def be3:=@isSubtype_type
noncomputable def be6:=@Obj.data_mapFields
noncomputable def be7:=@wpAny_of_eq
noncomputable def be8:=@wpAny_isInstance
noncomputable def be9:=@List.mem_singleton_self
noncomputable def bf0:=@Around.under_plainId
noncomputable def bf1:=@Array.getD_eq_getD_getElem?
noncomputable def bf2:=@List.length_range
noncomputable def bf3:=@Array.getElem?_eq_none
noncomputable def bf4:=@decide_eq_true_eq
noncomputable def bf6:=@PyProof.Rows.slot_tuple_getitem
noncomputable def bf7:=@List.length_replicate
noncomputable def bf8:=@List.length_filter_le
noncomputable def bf9:=@wpAny_pyIter_tuple
noncomputable def bg1:=@of_decide_eq_false
noncomputable def bg7:=@List.mem_range
noncomputable def bg8:=@List.mem_append_left
noncomputable def bh1:=@wpAny_truthy_bool
noncomputable def bh2:=@List.pairwise_map
noncomputable def bh3:=@List.take_add_one
noncomputable def bh4:=@List.nodup_append
noncomputable def bh5:=@Nat.not_lt_zero
noncomputable def bh6:=@typeLookup_type
noncomputable def bh7:=@beq_eq_false_iff_ne
noncomputable def bh9:=@List.map_map
noncomputable def bi1:=@List.all_cons
noncomputable def bi2:=@Nat.le_of_not_lt
noncomputable def bi6:=@wpAny_Call_Name_kw
noncomputable def bi7:=@Bool.and_false
noncomputable def bi8:=@wpAny_seqItems
noncomputable def bj0:=@wpAny_passesOwn
noncomputable def bj1:=@SeqAt.EqAt.same
noncomputable def bj3:=@wpAny_typeOf
noncomputable def bj4:=@List.append_assoc
noncomputable def bj6:=@List.Pairwise.nil
noncomputable def bj8:=@SeqAt.RcAt.tuples
noncomputable def bj9:=@wpAny_setState_of
noncomputable def bk2:=@wpAny_rule
noncomputable def bk3:=@Bool.and_true
noncomputable def bk5:=@plainId_quiet
noncomputable def bk6:=@List.Perm.refl
noncomputable def bk7:=@isSubtype_stop
noncomputable def bk8:=@Nat.le_succ
end
namespace L2
open PySem PySem.Spec PyProof.Rows
noncomputable abbrev aS:=Sum Int Str
noncomputable def lB:aS->Value->Bool
 | .inl k,v=>Value.isInt k v
 | .inr x,v=>Value.isStrOf x v
noncomputable def X4 (w:World):aS->Int
 | .inl k=>hashInt k
 | .inr x=>hashStr w x
theorem iW:∀ {k:aS}{v:Value},lB k v=true->(∃ i t,k=Sum.inl i/\v=Value.int i t) ∨ (∃ x t,k=Sum.inr x/\v=Value.str x t)
 | .inl i,v,h=>by
  obtain ⟨t,e⟩:=Value.isInt_shape (k:=i) (v:=v) h
  exact .inl ⟨i,t,rfl,e⟩
 | .inr x,v,h=>by
  obtain ⟨t,e⟩:=Value.isStrOf_shape (x:=x) (v:=v) h
  exact .inr ⟨x,t,rfl,e⟩
theorem X5 (i:Int) (t:Tok):lB (.inl i) (.int i t)=true:=by simp [lB,Value.isInt]
theorem X6 (x:Str) (t:Tok):lB (.inr x) (.str x t)=true:=by simp [lB,Value.isStrOf]
theorem X7 (a b:Int):decide ((Sum.inl a:aS)=Sum.inl b)=(a == b):=by
 by_cases e:a=b
 ·subst e; simp
 ·have h : ¬ (Sum.inl a:aS)=Sum.inl b:=fun q=>e (Sum.inl.inj q)
  rw [aU1 h]
  exact (bh7.mpr e).symm
theorem X8 (a b:Str):decide ((Sum.inr a:aS)=Sum.inr b)=decide (a=b):=by
 by_cases e:a=b
 ·subst e; simp
 ·have h : ¬ (Sum.inr a:aS)=Sum.inr b:=fun q=>e (Sum.inr.inj q)
  rw [aU1 h,aU1 e]
theorem X9 (a:Int) (b:Str):decide ((Sum.inl a:aS)=Sum.inr b)=false:=aU1 (fun q=>nomatch q)
theorem Y0 (a:Str) (b:Int):decide ((Sum.inr a:aS)=Sum.inl b)=false:=aU1 (fun q=>nomatch q)
noncomputable def fF (prog:Program) (w:World):PySem.KeyKind prog w aS where
 is:=lB
 hash:=X4 w
 inj:=fun v a b ha hb=>by
  rcases iW ha with ⟨i,t,rfl,rfl⟩ | ⟨x,t,rfl,rfl⟩
  ·rcases iW hb with ⟨j,u,rfl,e⟩ | ⟨y,u,rfl,e⟩
   ·injection e with e1 _; rw [e1]
   ·exact nomatch e
  ·rcases iW hb with ⟨j,u,rfl,e⟩ | ⟨y,u,rfl,e⟩
   ·exact nomatch e
   ·injection e with e1 _; rw [e1]
 byValue:=fun k v h=>by
  rcases iW h with ⟨i,t,rfl,rfl⟩ | ⟨x,t,rfl,rfl⟩ <;> rfl
 pyHash:=fun hv h=>by
  rcases iW hv with ⟨i,t,rfl,rfl⟩ | ⟨x,t,rfl,rfl⟩
  ·exact wpAny_pyHash_int h
  ·exact wpAny_pyHash_str h
 eqBool:=fun hu hv h=>by
  rcases iW hu with ⟨i,t,rfl,rfl⟩ | ⟨x,t,rfl,rfl⟩
  ·rcases iW hv with ⟨j,u,rfl,rfl⟩ | ⟨y,u,rfl,rfl⟩
   ·rw [X7] at h; exact wpAny_eqBool_int h
   ·rw [X9] at h; exact SeqAt.EqAt.int_str i t y u _ _ _ _ h
  ·rcases iW hv with ⟨j,u,rfl,rfl⟩ | ⟨y,u,rfl,rfl⟩
   ·rw [Y0] at h; exact SeqAt.EqAt.str_int x t j u _ _ _ _ h
   ·rw [X8] at h; exact wpAny_eqBool_str h
 «strs»:=fun k x t v h=>by
  rcases iW h with ⟨i,u,rfl,e⟩ | ⟨y,u,rfl,e⟩
  ·exact nomatch e
  ·injection e with e1 _
   subst e1
   cases v <;> rfl
theorem Y1 (prog:Program) (w:World) (i:Int) (t:Tok):(fF prog w).is (.inl i) (.int i t)=true:=X5 i t
theorem Y2 (prog:Program) (w:World) (x:Str) (t:Tok):(fF prog w).is (.inr x) (.str x t)=true:=X6 x t
inductive V where
 | non | bl (b:Bool) | int (i:Int) | str (x:Str) | byt (b:Array UInt8) | flt (b:UInt64) | ref (a:Addr) | ty (n:String)
 deriving DecidableEq
noncomputable def aW:V->Value->Prop
 | .non,u=>u=Value.none
 | .bl b,u=>u=Value.bool b
 | .int i,u=>∃ t,u=Value.int i t
 | .str x,u=>∃ t,u=Value.str x t
 | .byt b,u=>∃ t,u=Value.bytes b t
 | .flt b,u=>∃ t,u=Value.float b t
 | .ref a,u=>u=Value.ref a
 | .ty n,u=>u=Value.type n
noncomputable abbrev aJ:List V->List Value->Prop:=Paired aW
theorem aJ.length {xs:List V}{us:List Value} (r:aJ xs us):xs.length=us.length:=Paired.length r
theorem aJ.get:∀ {xs:List V}{us:List Value}{i:Nat}{x:V},aJ xs us->xs[i]? = some x->∃ u,us[i]? = some u/\aW x u
 | _,_,_,_,.nil,e=>by simp at e
 | _,_,0,_,.cons r _,e=>by simp at e; subst e; exact⟨_,rfl,r⟩
 | _,_,i+1,x,.cons _ t,e=>by
  obtain ⟨u,h1,h2⟩:=aJ.get (i:=i) (x:=x) t (by simpa using e)
  exact⟨u,by simpa using h1,h2⟩
theorem aJ.set {x:V}{u:Value} (r:aW x u):∀ {xs:List V}{us:List Value} (i:Nat),aJ xs us->aJ (xs.set i x) (us.set i u)
 | _,_,_,.nil=>.nil
 | _,_,0,.cons _ t=>.cons r t
 | _,_,i+1,.cons q t=>.cons q (aJ.set r i t)
theorem aJ.append:∀ {xs ys:List V}{us ws:List Value},aJ xs us->aJ ys ws->aJ (xs ++ ys) (us ++ ws)
 | _,_,_,_,.nil,s=>s
 | _,_,_,_,.cons r t,s=>.cons r (aJ.append t s)
theorem aJ.take:∀ {xs:List V}{us:List Value} (n:Nat),aJ xs us->aJ (xs.take n) (us.take n)
 | _,_,0,_=>.nil
 | _,_,_+1,.nil=>.nil
 | _,_,n+1,.cons r t=>.cons r (aJ.take n t)
theorem aJ.drop:∀ {xs:List V}{us:List Value} (n:Nat),aJ xs us->aJ (xs.drop n) (us.drop n)
 | _,_,0,r=>r
 | _,_,_+1,.nil=>.nil
 | _,_,n+1,.cons _ t=>aJ.drop n t
noncomputable def lC:Option V->Option Value->Prop
 | some v,some u=>aW v u
 | none,none=>True
 | _,_=>False
noncomputable def KV {κ:Type}:List (κ × V)->List (κ × Value)->Prop:=Paired fun (p:κ × V) (q:κ × Value)=>p.1=q.1/\aW p.2 q.2
noncomputable def kV:aS->V
 | .inl i=>.int i
 | .inr x=>.str x
inductive HO where
 | lst (xs:List V)
 | tup (xs:List V)
 | dK (kvs:List (aS × V)) | dT (kvs:List (List aS × V))
 | set (S:Int->Bool) (n:Nat)
 | ins (C dx:Addr) (fs:List (Str × V))
 | own (x:Addr)
 | xd (fs:List (Str × V))
 | met (f x:Addr)
 | rng (lo hi:Int)
 | frz (o:Obj) (u:HO)
 | tbl (ps:Array Value)
 | ext (φ:Heap->Prop)
noncomputable abbrev Hp:=Addr->Option HO
noncomputable def upd (H:Hp) (a:Addr) (o:HO):Hp:=fun b=>if b=a then some o else H b
theorem bI {H:Hp}{a:Addr}{o:HO}:upd H a o a=some o:=by unfold upd; rw [if_pos rfl]
theorem aQ {H:Hp}{a b:Addr}{o:HO} (h:b ≠ a):upd H a o b=H b:=by unfold upd; rw [if_neg h]
theorem Y3 {H:Hp}{a b:Addr}{o u:HO} (h:H a=some o) (h':H b=some u) (d:o ≠ u):a ≠ b:=by
 intro e; subst e; rw [h] at h'; exact d (aW4 h')
theorem cF {H:Hp}{a b:Addr}{o:HO} (h:H a=some o) (h':H b=none):a ≠ b:=by
 intro e; subst e; rw [h] at h'; cases h'
noncomputable def gI (h:Heap) (a:Addr):Prop:=∀ o,h.get? a=some o->o.dict=none
theorem gI.new (h:Heap) (o:Obj) (d:o.dict=none) (s:o.isFreed=false:=by rfl):gI (h.push o) h.objs.size:=fun u e=>by
 rw [aU0 h (o:=o) s] at e
 cases e; exact d
theorem gI.stay {h h':Heap}{a:Addr}{o:Obj} (n:gI h a) (e:h.get? a=some o) (e':h'.get? a=some o):gI h' a:=fun u hu=>by
 rw [e'] at hu; cases hu; exact n _ e
section
variable (P : Program) (w : World)
noncomputable def bO (H:Hp) (h:Heap) (a:Addr):HO->Prop
 | .lst xs=>xs.length<=sizeLine/\∃ (its:List Value) (n:Nat),aJ xs its/\h.get? a=some { cls:=.type "list",data:=.seq its.toArray n }
 | .tup xs=>xs.length<=sizeLine/\∃ its:List Value,aJ xs its/\IsTup h a its.toArray/\gI h a
 | .dK kvs=>kvs.length<=sizeLine/\(a == sysModules)=false/\∃ vs,KV kvs vs/\h.DictOf (fF P w) a vs
 | .dT kvs=>kvs.length<=sizeLine/\(a == sysModules)=false/\∃ xs:List (List aS × Addr × Value),
   Paired (fun (p:List aS × V) (q:List aS × Addr × Value)=>p.1=q.1/\H q.2.1=some (.tup (p.1.map kV))/\aW p.2 q.2.2) kvs xs/\
   ∃ o es ep,h.get? a=some o/\o.ExactDict/\o.data = .dict es ep/\es.toList=xs.map (entryOfKey (tupleKind (fF P w)))/\(xs.map (·.1)).Nodup
 | .set S n=>h.SetOf (intKind P w) a S n
 | .ins C dx fs=>H dx=some (.own a)/\fs.length<=1000/\dx ≠ a/\h.get? a=some (PySem.W.instObj C dx)/\
   ∃ mA,h.Ns1 dx mA/\(∀ f,lC (fs.lookup f) (mA f))/\PySem.Within mA (fs.map (·.1))
 | .own _=>∃ o,h.get? a=some o
 | .xd fs=>∃ mA,h.Ns1 a mA/\∀ f,lC (fs.lookup f) (mA f)
 | .rng lo hi=>∃ t u v,h.get? a=some { cls:=.type "range",data:=.fields #[.int lo t,.int hi u,.int 1 v] }
 | .frz o u=>h.get? a=some o/\bO H h a u
 | .tbl ps=>h.get? a=some { cls:=.none,data:=.fields ps }
 | .met f x=>h.get? a=some (PySem.W.methodObj (.ref f) (.ref x))
 | .ext φ=>φ h/\(∃ o,h.get? a=some o)/\∀ h1 h2:Heap,φ h1->(∀ o,h1.get? a=some o->h2.get? a=some o)->φ h2
noncomputable def bX (H:Hp) (h:Heap):Prop:=∀ a o,H a=some o->bO P w H h a o
end
section
variable {P : Program} {w : World} {H H' : Hp} {h h' : Heap} {a : Addr} {o : HO}
theorem bO.lt (x:bO P w H h a o):a < h.objs.size:=by
 cases o with
 | lst xs=>obtain ⟨_,_,_,_,e⟩:=x; exact aU8 e
 | tup xs=>obtain ⟨_,_,_,p,_⟩:=x; exact p.lt
 | dK kvs=>obtain ⟨_,_,_,_,o,_,_,e,_⟩:=x; exact aU8 e
 | dT kvs=>obtain ⟨_,_,_,_,o,_,_,e,_⟩:=x; exact aU8 e
 | set S n=>obtain ⟨o,_,_,_,e,_⟩:=x; exact aU8 e
 | ins C dx fs=>obtain ⟨_,_,_,e,_⟩:=x; exact aU8 e
 | own y=>obtain ⟨_,e⟩:=x; exact aU8 e
 | xd fs=>obtain ⟨_,⟨_,_,_,e,_⟩,_⟩:=x; exact aU8 e
 | rng lo hi=>obtain ⟨_,_,_,e⟩:=x; exact aU8 e
 | frz ob u=>obtain ⟨e,_⟩:=x; exact aU8 e
 | tbl ps=>exact aU8 (show h.get? a=some _ from x)
 | met f y=>exact aU8 (show h.get? a=some _ from x)
 | ext φ=>obtain ⟨_,⟨_,e⟩,_⟩:=x; exact aU8 e
theorem Paired.mapP {α β:Type}{F G:α->β->Prop}:∀ {l₁:List α}{l₂:List β},Paired F l₁ l₂->(∀ a b,F a b->G a b)->Paired G l₁ l₂
 | _,_,.nil,_=>.nil
 | _,_,.cons r t,f=>.cons (f _ _ r) (Paired.mapP t f)
theorem bO.stay (x:bO P w H h a o) (k:∀ b u,(b=a ∨ H b=some (.own a))->h.get? b=some u->h'.get? b=some u)
  (ho:∀ b,H b=some (.own a)->H' b=some (.own a)) (ht:∀ b xs,H b=some (.tup xs)->H' b=some (.tup xs)):bO P w H' h' a o:=by
 induction o with
 | lst xs=>obtain ⟨z,its,n,r,e⟩:=x; exact⟨z,its,n,r,k _ _ (.inl rfl) e⟩
 | tup xs=>obtain ⟨z,its,r,⟨ob,e,c⟩,nd⟩:=x; exact⟨z,its,r,⟨ob,k _ _ (.inl rfl) e,c⟩,nd.stay e (k _ _ (.inl rfl) e)⟩
 | dK kvs=>obtain ⟨z,y,vs,r,ob,es,ep,e,c⟩:=x; exact⟨z,y,vs,r,ob,es,ep,k _ _ (.inl rfl) e,c⟩
 | dT kvs=>
  obtain ⟨z,y,xs,r,ob,es,ep,e,c⟩:=x
  exact⟨z,y,xs,Paired.mapP r fun p q z=>⟨z.1,ht _ _ z.2.1,z.2.2⟩,ob,es,ep,k _ _ (.inl rfl) e,c⟩
 | set S n=>obtain ⟨ob,es,ep,t,e,c⟩:=x; exact⟨ob,es,ep,t,k _ _ (.inl rfl) e,c⟩
 | ins C dx fs=>
  obtain ⟨d,z,ne,e,mA,⟨od,es,ep,e2,c⟩,r⟩:=x
  exact⟨ho _ d,z,ne,k _ _ (.inl rfl) e,mA,⟨od,es,ep,k _ _ (.inr d) e2,c⟩,r⟩
 | own y=>obtain ⟨ob,e⟩:=x; exact⟨ob,k _ _ (.inl rfl) e⟩
 | xd fs=>obtain ⟨mA,⟨od,es,ep,e,c⟩,r⟩:=x; exact⟨mA,⟨od,es,ep,k _ _ (.inl rfl) e,c⟩,r⟩
 | rng lo hi=>obtain ⟨t,u,v,e⟩:=x; exact⟨t,u,v,k _ _ (.inl rfl) e⟩
 | frz ob u ih=>obtain ⟨e,q⟩:=x; exact⟨k _ _ (.inl rfl) e,ih q⟩
 | tbl ps=>
  have e:h.get? a=some { cls:=.none,data:=.fields ps }:=x
  show h'.get? a=some { cls:=.none,data:=.fields ps }
  exact k a _ (.inl rfl) e
 | met f y=>
  have e:h.get? a=some (PySem.W.methodObj (.ref f) (.ref y)):=x
  show h'.get? a=some (PySem.W.methodObj (.ref f) (.ref y))
  exact k a _ (.inl rfl) e
 | ext φ=>obtain ⟨p,⟨o,e⟩,st⟩:=x; exact⟨st _ _ p fun o q=>k _ _ (.inl rfl) q,⟨o,k _ _ (.inl rfl) e⟩,st⟩
theorem bX.lt (x:bX P w H h) (e:H a=some o):a < h.objs.size:=(x a o e).lt
theorem bX.fresh (x:bX P w H h) (e:h.objs.size<=a):H a=none:=by
 cases q:H a with
 | none=>rfl
 | some u=>exact absurd (aU9 (x.lt q) e) (aZ4 _)
theorem bX.kept (x:bX P w H h) (k:∀ b u,h.get? b=some u->h'.get? b=some u):bX P w H h':=fun a o e=>
 (x a o e).stay (fun b u _ q=>k b u q) (fun _ q=>q) fun _ _ q=>q
theorem bX.laid (x:bX P w H h) (k:∀ b u,h.get? b=some u->h'.get? b=some u) (hp:h.objs.size<=a) (new:bO P w (upd H a o) h' a o):bX P w (upd H a o) h':=fun b u e=>by
 have hn:=x.fresh hp
 by_cases hb:b=a
 ·subst hb; rw [bI] at e; cases e; exact new
 ·rw [aQ hb] at e
  exact (x b u e).stay (fun c v _ q=>k c v q) (fun c q=>by rw [aQ (cF q hn)]; exact q) fun c xs q=>by rw [aQ (cF q hn)]; exact q
end
noncomputable def Rd (H:Hp) (a:Addr) (u:HO):Prop:=H a=some u ∨ ∃ o,H a=some (.frz o u)
theorem Rd.ok {P:Program}{w:World}{H:Hp}{h:Heap}{a:Addr}{u:HO} (r:Rd H a u) (x:bX P w H h):bO P w H h a u:=by
 rcases r with r | ⟨o,r⟩
 ·exact x a u r
 ·obtain ⟨_,q⟩:=x a _ r
  exact q
noncomputable def mH:Option HO->Prop
 | some (.lst _)=>True
 | some (.dK _)=>True
 | some (.dT _)=>True
 | some (.set _ _)=>True
 | some (.ins _ _ _)=>True
 | some (.ext _)=>True
 | _=>False
section
variable {P : Program} {w : World} {H : Hp} {h h' : Heap} {x e : Addr} {o' : HO}
theorem bX.write (ok:bX P w H h) (mu:mH (H x)) (he:e=x ∨ H e=some (.own x)) (k:∀ b u,b ≠ e->h.get? b=some u->h'.get? b=some u) (heo:∃ u,h'.get? e=some u)
  (new:bO P w (upd H x o') h' x o'):bX P w (upd H x o') h':=fun b u q=>by
 have nown:∀ c y,H c=some (.own y)->c ≠ x:=fun c y r z=>by subst z; rw [r] at mu; exact mu
 have ntup:∀ c xs,H c=some (.tup xs)->c ≠ x:=fun c xs r z=>by subst z; rw [r] at mu; exact mu
 by_cases hb:b=x
 ·subst hb; rw [bI] at q; cases q; exact new
 ·rw [aQ hb] at q
  by_cases hbe:b=e
  ·have q':H b=some (.own x):=by
    rcases he with z | z
    ·exact absurd (hbe.trans z) hb
    ·rw [hbe]; exact z
   rw [q] at q'; cases q'
   obtain ⟨v,hv⟩:=heo
   exact⟨v,by rw [hbe]; exact hv⟩
  ·refine (ok b u q).stay (fun c v hc r=>k c v ?_ r) (fun c r=>by rw [aQ (nown c b r)]; exact r) fun c xs r=>by rw [aQ (ntup c xs r)]; exact r
   rcases hc with rfl | hc
   ·exact hbe
   ·rintro rfl
    rcases he with z | z
    ·exact nown c b hc z
    ·rw [hc] at z; cases z; exact hb rfl
end
structure Un (fs ex:List Addr) (H H':Hp) (h h':Heap):Prop where
 keep:∀ b o,h.get? b=some o->H b=none->b ∉ fs->b ∉ ex->h'.get? b=some o
 slot:∀ b o,h.get? b=some o->H b=none->b ∈ fs->b ∉ ex->∃ sl,h'.get? b=some { o with slots:=sl }
 free:∀ b o,h.get? b=some o->H b=none->b ∉ ex->H' b=none
 there:∀ b o,h.get? b=some o->b ∉ ex->∃ o',h'.get? b=some o'
 tups:∀ b xs,H b=some (.tup xs)->H' b=some (.tup xs)
 frzs:∀ b o u,H b=some (.frz o u)->H' b=some (.frz o u)
 tbls:∀ b ps,H b=some (.tbl ps)->∃ more,H' b=some (.tbl (ps ++ more))
section
variable {fs fs' ex ex' : List Addr} {H H1 H2 : Hp} {h h1 h2 h' : Heap} {a x e : Addr} {o : HO}
theorem Un.any (u:Un fs ex H H1 h h1) {b:Addr}{ob:Obj} (q:h.get? b=some ob) (n:H b=none) (hx:b ∉ ex):∃ sl,h1.get? b=some { ob with slots:=sl }:=by
 by_cases hb:b ∈ fs
 ·exact u.slot b ob q n hb hx
 ·exact⟨ob.slots,u.keep b ob q n hb hx⟩
theorem Un.kept (k:∀ b u,h.get? b=some u->h'.get? b=some u):Un fs ex H H h h':=
 ⟨fun b ob q _ _ _=>k b ob q,fun b ob q _ _ _=>⟨ob.slots,k b ob q⟩,fun _ _ _ n _=>n,fun b ob q _=>⟨ob,k b ob q⟩,fun _ _ q=>q,fun _ _ _ q=>q,fun _ ps q=>⟨#[],by rw [q]; simp⟩⟩
theorem Un.refl:Un fs ex H H h h:=Un.kept fun _ _ q=>q
theorem Un.laid (k:∀ b u,h.get? b=some u->h'.get? b=some u) (hp:h.objs.size<=a) (hn:H a=none):Un fs ex H (upd H a o) h h' where
 keep:=fun b u q _ _ _=>k b u q
 slot:=fun b u q _ _ _=>⟨u.slots,k b u q⟩
 free:=fun b u q n _=>by rw [aQ (aW6 (aU9 (aU8 q) hp))]; exact n
 there:=fun b u q _=>⟨u,k b u q⟩
 tups:=fun b xs q=>by rw [aQ (cF q hn)]; exact q
 frzs:=fun b u xs q=>by rw [aQ (cF q hn)]; exact q
 tbls:=fun b ps q=>⟨#[],by rw [aQ (cF q hn),q]; simp⟩
theorem Un.write (mu:mH (H x)) (he:e=x ∨ H e=some (.own x)) (k:∀ b u,b ≠ e->h.get? b=some u->h'.get? b=some u) (heo:∃ u,h'.get? e=some u):Un fs ex H (upd H x o) h h':=by
 have hx:∀ b,H b=none->b ≠ x:=fun b n z=>by subst z; rw [n] at mu; exact mu
 have hb:∀ b,H b=none->b ≠ e:=fun b n z=>by
  subst z
  rcases he with r | r
  ·exact hx b n r
  ·rw [n] at r; cases r
 have hm:∀ b u,H b=some u->¬ mH (some u)->b ≠ x:=fun b u q nm z=>by subst z; rw [q] at mu; exact nm mu
 refine⟨fun b u q n _ _=>k b u (hb b n) q,fun b u q n _ _=>⟨u.slots,k b u (hb b n) q⟩,fun b u q n _=>by rw [aQ (hx b n)]; exact n,fun b u q _=>?_,
  fun b xs q=>by rw [aQ (hm b _ q fun z=>z)]; exact q,fun b u xs q=>by rw [aQ (hm b _ q fun z=>z)]; exact q,fun b ps q=>⟨#[],by rw [aQ (hm b _ q fun z=>z),q]; simp⟩⟩
 by_cases hbe:b=e
 ·subst hbe; exact heo
 ·exact⟨u,k b u hbe q⟩
end
noncomputable def oM (h:Heap) (H:Hp):List Addr:=(List.range h.objs.size).filter fun a=>(H a).isSome
noncomputable def iX (h:Heap) (H:Hp):Heap:=PySem.W.hideAll h (oM h H)
theorem Y4 (h:Heap) (H:Hp):(iX h H).objs.size=h.objs.size:=PySem.W.hideAll_size _ _
theorem Y5 {h:Heap}{H:Hp}{b:Addr}{o:Obj} (e:h.get? b=some o) (n:H b=none):(iX h H).get? b=some o:=
 PySem.W.hideAll_get _ e fun hm=>by
  have q:(H b).isSome=true:=(aZ0.mp hm).2
  rw [n] at q; simp at q
theorem Y6 {h:Heap}{H:Hp}{b:Addr}{o:Obj} (e:(iX h H).get? b=some o):h.get? b=some o/\H b=none:=by
 have e':h.get? b=some o:=PySem.W.of_hideAll (oM h H) e
 refine⟨e',?_⟩
 cases q:H b with
 | none=>rfl
 | some x=>
  have hm:b ∈ oM h H:=aZ0.mpr ⟨bg7.mpr (aU8 e'),by simp [q]⟩
  have z:(iX h H).get? b=none:=PySem.W.hideAll_none (oM h H) hm
  rw [z] at e; cases e
noncomputable def mI (g h:Heap) (L:Addr):List (Addr × Obj):=(List.range h.objs.size).filterMap fun a=>if a=L ∨ (g.get? a).isSome=true then none else (h.get? a).map fun o=>(a,o)
theorem wK {g h:Heap}{L a:Addr}{o:Obj} (h1:a ≠ L) (h2:g.get? a=none) (h3:h.get? a=some o):(a,o) ∈ mI g h L:=
 List.mem_filterMap.mpr ⟨a,bg7.mpr (aU8 h3),by simp [h1,h2,h3]⟩
theorem Y7 {g h:Heap}{L:Addr}{p:Addr × Obj} (hp:p ∈ mI g h L):p.1 ≠ L/\g.get? p.1=none/\h.get? p.1=some p.2:=by
 obtain ⟨b,_,e⟩:=List.mem_filterMap.mp hp
 split at e
 ·cases e
 ·rename_i hn
  cases q:h.get? b with
  | none=>rw [q] at e; simp at e
  | some u=>
   rw [q] at e
   simp only [Option.map_some,Option.some.injEq] at e
   subst e
   refine⟨fun z=>hn (.inl z),?_,q⟩
   show g.get? b=none
   cases r:g.get? b with
   | none=>rfl
   | some v=>exact (hn (.inr (by simp [r]))).elim
noncomputable def dA (g h:Heap) (L d:Addr):List (Addr × Obj):=(mI g h L).filter fun p=>decide (p.1 ≠ d)
theorem Y8 {g h:Heap}{L:Addr}:News g L h (mI g h L):=fun p hp=>let ⟨a,b,c⟩:=Y7 hp; ⟨c,a,b⟩
structure Mod (K:PySem.W.Frag) (mg:Str->Option Value) (base:Heap):Prop where
 kin:K.In base
 glob:base.Ns mainGlobals mg
 blt:∃ mb,base.Ns builtinsNs mb/\∀ x:Str,x ≠ "__name__"->mb x=bootBuiltins x
 nolimit:base.NoLimit
structure Cx where
 prog:Program
 w:World
 K:PySem.W.Frag
 mg:Str->Option Value
 base:Heap
 A:Around
 N:List Str
 s₀:Shared
 H₀:Hp
 env:Env
 outer:List Env
 stack:List Env
 ex:List Addr
 fn:Str->Bool
 calm:Bool
 pn:List (Addr × Obj)
 xe:Value->Shared->Prop
noncomputable def bS (l:List Env):List Addr:=l.filterMap (·.frame)
noncomputable abbrev Cx.fs (X:Cx):List Addr:=bS X.outer
noncomputable def fR (sc:Scope) (x:Str):Prop:=sc.names.lookup x=some .local ∨ sc.names.lookup x=some .cell ∨ sc.names.lookup x=some .free
noncomputable def gW (sc:Scope) (x:Str):Prop:=sc.names.lookup x=some .local ∨ sc.names.lookup x=some .cell
noncomputable def Y9 (env:Env) (h:Heap) (m:Str->Option Value) (x:Str) (u:Value):Prop:=
 (env.kindOf x=some .local/\m x=some u) ∨ ((env.kindOf x=some .cell ∨ env.kindOf x=some .free)/\∃ c,env.cells.lookup x=some c/\h.IsCell c (some u))
structure Cx.Ok (X:Cx):Prop where
 mod:Mod X.K X.mg X.base
 kind:X.env.scope.kind = .function
 glob:X.env.globals=mainGlobals
 blt:X.env.builtins=builtinsNs
 above:X.s₀.heap.objs.size<=X.env.locals
 inj:∀ x y c,X.env.cells.lookup x=some c->X.env.cells.lookup y=some c->x=y
 has:∀ x,(X.env.kindOf x=some .cell ∨ X.env.kindOf x=some .free)->∃ c,X.env.cells.lookup x=some c
 cab:∀ x c,X.fn x=true->X.env.cells.lookup x=some c->X.s₀.heap.objs.size<=c
 hd:X.calm=true->X.A.handled=none
 frames:X.A.frames=some X.stack
 stk:X.stack=X.outer ∨ (X.stack=X.env :: X.outer/\X.env.frame=some X.env.locals)
 exf:∀ b ∈ X.ex,b ≠ X.env.locals/\∀ x c,X.env.cells.lookup x=some c->c ≠ b
 bs:∀ b o,X.base.get? b=some o->X.s₀.heap.get? b=some o/\X.H₀ b=none
 bsz:X.base.objs.size<=X.s₀.heap.objs.size
 noex:∀ b o,X.base.get? b=some o->b ∉ X.ex
 exfs:∀ b ∈ X.ex,b ∉ X.fs
 funs:X.s₀.heap.FunFrames X.base X.outer
 frf:∀ b ∈ X.fs,X.H₀ b=none
structure a7 (X:Cx) (pins:List (Addr × Obj)) (σ:List (Option V)) (H:Hp) (s:Shared):Prop where
 ok:X.Ok
 os:s.os=X.s₀.os
 bare:AllBare s.gens
 base:Un X.fs X.ex X.H₀ H X.s₀.heap s.heap
 loc:∃ m,s.heap.Ns X.env.locals m/\∀ (i:Nat) (x:Str) (v:V),X.N[i]? = some x->σ[i]? = some (some v)->fR X.env.scope x->∃ u,aW v u/\Y9 X.env s.heap m x u
 cell:∀ x c,X.env.cells.lookup x=some c->∃ v,s.heap.IsCell c v
 free:H X.env.locals=none
 freeC:∀ x c,X.env.cells.lookup x=some c->H c=none
 pin:∀ p ∈ X.pn ++ pins,s.heap.get? p.1=some p.2/\H p.1=none/\p.1 ≠ X.env.locals/\p.1 ∉ X.fs/\∀ v,p.2.data ≠ .cell v
 hok:bX X.prog X.w H s.heap
 len:σ.length=X.N.length
section
variable {X : Cx} {pins : List (Addr × Obj)} {σ : List (Option V)} {H H' : Hp} {s : Shared} {h' : Heap}
theorem Cx.Ok.nofr (ok:X.Ok) {b:Addr}{o:Obj} (e:X.base.get? b=some o):b ∉ X.fs:=fun hb=>by
 have:=(ok.funs.mem hb).1
 rw [e] at this; cases this
theorem a7.bs (I:a7 X pins σ H s):∀ b o,X.base.get? b=some o->s.heap.get? b=some o/\H b=none:=fun b o e=>
 ⟨I.base.keep b o (I.ok.bs b o e).1 (I.ok.bs b o e).2 (I.ok.nofr e) (I.ok.noex b o e),I.base.free b o (I.ok.bs b o e).1 (I.ok.bs b o e).2 (I.ok.noex b o e)⟩
theorem a7.bk (I:a7 X pins σ H s):∀ b o,X.base.get? b=some o->s.heap.get? b=some o:=fun b o e=>(I.bs b o e).1
theorem a7.mod (I:a7 X pins σ H s):Mod X.K X.mg X.base:=I.ok.mod
theorem a7.kIn (I:a7 X pins σ H s):X.K.In s.heap:=I.ok.mod.kin.keeps I.bk
theorem a7.fr (I:a7 X pins σ H s):∃ m,Fr X.base X.env.locals s.heap m:=
 let ⟨m,hn,_⟩:=I.loc
 ⟨m,hn,I.bk,aX8 I.ok.bsz I.ok.above⟩
theorem a7.lt (I:a7 X pins σ H s):X.env.locals < s.heap.objs.size:=let ⟨_,hn,_⟩:=I.loc; hn.lt
theorem a7.sz (I:a7 X pins σ H s):X.s₀.heap.objs.size<=s.heap.objs.size:=aX8 I.ok.above (ba3 I.lt)
theorem a7.nofs (I:a7 X pins σ H s) {a:Addr} (h:s.heap.objs.size<=a):a ∉ X.fs:=fun hb=>by
 obtain ⟨_,o,ho,_⟩:=I.ok.funs.mem hb
 exact absurd (aU9 (aU8 ho) (aX8 I.sz h)) (aZ4 _)
theorem a7.cne (I:a7 X pins σ H s):∀ x c,X.env.cells.lookup x=some c->c ≠ X.env.locals:=fun x c e z=>by
 obtain ⟨v,o,ho,hd⟩:=I.cell x c e
 obtain ⟨m,⟨o',es,ep,ho',hd',_⟩,_⟩:=I.loc
 rw [z,ho'] at ho; cases ho; rw [hd'] at hd; cases hd
theorem a7.funs (I:a7 X pins σ H s):s.heap.FunFrames X.base X.outer:=by
 have all:∀ (l:List Env),(∀ b ∈ bS l,b ∈ X.fs)->X.s₀.heap.FunFrames X.base l->s.heap.FunFrames X.base l:=by
  intro l
  induction l with
  | nil=>intro _ _; trivial
  | cons env r ih=>
   intro hs hl
   obtain ⟨hk,⟨L,o,hf,hn,ho,hd⟩,hr⟩:=hl
   have hL:L ∈ X.fs:=hs L (by unfold bS; rw [List.filterMap_cons,hf]; exact aV2)
   obtain ⟨sl,e⟩:=I.base.slot L o ho (I.ok.frf L hL) hL fun z=>I.ok.exfs L z hL
   exact⟨hk,⟨L,_,hf,hn,e,hd⟩,ih (fun b hb=>hs b (by unfold bS; rw [List.filterMap_cons,hf]; exact aV3 _ hb)) hr⟩
 exact all X.outer (fun _ hb=>hb) I.ok.funs
theorem a7.stack (I:a7 X pins σ H s):s.heap.FunFrames X.base X.stack:=by
 rcases I.ok.stk with e | ⟨e,hf⟩
 ·rw [e]; exact I.funs
 ·rw [e]
  obtain ⟨m,hn,_⟩:=I.loc
  refine .cons (by rw [I.ok.kind]; decide) hf hn ?_ I.funs
  exact Heap.get?_none_of_le (aX8 I.ok.bsz I.ok.above)
theorem a7.stkSub (I:a7 X pins σ H s):∀ b ∈ bS X.stack,b ∈ X.env.locals :: X.fs:=fun b hb=>by
 rcases I.ok.stk with e | ⟨e,hf⟩
 ·rw [e] at hb; exact aV3 _ hb
 ·rw [e] at hb
  unfold bS at hb
  rw [List.filterMap_cons,hf] at hb
  exact hb
theorem a7.stkFree (I:a7 X pins σ H s):∀ b ∈ bS X.stack,H b=none:=fun b hb=>by
 rcases aU2.mp (I.stkSub b hb) with e | hb
 ·rw [e]; exact I.free
 ·obtain ⟨_,o,ho,_⟩:=I.ok.funs.mem hb
  exact I.base.free b o ho (I.ok.frf b hb) fun z=>I.ok.exfs b z hb
theorem a7.step {g':Array GenState}{t':Nat}{d':Drawn}{ch:List Addr} (I:a7 X pins σ H s)
  (hch:∀ b ∈ ch,(b ∈ X.ex ∨ X.s₀.heap.objs.size<=b)/\b ≠ X.env.locals/\(∀ x c,X.env.cells.lookup x=some c->c ≠ b)/\∀ p ∈ X.pn ++ pins,p.1 ≠ b)
  (keep:∀ b o,b ≠ X.env.locals->b ∉ X.fs->b ∉ ch->s.heap.get? b=some o->H b=none->h'.get? b=some o)
  (slot:∀ b o,b ≠ X.env.locals->b ∈ X.fs->b ∉ ch->s.heap.get? b=some o->H b=none->∃ sl,h'.get? b=some { o with slots:=sl }) (free:∀ b o,b ∉ ch->s.heap.get? b=some o->H b=none->H' b=none)
  (there:∀ b o,b ∉ ch->s.heap.get? b=some o->∃ o',h'.get? b=some o')
  (tups:∀ b xs,H b=some (.tup xs)->H' b=some (.tup xs)) (frzs:∀ b o u,H b=some (.frz o u)->H' b=some (.frz o u)) (tbls:∀ b ps,H b=some (.tbl ps)->∃ more,H' b=some (.tbl (ps ++ more)))
  (ns:∀ m,s.heap.Ns X.env.locals m->h'.Ns X.env.locals m) (hok:bX X.prog X.w H' h') (hg:AllBare g') :
  a7 X pins σ H' { s with heap:=h',gens:=g',drawn:=d',toks:=t' }:=by
 have neL:∀ b o,X.s₀.heap.get? b=some o->b ≠ X.env.locals:=fun b o e=>aW6 (aU9 (aU8 e) I.ok.above)
 have neC:∀ b o,X.s₀.heap.get? b=some o->b ∉ X.ex->b ∉ ch:=fun b o e hx hb=>by
  rcases (hch b hb).1 with z | z
  ·exact hx z
  ·exact absurd (aU9 (aU8 e) z) (aZ4 _)
 have cellK:∀ x c,X.env.cells.lookup x=some c->∀ v,s.heap.IsCell c v->h'.IsCell c v:=fun x c e v ⟨o,ho,hd⟩=>by
  have nch:c ∉ ch:=fun z=>(hch c z).2.2.1 x c e rfl
  by_cases hc:c ∈ X.fs
  ·obtain ⟨sl,q⟩:=slot c o (I.cne x c e) hc nch ho (I.freeC x c e)
   exact⟨_,q,hd⟩
  ·exact⟨o,keep c o (I.cne x c e) hc nch ho (I.freeC x c e),hd⟩
 refine⟨I.ok,I.os,hg,⟨fun b o e n hb hx=>?_,fun b o e n hb hx=>?_,fun b o e n hx=>?_,fun b o e hx=>?_,fun b xs e=>tups b xs (I.base.tups b xs e),fun b o xs e=>frzs b o xs (I.base.frzs b o xs e),fun b ps e=>?_⟩,?_,fun x c e=>?_,?_,fun x c e=>?_,fun p hp=>?_,hok,I.len⟩
 ·exact keep b o (neL b o e) hb (neC b o e hx) (I.base.keep b o e n hb hx) (I.base.free b o e n hx)
 ·obtain ⟨sl,e1⟩:=I.base.slot b o e n hb hx
  obtain ⟨sl',e2⟩:=slot b _ (neL b o e) hb (neC b o e hx) e1 (I.base.free b o e n hx)
  exact⟨sl',e2⟩
 ·obtain ⟨o',e1⟩:=I.base.there b o e hx
  exact free b o' (neC b o e hx) e1 (I.base.free b o e n hx)
 ·obtain ⟨o',e1⟩:=I.base.there b o e hx
  exact there b o' (neC b o e hx) e1
 ·obtain ⟨m1,e1⟩:=I.base.tbls b ps e
  obtain ⟨m2,e2⟩:=tbls b _ e1
  exact⟨m1 ++ m2,by rw [e2,Array.append_assoc]⟩
 ·obtain ⟨m,hn,hl⟩:=I.loc
  refine⟨m,ns m hn,fun i x v e1 e2 e3=>?_⟩
  obtain ⟨u,r,l⟩:=hl i x v e1 e2 e3
  refine⟨u,r,?_⟩
  rcases l with l | ⟨k,c,e,z⟩
  ·exact .inl l
  ·exact .inr ⟨k,c,e,cellK x c e _ z⟩
 ·obtain ⟨v,z⟩:=I.cell x c e
  exact⟨v,cellK x c e v z⟩
 ·obtain ⟨m,⟨o,_,_,ho,_⟩,_⟩:=I.loc
  exact free _ o (fun z=>(hch _ z).2.1 rfl) ho I.free
 ·obtain ⟨v,o,ho,hd⟩:=I.cell x c e
  exact free c o (fun z=>(hch c z).2.2.1 x c e rfl) ho (I.freeC x c e)
 ·obtain ⟨e,n,ne,nf,d⟩:=I.pin p hp
  have nch:p.1 ∉ ch:=fun z=>(hch p.1 z).2.2.2 p hp rfl
  exact⟨keep p.1 p.2 ne nf nch e n,free p.1 p.2 nch e n,ne,nf,d⟩
theorem a7.un {t':Nat} (I:a7 X pins σ H s) (u:Un X.fs [] H H' s.heap h') (hok:bX X.prog X.w H' h'):a7 X pins σ H' { s with heap:=h',toks:=t' }:=by
 obtain ⟨m,⟨o,es,ep,ho,r⟩,_⟩:=id I.loc
 obtain ⟨sl,hL⟩:=u.any ho I.free (by simp)
 exact I.step (g':=s.gens) (d':=s.drawn) (ch:=[]) (fun _ z=>nomatch z) (fun b o _ hb _ e n=>u.keep b o e n hb (by simp)) (fun b o _ hb _ e n=>u.slot b o e n hb (by simp)) (fun b o _ e n=>u.free b o e n (by simp)) (fun b o _ e=>u.there b o e (by simp)) u.tups u.frzs u.tbls (fun m' hm=>by
  obtain ⟨o',es',ep',ho',r'⟩:=hm
  rw [ho] at ho'; cases ho'
  exact⟨_,es',ep',hL,r'⟩) hok I.bare
theorem a7.call {g':Array GenState}{t':Nat}{d':Drawn}{ch:List Addr} (I:a7 X pins σ H s) (u:Un (bS X.stack) ch H H' s.heap h') (hok:bX X.prog X.w H' h') (hg:AllBare g')
  (hch:∀ b ∈ ch,(b ∈ X.ex ∨ X.s₀.heap.objs.size<=b)/\b ≠ X.env.locals/\(∀ x c,X.env.cells.lookup x=some c->c ≠ b)/\∀ p ∈ X.pn ++ pins,p.1 ≠ b) :
  a7 X pins σ H' { s with heap:=h',gens:=g',drawn:=d',toks:=t' }:=by
 obtain ⟨m,⟨o,es,ep,ho,r⟩,_⟩:=id I.loc
 obtain ⟨sl,hL⟩:=u.any ho I.free fun z=>(hch _ z).2.1 rfl
 exact I.step (ch:=ch) hch (fun b o hL hb hc e n=>u.keep b o e n (fun z=>(aU2.mp (I.stkSub b z)).elim hL hb) hc) (fun b o _ _ hc e n=>u.any e n hc) (fun b o hc e n=>u.free b o e n hc) (fun b o hc e=>u.there b o e hc) u.tups u.frzs u.tbls (fun m' hm=>by
  obtain ⟨o',es',ep',ho',r'⟩:=hm
  rw [ho] at ho'; cases ho'
  exact⟨_,es',ep',hL,r'⟩) hok hg
theorem a7.turned {t':Nat}{it:Addr} (I:a7 X pins σ H s) (k:∀ b o,b ≠ it->s.heap.get? b=some o->h'.get? b=some o) (hn:H it=none) (hL:it ≠ X.env.locals)
  (h1:it ∈ X.ex ∨ X.s₀.heap.objs.size<=it) (h2:∀ x c,X.env.cells.lookup x=some c->c ≠ it) (h3:∀ p ∈ X.pn ++ pins,p.1 ≠ it):a7 X pins σ H { s with heap:=h',toks:=t' }:=by
 have nit:∀ b u,H b=some u->b ≠ it:=fun b u e z=>by rw [z,hn] at e; cases e
 refine I.step (g':=s.gens) (d':=s.drawn) (ch:=[it]) (fun b hb=>?_) (fun b o _ _ hc e _=>k b o (fun z=>hc (by simp [z])) e) (fun b o _ _ hc e _=>⟨o.slots,k b o (fun z=>hc (by simp [z])) e⟩) (fun _ _ _ _ n=>n)
  (fun b o hc e=>⟨o,k b o (fun z=>hc (by simp [z])) e⟩) (fun _ _ e=>e) (fun _ _ _ e=>e) (fun b ps e=>⟨#[],by rw [e]; simp⟩) (fun m hm=>?_) (fun b u e=>?_) I.bare
 ·have e:b=it:=by simpa using hb
  subst e
  exact⟨h1,hL,h2,h3⟩
 ·obtain ⟨o,es,ep,ho,r⟩:=hm
  exact⟨o,es,ep,k _ o (Ne.symm hL) ho,r⟩
 ·refine (I.hok b u e).stay (fun c v hc q=>k c v ?_ q) (fun _ q=>q) fun _ _ q=>q
  rcases hc with z | z
  ·rw [z]; exact nit b u e
  ·exact nit c _ z
theorem a7.tok (I:a7 X pins σ H s) (t:Nat):a7 X pins σ H { s with toks:=t }:=I.un (h':=s.heap) (t':=t) Un.refl I.hok
theorem a7.kept {t':Nat} (I:a7 X pins σ H s) (k:∀ b u,s.heap.get? b=some u->h'.get? b=some u):a7 X pins σ H { s with heap:=h',toks:=t' }:=I.un (Un.kept k) (I.hok.kept k)
theorem a7.laid {a:Addr}{o:HO}{t':Nat} (I:a7 X pins σ H s) (k:∀ b u,s.heap.get? b=some u->h'.get? b=some u) (hp:s.heap.objs.size<=a) (new:bO X.prog X.w (upd H a o) h' a o) :
  a7 X pins σ (upd H a o) { s with heap:=h',toks:=t' }:=I.un (Un.laid k hp (I.hok.fresh hp)) (I.hok.laid k hp new)
theorem a7.write {x e:Addr}{o:HO}{t':Nat} (I:a7 X pins σ H s) (mu:mH (H x)) (he:e=x ∨ H e=some (.own x)) (k:∀ b u,b ≠ e->s.heap.get? b=some u->h'.get? b=some u) (heo:∃ u,h'.get? e=some u)
  (new:bO X.prog X.w (upd H x o) h' x o):a7 X pins σ (upd H x o) { s with heap:=h',toks:=t' }:=I.un (Un.write mu he k heo) (I.hok.write mu he k heo new)
theorem a7.weak {σ':List (Option V)} (I:a7 X pins σ H s) (hl:σ'.length=σ.length) (w:∀ (i:Nat) v,σ'[i]? = some (some v)->σ[i]? = some (some v)):a7 X pins σ' H s:=
 ⟨I.ok,I.os,I.bare,I.base,let ⟨m,hn,hl'⟩:=I.loc; ⟨m,hn,fun i x v e1 e2 e3=>hl' i x v e1 (w i v e2) e3⟩,I.cell,I.free,I.freeC,I.pin,I.hok,hl.trans I.len⟩
theorem a7.pins_of {pins':List (Addr × Obj)} (I:a7 X pins σ H s) (h:∀ p ∈ pins',s.heap.get? p.1=some p.2/\H p.1=none/\p.1 ≠ X.env.locals/\p.1 ∉ X.fs/\∀ v,p.2.data ≠ .cell v):a7 X pins' σ H s:=
 ⟨I.ok,I.os,I.bare,I.base,I.loc,I.cell,I.free,I.freeC,fun p hp=>(aW8.mp hp).elim (fun z=>I.pin p (bg8 _ z)) (h p),I.hok,I.len⟩
theorem rT {N:List Str} (hN:N.Nodup) {i j:Nat}{x:Str} (a:N[i]? = some x) (b:N[j]? = some x):i=j:=by
 obtain ⟨h1,e1⟩:=aV0.mp a
 obtain ⟨h2,e2⟩:=aV0.mp b
 exact (List.getElem_inj hN).mp (e1.trans e2.symm)
theorem rV {M:Model}{A:Around}{E:Value->Shared->Prop}{i:Nat}{x:Str}{v:V}{u:Value}{Q:Unit->Shared->Prop} (I:a7 X pins σ H s) (hN:X.N.Nodup) (hi:X.N[i]? = some x) (hx:gW X.env.scope x) (r:aW v u)
  (h:∀ s',a7 X pins (σ.set i (some v)) H s'->(∃ a,Heap.SameBut a s.heap s'.heap/\(a=X.env.locals ∨ X.env.cells.lookup x=some a))->Q () s') (hf:X.fn x=true ∨ X.env.scope.names.lookup x=some .local:=by first | exact .inl rfl | exact .inr rfl | assumption):wpAny M A (storeName X.env x u) Q E s:=by
 obtain ⟨m,hn,hl⟩:=id I.loc
 have hcls:(X.env.scope.kind == .class || (X.env.scope.kind == .module && X.env.locals != X.env.globals))=false:=by rw [I.ok.kind]; rfl
 have hiσ:i < σ.length:=by rw [I.len]; exact (aV0.mp hi).1
 have cne:=I.cne
 have tracked:∀ {a:Addr}{h':Heap},(∃ o,s.heap.get? a=some o/\H a=none)->Heap.SameBut a s.heap h'->bX X.prog X.w H h':=fun {a h'} ha hs b ob e=>by
  obtain ⟨_,_,hfree⟩:=ha
  refine (I.hok b ob e).stay (fun c w' hc q=>(hs.2 c ?_).trans q) (fun _ q=>q) fun _ _ q=>q
  rintro rfl
  rcases hc with rfl | hc
  ·rw [hfree] at e; cases e
  ·rw [hfree] at hc; cases hc
 rcases hx with hk | hk
 ·refine wpAny_storeName_local hk hn (fun h' hn' hs=>?_) hcls
  obtain ⟨oL,_,_,hoL,_⟩:=id hn
  refine h _ ⟨I.ok,I.os,I.bare,⟨fun b o e n hb hx=>?_,fun b o e n hb hx=>?_,I.base.free,fun b o e hx=>?_,I.base.tups,I.base.frzs,I.base.tbls⟩,⟨_,hn',fun j y v' e1 e2 e3=>?_⟩,fun y c e=>?_,I.free,I.freeC,fun p hp=>?_,tracked ⟨oL,hoL,I.free⟩ hs,by simpa using I.len⟩ ⟨_,hs,.inl rfl⟩
  ·exact (hs.2 b (aW6 (aU9 (aU8 e) I.ok.above))).trans (I.base.keep b o e n hb hx)
  ·obtain ⟨sl,e1⟩:=I.base.slot b o e n hb hx
   exact⟨sl,(hs.2 b (aW6 (aU9 (aU8 e) I.ok.above))).trans e1⟩
  ·obtain ⟨o',e1⟩:=I.base.there b o e hx
   exact⟨o',(hs.2 b (aW6 (aU9 (aU8 e) I.ok.above))).trans e1⟩
  ·by_cases hj:j=i
   ·subst hj
    rw [hi] at e1; cases e1
    rw [bc3 hiσ] at e2
    cases e2
    exact⟨u,r,.inl ⟨hk,by simp⟩⟩
   ·rw [aW3 (Ne.symm hj)] at e2
    obtain ⟨u',r',q⟩:=hl j y v' e1 e2 e3
    refine⟨u',r',?_⟩
    rcases q with ⟨k,e⟩ | ⟨k,c,e,z⟩
    ·refine .inl ⟨k,?_⟩
     have:y ≠ x:=fun e=>hj (rT hN e1 (e ▸ hi))
     simp [this,e]
    ·exact .inr ⟨k,c,e,z.sameBut hs (cne y c e)⟩
  ·obtain ⟨w',z⟩:=I.cell y c e
   exact⟨w',z.sameBut hs (cne y c e)⟩
  ·obtain ⟨e,n,ne,nf,d⟩:=I.pin p hp
   exact⟨(hs.2 p.1 ne).trans e,n,ne,nf,d⟩
 ·have hfn:X.fn x=true:=by
   rcases hf with z | z
   ·exact z
   ·rw [z] at hk; cases hk
  obtain ⟨c,hc⟩:=I.ok.has x (.inl hk)
  obtain ⟨w',z⟩:=I.cell x c hc
  refine wpAny_storeName_cell I.ok.kind hk hc z (fun h' hc' hs=>?_)
  obtain ⟨oc,hoc,hocd⟩:=id z
  refine h { s with heap:=h' } ⟨I.ok,I.os,I.bare,⟨fun b o e n hb hx=>?_,fun b o e n hb hx=>?_,I.base.free,fun b o e hx=>?_,I.base.tups,I.base.frzs,I.base.tbls⟩,⟨m,hn.sameBut hs (Ne.symm (cne x c hc)),fun j y v' e1 e2 e3=>?_⟩,fun y c' e=>?_,I.free,I.freeC,fun p hp=>?_,tracked ⟨oc,hoc,I.freeC x c hc⟩ hs,by simpa using I.len⟩ ⟨c,hs,.inr hc⟩
  ·exact (hs.2 b (aW6 (aU9 (aU8 e) (I.ok.cab x c hfn hc)))).trans (I.base.keep b o e n hb hx)
  ·obtain ⟨sl,e1⟩:=I.base.slot b o e n hb hx
   exact⟨sl,(hs.2 b (aW6 (aU9 (aU8 e) (I.ok.cab x c hfn hc)))).trans e1⟩
  ·obtain ⟨o',e1⟩:=I.base.there b o e hx
   exact⟨o',(hs.2 b (aW6 (aU9 (aU8 e) (I.ok.cab x c hfn hc)))).trans e1⟩
  ·by_cases hj:j=i
   ·subst hj
    rw [hi] at e1; cases e1
    rw [bc3 hiσ] at e2
    cases e2
    exact⟨u,r,.inr ⟨.inl hk,c,hc,hc'⟩⟩
   ·rw [aW3 (Ne.symm hj)] at e2
    obtain ⟨u',r',q⟩:=hl j y v' e1 e2 e3
    refine⟨u',r',?_⟩
    rcases q with q | ⟨k,c',e,z'⟩
    ·exact .inl q
    ·refine .inr ⟨k,c',e,z'.sameBut hs ?_⟩
     rintro rfl
     exact hj (rT hN e1 (I.ok.inj _ _ _ e hc ▸ hi))
  ·by_cases hcc:c'=c
   ·subst hcc; exact⟨_,hc'⟩
   ·obtain ⟨w2,z2⟩:=I.cell y c' e
    exact⟨w2,z2.sameBut hs hcc⟩
  ·obtain ⟨e,n,ne,nf,d⟩:=I.pin p hp
   refine⟨(hs.2 p.1 ?_).trans e,n,ne,nf,d⟩
   intro q
   rw [q,hoc] at e
   have q':oc=p.2:=aW4 e
   exact d w' (by rw [<- q']; exact hocd)
theorem oN {M:Model}{A:Around}{E:Value->Shared->Prop}{i:Nat}{x:Str}{v:V}{u:Value}{Q:Unit->Shared->Prop} (I:a7 X pins σ H s) (hN:X.N.Nodup) (hi:X.N[i]? = some x) (hx:gW X.env.scope x) (r:aW v u)
  (h:∀ s',a7 X pins (σ.set i (some v)) H s'->Q () s') (hf:X.fn x=true ∨ X.env.scope.names.lookup x=some .local:=by first | exact .inl rfl | exact .inr rfl | assumption):wpAny M A (storeName X.env x u) Q E s:=
 rV I hN hi hx r (fun s' I' _=>h s' I') hf
theorem a7.call' {s':Shared}{ch:List Addr} (I:a7 X pins σ H s) (ho:s'.os=s.os) (u:Un (bS X.stack) ch H H' s.heap s'.heap) (hok:bX X.prog X.w H' s'.heap) (hg:AllBare s'.gens)
  (hch:∀ b ∈ ch,(b ∈ X.ex ∨ X.s₀.heap.objs.size<=b)/\b ≠ X.env.locals/\(∀ x c,X.env.cells.lookup x=some c->c ≠ b)/\∀ p ∈ X.pn ++ pins,p.1 ≠ b):a7 X pins σ H' s':=by
 obtain ⟨h',g',d',t',o'⟩:=s'
 have e:o'=s.os:=ho
 subst e
 exact I.call (g':=g') (t':=t') (d':=d') u hok hg hch
end
noncomputable abbrev XK:=Value->Option Addr->Hp->Prop
noncomputable abbrev St:=List (Option V)
noncomputable abbrev VK:=V->Hp->Prop
noncomputable abbrev TE:=St->Hp->VK->Prop
noncomputable abbrev TT:=St->Hp->(Bool->Hp->Prop)->Prop
noncomputable abbrev TA:=St->Hp->(List V->Hp->Prop)->Prop
structure cK where
 nx:St->Hp->Prop
 rt:VK
 bk:St->Hp->Prop:=fun _ _=>False
 ct:St->Hp->Prop:=fun _ _=>False
noncomputable abbrev TS:=cK->St->Hp->Prop
noncomputable def EP (X:Cx) (pins:List (Addr × Obj)) (σ:St) (Q:VK) (u:Value) (s':Shared):Prop:=∃ v H',a7 X pins σ H' s'/\aW v u/\Q v H'
noncomputable def TP (X:Cx) (pins:List (Addr × Obj)) (σ:St) (Q:Bool->Hp->Prop) (b:Bool) (s':Shared):Prop:=∃ H',a7 X pins σ H' s'/\Q b H'
noncomputable def AP (X:Cx) (pins:List (Addr × Obj)) (σ:St) (Q:List V->Hp->Prop) (us:List Value) (s':Shared):Prop:=∃ vs H',a7 X pins σ H' s'/\aJ vs us/\Q vs H'
noncomputable def SP (X:Cx) (pins:List (Addr × Obj)) (D:cK) (f:Flow) (s':Shared):Prop:=
 match f with
 | .next=>∃ σ' H',a7 X pins σ' H' s'/\D.nx σ' H'
 | .brk=>∃ σ' H',a7 X pins σ' H' s'/\D.bk σ' H'
 | .cont=>∃ σ' H',a7 X pins σ' H' s'/\D.ct σ' H'
 | .ret u=>∃ v σ' H',a7 X pins σ' H' s'/\aW v u/\D.rt v H'
noncomputable def PE (X:Cx) (e:Expr) (t:TE):Prop:=
 ∀ (pins:List (Addr × Obj)) (s:Shared) (σ:St) (H:Hp) (Q:VK),a7 X pins σ H s->t σ H Q->wpAny (model X.prog X.w) X.A (eval e X.env) (EP X pins σ Q) X.xe s
noncomputable def PT (X:Cx) (e:Expr) (t:TT):Prop:=
 ∀ (pins:List (Addr × Obj)) (s:Shared) (σ:St) (H:Hp) (Q:Bool->Hp->Prop),a7 X pins σ H s->t σ H Q->wpAny (model X.prog X.w) X.A (isTrue e X.env (eval e X.env)) (TP X pins σ Q) X.xe s
noncomputable def PW (X:Cx) (e:Expr) (t:TT):Prop:=
 ∀ (whole:Sem Value) (pins:List (Addr × Obj)) (s:Shared) (σ:St) (H:Hp) (Q:Bool->Hp->Prop),a7 X pins σ H s->t σ H Q->wpAny (model X.prog X.w) X.A (isTrue e X.env whole) (TP X pins σ Q) X.xe s
theorem PW.pt {X:Cx}{e:Expr}{t:TT} (h:PW X e t):PT X e t:=h _
noncomputable def PA (X:Cx) (es:List Expr) (t:TA):Prop:=
 ∀ (pos:Pos) (pins:List (Addr × Obj)) (s:Shared) (σ:St) (H:Hp) (Q:List V->Hp->Prop),a7 X pins σ H s->t σ H Q->wpAny (model X.prog X.w) X.A (spliced (backTo pos (starEach es X.env))) (AP X pins σ Q) X.xe s
noncomputable def PS (X:Cx) (st:Stmt) (t:TS):Prop:=
 ∀ (pins:List (Addr × Obj)) (s:Shared) (σ:St) (H:Hp) (D:cK),a7 X pins σ H s->t D σ H->wpAny (model X.prog X.w) X.A (exec st X.env) (SP X pins D) X.xe s
noncomputable def dJ (X:Cx) (st:List Stmt) (t:TS):Prop:=
 ∀ (pins:List (Addr × Obj)) (s:Shared) (σ:St) (H:Hp) (D:cK),a7 X pins σ H s->t D σ H->wpAny (model X.prog X.w) X.A (execs st X.env) (SP X pins D) X.xe s
theorem aP {α:Type}{t:Sem α}{Q Q':α->Shared->Prop}{M:Model}{A:Around}{E:Value->Shared->Prop}{s:Shared} (h:wpAny M A t Q E s) (hQ:∀ a s,Q a s->Q' a s):wpAny M A t Q' E s:=bc4 h hQ fun _ _ x=>x
section
variable {X : Cx}
theorem bin {a b:Expr}{ta tb:TE} (ha:PE X a ta) (hb:PE X b tb) {pins:List (Addr × Obj)}{s:Shared}{σ:St}{H:Hp}{R:V->V->Hp->Prop} (I:a7 X pins σ H s) (h:ta σ H fun x H1=>tb σ H1 fun y H2=>R x y H2)
  {α:Type}{Q:α->Shared->Prop}{f:Value->Value->Sem α}
  (hf:∀ v u s2 x y H2,a7 X pins σ H2 s2->aW x v->aW y u->R x y H2->wpAny (model X.prog X.w) X.A (f v u) Q X.xe s2) :
  wpAny (model X.prog X.w) X.A (eval a X.env) (fun v s₁=>wpAny (model X.prog X.w) X.A (eval b X.env) (fun u s₂=>wpAny (model X.prog X.w) X.A (f v u) Q X.xe s₂) X.xe s₁) X.xe s:=by
 refine aP (ha pins s σ H _ I h) fun v s1 ⟨x,H1,I1,r1,q1⟩=>?_
 refine aP (hb pins s1 σ H1 _ I1 q1) fun u s2 ⟨y,H2,I2,r2,q2⟩=>?_
 exact hf v u s2 x y H2 I2 r1 r2 q2
noncomputable def gX (i:Nat):TE:=fun σ H Q=>∃ v,σ[i]? = some (some v)/\Q v H
noncomputable def tC (v:V):TE:=fun _ H Q=>Q v H
theorem iG {i:Nat}{x:Str}{pos:Pos} (hN:X.N[i]? = some x) (hv:fR X.env.scope x) (hd:(x == ("__debug__" : Str))=false:=by decide) (hcd:(x == ("__classdict__" : Str))=false:=by decide):PE X (.Name x pos) (gX i):=by
 intro pins s σ H Q I h
 obtain ⟨v,e,h⟩:=h
 obtain ⟨m,hn,hl⟩:=I.loc
 obtain ⟨u,r,l⟩:=hl i x v hN e hv
 have fin:EP X pins σ Q u s:=⟨v,H,I,r,h⟩
 rcases l with ⟨hk,hm⟩ | ⟨hk,c,hc,hcell⟩
 ·exact wpAny_Name (wpAny_loadName_local I.ok.kind hk hn hm fin) hd
 ·rcases hk with hk | hk
  ·exact wpAny_Name (wpAny_loadName_cell I.ok.kind hk hc hcell fin) hd
  ·exact wpAny_Name (wpAny_loadName_free I.ok.kind hk hc hcell fin hcd) hd
theorem mJ {i j pos}:PE X (.Constant (.int i) j pos) (tC (.int i)):=fun _ _ _ H _ I h=>wpAny_Constant_int ⟨.int i,H,I.tok _,⟨_,rfl⟩,h⟩
theorem Z0 {b j pos}:PE X (.Constant (.bool b) j pos) (tC (.bl b)):=fun _ _ _ H _ I h=>Constant_bool ⟨.bl b,H,I,rfl,h⟩
theorem Z1 {j pos}:PE X (.Constant .none j pos) (tC .non):=fun _ _ _ H _ I h=>Constant_none ⟨.non,H,I,rfl,h⟩
theorem Z2 {x j pos}:PE X (.Constant (.str x) j pos) (tC (.str x)):=fun _ _ _ H _ I h=>Calls.Constant_str ⟨.str x,H,I.tok _,⟨_,rfl⟩,h⟩
noncomputable def Gl (X:Cx) (x:Str):Prop:=X.env.kindOf x=some .globalImplicit
theorem mK {E:Value->Shared->Prop}{pins:List (Addr × Obj)}{s:Shared}{σ:St}{H:Hp}{x:Str}{u:Value}{pos:Pos}{Q:Value->Shared->Prop} (I:a7 X pins σ H s) (hg:Gl X x) (hm:X.mg x=some u) (h:Q u s)
  (hd:(x == ("__debug__" : Str))=false:=by decide):wpAny (model X.prog X.w) X.A (eval (.Name x pos) X.env) Q E s:=
 Calls.Name_function_global I.ok.kind hg (Calls.loadGlobal_global (by rw [I.ok.glob]; exact I.mod.glob.keeps I.bk) hm h) hd
theorem gY {E:Value->Shared->Prop}{pins:List (Addr × Obj)}{s:Shared}{σ:St}{H:Hp}{x:Str}{u:Value}{pos:Pos}{Q:Value->Shared->Prop} (I:a7 X pins σ H s) (hg:Gl X x) (hm:X.mg x=none) (hv:bootBuiltins x=some u) (h:Q u s)
  (hn:x ≠ "__name__":=by decide) (hd:(x == ("__debug__" : Str))=false:=by decide):wpAny (model X.prog X.w) X.A (eval (.Name x pos) X.env) Q E s:=by
 obtain ⟨mb,h1,h2⟩:=I.mod.blt
 exact Calls.Name_function_global I.ok.kind hg (Calls.loadGlobal_builtin (by rw [I.ok.glob]; exact I.mod.glob.keeps I.bk) hm (by rw [I.ok.blt]; exact h1.keeps I.bk) ((h2 x hn).trans hv) h) hd
theorem wL {x:Str}{v:V}{u:Value}{pos:Pos} (hg:Gl X x) (hm:X.mg x=some u) (r:aW v u) (hd:(x == ("__debug__" : Str))=false:=by decide):PE X (.Name x pos) (tC v):=
 fun _ _ _ H _ I h=>mK I hg hm ⟨v,H,I,r,h⟩ hd
theorem wM {x:Str}{v:V}{u:Value}{pos:Pos} (hg:Gl X x) (hm:X.mg x=none) (hv:bootBuiltins x=some u) (r:aW v u) (hn:x ≠ "__name__":=by decide) (hd:(x == ("__debug__" : Str))=false:=by decide):PE X (.Name x pos) (tC v):=
 fun _ _ _ H _ I h=>gY I hg hm hv ⟨v,H,I,r,h⟩ hn hd
variable {a b : Expr} {ta tb : TE} {pos : Pos}
noncomputable def PC (X:Cx) (op:CmpOp) (a b:Expr) (t:TE):Prop:=
 ∀ (pins:List (Addr × Obj)) (s:Shared) (σ:St) (H:Hp) (Q:VK),a7 X pins σ H s->t σ H Q->
  wpAny (model X.prog X.w) X.A (eval a X.env) (fun v s₁=>wpAny (model X.prog X.w) X.A (eval b X.env) (fun u s₂=>wpAny (model X.prog X.w) X.A (compareOp op v u) (EP X pins σ Q) X.xe s₂) X.xe s₁) X.xe s
noncomputable def tB (t:TE):TT:=fun σ H Q=>t σ H fun x H1=>∃ c,x = .bl c/\Q c H1
theorem aT0 {op:CmpOp}{t:TE} (h:PC X op a b t) (h1:behindInMarks op b=false:=by first | exact nobehind _ (by decide) (by decide) | rfl):PT X (.Compare a [op] [b] pos) (tB t):=by
 intro pins s σ H Q I hw
 refine wpAny_isTrue_Compare1 (aP (h pins s σ H _ I hw) fun v s1 h1=>aP h1 fun u s2 h2=>aP h2 fun c s3 ⟨x,H1,I1,r1,q1⟩=>?_) h1
 obtain ⟨d,rfl,q⟩:=q1
 cases r1
 exact bh1 ⟨H1,I1,q⟩
theorem Z3 {e:Expr}{t:TE} (h:PE X e t) (he:∀ whole,isTrue e X.env whole=(do let v <- whole; standAt e.pos; holding [v] (truthy v)):=by intro _; rfl):PT X e (tB t):=by
 intro pins s σ H Q I hw
 refine isTrue_plain (aP (h pins s σ H _ I hw) fun v s1 ⟨x,H1,I1,r1,q1⟩=>?_) (he _)
 obtain ⟨d,rfl,q⟩:=q1
 cases r1
 exact bh1 ⟨H1,I1,q⟩
variable {tA tB' : TT} {dA : List Expr}
noncomputable def wN (t u:TT):TT:=fun σ H Q=>t σ H fun c H1=>if c=true then u σ H1 Q else Q false H1
noncomputable def wO (t u:TT):TT:=fun σ H Q=>t σ H fun c H1=>if c=true then Q true H1 else u σ H1 Q
noncomputable def wP (t:TT):TT:=fun σ H Q=>t σ H fun c H1=>Q (!c) H1
theorem Z4 (ha:PT X a tA):PW X (.BoolOp .And [a] pos) tA:=by
 intro wh pins s σ H Q I h
 refine isTrue_and (aP (ha pins s σ H Q I h) fun c s1 e=>?_)
 cases c with
 | true=>exact isTrue_and_nil e
 | false=>exact e
theorem Z5 (ha:PT X a tA):PW X (.BoolOp .Or [a] pos) tA:=by
 intro wh pins s σ H Q I h
 refine isTrue_or (aP (ha pins s σ H Q I h) fun c s1 e=>?_)
 cases c with
 | false=>exact isTrue_or_nil e
 | true=>exact e
theorem Z6 (ha:PT X a tA) (hb:PW X (.BoolOp .And (b :: dA) pos) tB'):PW X (.BoolOp .And (a :: b :: dA) pos) (wN tA tB'):=by
 intro wh pins s σ H Q I h
 refine isTrue_and (aP (ha pins s σ H _ I h) fun c s1 ⟨H1,I1,q1⟩=>?_)
 cases c with
 | true=>exact hb wh pins s1 σ H1 Q I1 q1
 | false=>exact⟨H1,I1,q1⟩
theorem Z7 (ha:PT X a tA) (hb:PW X (.BoolOp .Or (b :: dA) pos) tB'):PW X (.BoolOp .Or (a :: b :: dA) pos) (wO tA tB'):=by
 intro wh pins s σ H Q I h
 refine isTrue_or (aP (ha pins s σ H _ I h) fun c s1 ⟨H1,I1,q1⟩=>?_)
 cases c with
 | true=>exact⟨H1,I1,q1⟩
 | false=>exact hb wh pins s1 σ H1 Q I1 q1
theorem Z8 (ha:PT X a tA):PT X (.UnaryOp .Not a pos) (wP tA):=by
 intro pins s σ H Q I h
 exact isTrue_not (ha pins s σ H (fun c H1=>Q (!c) H1) I h)
noncomputable def wQ (ta tb:TE):TE:=fun σ H Q=>ta σ H fun x H1=>∃ c,x = .bl c/\if c=true then tb σ H1 Q else Q (.bl false) H1
noncomputable def wR (ta:TE):TE:=fun σ H Q=>ta σ H fun x H1=>∃ c,x = .bl c/\Q (.bl (!c)) H1
theorem Z9 {op}{t:TE} (h:PE X a t):PE X (.BoolOp op [a] pos) t:=fun pins s σ H Q I hw=>BoolOp_one (h pins s σ H Q I hw)
theorem aa0 (ha:PE X a ta) (hb:PE X (.BoolOp .And (b :: dA) pos) tb):PE X (.BoolOp .And (a :: b :: dA) pos) (wQ ta tb):=by
 intro pins s σ H Q I h
 refine BoolOp_and (aP (ha pins s σ H _ I h) fun v s1 ⟨x,H1,I1,r1,q1⟩=>?_)
 obtain ⟨c,rfl,q1⟩:=q1
 cases r1
 refine bh1 ?_
 cases c with
 | true=>exact hb pins s1 σ H1 Q I1 q1
 | false=>exact⟨.bl false,H1,I1,rfl,q1⟩
theorem aa1 (ha:PE X a ta):PE X (.UnaryOp .Not a pos) (wR ta):=by
 intro pins s σ H Q I h
 refine UnaryOp_ (aP (ha pins s σ H _ I h) fun v s1 ⟨x,H1,I1,r1,q1⟩=>?_)
 obtain ⟨c,rfl,q1⟩:=q1
 cases r1
 exact not_of (bh1 ⟨.bl (!c),H1,I1,rfl,q1⟩)
end
noncomputable def aK (K:PySem.W.Frag) (H:Hp) (a:Addr) (xs:List V):Prop:=
 Rd H a (.lst xs) ∨
  ∃ (o:Obj) (its:Array Value) (n:Nat),K.lookup a=some o/\o.cls = .type "list"/\o.dict=none/\o.data = .seq its n/\its.size<=sizeLine/\aJ xs its.toList
noncomputable def aH (K:PySem.W.Frag) (H:Hp) (a:Addr) (xs:List V):Prop:=
 Rd H a (.tup xs) ∨
  ∃ (o:Obj) (its:Array Value) (n:Nat),K.lookup a=some o/\o.cls = .type "tuple"/\o.data = .seq its n/\its.size<=sizeLine/\aJ xs its.toList
noncomputable def aa2:Value->Option V
 | .none=>some .non
 | .bool b=>some (.bl b)
 | .int i _=>some (.int i)
 | .str x _=>some (.str x)
 | .bytes b _=>some (.byt b)
 | .float b _=>some (.flt b)
 | .ref a=>some (.ref a)
 | .type n=>some (.ty n)
 | _=>none
theorem aW.abs {x:V}{u:Value} (r:aW x u):aa2 u=some x:=by
 cases x with
 | non=>cases r; rfl
 | bl _=>cases r; rfl
 | int _=>obtain ⟨t,rfl⟩:=r; rfl
 | str _=>obtain ⟨t,rfl⟩:=r; rfl
 | byt _=>obtain ⟨t,rfl⟩:=r; rfl
 | flt _=>obtain ⟨t,rfl⟩:=r; rfl
 | ref _=>cases r; rfl
 | ty _=>cases r; rfl
theorem aW.inj {x y:V}{u:Value} (r:aW x u) (q:aW y u):x=y:=aW4 (r.abs.symm.trans q.abs)
theorem aJ.inj:∀ {xs ys:List V}{us:List Value},aJ xs us->aJ ys us->xs=ys
 | _,_,_,.nil,.nil=>rfl
 | _,_,_,.cons r t,.cons r' t'=>by rw [r.inj r',aJ.inj t t']
section
variable {X : Cx} {pins : List (Addr × Obj)} {σ : St} {H : Hp} {s : Shared} {a : Addr} {xs ys : List V}
theorem aK.of {K:PySem.W.Frag} (h:H a=some (.lst xs)):aK K H a xs:=.inl (.inl h)
theorem aH.of {K:PySem.W.Frag} (h:H a=some (.tup xs)):aH K H a xs:=.inl (.inl h)
theorem a7.list (I:a7 X pins σ H s) (h:aK X.K H a xs):∃ its:List Value,aJ xs its/\PlainL s.heap a its.toArray/\xs.length<=sizeLine:=by
 rcases h with h | ⟨o,its,n,hk,hc,hd,hs,hz,r⟩
 ·obtain ⟨z,its,n,r,e⟩:=h.ok I.hok
  exact⟨its,r,⟨_,n,e,rfl,rfl,rfl⟩,z⟩
 ·refine⟨its.toList,r,⟨o,n,I.kIn a o hk,hc,hd,by simpa using hs⟩,?_⟩
  have e:=r.length
  simp only [aV7] at e
  omega
theorem a7.tuple (I:a7 X pins σ H s) (h:aH X.K H a xs):∃ its:List Value,aJ xs its/\IsTup s.heap a its.toArray/\xs.length<=sizeLine:=by
 rcases h with h | ⟨o,its,n,hk,hc,hs,hz,r⟩
 ·obtain ⟨z,its,r,p,_⟩:=h.ok I.hok
  exact⟨its,r,p,z⟩
 ·refine⟨its.toList,r,⟨o,I.kIn a o hk,hc,n,by simpa using hs⟩,?_⟩
  have e:=r.length
  simp only [aV7] at e
  omega
theorem a7.list_inj (I:a7 X pins σ H s) (h:aK X.K H a xs) (h':aK X.K H a ys):xs=ys:=by
 obtain ⟨its,r,⟨o,n,e,_,_,d⟩,_⟩:=I.list h
 obtain ⟨its',r',⟨o',n',e',_,_,d'⟩,_⟩:=I.list h'
 rw [e] at e'; cases e'
 rw [d] at d'
 injection d' with d1 _
 have:its=its':=by simpa using congrArg Array.toList d1
 subst this
 exact r.inj r'
theorem a7.tuple_inj (I:a7 X pins σ H s) (h:aH X.K H a xs) (h':aH X.K H a ys):xs=ys:=by
 obtain ⟨its,r,⟨o,e,_,n,d⟩,_⟩:=I.tuple h
 obtain ⟨its',r',⟨o',e',_,n',d'⟩,_⟩:=I.tuple h'
 rw [e] at e'; cases e'
 rw [d] at d'
 injection d' with d1 _
 have:its=its':=by simpa using congrArg Array.toList d1
 subst this
 exact r.inj r'
end
noncomputable abbrev Cx.wish (X:Cx) (E:Value->Shared->Prop):Cx:={ X with xe:=E }
noncomputable abbrev Cx.nox (X:Cx):Cx:=X.wish fun _ _=>False
theorem Cx.Ok.wish {X:Cx} (ok:X.Ok) (E:Value->Shared->Prop):(X.wish E).Ok:=
 ⟨ok.mod,ok.kind,ok.glob,ok.blt,ok.above,ok.inj,ok.has,ok.cab,ok.hd,ok.frames,ok.stk,ok.exf,ok.bs,ok.bsz,ok.noex,ok.exfs,ok.funs,ok.frf⟩
theorem Cx.Ok.unwish {X:Cx}{E:Value->Shared->Prop} (ok:(X.wish E).Ok):X.Ok:=
 ⟨ok.mod,ok.kind,ok.glob,ok.blt,ok.above,ok.inj,ok.has,ok.cab,ok.hd,ok.frames,ok.stk,ok.exf,ok.bs,ok.bsz,ok.noex,ok.exfs,ok.funs,ok.frf⟩
section
variable {X : Cx} {pins : List (Addr × Obj)} {σ : St} {H : Hp} {s : Shared} {E : Value → Shared → Prop}
theorem a7.wish (I:a7 X pins σ H s) (E:Value->Shared->Prop):a7 (X.wish E) pins σ H s:=⟨I.ok.wish E,I.os,I.bare,I.base,I.loc,I.cell,I.free,I.freeC,I.pin,I.hok,I.len⟩
theorem a7.unwish (I:a7 (X.wish E) pins σ H s):a7 X pins σ H s:=⟨I.ok.unwish,I.os,I.bare,I.base,I.loc,I.cell,I.free,I.freeC,I.pin,I.hok,I.len⟩
theorem SP.unwish {D:cK}{f:Flow}{s':Shared} (h:SP (X.wish E) pins D f s'):SP X pins D f s':=by
 cases f with
 | next=>obtain ⟨σ',H',I,q⟩:=h; exact⟨σ',H',I.unwish,q⟩
 | brk=>obtain ⟨σ',H',I,q⟩:=h; exact⟨σ',H',I.unwish,q⟩
 | cont=>obtain ⟨σ',H',I,q⟩:=h; exact⟨σ',H',I.unwish,q⟩
 | ret u=>obtain ⟨v,σ',H',I,r,q⟩:=h; exact⟨v,σ',H',I.unwish,r,q⟩
theorem dJ.nox {st:List Stmt}{t:TS} (h:dJ X.nox st t):dJ X st t:=fun pins s σ H D I hw=>
 bc4 (h pins s σ H D (I.wish _) hw) (fun _ _ q=>q.unwish) fun _ _ z=>False.elim z
end
section
variable {X : Cx} {st : Stmt} {dA : List Stmt} {t u : TS} {e : Expr} {te : TE} {pos : Pos}
noncomputable def wS:TS:=fun D σ H=>D.nx σ H
noncomputable def wT (t u:TS):TS:=fun D σ H=>t { D with nx:=u D } σ H
theorem aa3:dJ X [] wS:=fun _ _ σ H _ I h=>wpAny_execs_nil ⟨σ,H,I,h⟩
theorem oO (h1:PS X st t) (h2:dJ X dA u):dJ X (st :: dA) (wT t u):=by
 intro pins s σ H D I h
 refine wpAny_execs_cons (aP (h1 pins s σ H { D with nx:=u D } I h) fun f s1 q=>?_)
 cases f with
 | next=>
  obtain ⟨σ',H',I',q⟩:=q
  exact h2 pins s1 σ' H' D I' q
 | ret v=>exact q
 | brk=>exact q
 | cont=>exact q
theorem mL (h1:PS X st t):dJ X [st] t:=by
 intro pins s σ H D I h
 refine wpAny_execs_cons (aP (h1 pins s σ H D I h) fun f s1 q=>?_)
 cases f with
 | next=>exact wpAny_execs_nil q
 | ret v=>exact q
 | brk=>exact q
 | cont=>exact q
theorem a7.quiet {pins:List (Addr × Obj)}{σ:St}{H:Hp}{s:Shared} (I:a7 X pins σ H s):interactive X.env=false:=by simp [interactive,I.ok.kind]
noncomputable def mM (te:TE):TS:=fun D σ H=>te σ H fun _ H1=>D.nx σ H1
theorem lD (he:PE X e te) (hs:swapsWith e none pos.line X.env=pure false:=by rfl):PS X (.Expr e pos) (mM te):=by
 intro pins s σ H D I h
 exact wpAny_Expr_any (aP (he pins s σ H _ I h) fun v s1 ⟨x,H1,I1,r1,q1⟩=>⟨σ,H1,I1,q1⟩) I.quiet hs
noncomputable def rW (te:TE):TS:=fun D σ H=>te σ H D.rt
theorem mO (he:PE X e te):PS X (.Return (some e) pos) (rW te):=by
 intro pins s σ H D I h
 exact wpAny_Return_some (aP (he pins s σ H _ I h) fun v s1 ⟨x,H1,I1,r1,q1⟩=>⟨x,σ,H1,I1,r1,q1⟩)
noncomputable def wU (c:TT) (t u:TS):TS:=fun D σ H=>c σ H fun b H1=>if b=true then t D σ H1 else u D σ H1
theorem aa4 {c:Expr}{a b:List Stmt}{tc:TT} (hc:PT X c tc) (ha:dJ X a t) (hb:dJ X b u):PS X (.If c a b pos) (wU tc t u):=by
 intro pins s σ H D I h
 refine wpAny_If (aP (hc pins s σ H _ I h) fun d s1 ⟨H1,I1,q1⟩=>?_)
 cases d with
 | true=>exact ha pins s1 σ H1 D I1 q1
 | false=>exact hb pins s1 σ H1 D I1 q1
end
noncomputable abbrev TG:=V->St->Hp->(St->Hp->Prop)->Prop
noncomputable abbrev kC:=List V->St->Hp->(St->Hp->Prop)->Prop
noncomputable def PG (X:Cx) (target:Expr) (t:TG):Prop:=
 ∀ (pins:List (Addr × Obj)) (s:Shared) (σ:St) (H:Hp) (v:V) (u:Value) (Q:St->Hp->Prop),a7 X pins σ H s->aW v u->t v σ H Q->
  wpAny (model X.prog X.w) X.A (assign target X.env u) (fun _ s'=>∃ σ' H',a7 X pins σ' H' s'/\Q σ' H') X.xe s
noncomputable def oP (X:Cx) (ts:List Expr) (t:kC):Prop:=
 ∀ (pins:List (Addr × Obj)) (s:Shared) (σ:St) (H:Hp) (vs:List V) (us:List Value) (Q:St->Hp->Prop),a7 X pins σ H s->aJ vs us->t vs σ H Q->
  wpAny (model X.prog X.w) X.A (assignInOrder ((assignEach ts X.env).map (·.2)) us) (fun _ s'=>∃ σ' H',a7 X pins σ' H' s'/\Q σ' H') X.xe s
noncomputable abbrev rX:=V->V->V->Hp->(Hp->Prop)->Prop
noncomputable def wV (X:Cx) (t:rX):Prop:=
 ∀ (pins:List (Addr × Obj)) (s:Shared) (σ:St) (H:Hp) (o i v:V) (ov iv u:Value) (Q:Hp->Prop),a7 X pins σ H s->aW o ov->aW i iv->aW v u->t o i v H Q->
  wpAny (model X.prog X.w) X.A (setItem ov iv u) (fun _ s'=>∃ H',a7 X pins σ H' s'/\Q H') X.xe s
section
variable {X : Cx} {pos : Pos}
noncomputable def cT (i:Nat):TG:=fun v σ H Q=>Q (σ.set i (some v)) H
theorem eU {i:Nat}{x:Str} (hN:X.N.Nodup) (hi:X.N[i]? = some x) (hx:gW X.env.scope x) (hf:X.fn x=true ∨ X.env.scope.names.lookup x=some .local:=by first | exact .inl rfl | exact .inr rfl | assumption):PG X (.Name x pos) (cT i):=by
 intro pins s σ H v u Q I r h
 exact wpAny_assign_Name (oN I hN hi hx r (fun s' I'=>⟨_,H,I',h⟩) hf)
noncomputable def kD:kC:=fun vs σ H Q=>vs = []/\Q σ H
noncomputable def fS (t:TG) (u:kC):kC:=fun vs σ H Q=>∃ v r,vs=v :: r/\t v σ H fun σ' H'=>u r σ' H' Q
theorem lE:oP X [] kD:=by
 intro pins s σ H vs us Q I r h
 obtain ⟨e,h⟩:=h
 subst e
 cases r
 exact assignInOrder_nil ⟨σ,H,I,h⟩
theorem gJ {e:Expr}{es:List Expr}{t:TG}{u:kC} (h1:PG X e t) (h2:oP X es u)
  (hs:(assignEach (e :: es) X.env).map (·.2)=assign e X.env :: (assignEach es X.env).map (·.2):=by rfl):oP X (e :: es) (fS t u):=by
 intro pins s σ H vs us Q I r h
 obtain ⟨v,vr,e1,h⟩:=h
 subst e1
 cases r with
 | cons r rr=>
  rw [hs]
  refine assignInOrder_cons (aP (h1 pins s σ H _ _ _ I r h) fun _ s1 ⟨σ1,H1,I1,q1⟩=>?_)
  exact h2 pins s1 σ1 H1 _ _ Q I1 rr q1
noncomputable def kE (K:PySem.W.Frag) (n:Nat) (t:kC):TG:=fun v σ H Q=>∃ a xs,v = .ref a/\aH K H a xs/\xs.length=n/\t xs σ H Q
theorem lF {es:List Expr}{k:Nat}{t:kC}{n:Nat} (hc:X.calm=true) (h:oP X es t)
  (hn:(assignEach es X.env).length=n:=by rfl) (hst:(assignEach es X.env).findIdx? (·.1)=none:=by rfl):PG X (.Tuple es k pos) (kE X.K n t):=by
 intro pins s σ H v u Q I r hw
 obtain ⟨a,xs,e1,hq,hl,hw⟩:=hw
 subst e1
 cases r
 obtain ⟨its,rv,ht,hz⟩:=I.tuple hq
 refine assign_Tuple_tuple (I.ok.hd hc) ht (by simp [hn,<- hl,rv.length]) hst fun h' hx=>?_
 have I1:a7 X pins σ H { s with heap:=h' }:=I.kept (t':=s.toks) fun b o e=>hx b o (aW6 (aU8 e)) e
 exact h pins _ σ H xs _ Q I1 (by simpa using rv) hw
noncomputable def rY (to ti:TE) (t:rX):TG:=fun v σ H Q=>to σ H fun o H1=>ti σ H1 fun i H2=>t o i v H2 fun H3=>Q σ H3
theorem aa5 {o i:Expr}{to ti:TE}{t:rX} (ho:PE X o to) (hi:PE X i ti) (hs:wV X t)
  (ha:∀ v,assign (.Subscript o i pos) X.env v=(do
   let ov <- holding [v] (eval o X.env)
   let iv <- holding [v,ov] (eval i X.env)
   standAt pos
   holding [v,ov,iv] (setItem ov iv v)
   release [v,ov,iv] []):=by intro _; rfl):PG X (.Subscript o i pos) (rY to ti t):=by
 intro pins s σ H v u Q I r h
 rw [ha]
 refine aT3 (ba5 (aP (ho pins s σ H _ I h) fun ov s1 ⟨x,H1,I1,r1,q1⟩=>?_))
 refine aT3 (ba5 (aP (hi pins s1 σ H1 _ I1 q1) fun iv s2 ⟨y,H2,I2,r2,q2⟩=>?_))
 refine aT3 (wpAny_standAt (aT3 (ba5 (aP (hs pins s2 σ H2 x y v ov iv u _ I2 r1 r2 r q2) fun _ s3 ⟨H3,I3,q3⟩=>?_))))
 exact wpAny_release ⟨σ,H3,I3,q3⟩
noncomputable def jO (te:TE) (g:TG):TS:=fun D σ H=>te σ H fun x H1=>g x σ H1 D.nx
theorem wW {tg e:Expr}{te:TE}{g:TG} (he:PE X e te) (hg:PG X tg g) (hs:swapsWithSole [tg] e pos.line X.env=pure false:=by rfl) (hw:swappedStores [tg] e X.env=pure none:=by rfl)
  (h1:(assignEach [tg] X.env).map (·.2) = [assign tg X.env]:=by rfl):PS X (.Assign [tg] e pos) (jO te g):=by
 intro pins s σ H D I h
 refine wpAny_Assign_stores (aP (he pins s σ H _ I h) fun v s1 ⟨x,H1,I1,r1,q1⟩=>?_) hs hw
 rw [h1]
 exact aP (hg pins s1 σ H1 x v _ I1 r1 q1) fun _ s2 q=>q
theorem wX {i:Nat}{x:Str}{e:Expr}{te:TE}{pos':Pos} (hN:X.N.Nodup) (hi:X.N[i]? = some x) (hx:gW X.env.scope x) (he:PE X e te) (hs:swapsWith e (some (.Name x pos')) pos.line X.env=pure false:=by rfl) (hf:X.fn x=true ∨ X.env.scope.names.lookup x=some .local:=by first | exact .inl rfl | exact .inr rfl | assumption) :
  PS X (.Assign [.Name x pos'] e pos) (jO te (cT i)):=by
 intro pins s σ H D I h
 refine wpAny_Assign_Name (aP (he pins s σ H _ I h) fun v s1 ⟨y,H1,I1,r1,q1⟩=>?_) hs
 exact oN I1 hN hi hx r1 (fun s2 I2=>⟨_,H1,I2,q1⟩) hf
end
section
variable {X : Cx} {pos : Pos}
noncomputable def wY (c:TT) (tb:TS):TS:=fun D σ H=>∃ W:Nat->St->Hp->Prop,(∃ m,W m σ H)/\∀ m σ H,W m σ H->
 c σ H fun b H1=>if b=true then ∃ N:St->Hp->Prop,(∀ σ' H',N σ' H'->∃ m',m' < m/\W m' σ' H')/\tb { D with nx:=N,ct:=N,bk:=D.nx } σ H1 else D.nx σ H1
theorem aa6 {c:Expr}{body:List Stmt}{tc:TT}{tb:TS} (hp:PassesOwn (model X.prog X.w) X.A X.env X.xe) (hc:PT X c tc) (hb:dJ X body tb):PS X (.While c body [] pos) (wY tc tb):=by
 intro pins s σ H D I h
 obtain ⟨W,⟨m0,w0⟩,turn⟩:=h
 refine wpAny_While (codeAny_whileLoop (fun n s'=>∃ σ' H',a7 X pins σ' H' s'/\W n σ' H') ?_ m0 ⟨σ,H,I,w0⟩)
 rintro n s1 ⟨σ1,H1,I1,w1⟩
 refine bj0 hp (aP (hc pins s1 σ1 H1 _ I1 (turn n σ1 H1 w1)) fun b s2 ⟨H2,I2,q2⟩=>?_)
 cases b with
 | true=>
  obtain ⟨N,hN,q2⟩:=q2
  rw [if_pos rfl]
  refine bj0 hp (aP (hb pins s2 σ1 H2 _ I2 q2) fun f s3 q3=>?_)
  cases f with
  | next=>
   obtain ⟨σ3,H3,I3,n3⟩:=q3
   obtain ⟨m',hm,w3⟩:=hN σ3 H3 n3
   exact⟨m',hm,σ3,H3,I3,w3⟩
  | cont=>
   obtain ⟨σ3,H3,I3,n3⟩:=q3
   obtain ⟨m',hm,w3⟩:=hN σ3 H3 n3
   exact⟨m',hm,σ3,H3,I3,w3⟩
  | brk=>exact q3
  | ret v=>exact q3
 | false=>
  rw [if_neg aV6]
  exact wpAny_execs_nil ⟨σ1,H2,I2,q2⟩
end
structure It where
 go:Nat->Hp->Prop
 yld:Nat->Hp->V->Hp->Prop
 stop:Nat->Hp->Prop
noncomputable def gK (X:Cx) (pins:List (Addr × Obj)) (H:Hp) (b:Addr):Prop:=
 H b=none/\b ≠ X.env.locals/\b ∉ X.fs/\(b ∈ X.ex ∨ X.s₀.heap.objs.size<=b)/\(∀ x c,X.env.cells.lookup x=some c->c ≠ b)/\∀ p ∈ X.pn ++ pins,p.1 ≠ b
theorem a7.fpOk {X:Cx}{pins:List (Addr × Obj)}{σ:St}{H H':Hp}{s:Shared}{b:Addr} (I:a7 X pins σ H s) (hb:s.heap.objs.size<=b) (hn:H' b=none):gK X pins H' b:=by
 refine⟨hn,bb2 (aU9 I.lt hb),I.nofs hb,.inr (aX8 I.sz hb),fun x c e z=>?_,fun p hp z=>?_⟩
 ·obtain ⟨v,q⟩:=I.cell x c e
  exact absurd (aU9 q.lt (by rw [z]; exact hb)) (aZ4 _)
 ·exact absurd (aU9 (aU8 (I.pin p hp).1) (by rw [z]; exact hb)) (aZ4 _)
structure iH (P:Program) (w:World) (K:PySem.W.Frag) (tg:Expr) (J:It) (fp:List Addr) (it:Addr) (tn:Nat->Heap->Prop):Prop where
 mem:it ∈ fp
 obj:∀ i h,tn i h->∀ b ∈ fp,∃ o,h.get? b=some o/\∀ v,o.data ≠ .cell v
 keep:∀ i h h',tn i h->(∀ b ∈ fp,∀ o,h.get? b=some o->h'.get? b=some o)->tn i h'
 item:∀ (X:Cx),X.prog=P->X.w=w->X.K=K->X.calm=true->∀ (i:Nat) (pins:List (Addr × Obj)) (s:Shared) (σ:St) (H:Hp) (E:Value->Shared->Prop),a7 X pins σ H s->(∀ b ∈ fp,gK X pins H b)->tn i s.heap->J.go i H->
  wpAny (model P w) X.A (pyNext (.ref it)) (fun r s1=>∃ u,r=some u/\
   wpAny (model P w) X.A (letOwnedTupleGo tg (.ref it) u) (fun _ s2=>∃ x H',a7 X pins σ H' s2/\aW x u/\J.yld i H x H'/\tn (i+1) s2.heap/\∀ b ∈ fp,H' b=none) E s1) E s
 done:∀ (X:Cx),X.prog=P->X.w=w->X.K=K->X.calm=true->∀ (i:Nat) (pins:List (Addr × Obj)) (s:Shared) (σ:St) (H:Hp) (E:Value->Shared->Prop),a7 X pins σ H s->(∀ b ∈ fp,gK X pins H b)->tn i s.heap->J.stop i H->
  wpAny (model P w) X.A (pyNext (.ref it)) (fun r s1=>r=none/\a7 X pins σ H s1) E s
 self:∀ (A:Around) (i:Nat) (s:Shared) (Q:Value->Shared->Prop) (E:Value->Shared->Prop),tn i s.heap->Q (.ref it) s->wpAny (model P w) A (pyIter (.ref it)) Q E s
noncomputable abbrev TI:=St->Hp->(It->Hp->Prop)->Prop
noncomputable def wZ (X:Cx) (pins:List (Addr × Obj)) (σ:St) (tg:Expr) (R:It->Hp->Prop) (itv:Value) (s2:Shared):Prop:=
 ∃ (it:Addr) (fp:List Addr) (tn:Nat->Heap->Prop) (J:It) (H':Hp),itv = .ref it/\a7 X pins σ H' s2/\iH X.prog X.w X.K tg J fp it tn/\tn 0 s2.heap/\(∀ b ∈ fp,gK X pins H' b)/\R J H'
noncomputable def PI (X:Cx) (tg iter:Expr) (wi:TI):Prop:=
 ∀ (pins:List (Addr × Obj)) (s:Shared) (σ:St) (H:Hp) (R:It->Hp->Prop),a7 X pins σ H s->wi σ H R->
  wpAny (model X.prog X.w) X.A (eval iter X.env) (fun v s1=>wpAny (model X.prog X.w) X.A (pyIter v) (wZ X pins σ tg R) X.xe s1) X.xe s
theorem rZ {M:Model}{A:Around}{E:Value->Shared->Prop}{s:Shared}{tg:Expr}{it:Addr}{u:Value}{o:Obj}{n:String}{vs:Array Value}{Q:Unit->Shared->Prop} (ho:s.heap.get? it=some o) (hc:o.cls = .type n) (hd:o.data = .fields vs)
    (hn : ["enumerate","zip","dict_itemiterator","dict_reverseitemiterator","odict_iterator","itertools.zip_longest","itertools.pairwise"].contains n=false) (hQ:Q () s):wpAny M A (letOwnedTupleGo tg (.ref it) u) Q E s:=by
  unfold letOwnedTupleGo
  cases tg <;> first
    | exact aT6 hQ
    | (cases u <;> first
        | exact aT6 hQ
        | (refine aT3 (wpAny_load ho ?_)
           rw [hc,hd]
           show wpAny M A (if (["enumerate","zip","dict_itemiterator","dict_reverseitemiterator","odict_iterator","itertools.zip_longest","itertools.pairwise"].contains n && vs[0]? == some (rawInt _))=true then _ else _) Q E s
           rw [if_neg (by intro h; rw [hn,Bool.false_and] at h; cases h)]
           exact aT6 hQ))
noncomputable def lG (K:PySem.W.Frag) (a:Addr):It:=
 ⟨fun i H=>∃ xs x,aK K H a xs/\xs[i]? = some x,fun i H x H'=>H'=H/\∀ xs,aK K H a xs->xs[i]? = some x,fun i H=>∃ xs,aK K H a xs/\xs.length<=i⟩
noncomputable def jP (K:PySem.W.Frag) (a:Addr):It:=
 ⟨fun i H=>∃ xs x,aH K H a xs/\xs[i]? = some x,fun i H x H'=>H'=H/\∀ xs,aH K H a xs->xs[i]? = some x,fun i H=>∃ xs,aH K H a xs/\xs.length<=i⟩
noncomputable def mP (lo:Int) (n:Nat):It:=⟨fun i _=>i < n,fun i H x H'=>H'=H/\x = .int (lo+i),fun i _=>n<=i⟩
theorem aa7 {P:Program}{w:World}{K:PySem.W.Frag}{tg:Expr} (a it:Addr):iH P w K tg (lG K a) [it] it (fun i h=>h.IsListIter it a i) where
 mem:=by simp
 obj:=fun i h st b hb=>by
  have e:b=it:=by simpa using hb
  subst e
  obtain ⟨o,e,c,d⟩:=st
  exact⟨o,e,fun v z=>by rw [d] at z; cases z⟩
 keep:=fun i h h' st k=>st.at fun o e=>k it (by simp) o e
 item:=by
  intro X hP hw hK hc i pins s σ H E I hf st hg
  subst hP hw hK
  obtain ⟨xs,x,hq,hx⟩:=hg
  obtain ⟨its,rv,p,hz⟩:=I.list hq
  obtain ⟨u,hu,ru⟩:=rv.get hx
  obtain ⟨f0,f1,f2,f3,f4,f5⟩:=hf it (by simp)
  refine wpAny_pyNext_list_item st p.isList (x:=u) (by simpa using hu) fun h' st' sb=>?_
  have I1:a7 X pins σ H { s with heap:=h' }:=I.turned (t':=s.toks) (fun b o hb e=>(sb.2 b hb).trans e) f0 f1 f3 f4 f5
  obtain ⟨o,e,c,d⟩:=id st'
  exact⟨u,rfl,rZ (s:={ s with heap:=h' }) e c d (by decide) ⟨x,H,I1,ru,⟨rfl,fun ys hy=>by rw [I.list_inj hy hq]; exact hx⟩,st',fun b hb=>(hf b hb).1⟩⟩
 done:=by
  intro X hP hw hK hc i pins s σ H E I hf st hg
  subst hP hw hK
  obtain ⟨xs,hq,hx⟩:=hg
  obtain ⟨its,rv,p,hz⟩:=I.list hq
  obtain ⟨f0,f1,f2,f3,f4,f5⟩:=hf it (by simp)
  have hl:=rv.length
  exact wpAny_pyNext_list_end (I.ok.hd hc) st p.isList (by simp; omega) fun h' eb=>⟨rfl,I.turned (t':=s.toks) (fun b o hb e=>eb b o hb e) f0 f1 f3 f4 f5⟩
 self:=fun _ _ _ _ _ st h=>wpAny_pyIter_listiter st h
theorem x0 {P:Program}{w:World}{K:PySem.W.Frag}{tg:Expr} (a it:Addr):iH P w K tg (jP K a) [it] it (fun i h=>h.IsTupleIter it a i) where
 mem:=by simp
 obj:=fun i h st b hb=>by
  have e:b=it:=by simpa using hb
  subst e
  obtain ⟨o,e,c,d⟩:=st
  exact⟨o,e,fun v z=>by rw [d] at z; cases z⟩
 keep:=fun i h h' st k=>st.at fun o e=>k it (by simp) o e
 item:=by
  intro X hP hw hK hc i pins s σ H E I hf st hg
  subst hP hw hK
  obtain ⟨xs,x,hq,hx⟩:=hg
  obtain ⟨its,rv,p,hz⟩:=I.tuple hq
  obtain ⟨u,hu,ru⟩:=rv.get hx
  obtain ⟨f0,f1,f2,f3,f4,f5⟩:=hf it (by simp)
  refine wpAny_pyNext_tuple_item st (show s.heap.IsTuple a its.toArray from p) (x:=u) (by simpa using hu) fun h' st' sb=>?_
  have I1:a7 X pins σ H { s with heap:=h' }:=I.turned (t':=s.toks) (fun b o hb e=>(sb.2 b hb).trans e) f0 f1 f3 f4 f5
  obtain ⟨o,e,c,d⟩:=id st'
  exact⟨u,rfl,rZ (s:={ s with heap:=h' }) e c d (by decide) ⟨x,H,I1,ru,⟨rfl,fun ys hy=>by rw [I.tuple_inj hy hq]; exact hx⟩,st',fun b hb=>(hf b hb).1⟩⟩
 done:=by
  intro X hP hw hK hc i pins s σ H E I hf st hg
  subst hP hw hK
  obtain ⟨xs,hq,hx⟩:=hg
  obtain ⟨its,rv,p,hz⟩:=I.tuple hq
  obtain ⟨f0,f1,f2,f3,f4,f5⟩:=hf it (by simp)
  have hl:=rv.length
  exact wpAny_pyNext_tuple_end (I.ok.hd hc) st (show s.heap.IsTuple a its.toArray from p) (by simp; omega) fun h' eb=>⟨rfl,I.turned (t':=s.toks) (fun b o hb e=>eb b o hb e) f0 f1 f3 f4 f5⟩
 self:=fun _ _ _ _ _ st h=>wpAny_pyIter_tupleiter st h
theorem aa8 {P:Program}{w:World}{K:PySem.W.Frag}{tg:Expr} (it:Addr) (lo:Int) (n:Nat):iH P w K tg (mP lo n) [it] it (fun i h=>IsRangeIter h it (lo+(i:Nat) * 1) ((n:Int) - (i:Nat)) 1) where
 mem:=by simp
 obj:=fun i h st b hb=>by
  have e:b=it:=by simpa using hb
  subst e
  exact⟨_,st,fun v z=>by
   have z':Data.fields _=Data.cell v:=z
   cases z'⟩
 keep:=fun i h h' st k=>k it (by simp) _ st
 item:=by
  intro X hP hw hK hc i pins s σ H E I hf st hg
  subst hP hw hK
  obtain ⟨f0,f1,f2,f3,f4,f5⟩:=hf it (by simp)
  have W:=Walks.range (prog:=X.prog) (w:=X.w) (I.ok.hd hc) it lo 1 n
  refine W.item i s _ _ hg st fun v h' tk hv st' kk=>?_
  obtain ⟨t,rfl⟩:=hv
  have I1:a7 X pins σ H { s with heap:=h',toks:=tk }:=I.turned (fun b o hb e=>kk b o (by simpa using hb) e) f0 f1 f3 f4 f5
  refine⟨_,rfl,rZ (s:={ s with heap:=h',toks:=tk }) (n:="range_iterator") st' rfl rfl (by decide) ⟨.int (lo+i),H,I1,⟨t,?_⟩,⟨rfl,rfl⟩,st',fun b hb=>(hf b hb).1⟩⟩
  rw [Int.mul_one]
 done:=by
  intro X hP hw hK hc i pins s σ H E I hf st hg
  subst hP hw hK
  obtain ⟨f0,f1,f2,f3,f4,f5⟩:=hf it (by simp)
  exact wpAny_pyNext_range_end (I.ok.hd hc) st (by have:n<=i:=hg; omega) fun h' eb=>⟨rfl,I.turned (t':=s.toks) (fun b o hb e=>eb b o hb e) f0 f1 f3 f4 f5⟩
 self:=fun _ _ _ _ _ st h=>wpAny_pyIter_rangeiter st h
section
variable {X : Cx} {tg : Expr}
noncomputable def aa9 (K:PySem.W.Frag) (tl:TE):TI:=fun σ H R=>tl σ H fun x H1=>∃ a,x = .ref a/\(∃ xs,aH K H1 a xs)/\R (jP K a) H1
theorem x3 {l:Expr}{tl:TE} (hl:PE X l tl):PI X tg l (aa9 X.K tl):=by
 intro pins s σ H R I h
 refine aP (hl pins s σ H _ I h) fun v s1 ⟨x,H1,I1,r1,q1⟩=>?_
 obtain ⟨a,e,⟨xs,hq⟩,q⟩:=q1
 subst e
 cases r1
 obtain ⟨its,rv,p,hz⟩:=I1.tuple hq
 refine bf9 (show s1.heap.IsTuple a its.toArray from p) ?_
 refine⟨s1.heap.objs.size,[s1.heap.objs.size],_,_,H1,rfl,I1.kept (t':=s1.toks) fun b o e=>aT5 _ e,x0 a _,⟨_,aU0 _ rfl,rfl,rfl⟩,fun b hb=>?_,q⟩
 have e:b=s1.heap.objs.size:=by simpa using hb
 subst e
 exact I1.fpOk (aT9 _) (I1.hok.fresh (aT9 _))
theorem x4 {pins:List (Addr × Obj)}{σ:St}{H:Hp}{s:Shared}{R:It->Hp->Prop}{E:Value->Shared->Prop}{lo hi:Int}{t u v:Tok}{tk:Nat} (I:a7 X pins σ H s) (h1 : -(2 ^ 62)<=lo) (h2:lo < 2 ^ 62) (h3 : -(2 ^ 62)<=hi) (h4:hi < 2 ^ 62)
  (q:R (mP lo (hi - lo).toNat) H):wpAny (model X.prog X.w) X.A (pyIter (.ref s.heap.objs.size)) (wZ X pins σ tg R) E { s with heap:=s.heap.push { cls:=.type "range",data:=.fields #[.int lo t,.int hi u,.int 1 v] },toks:=tk }:=by
 refine wpAny_pyIter_range (IsRange.new ..) (small_one h1 h2 h3 h4) ?_
 have I1:a7 X pins σ H { s with heap:=s.heap.push { cls:=.type "range",data:=.fields #[.int lo t,.int hi u,.int 1 v] },toks:=tk }:=I.kept fun b o e=>aT5 _ e
 refine⟨(s.heap.push { cls:=.type "range",data:=.fields #[.int lo t,.int hi u,.int 1 v] }).objs.size,[(s.heap.push { cls:=.type "range",data:=.fields #[.int lo t,.int hi u,.int 1 v] }).objs.size],_,_,H,rfl,
  I1.kept (t':=tk) fun b o e=>aT5 _ e,aa8 _ lo (hi - lo).toNat,?_,fun b hb=>?_,q⟩
 ·have e1:lo+((0:Nat):Int) * 1=lo:=by simp
  have e2:(((hi - lo).toNat:Nat):Int) - ((0:Nat):Int)=Builtin.Range.rangeSize lo hi 1:=by rw [rangeSize_one]; split <;> omega
  show IsRangeIter _ _ (lo+((0:Nat):Int) * 1) ((((hi - lo).toNat:Nat):Int) - ((0:Nat):Int)) 1
  rw [e1,e2]
  exact aU0 _ rfl
 ·have e:b=(s.heap.push { cls:=.type "range",data:=.fields #[.int lo t,.int hi u,.int 1 v] }).objs.size:=by simpa using hb
  subst e
  exact I1.fpOk (aT9 _) (I1.hok.fresh (aT9 _))
noncomputable def x5 (ta:TA):TI:=fun σ H R=>ta σ H fun vs H1=>∃ j:Int,vs = [.int j]/\-(2 ^ 62)<=j/\j < 2 ^ 62/\R (mP 0 j.toNat) H1
noncomputable def x6 (ta:TA):TI:=fun σ H R=>ta σ H fun vs H1=>∃ i j:Int,vs = [.int i,.int j]/\(-(2 ^ 62)<=i/\i < 2 ^ 62/\-(2 ^ 62)<=j/\j < 2 ^ 62)/\R (mP i (j - i).toNat) H1
theorem ab0 {a:Expr}{ta:TA}{p pos:Pos} (hg:Gl X "range") (hm:X.mg "range" = none) (ha:PA X [a] ta) (hs:starEach [a] X.env = [(false,eval a X.env)]:=by rfl):PI X tg (.Call (.Name "range" p) [a] [] pos) (x5 ta):=by
 intro pins s σ H R I h
 refine Call_ (gY I hg hm boot_range (aY7 (aP (ha pos pins s σ H _ I h) fun us s1 ⟨vs,H1,I1,r1,q1⟩=>?_) hs rfl))
 obtain ⟨j,e,q1,q2,q⟩:=q1
 subst e
 cases r1 with
 | cons r rr=>
  cases rr
  obtain ⟨t,rfl⟩:=r
  exact call_range_1 (x4 I1 (by omega) (by omega) q1 q2 (by simpa using q))
theorem ab1 {a b:Expr}{ta:TA}{p pos:Pos} (hg:Gl X "range") (hm:X.mg "range" = none) (ha:PA X [a,b] ta) (hs:starEach [a,b] X.env = [(false,eval a X.env),(false,eval b X.env)]:=by rfl) (hs2:starEach [b] X.env = [(false,eval b X.env)]:=by rfl) :
  PI X tg (.Call (.Name "range" p) [a,b] [] pos) (x6 ta):=by
 intro pins s σ H R I h
 refine Call_ (gY I hg hm boot_range (aY7 (aP (ha pos pins s σ H _ I h) fun us s1 ⟨vs,H1,I1,r1,q1⟩=>?_) (by rw [hs,hs2]) (by rw [hs2]; rfl)))
 obtain ⟨i,j,e,⟨q1,q2,q3,q4⟩,q⟩:=q1
 subst e
 cases r1 with
 | cons r rr=>
  cases rr with
  | cons r' rr=>
   cases rr
   obtain ⟨t,rfl⟩:=r
   obtain ⟨t',rfl⟩:=r'
   exact call_range_2 (x4 I1 q1 q2 q3 q4 q)
noncomputable def x8 (wi:TI) (g:TG) (tb:TS):TS:=fun D σ H=>wi σ H fun J H1=>∃ W:Nat->Nat->St->Hp->Prop,(∃ m,W 0 m σ H1)/\∀ i m σ H,W i m σ H->
 (J.stop i H/\D.nx σ H) ∨ (J.go i H/\∃ N:St->Hp->Prop,(∀ σ' H',N σ' H'->∃ m',m' < m/\W (i+1) m' σ' H')/\∀ x H',J.yld i H x H'->g x σ H' fun σ2 H2=>tb { D with nx:=N,ct:=N,bk:=D.nx } σ2 H2)
noncomputable def mQ (fp:List Addr) (h:Heap):List (Addr × Obj):=fp.filterMap fun b=>(h.get? b).map fun o=>(b,o)
theorem oQ {fp:List Addr}{h:Heap}{b:Addr}{o:Obj} (hb:b ∈ fp) (e:h.get? b=some o):(b,o) ∈ mQ fp h:=List.mem_filterMap.mpr ⟨b,hb,by rw [e]; rfl⟩
theorem ab2 {fp:List Addr}{h:Heap}{p:Addr × Obj} (hp:p ∈ mQ fp h):p.1 ∈ fp/\h.get? p.1=some p.2:=by
 obtain ⟨b,hb,e⟩:=List.mem_filterMap.mp hp
 cases q:h.get? b with
 | none=>rw [q] at e; cases e
 | some o=>
  rw [q] at e
  have e':(b,o)=p:=aW4 e
  subst e'
  exact⟨hb,q⟩
theorem a7.pinned {pins:List (Addr × Obj)}{σ:St}{H:Hp}{s:Shared}{fp:List Addr} (I:a7 X pins σ H s) (hf:∀ b ∈ fp,gK X pins H b) (ho:∀ b ∈ fp,∃ o,s.heap.get? b=some o/\∀ v,o.data ≠ .cell v):a7 X (pins ++ mQ fp s.heap) σ H s:=
 I.pins_of fun p hp=>(aW8.mp hp).elim (fun z=>I.pin p (aY1 _ z)) fun z=>by
  obtain ⟨hb,e⟩:=ab2 z
  obtain ⟨f0,f1,f2,_⟩:=hf p.1 hb
  obtain ⟨o,e',d⟩:=ho p.1 hb
  rw [e] at e'; cases e'
  exact⟨e,f0,f1,f2,d⟩
theorem a7.unpinned {pins pl:List (Addr × Obj)}{σ:St}{H:Hp}{s:Shared} (I:a7 X (pins ++ pl) σ H s):a7 X pins σ H s:=I.pins_of fun p hp=>I.pin p (aY1 _ (bg8 _ hp))
theorem x9 {iter:Expr}{body:List Stmt}{wi:TI}{g:TG}{tb:TS}{pos:Pos} (hp:PassesOwn (model X.prog X.w) X.A X.env X.xe) (hc:X.calm=true) (hi:PI X tg iter wi) (hg:PG X tg g) (hb:dJ X body tb)
  (hs:∀ x,foldedSetIterable iter X.env x=pure x:=by intro _; rfl):PS X (.For tg iter body [] pos) (x8 wi g tb):=by
 intro pins s σ H D I h
 refine wpAny_For (aP (hi pins s σ H _ I h) fun v s1 h1=>aP h1 fun itv s2 h2=>?_) hs
 obtain ⟨it,fp,tn,J,H2,e,I2,T,st2,f2,W,⟨m0,w0⟩,turn⟩:=h2
 subst e
 have stat:∀ {H':Hp},(∀ b ∈ fp,H' b=none)->∀ b ∈ fp,gK X pins H' b:=fun hn b hb=>⟨hn b hb,(f2 b hb).2⟩
 refine codeAny_forLoop_any (fun n s'=>∃ i σ' H',a7 X pins σ' H' s'/\tn i s'.heap/\(∀ b ∈ fp,H' b=none)/\W i n σ' H') ?_ m0 ⟨0,σ,H2,I2,st2,fun b hb=>(f2 b hb).1,w0⟩
 rintro n s3 ⟨i,σ3,H3,I3,st3,fr3,w3⟩
 rcases turn i n σ3 H3 w3 with ⟨stop,qn⟩ | ⟨go,N,hN,step⟩
 ·refine bj0 hp (aP (T.done X rfl rfl rfl hc i pins s3 σ3 H3 X.xe I3 (stat fr3) st3 stop) fun r s4 ⟨hr,I4⟩=>?_)
  subst hr
  exact wpAny_execs_nil ⟨σ3,H3,I4,qn⟩
 ·refine bj0 hp (aP (T.item X rfl rfl rfl hc i pins s3 σ3 H3 X.xe I3 (stat fr3) st3 go) fun r s4 ⟨u,hr,h4⟩=>?_)
  subst hr
  refine bj0 hp (aP h4 fun _ s5 ⟨x,H5,I5,r5,y5,st5,fr5⟩=>?_)
  have I5':=I5.pinned (stat fr5) (T.obj _ _ st5)
  refine bj0 hp (aP (hg _ s5 σ3 H5 x u _ I5' r5 (step x H5 y5)) fun _ s6 ⟨σ6,H6,I6,q6⟩=>?_)
  refine bj0 hp (aP (hb _ s6 σ6 H6 _ I6 q6) fun f s7 q7=>?_)
  have again:∀ {σ7:St}{H7:Hp},a7 X (pins ++ mQ fp s5.heap) σ7 H7 s7->N σ7 H7->∃ m,m < n/\∃ i σ' H',a7 X pins σ' H' s7/\tn i s7.heap/\(∀ b ∈ fp,H' b=none)/\W i m σ' H':=fun {σ7 H7} I7 n7=>by
   obtain ⟨m',hm,w7⟩:=hN σ7 H7 n7
   refine⟨m',hm,i+1,σ7,H7,I7.unpinned,T.keep _ _ _ st5 fun b hb o e=>(I7.pin (b,o) (aY1 _ (aY1 _ (oQ hb e)))).1,fun b hb=>?_,w7⟩
   obtain ⟨o,e,d⟩:=T.obj _ _ st5 b hb
   exact (I7.pin (b,o) (aY1 _ (aY1 _ (oQ hb e)))).2.1
  cases f with
  | next=>obtain ⟨σ7,H7,I7,n7⟩:=q7; exact again I7 n7
  | cont=>obtain ⟨σ7,H7,I7,n7⟩:=q7; exact again I7 n7
  | brk=>obtain ⟨σ7,H7,I7,q7⟩:=q7; exact⟨σ7,H7,I7.unpinned,q7⟩
  | ret v=>obtain ⟨x7,σ7,H7,I7,r7,q7⟩:=q7; exact⟨x7,σ7,H7,I7.unpinned,r7,q7⟩
end
theorem aT1 {K:PySem.W.Frag}{a:Addr}{xs:List V}{g:TG}{tb:TS}{D:cK}{σ:St}{H:Hp} (Pv:Nat->St->Hp->Prop) (h0:Pv 0 σ H) (hl:∀ i σ H,i<=xs.length->Pv i σ H->aK K H a xs)
  (hs:∀ i x σ H,xs[i]? = some x->Pv i σ H->g x σ H fun σ2 H2=>tb { D with nx:=Pv (i+1),ct:=Pv (i+1),bk:=D.nx } σ2 H2) (hd:∀ σ H,Pv xs.length σ H->D.nx σ H) :
  ∃ W:Nat->Nat->St->Hp->Prop,(∃ m,W 0 m σ H)/\∀ i m σ H,W i m σ H->
   ((lG K a).stop i H/\D.nx σ H) ∨ ((lG K a).go i H/\∃ N:St->Hp->Prop,(∀ σ' H',N σ' H'->∃ m',m' < m/\W (i+1) m' σ' H')/\∀ x H',(lG K a).yld i H x H'->g x σ H' fun σ2 H2=>tb { D with nx:=N,ct:=N,bk:=D.nx } σ2 H2):=by
 refine⟨fun i m σ H=>m=xs.length - i/\i<=xs.length/\Pv i σ H,⟨xs.length,by simp,aX0 _,h0⟩,?_⟩
 rintro i m σ H ⟨rfl,hi,p⟩
 have q:=hl i σ H hi p
 by_cases hlt:i < xs.length
 ·refine .inr ⟨⟨xs,xs[i],q,by simp [hlt]⟩,Pv (i+1),fun σ' H' p'=>⟨xs.length - (i+1),by omega,rfl,hlt,p'⟩,fun x H' y=>?_⟩
  obtain ⟨e,y⟩:=y
  subst e
  exact hs i x σ _ (y xs q) p
 ·have e:i=xs.length:=by omega
  subst e
  exact .inl ⟨⟨xs,q,aT9 _⟩,hd σ H p⟩
theorem ab3 {K:PySem.W.Frag}{a:Addr}{xs:List V}{g:TG}{tb:TS}{D:cK}{σ:St}{H:Hp} (Pv:Nat->St->Hp->Prop) (h0:Pv 0 σ H) (hl:∀ i σ H,i<=xs.length->Pv i σ H->aH K H a xs)
  (hs:∀ i x σ H,xs[i]? = some x->Pv i σ H->g x σ H fun σ2 H2=>tb { D with nx:=Pv (i+1),ct:=Pv (i+1),bk:=D.nx } σ2 H2) (hd:∀ σ H,Pv xs.length σ H->D.nx σ H) :
  ∃ W:Nat->Nat->St->Hp->Prop,(∃ m,W 0 m σ H)/\∀ i m σ H,W i m σ H->
   ((jP K a).stop i H/\D.nx σ H) ∨ ((jP K a).go i H/\∃ N:St->Hp->Prop,(∀ σ' H',N σ' H'->∃ m',m' < m/\W (i+1) m' σ' H')/\∀ x H',(jP K a).yld i H x H'->g x σ H' fun σ2 H2=>tb { D with nx:=N,ct:=N,bk:=D.nx } σ2 H2):=by
 refine⟨fun i m σ H=>m=xs.length - i/\i<=xs.length/\Pv i σ H,⟨xs.length,by simp,aX0 _,h0⟩,?_⟩
 rintro i m σ H ⟨rfl,hi,p⟩
 have q:=hl i σ H hi p
 by_cases hlt:i < xs.length
 ·refine .inr ⟨⟨xs,xs[i],q,by simp [hlt]⟩,Pv (i+1),fun σ' H' p'=>⟨xs.length - (i+1),by omega,rfl,hlt,p'⟩,fun x H' y=>?_⟩
  obtain ⟨e,y⟩:=y
  subst e
  exact hs i x σ _ (y xs q) p
 ·have e:i=xs.length:=by omega
  subst e
  exact .inl ⟨⟨xs,q,aT9 _⟩,hd σ H p⟩
noncomputable abbrev R2:=V->V->Hp->VK->Prop
noncomputable def c9 (X:Cx) (f:Value->Value->Sem Value) (r:R2):Prop:=
 ∀ (pins:List (Addr × Obj)) (s:Shared) (σ:St) (H:Hp) (x y:V) (v u:Value) (Q:VK),a7 X pins σ H s->aW x v->aW y u->r x y H Q->
  wpAny (model X.prog X.w) X.A (f v u) (EP X pins σ Q) X.xe s
noncomputable def sA (X:Cx) (f:Value->Sem Value) (r:V->Hp->VK->Prop):Prop:=
 ∀ (pins:List (Addr × Obj)) (s:Shared) (σ:St) (H:Hp) (x:V) (v:Value) (Q:VK),a7 X pins σ H s->aW x v->r x H Q->
  wpAny (model X.prog X.w) X.A (f v) (EP X pins σ Q) X.xe s
noncomputable def cO (X:Cx) (f:Value) (r:List V->Hp->VK->Prop):Prop:=
 ∀ (pins:List (Addr × Obj)) (s:Shared) (σ:St) (H:Hp) (xs:List V) (us:List Value) (Q:VK),a7 X pins σ H s->aJ xs us->r xs H Q->
  wpAny (model X.prog X.w) X.A (call f us) (EP X pins σ Q) X.xe s
noncomputable def ab4 (X:Cx) (r:V->Hp->(Bool->Hp->Prop)->Prop):Prop:=
 ∀ (pins:List (Addr × Obj)) (s:Shared) (σ:St) (H:Hp) (x:V) (v:Value) (Q:Bool->Hp->Prop),a7 X pins σ H s->aW x v->r x H Q->
  wpAny (model X.prog X.w) X.A (truthy v) (TP X pins σ Q) X.xe s
noncomputable def mR (r:R2) (ta tb:TE):TE:=fun σ H Q=>ta σ H fun x H1=>tb σ H1 fun y H2=>r x y H2 Q
noncomputable def tUn (r:V->Hp->VK->Prop) (ta:TE):TE:=fun σ H Q=>ta σ H fun x H1=>r x H1 Q
noncomputable def rI (C:Int->Int->Prop) (g:Int->Int->V):R2:=fun x y H Q=>∃ i j,x = .int i/\y = .int j/\C i j/\Q (g i j) H
noncomputable def iY (g:Int->Int->V):R2:=fun x y H Q=>∃ i j,x = .int i/\y = .int j/\Q (g i j) H
noncomputable def rU (g:Int->V):V->Hp->VK->Prop:=fun x H Q=>∃ i,x = .int i/\Q (g i) H
section
variable {X : Cx} {a b c : Expr} {ta tb tc : TE} {pos : Pos}
theorem sB (ha:PE X a ta) (hb:PE X b tb) {pins:List (Addr × Obj)}{s:Shared}{σ:St}{H:Hp}{R:V->V->Hp->Prop} (I:a7 X pins σ H s)
  (h:ta σ H fun x H1=>tb σ H1 fun y H2=>R x y H2) {Q:Value->Shared->Prop}{f:Value->Value->Sem Value}
  (hf:∀ v u s2 x y H2,a7 X pins σ H2 s2->aW x v->aW y u->R x y H2->wpAny (model X.prog X.w) X.A (f v u) Q X.xe s2) :
  wpAny (model X.prog X.w) X.A (eval a X.env) (fun v s₁=>wpAny (model X.prog X.w) X.A (eval b X.env) (fun u s₂=>wpAny (model X.prog X.w) X.A (f v u) Q X.xe s₂) X.xe s₁) X.xe s:=by
 refine aP (ha pins s σ H _ I h) fun v s1 ⟨x,H1,I1,r1,q1⟩=>?_
 refine aP (hb pins s1 σ H1 _ I1 q1) fun u s2 ⟨y,H2,I2,r2,q2⟩=>?_
 exact hf v u s2 x y H2 I2 r1 r2 q2
theorem ab5 {op:Operator}{r:R2} (ho:c9 X (binaryOp op) r) (ha:PE X a ta) (hb:PE X b tb):PE X (.BinOp a op b pos) (mR r ta tb):=by
 intro pins s σ H Q I h
 exact wpAny_BinOp (sB ha hb I h fun v u s2 x y H2 I2 rx ry q=>ho pins s2 σ H2 x y v u Q I2 rx ry q)
theorem ab6 {op:UnaryOp}{r:V->Hp->VK->Prop} (ho:sA X (unaryOp op) r) (ha:PE X a ta):PE X (.UnaryOp op a pos) (tUn r ta):=by
 intro pins s σ H Q I h
 exact UnaryOp_ (aP (ha pins s σ H _ I h) fun v s1 ⟨x,H1,I1,r1,q1⟩=>ho pins s1 σ H1 x v Q I1 r1 q1)
theorem oR {f:Value->Value->Sem Value}{C:Int->Int->Prop}{g:Int->Int->Int}
  (rule:∀ (i j:Int) (t u:Tok) (s:Shared) (Q:Value->Shared->Prop) (E:Value->Shared->Prop),C i j->Q (.int (g i j) s.toks) { s with toks:=s.toks+1 }->wpAny (model X.prog X.w) X.A (f (.int i t) (.int j u)) Q E s) :
  c9 X f (rI C fun i j=>.int (g i j)):=by
 intro pins s σ H x y v u Q I rx ry h
 obtain ⟨i,j,rfl,rfl,hc,q⟩:=h
 obtain ⟨t,rfl⟩:=rx
 obtain ⟨t',rfl⟩:=ry
 exact rule i j t t' s _ _ hc ⟨.int (g i j),H,I.tok _,⟨_,rfl⟩,q⟩
theorem xA {f:Value->Value->Sem Value}{g:Int->Int->Int}
  (rule:∀ (i j:Int) (t u:Tok) (s:Shared) (Q:Value->Shared->Prop) (E:Value->Shared->Prop),Q (.int (g i j) s.toks) { s with toks:=s.toks+1 }->wpAny (model X.prog X.w) X.A (f (.int i t) (.int j u)) Q E s) :
  c9 X f (iY fun i j=>.int (g i j)):=by
 intro pins s σ H x y v u Q I rx ry h
 obtain ⟨i,j,rfl,rfl,q⟩:=h
 obtain ⟨t,rfl⟩:=rx
 obtain ⟨t',rfl⟩:=ry
 exact rule i j t t' s _ _ ⟨.int (g i j),H,I.tok _,⟨_,rfl⟩,q⟩
theorem sC {f:Value->Value->Sem Value}{g:Int->Int->Bool}
  (rule:∀ (i j:Int) (t u:Tok) (s:Shared) (Q:Value->Shared->Prop) (E:Value->Shared->Prop),Q (.bool (g i j)) s->wpAny (model X.prog X.w) X.A (f (.int i t) (.int j u)) Q E s) :
  c9 X f (iY fun i j=>.bl (g i j)):=by
 intro pins s σ H x y v u Q I rx ry h
 obtain ⟨i,j,rfl,rfl,q⟩:=h
 obtain ⟨t,rfl⟩:=rx
 obtain ⟨t',rfl⟩:=ry
 exact rule i j t t' s _ _ ⟨.bl (g i j),H,I,rfl,q⟩
noncomputable def sD (i j:Int):Prop:=0 < j/\j < 1073741824
noncomputable def sE (i j:Int):Prop:=0<=j/\j<=1000000/\i.natAbs < 2 ^ 64
noncomputable def mS (i j:Int):Prop:=(-(2 ^ 64) < i/\i < 2 ^ 64) ∨ (-(2 ^ 64) < j/\j < 2 ^ 64)
theorem mS.ok {i j:Int} (h:mS i j):IntMulOk i j:=by
 rcases h with ⟨h1,h2⟩ | ⟨h1,h2⟩
 ·exact .of_left (intBits_le_64 h1 h2)
 ·exact .of_right (intBits_le_64 h1 h2)
theorem ab7:c9 X (binaryOp .Add) (iY fun i j=>.int (i+j)):=xA fun _ _ _ _ _ _ _ q=>add_int q
theorem ab8:c9 X (binaryOp .Sub) (iY fun i j=>.int (i - j)):=xA fun _ _ _ _ _ _ _ q=>sub_int q
theorem ab9:c9 X (binaryOp .Mult) (rI mS fun i j=>.int (i * j)):=oR fun _ _ _ _ _ _ _ hc q=>mul_int q hc.ok
theorem ac0:c9 X (binaryOp .FloorDiv) (rI sD fun i j=>.int (i / j)):=oR fun i j _ _ _ _ _ hc q=>by
 have h1:(0:Int) < j:=hc.1
 have h2:j < 1073741824:=hc.2
 exact floordiv_int (by omega) (by rw [Int.fdiv_eq_ediv_of_nonneg i (by omega)]; exact q) (.inl (PyProof.noPylong_small (by omega)))
theorem ac1:c9 X (binaryOp .Mod) (rI (fun _ j=>0 < j) fun i j=>.int (i % j)):=oR fun i j _ _ _ _ _ hc q=>by
 have h1:(0:Int) < j:=hc
 exact mod_int' (by omega) (by rw [Int.fmod_eq_emod_of_nonneg i (by omega)]; exact q)
theorem ac2:c9 X (binaryOp .Pow) (rI sE fun i j=>.int (i ^ j.toNat)):=oR fun _ _ _ _ _ _ _ hc q=>pow_int_small hc.1 hc.2.1 hc.2.2 q
theorem unI {f:Value->Sem Value}{g:Int->Int}
  (rule:∀ (i:Int) (t:Tok) (s:Shared) (Q:Value->Shared->Prop) (E:Value->Shared->Prop),Q (.int (g i) s.toks) { s with toks:=s.toks+1 }->wpAny (model X.prog X.w) X.A (f (.int i t)) Q E s) :
  sA X f (rU fun i=>.int (g i)):=by
 intro pins s σ H x v Q I rx h
 obtain ⟨i,rfl,q⟩:=h
 obtain ⟨t,rfl⟩:=rx
 exact rule i t s _ _ ⟨.int (g i),H,I.tok _,⟨_,rfl⟩,q⟩
theorem ac3:sA X (unaryOp .USub) (rU fun i=>.int (-i)):=unI fun _ _ _ _ _ q=>neg_int q
end
noncomputable def xB:V->V->Bool
 | .non,.non=>true | .non,.int _=>true | .int _,.non=>true | .non,.bl _=>true | .bl _,.non=>true | .non,.str _=>true | .str _,.non=>true
 | .int _,.int _=>true | .bl _,.bl _=>true | .str _,.str _=>true | .byt _,.byt _=>true
 | .int _,.str _=>true | .str _,.int _=>true | .bl _,.str _=>true | .str _,.bl _=>true
 | _,_=>false
noncomputable def xC:R2:=fun x y H Q=>xB x y=true/\Q (.bl (decide (x=y))) H
noncomputable def xD:R2:=fun x y H Q=>xB x y=true/\Q (.bl (!decide (x=y))) H
theorem xE {i j:Int}:decide (V.int i=V.int j)=(i == j):=by
 rw [bb8]
 simp
theorem xF {i j:Bool}:decide (V.bl i=V.bl j)=(i == j):=by
 rw [bb8]
 simp
theorem xG {i j:Str}:decide (V.str i=V.str j)=(i == j):=by
 rw [bb8]
 simp
theorem xH {i j:Array UInt8}:decide (V.byt i=V.byt j)=(i.toList == j.toList):=by
 rw [bb8]
 cases i
 cases j
 simp
section
variable {X : Cx} {a b c : Expr} {ta tb tc : TE} {pos : Pos}
theorem cC {pins:List (Addr × Obj)}{σ:St}{H:Hp}{s:Shared}{Q:VK}{k k':Bool} (I:a7 X pins σ H s) (q:Q (.bl k) H) (e:k=k'):EP X pins σ Q (.bool k') s:=by
 subst e
 exact⟨.bl k,H,I,rfl,q⟩
theorem ac4:c9 X (compareOp .Eq) xC:=by
 intro pins s σ H x y v u Q I rx ry h
 obtain ⟨hs,q⟩:=h
 cases x with
 | non=>
  cases rx
  cases y with
  | non=>cases ry; exact PySem.EqNone.eq_none_none (cC I q (by simp))
  | bl j=>cases ry; exact PySem.EqNone.eq_none_bool (cC I q (by simp))
  | int j=>obtain ⟨t',rfl⟩:=ry; exact PySem.EqNone.eq_none_int (cC I q (by simp))
  | str j=>obtain ⟨t',rfl⟩:=ry; exact PySem.EqNone.eq_none_str (cC I q (by simp))
  | _=>exact absurd (show false=true from hs) aV6
 | bl i=>
  cases rx
  cases y with
  | non=>cases ry; exact PySem.EqNone.eq_bool_none (cC I q (by simp))
  | bl j=>cases ry; exact eq_bool (cC I q xF)
  | str j=>obtain ⟨t',rfl⟩:=ry; exact PySem.EqMixed.eq_bool_str (cC I q (by simp))
  | _=>exact absurd (show false=true from hs) aV6
 | int i=>
  obtain ⟨t,rfl⟩:=rx
  cases y with
  | non=>cases ry; exact PySem.EqNone.eq_int_none (cC I q (by simp))
  | int j=>obtain ⟨t',rfl⟩:=ry; exact eq_int (cC I q xE)
  | str j=>obtain ⟨t',rfl⟩:=ry; exact PySem.EqMixed.eq_int_str (cC I q (by simp))
  | _=>exact absurd (show false=true from hs) aV6
 | str i=>
  obtain ⟨t,rfl⟩:=rx
  cases y with
  | non=>cases ry; exact PySem.EqNone.eq_str_none (cC I q (by simp))
  | bl j=>cases ry; exact PySem.EqMixed.eq_str_bool (cC I q (by simp))
  | int j=>obtain ⟨t',rfl⟩:=ry; exact PySem.EqMixed.eq_str_int (cC I q (by simp))
  | str j=>obtain ⟨t',rfl⟩:=ry; exact eq_str (cC I q xG)
  | _=>exact absurd (show false=true from hs) aV6
 | byt i=>
  obtain ⟨t,rfl⟩:=rx
  cases y with
  | byt j=>obtain ⟨t',rfl⟩:=ry; exact PySem.W.eq_bytes (cC I q xH)
  | _=>exact absurd (show false=true from hs) aV6
 | _=>cases y <;> exact absurd (show false=true from hs) aV6
theorem ac5:c9 X (compareOp .NotEq) xD:=by
 intro pins s σ H x y v u Q I rx ry h
 obtain ⟨hs,q⟩:=h
 cases x with
 | non=>
  cases rx
  cases y with
  | non=>cases ry; exact PySem.EqNone.ne_none_none (cC I q (by simp))
  | bl j=>cases ry; exact PySem.EqNone.ne_none_bool (cC I q (by simp))
  | int j=>obtain ⟨t',rfl⟩:=ry; exact PySem.EqNone.ne_none_int (cC I q (by simp))
  | str j=>obtain ⟨t',rfl⟩:=ry; exact PySem.EqNone.ne_none_str (cC I q (by simp))
  | _=>exact absurd (show false=true from hs) aV6
 | bl i=>
  cases rx
  cases y with
  | non=>cases ry; exact PySem.EqNone.ne_bool_none (cC I q (by simp))
  | bl j=>cases ry; exact ne_bool (cC I q (congrArg not xF))
  | str j=>obtain ⟨t',rfl⟩:=ry; exact PySem.EqMixed.ne_bool_str (cC I q (by simp))
  | _=>exact absurd (show false=true from hs) aV6
 | int i=>
  obtain ⟨t,rfl⟩:=rx
  cases y with
  | non=>cases ry; exact PySem.EqNone.ne_int_none (cC I q (by simp))
  | int j=>obtain ⟨t',rfl⟩:=ry; exact ne_int (cC I q (congrArg not xE))
  | str j=>obtain ⟨t',rfl⟩:=ry; exact PySem.EqMixed.ne_int_str (cC I q (by simp))
  | _=>exact absurd (show false=true from hs) aV6
 | str i=>
  obtain ⟨t,rfl⟩:=rx
  cases y with
  | non=>cases ry; exact PySem.EqNone.ne_str_none (cC I q (by simp))
  | bl j=>cases ry; exact PySem.EqMixed.ne_str_bool (cC I q (by simp))
  | int j=>obtain ⟨t',rfl⟩:=ry; exact PySem.EqMixed.ne_str_int (cC I q (by simp))
  | str j=>obtain ⟨t',rfl⟩:=ry; exact ne_str (cC I q (congrArg not xG))
  | _=>exact absurd (show false=true from hs) aV6
 | byt i=>
  obtain ⟨t,rfl⟩:=rx
  cases y with
  | byt j=>obtain ⟨t',rfl⟩:=ry; exact PySem.W.ne_bytes (cC I q (congrArg not xH))
  | _=>exact absurd (show false=true from hs) aV6
 | _=>cases y <;> exact absurd (show false=true from hs) aV6
theorem oS:c9 X (compareOp .Lt) (iY fun i j=>.bl (decide (i < j))):=sC fun _ _ _ _ _ _ _ q=>lt_int q
theorem xI:c9 X (compareOp .Gt) (iY fun i j=>.bl (decide (j < i))):=sC fun _ _ _ _ _ _ _ q=>gt_int q
theorem xJ:c9 X (compareOp .GtE) (iY fun i j=>.bl (decide (j<=i))):=sC fun _ _ _ _ _ _ _ q=>ge_int q
theorem ac6:c9 X (compareOp .Is) (fun x y H Q=>y = .non/\Q (.bl (decide (x = .non))) H):=by
 intro pins s σ H x y v u Q I rx ry h
 obtain ⟨rfl,q⟩:=h
 cases ry
 refine is_none_gen (cC I q ?_)
 cases x <;> first
  | (cases rx; rfl)
  | (obtain ⟨t,rfl⟩:=rx; rfl)
theorem xK:c9 X (compareOp .IsNot) (fun x y H Q=>y = .non/\Q (.bl (!decide (x = .non))) H):=by
 intro pins s σ H x y v u Q I rx ry h
 obtain ⟨rfl,q⟩:=h
 cases ry
 refine isnot_none_gen (cC I q ?_)
 cases x <;> first
  | (cases rx; rfl)
  | (obtain ⟨t,rfl⟩:=rx; rfl)
theorem e9 (b:Expr) {op:CmpOp} (h:op ≠ .In:=by decide) (h2:op ≠ .NotIn:=by decide):behindInMarks op b=false:=by
 have e1:(op == CmpOp.In)=false:=by cases op <;> first | rfl | exact absurd rfl h
 have e2:(op == CmpOp.NotIn)=false:=by cases op <;> first | rfl | exact absurd rfl h2
 cases b <;> simp [behindInMarks,e1,e2]
theorem sF {op:CmpOp}{r:R2} (ho:c9 X (compareOp op) r) (ha:PE X a ta) (hb:PE X b tb) (hm:behindInMarks op b=false):PE X (.Compare a [op] [b] pos) (mR r ta tb):=by
 intro pins s σ H Q I h
 exact wpAny_Compare1 (sB ha hb I h fun v u s2 x y H2 I2 rx ry q=>ho pins s2 σ H2 x y v u Q I2 rx ry q) hm
noncomputable def ac7 (t:TE):TT:=fun σ H Q=>t σ H fun x H'=>∃ k,x = .bl k/\Q k H'
theorem ac8 {op:CmpOp}{r:R2} (ho:c9 X (compareOp op) r) (ha:PE X a ta) (hb:PE X b tb) (hm:behindInMarks op b=false):PT X (.Compare a [op] [b] pos) (ac7 (mR r ta tb)):=by
 intro pins s σ H Q I h
 refine wpAny_isTrue_Compare1 (aP (ha pins s σ H _ I h) fun v s1 ⟨x,H1,I1,r1,q1⟩=>aP (hb pins s1 σ H1 _ I1 q1) fun u s2 ⟨y,H2,I2,r2,q2⟩=>
  aP (ho pins s2 σ H2 x y v u _ I2 r1 r2 q2) fun c s3 ⟨z,H3,I3,r3,k,e,q3⟩=>?_) hm
 subst e
 cases r3
 exact bh1 ⟨H3,I3,q3⟩
noncomputable def sG (K:PySem.W.Frag) (x:V) (H:Hp) (k:Bool):Prop:=
 match x with
 | .non=>k=false
 | .bl b=>k=b
 | .int i=>k=(i != 0)
 | .str y=>y.length<=sizeLine/\k=((y.length:Int) != 0)
 | .byt y=>y.size<=sizeLine/\k=((y.size:Int) != 0)
 | .ref p=>(∃ xs,aK K H p xs/\k = !xs.isEmpty) ∨ (∃ xs,aH K H p xs/\k = !xs.isEmpty) ∨ ∃ kvs,H p=some (.dK kvs)/\k = !kvs.isEmpty
 | _=>False
theorem ac9 {κ:Type}{kvs:List (κ × V)}{vs:List (κ × Value)} (r:KV kvs vs):(!vs.isEmpty) = !kvs.isEmpty:=by
 cases r <;> rfl
theorem xL {xs:List V}{its:List Value} (r:aJ xs its):(!its.toArray.isEmpty) = !xs.isEmpty:=by
 cases r <;> simp
theorem lH:(sizeLine:Nat) < 2 ^ 63:=by rw [sizeLine_eq]; decide
theorem ad0:ab4 X (fun x H Q=>∃ k,sG X.K x H k/\Q k H):=by
 intro pins s σ H x v Q I rx h
 obtain ⟨k,e,q⟩:=h
 have hl:=lH
 have hs:sizeLine=16777216:=sizeLine_eq
 cases x with
 | non=>
  cases rx
  have e':k=false:=e
  subst e'
  exact truthy_none ⟨H,I,q⟩
 | bl b=>
  cases rx
  have e':k=b:=e
  subst e'
  exact bh1 ⟨H,I,q⟩
 | int i=>
  obtain ⟨t,rfl⟩:=rx
  have e':k=(i != 0):=e
  subst e'
  exact PySem.P.truthy_int ⟨H,I,q⟩
 | str y=>
  obtain ⟨t,rfl⟩:=rx
  obtain ⟨hy,e'⟩:y.length<=sizeLine/\k=((y.length:Int) != 0):=e
  subst e'
  exact PySem.P.truthy_str (by omega) ⟨H,I.tok _,q⟩
 | byt y=>
  obtain ⟨t,rfl⟩:=rx
  obtain ⟨hy,e'⟩:y.size<=sizeLine/\k=((y.size:Int) != 0):=e
  subst e'
  exact PySem.W.truthy_bytes (by omega) ⟨H,I.tok _,q⟩
 | ref p=>
  cases rx
  have e':(∃ xs,aK X.K H p xs/\k = !xs.isEmpty) ∨ (∃ xs,aH X.K H p xs/\k = !xs.isEmpty) ∨ ∃ kvs,H p=some (.dK kvs)/\k = !kvs.isEmpty:=e
  rcases e' with ⟨xs,hx,e'⟩ | ⟨xs,hx,e'⟩ | ⟨kvs,hx,e'⟩
  ·subst e'
   obtain ⟨its,r,pl,hz⟩:=I.list hx
   have hlen:=r.length
   exact wpAny_truthy_list pl.isList (by simp only [aT8]; omega) ⟨H,I.tok _,by rw [xL r]; exact q⟩
  ·subst e'
   obtain ⟨its,r,pl,hz⟩:=I.tuple hx
   have hlen:=r.length
   exact truthy_tuple pl (by simp only [aT8]; omega) ⟨H,I.tok _,by rw [xL r]; exact q⟩
  ·subst e'
   obtain ⟨hz,hS,vs,r,m⟩:kvs.length<=sizeLine/\(p == sysModules)=false/\∃ vs,KV kvs vs/\s.heap.DictOf (fF X.prog X.w) p vs:=I.hok p _ hx
   have hlen:kvs.length=vs.length:=Paired.length r
   exact wpAny_truthy_dict hS m (by omega) ⟨H,I.tok _,by rw [ac9 r]; exact q⟩
 | _=>exact (show False from e).elim
theorem ad1 (ha:PE X a ta) (he:∀ whole,isTrue a X.env whole=(do let v <- whole; standAt a.pos; holding [v] (truthy v))) :
  PT X a (fun σ H Q=>ta σ H fun x H'=>∃ k,sG X.K x H' k/\Q k H'):=by
 intro pins s σ H Q I h
 exact isTrue_plain (aP (ha pins s σ H _ I h) fun v s1 ⟨x,H1,I1,r1,q1⟩=>ad0 pins s1 σ H1 x v Q I1 r1 q1) (he _)
theorem fU {x:V}{us:List Value} (r:aJ [x] us):∃ u,us = [u]/\aW x u:=by
 cases r with
 | cons r1 r2=>cases r2; exact⟨_,rfl,r1⟩
theorem mT {x y:V}{us:List Value} (r:aJ [x,y] us):∃ u w',us = [u,w']/\aW x u/\aW y w':=by
 cases r with
 | cons r1 r2=>
  cases r2 with
  | cons r3 r4=>cases r4; exact⟨_,_,rfl,r1,r3⟩
theorem ad2 (hc:X.calm=true):cO X (.builtin "max") (fun xs H Q=>∃ i j,xs = [.int i,.int j]/\Q (.int (if j > i then j else i)) H):=by
 intro pins s σ H xs us Q I r h
 obtain ⟨i,j,rfl,q⟩:=h
 obtain ⟨u,w',rfl,⟨t,rfl⟩,⟨t',rfl⟩⟩:=mT r
 refine max_two_ints (I.ok.hd hc) fun h' tk k=>⟨_,H,I.kept k,?_,q⟩
 by_cases hj:j > i
 ·rw [if_pos hj,if_pos hj]; exact⟨_,rfl⟩
 ·rw [if_neg hj,if_neg hj]; exact⟨_,rfl⟩
theorem ad3 (hc:X.calm=true):cO X (.builtin "min") (fun xs H Q=>∃ i j,xs = [.int i,.int j]/\Q (.int (if j < i then j else i)) H):=by
 intro pins s σ H xs us Q I r h
 obtain ⟨i,j,rfl,q⟩:=h
 obtain ⟨u,w',rfl,⟨t,rfl⟩,⟨t',rfl⟩⟩:=mT r
 refine min_two_ints (I.ok.hd hc) fun h' tk k=>⟨_,H,I.kept k,?_,q⟩
 by_cases hj:j < i
 ·rw [if_pos hj,if_pos hj]; exact⟨_,rfl⟩
 ·rw [if_neg hj,if_neg hj]; exact⟨_,rfl⟩
end
structure sH (h:Heap) (x dx C:Addr) (mA:Str->Option Value):Prop where
 obj:h.get? x=some (PySem.W.instObj C dx)
 ns:h.Ns1 dx mA
 ne:dx ≠ x
theorem ad4 {h:Heap}{dx:Addr}{mA:Str->Option Value} (n:h.Ns1 dx mA):∃ od,h.get? dx=some od/\∀ name,PySem.W.lookIn name od=some (mA name):=by
 obtain ⟨o,es,ep,ho,hd,hk,_,hm⟩:=n
 refine⟨o,ho,fun name=>?_⟩
 have e:=hm name
 unfold nsFind findBy at e
 rw [<- Array.find?_toList] at e
 unfold PySem.W.lookIn
 rw [hd]
 dsimp only
 split
 ·rename_i y q
  rw [q] at e
  exact congrArg some e
 ·rename_i q
  rw [q] at e
  have a:es.toList.any (·.refKey)=false:=by
   rw [List.any_eq_false]
   intro y hy
   obtain ⟨z,t,hkey⟩:=hk y (Array.mem_toList_iff.mp hy)
   simp [DictEntry.refKey,hkey]
  have a' : ¬ es.toList.any (·.refKey)=true:=by rw [a]; exact aV6
  rw [if_neg a']
  exact congrArg some e
theorem sH.look {h:Heap}{x dx C:Addr}{mA:Str->Option Value} (I:sH h x dx C mA):∃ od,PySem.W.InstAt h x (PySem.W.instObj C dx) C (some od)/\∀ name,PySem.W.lookIn name od=some (mA name):=
 let ⟨od,ho,hl⟩:=ad4 I.ns
 ⟨od,⟨I.obj,rfl,rfl,ho⟩,hl⟩
section
variable {P : Program} {w : World} {H H' : Hp} {h h' : Heap} {a C dx : Addr} {fs fs' : List (Str × V)}
theorem ad5 (hok:bX P w H h) (e:H a=some (.ins C dx fs)):∃ mA,sH h a dx C mA/\(∀ f,lC (fs.lookup f) (mA f))/\PySem.Within mA (fs.map (·.1))/\fs.length<=1000/\H dx=some (.own a):=by
 obtain ⟨d,z,ne,ob,mA,n,r,q⟩:=(show bO P w H h a (.ins C dx fs) from hok a _ e)
 exact⟨mA,⟨ob,n,ne⟩,r,q,z,d⟩
end
structure sI (K:PySem.W.Frag) (C:Addr):Prop where
 pg:PySem.W.plainGet K C Str.empty=true
 hd:PySem.W.hasDictIn K C=true
 po:PySem.W.plainOver K C=true
 sa:PySem.W.findIn K (.ref C) "__setattr__" = some (some (.builtin "object.__setattr__"))
theorem sI.get {K:PySem.W.Frag}{C:Addr} (c:sI K C) (f:Str):PySem.W.plainGet K C f=true:=c.pg
section
variable {X : Cx} {pins : List (Addr × Obj)} {σ : St} {H : Hp} {s : Shared} {A : Around} {E : Value → Shared → Prop} {Q : Value → Shared → Prop} {c : Value} {b : Bool}
inductive fG (K:PySem.W.Frag) (H:Hp):V->Value->Prop where
 | non:fG K H .non (.type "NoneType")
 | bl (x:Bool):fG K H (.bl x) (.type "bool")
 | int (i:Int):fG K H (.int i) (.type "int")
 | str (x:Str):fG K H (.str x) (.type "str")
 | flt (x:UInt64):fG K H (.flt x) (.type "float")
 | lst {a:Addr}{xs:List V} (e:H a=some (.lst xs)):fG K H (.ref a) (.type "list")
 | frz {a:Addr}{o:Obj}{xs:List V} (e:H a=some (.frz o (.lst xs))):fG K H (.ref a) (.type "list")
 | tup {a:Addr}{xs:List V} (e:H a=some (.tup xs)):fG K H (.ref a) (.type "tuple")
 | dK {a:Addr}{kvs:List (aS × V)} (e:H a=some (.dK kvs)):fG K H (.ref a) (.type "dict")
 | dT {a:Addr}{kvs:List (List aS × V)} (e:H a=some (.dT kvs)):fG K H (.ref a) (.type "dict")
 | ins {a C dx:Addr}{fs:List (Str × V)} (e:H a=some (.ins C dx fs)) (cl:sI K C) (ha:PySem.W.findIn K (.ref C) "__class__" = some (some (.builtin "object.__class__")))
   (hn:PySem.W.specialIn K (.builtin "object.__class__") "__get__" = some (some (.builtin "getset_descriptor.__get__"))) (htk:PySem.W.takesIn K (.builtin "object.__class__")=some true)
   (hm:PySem.W.mroIn K C (.type "object")=some true):fG K H (.ref a) (.ref C)
theorem ad6 {x:V}{u t:Value} (I:a7 X pins σ H s) (rx:aW x u) (ty:fG X.K H x t) (e:PySem.W.kitOne X.K t c=some b) (h:∀ tk,Q (.bool b) { s with toks:=tk }) :
  wpAny (model X.prog X.w) A (call (.builtin "isinstance") [u,c]) Q E s:=by
 cases ty with
 | non=>cases (show u=Value.none from rx); exact ba7 PySem.W.kitx_none I.kIn True.intro e (fun z=>nomatch z) h
 | bl y=>cases (show u=Value.bool y from rx); exact ba7 PySem.W.kitx_bool I.kIn True.intro e (fun z=>nomatch z) h
 | int i=>obtain ⟨t,q⟩:=(show ∃ t,u=Value.int i t from rx); cases q; exact ba7 PySem.W.kitx_int I.kIn True.intro e (fun z=>nomatch z) h
 | str y=>obtain ⟨t,q⟩:=(show ∃ t,u=Value.str y t from rx); cases q; exact ba7 PySem.W.kitx_str I.kIn True.intro e (fun z=>nomatch z) h
 | flt y=>obtain ⟨t,q⟩:=(show ∃ t,u=Value.float y t from rx); cases q; exact ba7 PySem.W.kitx_float I.kIn True.intro e (fun z=>nomatch z) h
 | @lst a xs ea=>
  cases (show u=Value.ref a from rx)
  obtain ⟨_,_,n,_,h1⟩:=(show bO X.prog X.w H s.heap a (.lst xs) from I.hok a _ ea)
  exact ba7 PySem.W.kitx_list I.kIn ⟨_,h1,rfl⟩ e (fun z=>nomatch z) h
 | @frz a ob xs ea=>
  cases (show u=Value.ref a from rx)
  obtain ⟨_,_,_,n,_,h1⟩:=(show bO X.prog X.w H s.heap a (.frz ob (.lst xs)) from I.hok a _ ea)
  exact ba7 PySem.W.kitx_list I.kIn ⟨_,h1,rfl⟩ e (fun z=>nomatch z) h
 | @tup a xs ea=>
  cases (show u=Value.ref a from rx)
  obtain ⟨_,_,_,p,_⟩:=(show bO X.prog X.w H s.heap a (.tup xs) from I.hok a _ ea)
  obtain ⟨o,h1,h2,_⟩:=p
  exact ba7 PySem.W.kitx_tuple I.kIn ⟨o,h1,h2⟩ e (fun z=>nomatch z) h
 | @dK a kvs ea=>
  cases (show u=Value.ref a from rx)
  obtain ⟨_,_,vs,_,p⟩:=(show bO X.prog X.w H s.heap a (.dK kvs) from I.hok a _ ea)
  obtain ⟨o,es,ep,h1,h2,_⟩:=p
  exact ba7 PySem.W.kitx_dict I.kIn ⟨o,h1,h2.1⟩ e (fun z=>nomatch z) h
 | @dT a kvs ea=>
  cases (show u=Value.ref a from rx)
  obtain ⟨_,_,xs,_,o,es,ep,h1,h2,_⟩:=(show bO X.prog X.w H s.heap a (.dT kvs) from I.hok a _ ea)
  exact ba7 PySem.W.kitx_dict I.kIn ⟨o,h1,h2.1⟩ e (fun z=>nomatch z) h
 | @ins a C dx fs ea cl ha hn htk hm=>
  cases (show u=Value.ref a from rx)
  obtain ⟨mA,O,_⟩:=ad5 I.hok ea
  obtain ⟨od,J,_⟩:=O.look
  exact ba7 (PySem.W.kitx_own (cl.get _) cl.hd ha hn htk hm) I.kIn J e (fun z=>nomatch z) h
end
structure cG (k:Nat) (A:Around):Prop where
 hd:A.handled=none
 dp:A.depth+3 * k+5 < recursionLimit
 un:A.units+16 * k+200 < cLine
theorem cG.mono {j k:Nat}{A:Around} (r:cG k A) (h:j<=k):cG j A:=⟨r.hd,by have:=r.dp; omega,by have:=r.un; omega⟩
theorem cG.deeper {k:Nat}{A:Around} (r:cG (k+1) A) (env:Env):cG k (A.deeper env):=
 ⟨r.hd,by have:=r.dp; show A.depth+1+3 * k+5 < _; omega,by have:=r.un; show A.units+3+16 * k+200 < _; omega⟩
theorem cG.depth {k:Nat}{A:Around} (r:cG k A):A.depth < recursionLimit:=by have:=r.dp; omega
theorem cG.units {k:Nat}{A:Around} (r:cG k A):A.units+64 < cLine:=by have:=r.un; omega
noncomputable def iI:TA:=fun _ H Q=>Q [] H
noncomputable def gZ (ta:TE) (tr:TA):TA:=fun σ H Q=>ta σ H fun x H1=>tr σ H1 fun xs H2=>Q (x :: xs) H2
section
variable {X : Cx} {e : Expr} {es : List Expr} {te : TE} {t : TA} {pos : Pos}
theorem dB:PA X [] iI:=fun _ _ _ _ H Q I h=>Calls.spliced_nil ⟨[],H,I,.nil,h⟩
theorem cP (ha:PE X e te) (hr:PA X es t) (hs:starEach (e :: es) X.env=(false,eval e X.env) :: starEach es X.env:=by rfl):PA X (e :: es) (gZ te t):=by
 intro pos pins s σ H Q I h
 rw [hs]
 show wpAny _ _ (spliced ((false,eval e X.env) :: backTo pos (starEach es X.env))) _ _ s
 refine Calls.spliced_cons (aP (ha pins s σ H _ I h) fun u s1 ⟨x,H1,I1,r1,q1⟩=>?_)
 exact aP (hr pos pins s1 σ H1 _ I1 q1) fun us s2 ⟨xs,H2,I2,r2,q2⟩=>⟨x :: xs,H2,I2,.cons r1 r2,q2⟩
noncomputable def xM (t:TA):TE:=fun σ H Q=>t σ H fun xs H1=>xs.length<=sizeLine/\∀ p,H1 p=none->Q (.ref p) (upd H1 p (.tup xs))
noncomputable def xN (t:TA):TE:=fun σ H Q=>t σ H fun xs H1=>xs.length<=sizeLine/\∀ p,H1 p=none->Q (.ref p) (upd H1 p (.lst xs))
theorem ad7 {x1} (h:PA X es t):PE X (.Tuple es x1 pos) (xM t):=by
 intro pins s σ H Q I hq
 refine wpAny_Tuple_spliced (aP (h pos pins s σ H _ I hq) fun us s1 ⟨xs,H1,I1,r,z,q⟩=>⟨by rw [<- r.length]; exact z,?_⟩)
 have hf:H1 s1.heap.objs.size=none:=I1.hok.fresh (aT9 _)
 refine⟨.ref s1.heap.objs.size,upd H1 s1.heap.objs.size (.tup xs),I1.laid (t':=s1.toks) (fun b u e=>aT5 _ e) (aT9 _) ?_,rfl,q _ hf⟩
 exact⟨z,us,r,⟨_,aU0 _ rfl,rfl,_,rfl⟩,gI.new _ _ rfl⟩
theorem xO (h:PA X es t):PE X (.List es pos) (xN t):=by
 intro pins s σ H Q I hq
 refine wpAny_List_spliced (aP (h pos pins s σ H _ I hq) fun us s1 ⟨xs,H1,I1,r,z,q⟩=>⟨by rw [<- r.length]; exact z,?_⟩)
 have hf:H1 s1.heap.objs.size=none:=I1.hok.fresh (aT9 _)
 refine⟨.ref s1.heap.objs.size,upd H1 s1.heap.objs.size (.lst xs),I1.laid (t':=s1.toks) (fun b u e=>aT5 _ e) (aT9 _) ?_,rfl,q _ hf⟩
 exact⟨z,us,0,r,aU0 _ rfl⟩
end
noncomputable abbrev Sp:=List V->Hp->VK->XK->Prop
noncomputable abbrev gL:=List Env->Hp->Shared->XK->Value->Shared->Prop
structure oT (P:Program) (w:World) (K:PySem.W.Frag) (mg:Str->Option Value) (base:Heap) (A:Around) (outer:List Env) (s:Shared) (H:Hp):Prop where
 frames:A.frames=some outer
 mod:Mod K mg base
 bs:∀ b o,base.get? b=some o->s.heap.get? b=some o/\H b=none
 bsz:base.objs.size<=s.heap.objs.size
 funs:s.heap.FunFrames base outer
 frf:∀ b ∈ bS outer,H b=none
 hok:bX P w H s.heap
 bare:AllBare s.gens
noncomputable def CE (outer:List Env) (P:Program) (w:World) (H:Hp) (s:Shared) (Q:VK) (u:Value) (s':Shared):Prop:=
 ∃ v H',s'.os=s.os/\AllBare s'.gens/\Un (bS outer) [] H H' s.heap s'.heap/\bX P w H' s'.heap/\aW v u/\Q v H'
noncomputable def CR (CX:gL) (outer:List Env) (P:Program) (w:World) (H:Hp) (s:Shared) (Q:VK) (E:XK) (r:Result) (s':Shared):Prop:=
 match r with
 | .ok (.ret u)=>CE outer P w H s Q u s'
 | .ok _=>False
 | .error e=>CX outer H s E e s'
structure cU (P:Program) (w:World) (K:PySem.W.Frag) (mg:Str->Option Value) (base:Heap) (CX:gL) (k:Nat) (f:Addr) (fd:FuncData) (ps:List Str) (sp:Sp):Prop where
 len:∀ vs H Q E,sp vs H Q E->vs.length=ps.length
 run:∀ (A:Around) (outer:List Env) (s:Shared) (H:Hp) (args:Args) (us:List Value) (vs:List V) (Q:VK) (E:XK),cG k A->oT P w K mg base A outer s H->BindsTo s fd args (ps.zip us)->aJ vs us->sp vs H Q E->
  codeAny (model P w) A (.call (.ref f) args) (CR CX outer P w H s Q E) s
theorem cU.imp {P:Program}{w:World}{K:PySem.W.Frag}{mg:Str->Option Value}{base:Heap}{CX:gL}{k:Nat}{f:Addr}{fd:FuncData}{ps:List Str}{sp sp':Sp} (F:cU P w K mg base CX k f fd ps sp)
  (h:∀ vs H Q E,sp' vs H Q E->sp vs H Q E):cU P w K mg base CX k f fd ps sp':=
 ⟨fun vs H Q E q=>F.len vs H Q E (h _ _ _ _ q),fun A outer s H args us vs Q E hr he hb hv hs=>F.run A outer s H args us vs Q E hr he hb hv (h _ _ _ _ hs)⟩
section
variable {X : Cx} {pins : List (Addr × Obj)} {σ : St} {H : Hp} {s s' : Shared}
theorem a7.env0 (I:a7 X pins σ H s):oT X.prog X.w X.K X.mg X.base X.A X.stack s H:=
 ⟨I.ok.frames,I.ok.mod,I.bs,aX8 I.ok.bsz I.sz,I.stack,I.stkFree,I.hok,I.bare⟩
theorem a7.after {Q:VK}{u:Value} (I:a7 X pins σ H s) (h:CE X.stack X.prog X.w H s Q u s'):EP X pins σ Q u s':=by
 obtain ⟨v,H',os,bare,un,hok,r,q⟩:=h
 obtain ⟨hh,g,d,t,os'⟩:=s'
 obtain rfl:os'=s.os:=os
 exact⟨v,H',I.call (h':=hh) (g':=g) (d':=d) (t':=t) (ch:=[]) un hok bare (fun b z=>absurd z (by simp)),r,q⟩
end
noncomputable def sJ (sp:Sp) (dvs:List V) (E:XK) (t:TA):TE:=fun σ H Q=>t σ H fun vs H1=>sp (vs ++ dvs) H1 Q E
noncomputable def iJ (K:PySem.W.Frag) (fd:FuncData) (ps:List Str) (ds:List Value):Prop:=
 ∀ (s:Shared) (us:List Value),K.In s.heap->(us ++ ds).length=ps.length->BindsTo s fd ⟨us,[]⟩ (ps.zip (us ++ ds))
theorem iJ.all {K:PySem.W.Frag}{fd:FuncData}{ps:List Str} (h:∀ us:List Value,us.length=ps.length->bindArgs fd ⟨us,[]⟩=pure (ps.zip us)):iJ K fd ps []:=fun s us _ hl=>by
 rw [aX2] at hl ⊢
 exact .of_eq (h us hl)
noncomputable def mU (CX:gL) (X:Cx) (E:XK):Prop:=∀ (pins:List (Addr × Obj)) (σ:St) (H:Hp) (s:Shared) (e:Value) (s':Shared),a7 X pins σ H s->CX X.stack H s E e s'->X.xe e s'
section
variable {X : Cx} {CX : gL} {k : Nat} {f C : Addr} {fd : FuncData} {ps : List Str} {sp : Sp} {dvs : List V} {ds : List Value} {E : XK} {x m : Str} {p pos apos : Pos} {e o : Expr} {es : List Expr} {ta : TE} {t : TA}
theorem ad8 {pins:List (Addr × Obj)}{σ:St}{H:Hp}{s:Shared}{Q:VK}{us:List Value}{vs:List V} (F:cU X.prog X.w X.K X.mg X.base CX k f fd ps sp) (hr:cG k X.A) (hb:iJ X.K fd ps ds) (hd:aJ dvs ds) (hx:mU CX X E)
  (I:a7 X pins σ H s) (r:aJ vs us) (h:sp (vs ++ dvs) H Q E):wpAny (model X.prog X.w) X.A (call (.ref f) us) (EP X pins σ Q) X.xe s:=by
 have r2:aJ (vs ++ dvs) (us ++ ds):=r.append hd
 have hl:(us ++ ds).length=ps.length:=by rw [<- r2.length]; exact F.len _ _ _ _ h
 refine wpAny_call (codeAny_mono (F.run X.A X.stack s H ⟨us,[]⟩ (us ++ ds) (vs ++ dvs) Q E hr I.env0 (hb s us I.kIn hl) r2 h) fun r s' hq=>?_)
 cases r with
 | error e=>exact hx pins σ H s e s' I hq
 | ok fl=>
  cases fl with
  | ret u=>exact I.after hq
  | next=>exact False.elim hq
  | brk=>exact False.elim hq
  | cont=>exact False.elim hq
theorem xP (F:cU X.prog X.w X.K X.mg X.base CX k f fd ps sp) (hr:cG k X.A) (hg:Gl X x) (hm:X.mg x=some (.ref f)) (hk:PySem.W.keepIn X.K (.ref f)=true) (hb:iJ X.K fd ps ds) (hd:aJ dvs ds) (hx:mU CX X E)
  (ha:PA X (e :: es) t) (hdb:(x == ("__debug__" : Str))=false:=by decide) (he:starEach (e :: es) X.env=(false,eval e X.env) :: starEach es X.env:=by rfl) (hpl:(backTo pos (starEach es X.env)).any (·.1)=false:=by rfl) :
  PE X (.Call (.Name x p) (e :: es) [] pos) (sJ sp dvs E t):=by
 intro pins s σ H Q I h
 refine bi6 (mK I hg hm ?_ hdb)
 refine PySem.W.callWith_K (h₀:=X.base) I.ok.mod.kin hk (aP (ha pos pins s σ H _ I h) fun us s1 ⟨vs,H1,I1,r,q⟩=>⟨I1.kIn,?_⟩) he hpl
 exact ad8 F hr hb hd hx I1 r q
end
noncomputable def PK (X:Cx) (kws:List Keyword) (t:TA):Prop:=
 ∀ (pos:Pos) (pins:List (Addr × Obj)) (s:Shared) (σ:St) (H:Hp) (Q:List V->Hp->Prop),a7 X pins σ H s->t σ H Q->wpAny (model X.prog X.w) X.A (evalAll ((backToKw pos (keywordEach kws X.env)).map (·.2))) (AP X pins σ Q) X.xe s
structure FnScope (N P:List Str) (sc:Scope):Prop where
 kind:sc.kind = .function
 co:sc.isCoroutine=false
 gen:sc.isGenerator=false
 nd:N.Nodup
 pre:N.take P.length=P
 par:∀ x ∈ P,sc.names.lookup x=some .local ∨ sc.names.lookup x=some .cell
 nofree:∀ y ∈ sc.names,y.2 ≠ .free
theorem xQ {kindOf:Str->Option NameKind}{x:Str}:∀ {binds:List (Str × Value)}{m:Str->Option Value},(∀ v,(x,v) ∉ binds)->bindL kindOf binds m x=m x
 | [],_,_=>rfl
 | (n,v) :: r,m,h=>by
  unfold bindL
  rw [xQ fun w hw=>h w (aV3 _ hw)]
  split
  ·have:x ≠ n:=by rintro rfl; exact h v aV2
   simp [this]
  ·rfl
theorem xR {kindOf:Str->Option NameKind}{x:Str}:∀ {binds:List (Str × Value)}{m:Str->Option Value},(∀ v,(x,v) ∉ binds)->bindC kindOf binds m x=m x
 | [],_,_=>rfl
 | (n,v) :: r,m,h=>by
  unfold bindC
  rw [xR fun w hw=>h w (aV3 _ hw)]
  split
  ·rfl
  ·have:x ≠ n:=by rintro rfl; exact h v aV2
   simp [this]
theorem xS {kindOf:Str->Option NameKind}{x:Str}{v:Value}:∀ {P:List Str}{vs:List Value}{i:Nat}{m:Str->Option Value},P.Nodup->P[i]? = some x->vs[i]? = some v->kindOf x=some .local->
  bindL kindOf (P.zip vs) m x=some v
 | [],_,_,_,_,h,_,_=>by simp at h
 | _ :: _,[],_,_,_,_,h,_=>by simp at h
 | p :: P,w :: vs,0,m,nd,h1,h2,hk=>by
  simp at h1 h2; subst h1; subst h2
  show bindL kindOf ((p,w) :: P.zip vs) m p=_
  unfold bindL
  rw [xQ fun v hv=>(List.nodup_cons.mp nd).1 (List.of_mem_zip hv).1,if_pos hk]
  simp
 | p :: P,w :: vs,i+1,m,nd,h1,h2,hk=>by
  show bindL kindOf ((p,w) :: P.zip vs) m x=_
  unfold bindL
  exact xS (i:=i) (List.nodup_cons.mp nd).2 (by simpa using h1) (by simpa using h2) hk
theorem xT {kindOf:Str->Option NameKind}{x:Str}{v:Value}:∀ {P:List Str}{vs:List Value}{i:Nat}{m:Str->Option Value},P.Nodup->P[i]? = some x->vs[i]? = some v->kindOf x ≠ some .local->
  bindC kindOf (P.zip vs) m x=some v
 | [],_,_,_,_,h,_,_=>by simp at h
 | _ :: _,[],_,_,_,_,h,_=>by simp at h
 | p :: P,w :: vs,0,m,nd,h1,h2,hk=>by
  simp at h1 h2; subst h1; subst h2
  show bindC kindOf ((p,w) :: P.zip vs) m p=_
  unfold bindC
  rw [xR fun v hv=>(List.nodup_cons.mp nd).1 (List.of_mem_zip hv).1,if_neg hk]
  simp
 | p :: P,w :: vs,i+1,m,nd,h1,h2,hk=>by
  show bindC kindOf ((p,w) :: P.zip vs) m x=_
  unfold bindC
  exact xT (i:=i) (List.nodup_cons.mp nd).2 (by simpa using h1) (by simpa using h2) hk
noncomputable def gM (N:List Str) (vs:List V):St:=vs.map some ++ List.replicate (N.length - vs.length) none
noncomputable def dC (CX:gL) (P:Program) (w:World) (K:PySem.W.Frag) (mg:Str->Option Value) (base:Heap) (N:List Str) (qual:Str) (scope:Scope) (f:Addr) (cd:Value) (A:Around) (outer:List Env) (s:Shared) (H:Hp) (E:XK):Cx where
 prog:=P
 w:=w
 K:=K
 mg:=mg
 base:=base
 A:=A.deeper (envOfC qual scope s.heap.objs.size f cd)
 N:=N
 s₀:=s
 H₀:=H
 env:=envOfC qual scope s.heap.objs.size f cd
 outer:=outer
 stack:=envOfC qual scope s.heap.objs.size f cd :: outer
 ex:=[]
 calm:=true
 fn:=fun _=>true
 pn:=[]
 xe:=fun e s'=>wpAny (model P w) (A.deeper (envOfC qual scope s.heap.objs.size f cd)) (leaving (envOfC qual scope s.heap.objs.size f cd) e) (fun _ s''=>CX outer H s E e s'') (fun e' s''=>CX outer H s E e' s'') s'
theorem xU {sc:Scope}{n:Nat}{x:Str} (h:sc.names.lookup x=some .cell):∃ c,(cellsFrom n sc.names []).lookup x=some c:=by
 have q:=PySem.W.cellsFrom_some sc.names n [] (.inl h)
 exact Option.isSome_iff_exists.mp q
theorem ad9 {CX:gL}{P:Program}{w:World}{K:PySem.W.Frag}{mg:Str->Option Value}{base:Heap}{N ps:List Str}{qual:Str}{scope:Scope}{f:Addr}{cd:Value}{A:Around}{outer:List Env}{s s1:Shared}{H:Hp}{E:XK}{us:List Value}{vs:List V}
  (S:FnScope N ps scope) (hd:A.handled=none) (e0:oT P w K mg base A outer s H) (hl:vs.length=ps.length) (r:aJ vs us)
  (x:InCallC s s.heap.objs.size (bindL (envOfC qual scope s.heap.objs.size f cd).kindOf (ps.zip us) fun _=>none) (cellsFrom (s.heap.objs.size+1) scope.names []) (bindC (envOfC qual scope s.heap.objs.size f cd).kindOf (ps.zip us) fun _=>none) s1) :
  a7 (dC CX P w K mg base N qual scope f cd A outer s H E) [] (gM N vs) H s1:=by
 have hpl:ps.length<=N.length:=by have:=congrArg List.length S.pre; rw [ba8] at this; omega
 obtain ⟨h1,tk,rfl,hk⟩:=x.done
 have noA:∀ b:Addr,b ∉ (dC CX P w K mg base N qual scope f cd A outer s H E).ex:=fun b z=>absurd (show b ∈ ([]:List Addr) from z) (by simp)
 refine⟨⟨e0.mod,S.kind,rfl,rfl,aT9 _,fun y z c h1 h2=>?_,fun y hy=>?_,fun y c _ h=>?_,fun _=>hd,Around.frames_deeper e0.frames,.inr ⟨rfl,rfl⟩,fun b z=>absurd z (noA b),e0.bs,e0.bsz,fun b _ _=>noA b,fun b z=>absurd z (noA b),e0.funs,e0.frf⟩,
  rfl,e0.bare,Un.kept hk,⟨_,x.toInCall.ns,fun i y v h1 h2 h3=>?_⟩,fun y c h=>⟨_,x.cell y c h⟩,e0.hok.fresh (aT9 _),fun y c h=>?_,fun p hp=>absurd (show p ∈ ([]:List (Addr × Obj)) from hp) (by simp),e0.hok.kept hk,?_⟩
 ·exact name_of_addr x.apart (aZ7 h1) (aZ7 h2)
 ·have hy:scope.names.lookup y=some .cell ∨ scope.names.lookup y=some .free:=hy
  rcases hy with hy | hy
  ·exact xU hy
  ·exact absurd rfl (S.nofree _ (aZ7 hy))
 ·exact ba3 (x.above y c (aZ7 h))
 ·have hi:i < vs.length:=by
   unfold gM at h2
   by_cases hi:i < vs.length
   ·exact hi
   ·rw [List.getElem?_append_right (by simpa using hi)] at h2
    rw [List.getElem?_replicate] at h2
    split at h2 <;> cases h2
  have ha:vs[i]? = some v:=by
   unfold gM at h2
   rw [List.getElem?_append_left (by simpa using hi),aV5] at h2
   cases e:vs[i]? with
   | none=>rw [e] at h2; cases h2
   | some a=>rw [e] at h2; cases h2; rfl
  obtain ⟨u,hu,rv⟩:=r.get ha
  have hp:ps[i]? = some y:=by
   rw [<- S.pre,List.getElem?_take_of_lt (by omega)]; exact h1
  have ndP:ps.Nodup:=by rw [<- S.pre]; exact S.nd.sublist (List.take_sublist _ _)
  refine⟨u,rv,?_⟩
  rcases S.par y (aY4 hp) with k | k
  ·exact .inl ⟨k,xS ndP hp hu k⟩
  ·obtain ⟨c,e⟩:=xU (n:=s.heap.objs.size+1) k
   refine .inr ⟨.inl k,c,e,?_⟩
   have q:=x.cell y c e
   rw [xT ndP hp hu (by show scope.names.lookup y ≠ _; rw [k]; decide)] at q
   exact q
 ·exact e0.hok.fresh (ba3 (x.above y c (aZ7 h)))
 ·unfold gM
  show _=N.length
  rw [aU6,aU7,bf7]
  omega
theorem xV {CX:gL}{P:Program}{w:World}{K:PySem.W.Frag}{mg:Str->Option Value}{base:Heap}{k:Nat}{f:Addr}{name qual:Str}{params:Arguments}{body:List Stmt}{scope:Scope}{dV kV doc pm cdv ct oc:Value}{an od:Option Addr}
  {osl:Array (Option Value)}{N ps:List Str}{sp:Sp} (lk:K.lookup f=some ⟨oc,od,.func (PySem.W.fnOf name qual params body scope dV kV doc pm an cdv ct),osl⟩) (hcd:PySem.W.codeIn K cdv qual=true) (S:FnScope N ps scope)
  (len:∀ vs H Q E,sp vs H Q E->vs.length=ps.length)
  (hbody:∀ (A:Around) (outer:List Env) (s:Shared) (H:Hp) (vs:List V) (Q:VK) (E:XK),cG k (A.deeper (envOfC qual scope s.heap.objs.size f cdv))->sp vs H Q E->
   ∃ t,dJ (dC CX P w K mg base N qual scope f cdv A outer s H E) body t/\t { nx:=fun _ H'=>Q .non H',rt:=Q } (gM N vs) H) :
  cU P w K mg base CX (k+1) f (PySem.W.fnOf name qual params body scope dV kV doc pm an cdv ct) ps sp:=by
 refine⟨len,fun A outer s H args us vs Q E hr e0 hb r hsp=>?_⟩
 have hl:=len _ _ _ _ hsp
 have KX:K.In s.heap:=e0.mod.kin.keeps fun b o e=>(e0.bs b o e).1
 have lim:s.heap.NoLimit:=e0.mod.nolimit.keeps fun b o e=>(e0.bs b o e).1
 have hkind:∀ y ∈ ps.zip us,scope.names.lookup y.1=some .local ∨ (scope.names.lookup y.1=some .cell/\((cellsFrom (s.heap.objs.size+1) scope.names []).lookup y.1).isSome=true):=fun ⟨n,v⟩ hy=>by
  rcases S.par n (List.of_mem_zip hy).1 with q | q
  ·exact .inl q
  ·exact .inr ⟨q,PySem.W.cellsFrom_some _ _ _ (.inl q)⟩
 refine codeAny_call_function hr.depth (KX _ _ lk) rfl S.co S.gen rfl (PySem.W.codeRec_of KX hcd) (hb _ _ _ _ ?_)
 refine wpAny_newFunctionEnv_cells S.kind hkind fun env he s1 x=>?_
 subst he
 refine⟨lim.keeps x.toInCall.keep,codeAny_func ?_⟩
 obtain ⟨t,ht,hq⟩:=hbody A outer s H vs Q E (hr.deeper _) hsp
 have I:a7 (dC CX P w K mg base N qual scope f cdv A outer s H E) [] (gM N vs) H s1:=ad9 S hr.hd e0 hl r x
 refine bc4 (ht [] s1 (gM N vs) H _ I hq) (fun fl s' hs=>?_) fun e s' hs=>hs
 have fin:∀ {σ':St}{H':Hp}{v:V}{u:Value},a7 (dC CX P w K mg base N qual scope f cdv A outer s H E) [] σ' H' s'->aW v u->Q v H'->CE outer P w H s Q u s':=
  fun {σ' H' v u} J rv q=>⟨v,H',J.os,J.bare,J.base,J.hok,rv,q⟩
 cases fl with
 | ret u=>
  obtain ⟨v,σ',H',J,rv,q⟩:=hs
  exact fin J rv q
 | next=>
  obtain ⟨σ',H',J,q⟩:=hs
  exact fin (v:=V.non) (u:=Value.none) J rfl q
 | brk=>
  obtain ⟨_,_,_,q⟩:=hs
  exact False.elim q
 | cont=>
  obtain ⟨_,_,_,q⟩:=hs
  exact False.elim q
section
variable {X : Cx} {x : Str} {p pos : Pos} {e : Expr} {es : List Expr} {t : TA} {id T : String} {r : List V → Hp → VK → Prop}
noncomputable def sK (r:List V->Hp->VK->Prop) (t:TA):TE:=fun σ H Q=>t σ H fun vs H1=>r vs H1 Q
theorem lJ (hc:cO X (.builtin id) r) (hg:Gl X x) (hm:X.mg x=none) (hv:bootBuiltins x=some (.builtin id)) (ha:PA X (e :: es) t) (hn:x ≠ "__name__":=by decide) (hdb:(x == ("__debug__" : Str))=false:=by decide)
  (he:starEach (e :: es) X.env=(false,eval e X.env) :: starEach es X.env:=by rfl) (hpl:(backTo pos (starEach es X.env)).any (·.1)=false:=by rfl):PE X (.Call (.Name x p) (e :: es) [] pos) (sK r t):=by
 intro pins s σ H Q I h
 refine bi6 (gY I hg hm hv ?_ hn hdb)
 exact PyProof.Rows.callWith_builtin1 (aP (ha pos pins s σ H _ I h) fun us s1 ⟨vs,H1,I1,r1,q1⟩=>hc pins s1 σ H1 vs us Q I1 r1 q1) he hpl
theorem sL (hc:cO X (.type T) r) (hg:Gl X x) (hm:X.mg x=none) (hv:bootBuiltins x=some (.type T)) (ha:PA X (e :: es) t) (hn:x ≠ "__name__":=by decide) (hdb:(x == ("__debug__" : Str))=false:=by decide)
  (he:starEach (e :: es) X.env=(false,eval e X.env) :: starEach es X.env:=by rfl) (hpl:(backTo pos (starEach es X.env)).any (·.1)=false:=by rfl):PE X (.Call (.Name x p) (e :: es) [] pos) (sK r t):=by
 intro pins s σ H Q I h
 refine bi6 (gY I hg hm hv ?_ hn hdb)
 exact aY7 (aP (ha pos pins s σ H _ I h) fun us s1 ⟨vs,H1,I1,r1,q1⟩=>hc pins s1 σ H1 vs us Q I1 r1 q1) he hpl
end
end L2
namespace HT
open PySem PyProof.Rows
noncomputable def fH:List Int->List Int->Bool
 | [],[]=>false
 | [],_ :: _=>true
 | _ :: _,[]=>false
 | x :: xs,y :: ys=>if x=y then fH xs ys else decide (x < y)
theorem mV (x y:Int) (xs ys:List Int):fH (x :: xs) (y :: ys)=if x=y then fH xs ys else decide (x < y):=rfl
section
variable {prog : Program} {w : World} {A : Around} {E : Value → Shared → Prop} {s : Shared}
theorem ae0 {t b:Addr}{vs ws:List Value}{Q:Value->Shared->Prop} (ht:IsTup s.heap t vs.toArray) (hb:IsTup s.heap b ws.toArray) (hv:vs ≠ [])
  (h1:ws = []->Q (.ref t) s) (h2:ws ≠ []->Q (.ref s.heap.objs.size) { s with heap:=s.heap.push { cls:=.type "tuple",data:=.seq (vs ++ ws).toArray } })
  (hsz:vs.length+ws.length<=sizeLine):wpAny (model prog w) A (binaryOp .Add (.ref t) (.ref b)) Q E s:=by
 obtain ⟨⟨cls,dd,data,sl⟩,ho,hc,n,hd⟩:=id ht
 obtain ⟨⟨cls2,dd2,data2,sl2⟩,ho2,hc2,n2,hd2⟩:=id hb
 simp only at hc hd hc2 hd2
 subst hc hd hc2 hd2
 have e:vs.toArray ++ ws.toArray=(vs ++ ws).toArray:=by simp
 by_cases hw:ws = []
 ·exact concat_meets ⟨_,ho,rfl⟩ ⟨_,ho2,rfl⟩ noFill_tuple_add seq_tuple_add PySem.F.slot_tuple_add PySem.F.entry_tuple_add (PySem.F.args_tuple_add_2 _ _)
   (tuple_addW1 t b vs.toArray ws.toArray n n2 dd dd2 sl sl2 (by simpa using hv) (by simp [hw])) ⟨ho,ho2,h1 hw⟩
 ·refine concat_meets ⟨_,ho,rfl⟩ ⟨_,ho2,rfl⟩ noFill_tuple_add seq_tuple_add PySem.F.slot_tuple_add PySem.F.entry_tuple_add (PySem.F.args_tuple_add_2 _ _)
   (tuple_addW2 t b vs.toArray ws.toArray n n2 dd dd2 sl sl2 (by simpa using hv) (by simpa using hw) (by rw [aT8,aT8]; exact hsz)) ⟨ho,ho2,?_⟩
  rw [e]
  exact h2 hw
noncomputable def aV (n d:Nat):Option Int->Nat
 | none=>d
 | some v=>if v < 0 then (v+(n:Int)).toNat else min v.toNat n
theorem ae1 (n d:Nat):aV n d none=d:=rfl
theorem xW (n d k:Nat):aV n d (some (k:Int))=min k n:=by
 show (if (k:Int) < 0 then ((k:Int)+(n:Int)).toNat else min (k:Int).toNat n)=min k n
 rw [if_neg (by omega),bd2]
theorem ae2 (n d:Nat) (hd:d<=n) (o:Option Int):aV n d o<=n:=by
 cases o with
 | none=>exact hd
 | some v=>
  show (if v < 0 then (v+(n:Int)).toNat else min v.toNat n)<=n
  by_cases hv:v < 0
  ·rw [if_pos hv]; omega
  ·rw [if_neg hv]; exact Nat.min_le_right _ _
theorem xX (v:Int) (n d:Nat):(if v < 0 then max (v+(n:Int)) 0 else min v (n:Int))=((aV n d (some v):Nat):Int):=by
 show (if v < 0 then max (v+(n:Int)) 0 else min v (n:Int))=(((if v < 0 then (v+(n:Int)).toNat else min v.toNat n):Nat):Int)
 by_cases hv:v < 0
 ·simp only [if_pos hv]; omega
 ·simp only [if_neg hv]; omega
theorem ae3 (lo hi:Option Int) (n:Nat):Builtin.Slice.sliceAdjust lo hi 1 (n:Int)=(((aV n 0 lo:Nat):Int),((aV n n hi:Nat):Int)):=by
 have h1 : ¬ ((1:Int) < 0):=by omega
 unfold Builtin.Slice.sliceAdjust
 simp only [h1,bb6]
 refine Prod.ext ?_ ?_
 ·cases lo with
  | none=>rfl
  | some v=>exact xX v n 0
 ·cases hi with
  | none=>rfl
  | some v=>exact xX v n n
theorem ae4 (i j:Nat):Builtin.Slice.slicePlaces (i:Int) (j:Int) 1=j - i:=by
 unfold Builtin.Slice.slicePlaces
 have h1:(1:Int) > 0:=by omega
 simp only [h1,if_true,Int.ediv_one]
 split <;> omega
theorem xY {v:Value}{o:Option Int}{Q:Option Int->Shared->Prop} (p:IsPart v o) (h:Q o s):wpAny (model prog w) A (Builtin.Slice.slicePartIndex v) Q E s:=by
 cases p with
 | none=>exact slicePart_none h
 | int i t=>exact slicePart_int h
theorem xZ {sl:Addr}{vl vu:Value}{lo hi:Option Int}{n:Nat}{Q:Int × Int × Nat->Shared->Prop} (hs:s.heap.IsSliceOf sl vl vu .none) (pl:IsPart vl lo) (pu:IsPart vu hi)
  (h:Q (((aV n 0 lo:Nat):Int),1,aV n n hi - aV n 0 lo) s):wpAny (model prog w) A (Builtin.Slice.sliceApplied (.ref sl) (pure (n:Int))) Q E s:=by
 obtain ⟨os,hos,hcs,hds⟩:=id hs
 unfold Builtin.Slice.sliceApplied Builtin.Slice.sliceFields
 refine aT3 (aT3 (aX9 hos hds (x:=vl) rfl (aT3 (aX9 hos hds (x:=vu) rfl (aT3 (aX9 hos hds (x:=.none) rfl (aT6 ?_)))))))
 refine aT3 (slicePart_none ?_)
 show wpAny _ _ (if ((1:Int) == 0)=true then _ else _) _ _ s
 rw [if_neg (by decide)]
 refine aT3 (xY pl (aT3 (xY pu (aT3 (aT6 ?_)))))
 show wpAny _ _ (match Builtin.Slice.sliceAdjust lo hi 1 (n:Int) with | (lo,hi)=>pure (lo,(1:Int),Builtin.Slice.slicePlaces lo hi 1)) _ _ s
 rw [ae3 lo hi n]
 show wpAny _ _ (pure (((aV n 0 lo:Nat):Int),(1:Int),Builtin.Slice.slicePlaces ((aV n 0 lo:Nat):Int) ((aV n n hi:Nat):Int) 1)) _ _ s
 rw [ae4]
 exact aT6 h
theorem ae5 (xs:Array Value) (i k:Nat):((List.range k).filterMap fun (m:Nat)=>xs[((i:Int)+(m:Int) * 1).toNat]?).toArray=((xs.toList.drop i).take k).toArray:=by
 have e:(fun (m:Nat)=>xs[((i:Int)+(m:Int) * 1).toNat]?)=fun m=>xs[i+m]?:=by
  funext m
  have:((i:Int)+(m:Int) * 1).toNat=i+m:=by omega
  rw [this]
 rw [e]
 have:=pick_run xs i k
 rw [List.filterMap_map] at this
 have e2:((fun x=>xs[x]?) ∘ fun x=>i+x)=fun m=>xs[i+m]?:=rfl
 rw [e2] at this
 rw [this]
theorem ae6 {t sl:Addr}{items:Array Value}{vl vu:Value}{lo hi:Option Int}{Q:Value->Shared->Prop} (ht:IsTup s.heap t items) (hs:s.heap.IsSliceOf sl vl vu .none) (pl:IsPart vl lo) (pu:IsPart vu hi)
  (hw : ¬ (aV items.size 0 lo=0/\aV items.size items.size hi=items.size))
  (h:Q (.ref s.heap.objs.size) { s with heap:=s.heap.push { cls:=.type "tuple",data:=.seq ((items.toList.drop (aV items.size 0 lo)).take (aV items.size items.size hi - aV items.size 0 lo)).toArray } })
  (hsz:items.size<=sizeLine):wpAny (model prog w) A (getItem (.ref t) (.ref sl)) Q E s:=by
 have htake:sizeOk (.seq ((items.toList.drop (aV items.size 0 lo)).take (aV items.size items.size hi - aV items.size 0 lo)).toArray):=by
  show ((items.toList.drop (aV items.size 0 lo)).take (aV items.size items.size hi - aV items.size 0 lo)).toArray.size<=sizeLine
  rw [aT8,ba8,aY9,aV7]
  omega
 have hj:aV items.size items.size hi<=items.size:=ae2 _ _ (aT9 _) hi
 obtain ⟨os,hos,hcs,hds⟩:=id hs
 have hTs:s.TypeIs (.ref sl) "slice":=⟨os,hos,hcs⟩
 unfold getItem
 try with_reducible refine ba5 ?_
 first | refine aT3 (aT6 ?_) | skip
 refine aT3 (wpAny_sequenceKey ht.typeIs (by decide) ?_)
 refine aT3 (aW7 (name:=Str.ofString "__getitem__") ht.typeIs bf6
  (aW5 bf6 ht.typeIs entry_tuple_getitem ?_ (args_tuple_getitem _ _)))
 show wpAny _ _ (Builtin.Tuple.tupleItemsOf (.ref t) >>= _) _ _ s
 refine aT3 (tupleItemsOf_ ht ?_)
 refine aT3 (bj3 hTs ?_)
 rw [if_pos (by decide)]
 refine aT3 (xZ hs pl pu ?_)
 have hno : ¬ ((((aV items.size 0 lo:Nat):Int) == 0 && (1:Int) == 1 && (aV items.size items.size hi - aV items.size 0 lo) == items.size)=true):=by
  intro q
  rw [aX3,aX3] at q
  have q1:((aV items.size 0 lo:Nat):Int)=0:=eq_of_beq q.1.1
  have q2:aV items.size items.size hi - aV items.size 0 lo=items.size:=eq_of_beq q.2
  exact hw ⟨by omega,by omega⟩
 show wpAny _ _ (if (((aV items.size 0 lo:Nat):Int) == 0 && (1:Int) == 1 && (aV items.size items.size hi - aV items.size 0 lo) == items.size)=true then _ else _) _ _ s
 rw [if_neg hno,ae5]
 first
  | exact aT3 (m:=Builtin.Tuple.tupleExact _) (aW2 (aT6 ⟨_,rfl,aT6 h⟩) htake)
  | exact aT3 (m:=Builtin.Tuple.tupleExact _) (aW2 (aT3 (aT6 (aT6 ⟨_,rfl,aT6 h⟩))) htake)
  | exact aT3 (aT3 (m:=Builtin.Tuple.tupleExact _) (aW2 (aT6 (aT6 ⟨_,rfl,aT6 h⟩)) htake))
  | exact aT3 (aT3 (m:=Builtin.Tuple.tupleExact _) (aW2 (aT6 ⟨_,rfl,aT6 h⟩) htake))
end
end HT
namespace L2
open PySem PySem.Spec PyProof.Rows
noncomputable abbrev TO:=St->Hp->(Option Int->Hp->Prop)->Prop
noncomputable def PO (X:Cx) (e:Option Expr) (t:TO):Prop:=
 ∀ (pins:List (Addr × Obj)) (s:Shared) (σ:St) (H:Hp) (Q:Option Int->Hp->Prop),a7 X pins σ H s->t σ H Q->
  wpAny (model X.prog X.w) X.A (evalPart e X.env) (fun u s'=>∃ o H',a7 X pins σ H' s'/\IsPart u o/\Q o H') X.xe s
noncomputable def ae7:TO:=fun _ H Q=>Q none H
noncomputable def ae8 (t:TE):TO:=fun σ H Q=>t σ H fun x H1=>∃ i,x = .int i/\Q (some i) H1
theorem mW {ns:List Int}:∀ {us:List Value},aJ (ns.map V.int) us->IntsAre us ns:=by
 induction ns with
 | nil=>intro us r; rw [List.map_nil] at r; cases r; exact .nil
 | cons n ns ih=>
  intro us r
  rw [ba1] at r
  cases r with
  | cons r1 r2=>
   obtain ⟨t,e⟩:=r1
   subst e
   exact .cons n t (ih r2)
section
variable {X : Cx} {e : Expr} {te : TE} {lo hi : Option Expr} {tl th : TO} {pos p2 : Pos}
theorem sM:PO X none ae7:=by
 intro pins s σ H Q I h
 rw [evalPart_none]
 exact aT6 ⟨none,H,I,.none,h⟩
theorem sN (h:PE X e te):PO X (some e) (ae8 te):=by
 intro pins s σ H Q I hw
 rw [evalPart_some]
 refine aP (h pins s σ H _ I hw) fun u s1 ⟨x,H1,I1,r1,q1⟩=>?_
 obtain ⟨i,rfl,q⟩:=q1
 obtain ⟨t,rfl⟩:=r1
 exact⟨some i,H1,I1,.int i t,q⟩
noncomputable def jQ (X:Cx) (r:V->Option Int->Option Int->Hp->VK->Prop):Prop:=
 ∀ (pins:List (Addr × Obj)) (s:Shared) (σ:St) (H:Hp) (x:V) (v vl vu:Value) (lo hi:Option Int) (sl:Addr) (Q:VK),a7 X pins σ H s->aW x v->s.heap.IsSliceOf sl vl vu .none->IsPart vl lo->IsPart vu hi->r x lo hi H Q->
  ∃ T id,typeLookup (.type T) "__getitem__" = pure (some (.builtin id))/\s.TypeIs v T/\wpAny (model X.prog X.w) X.A (getItem v (.ref sl)) (EP X pins σ Q) X.xe s
theorem jQ.or {r r':V->Option Int->Option Int->Hp->VK->Prop} (h:jQ X r) (h':jQ X r'):jQ X (fun x lo hi H Q=>r x lo hi H Q ∨ r' x lo hi H Q):=by
 intro pins s σ H x v vl vu lo hi sl Q I rx hs pl pu q
 rcases q with q | q
 ·exact h pins s σ H x v vl vu lo hi sl Q I rx hs pl pu q
 ·exact h' pins s σ H x v vl vu lo hi sl Q I rx hs pl pu q
noncomputable def tSl (r:V->Option Int->Option Int->Hp->VK->Prop) (te:TE) (tl th:TO):TE:=fun σ H Q=>te σ H fun x H1=>tl σ H1 fun l H2=>th σ H2 fun u H3=>r x l u H3 Q
theorem sO {r:V->Option Int->Option Int->Hp->VK->Prop} (hr:jQ X r) (he:PE X e te) (hl:PO X lo tl) (hu:PO X hi th):PE X (.Subscript e (.Slice lo hi none p2) pos) (tSl r te tl th):=by
 intro pins s σ H Q I h
 refine Subscript_ (aP (he pins s σ H _ I h) fun v s1 ⟨x,H1,I1,r1,q1⟩=>?_)
 refine wpAny_Slice (aP (hl pins s1 σ H1 _ I1 q1) fun vl s2 ⟨l,H2,I2,pl,q2⟩=>aP (hu pins s2 σ H2 _ I2 q2) fun vu s3 ⟨u,H3,I3,pu,q3⟩=>?_)
 rw [evalPart_none]
 refine aT6 ?_
 have I4:a7 X pins σ H3 { s3 with heap:=s3.heap.push { cls:=.type "slice",data:=.fields #[vl,vu,.none] } }:=I3.kept (t':=s3.toks) fun b ob q=>aT5 _ q
 obtain ⟨T,id,hT,ht,hg⟩:=hr pins { s3 with heap:=s3.heap.push { cls:=.type "slice",data:=.fields #[vl,vu,.none] } } σ H3 x v vl vu l u s3.heap.objs.size Q I4 r1 (Heap.IsSliceOf.new ..) pl pu q3
 show wpAny (model X.prog X.w) X.A (subscriptTail e (.Slice lo hi none p2) v (.ref s3.heap.objs.size)) (EP X pins σ Q) X.xe { s3 with heap:=s3.heap.push { cls:=.type "slice",data:=.fields #[vl,vu,.none] } }
 exact tail_any (ops:=[.ref s3.heap.objs.size,v]) ht hT hg (by with_unfolding_all rfl)
noncomputable def eC (xs:List V) (lo hi:Option Int):List V:=(xs.drop (HT.aV xs.length 0 lo)).take (HT.aV xs.length xs.length hi - HT.aV xs.length 0 lo)
theorem y3 (xs:List V) (lo hi:Option Int):(eC xs lo hi).length<=xs.length:=by
 unfold eC
 rw [ba8,aY9]
 omega
noncomputable def ae9 (K:PySem.W.Frag):V->Option Int->Option Int->Hp->VK->Prop:=fun x lo hi H Q=>∃ a xs,x = .ref a/\aH K H a xs/\
 ¬ (HT.aV xs.length 0 lo=0/\HT.aV xs.length xs.length hi=xs.length)/\∀ p,H p=none->Q (.ref p) (upd H p (.tup (eC xs lo hi)))
theorem af0:jQ X (ae9 X.K):=by
 intro pins s σ H x v vl vu lo hi sl Q I rx hs pl pu h
 obtain ⟨a,xs,rfl,hx,hw,q⟩:=h
 cases rx
 obtain ⟨its,r,ht,hz⟩:=I.tuple hx
 have hlen:its.toArray.size=xs.length:=by rw [aT8]; exact r.length.symm
 refine⟨"tuple",_,PyProof.Rows.slot_tuple_getitem.lookup,ht.typeIs,?_⟩
 refine HT.ae6 ht hs pl pu (by rw [hlen]; exact hw) ?_ (by rw [hlen]; exact hz)
 rw [hlen]
 refine⟨.ref s.heap.objs.size,_,I.laid (t':=s.toks) (o:=.tup (eC xs lo hi)) (fun b ob q=>aT5 _ q) (aT9 _) ?_,rfl,q _ (I.hok.fresh (aT9 _))⟩
 exact⟨aX8 (y3 xs lo hi) hz,_,(r.drop (HT.aV xs.length 0 lo)).take (HT.aV xs.length xs.length hi - HT.aV xs.length 0 lo),IsTup.new _ _,gI.new _ _ rfl⟩
noncomputable def af1 (K:PySem.W.Frag):R2:=fun x y H Q=>∃ a b xs ys,x = .ref a/\y = .ref b/\aH K H a xs/\aH K H b ys/\xs ≠ []/\xs.length+ys.length<=sizeLine/\
 (ys = []->Q (.ref a) H)/\(ys ≠ []->∀ p,H p=none->Q (.ref p) (upd H p (.tup (xs ++ ys))))
theorem aJ.nil_iff {xs:List V}{us:List Value} (r:aJ xs us):us = [] ↔ xs = []:=by
 cases r with
 | nil=>simp
 | cons _ _=>simp
theorem af2:c9 X (binaryOp .Add) (af1 X.K):=by
 intro pins s σ H x y v u Q I rx ry h
 obtain ⟨a,b,xs,ys,rfl,rfl,ha,hb,hx,hz,q1,q2⟩:=h
 cases rx
 cases ry
 obtain ⟨its,r1,p1,_⟩:=I.tuple ha
 obtain ⟨its2,r2,p2,_⟩:=I.tuple hb
 refine HT.ae0 p1 p2 (fun z=>hx (r1.nil_iff.mp z)) (fun z=>⟨.ref a,H,I,rfl,q1 (r2.nil_iff.mp z)⟩) (fun z=>?_) (by rw [<- r1.length,<- r2.length]; exact hz)
 refine⟨.ref s.heap.objs.size,_,I.laid (t':=s.toks) (o:=.tup (xs ++ ys)) (fun b ob q=>aT5 _ q) (aT9 _) ?_,rfl,q2 (fun w=>z (r2.nil_iff.mpr w)) _ (I.hok.fresh (aT9 _))⟩
 exact⟨by rw [aU6]; exact hz,_,r1.append r2,IsTup.new _ _,gI.new _ _ rfl⟩
end
noncomputable def hG (n:Nat) (i:Int):Option Nat:=if 0<=i then (if i < n then some i.toNat else none) else if -(n:Int)<=i then some (i+n).toNat else none
noncomputable def atI {α:Type} (xs:List α) (i:Int):Option α:=(hG xs.length i).bind fun j=>xs[j]?
theorem yA {n:Nat}{i:Int}{j:Nat} (h:hG n i=some j):seqIndex? i n=some j/\j < n/\-(n:Int)<=i/\i < n:=by
 unfold hG at h
 by_cases h0:0<=i
 ·rw [if_pos h0] at h
  by_cases h1:i < n
  ·rw [if_pos h1] at h
   have e:i.toNat=j:=aW4 h
   exact⟨by rw [seqIndex_of h0 h1,e],by omega,by omega,h1⟩
  ·rw [if_neg h1] at h; cases h
 ·rw [if_neg h0] at h
  by_cases h1 : -(n:Int)<=i
  ·rw [if_pos h1] at h
   have e:(i+n).toNat=j:=aW4 h
   exact⟨by rw [seqIndex_neg (by omega) h1,e],by omega,h1,by omega⟩
  ·rw [if_neg h1] at h; cases h
theorem sP {α:Type}{xs:List α}{i:Int}{v:α} (h:atI xs i=some v):∃ j,seqIndex? i xs.length=some j/\xs[j]? = some v/\j < xs.length/\-(xs.length:Int)<=i/\i < xs.length:=by
 unfold atI at h
 cases e:hG xs.length i with
 | none=>rw [e] at h; cases h
 | some j=>
  rw [e] at h
  obtain ⟨h1,h2,h3,h4⟩:=yA e
  exact⟨j,h1,h,h2,h3,h4⟩
theorem mX {α:Type}{xs:List α}{j:Nat}{v:α} (h:xs[j]? = some v):atI xs (j:Int)=some v:=by
 have hj:j < xs.length:=(aV0.mp h).1
 have e:hG xs.length (j:Int)=some j:=by
  unfold hG
  rw [if_pos (by omega),if_pos (by omega)]; simp
 unfold atI; rw [e]; exact h
noncomputable def yB (b:Expr):Prop:=∀ o i,subscripted b false o i=operate [o,i] (getItem o i)
noncomputable def iZ (X:Cx) (r:R2):Prop:=
 ∀ (value slice:Expr) (pins:List (Addr × Obj)) (s:Shared) (σ:St) (H:Hp) (x y:V) (v u:Value) (Q:VK),a7 X pins σ H s->aW x v->aW y u->r x y H Q->
  subscripted slice false v u=operate [v,u] (getItem v u)->wpAny (model X.prog X.w) X.A (subscriptTail value slice v u) (EP X pins σ Q) X.xe s
noncomputable def MtR (X:Cx) (id:String) (r:V->List V->Hp->VK->Prop):Prop:=
 ∀ (pins:List (Addr × Obj)) (s:Shared) (σ:St) (H:Hp) (x:V) (xs:List V) (v:Value) (us:List Value) (Q:VK),a7 X pins σ H s->aW x v->aJ xs us->r x xs H Q->
  wpAny (model X.prog X.w) X.A (call (.builtin id) (v :: us)) (EP X pins σ Q) X.xe s
section
variable {X : Cx} {a b : Expr} {ta tb : TE} {pos : Pos}
theorem iZ.or {r r':R2} (h:iZ X r) (h':iZ X r'):iZ X (fun x y H Q=>r x y H Q ∨ r' x y H Q):=by
 intro value slice pins s σ H x y v u Q I rx ry q hs
 rcases q with q | q
 ·exact h value slice pins s σ H x y v u Q I rx ry q hs
 ·exact h' value slice pins s σ H x y v u Q I rx ry q hs
theorem mY {r:R2} (hr:iZ X r) (ha:PE X a ta) (hb:PE X b tb) (hs:yB b):PE X (.Subscript a b pos) (mR r ta tb):=by
 intro pins s σ H Q I h
 exact Subscript_ (sB ha hb I h fun v u s2 x y H2 I2 rx ry q=>hr a b pins s2 σ H2 x y v u Q I2 rx ry q (hs _ _))
noncomputable def yC (K:PySem.W.Frag):R2:=fun x y H Q=>∃ p xs i v,x = .ref p/\y = .int i/\aK K H p xs/\atI xs i=some v/\Q v H
noncomputable def yD (K:PySem.W.Frag):R2:=fun x y H Q=>∃ p xs i v,x = .ref p/\y = .int i/\aH K H p xs/\atI xs i=some v/\Q v H
noncomputable def yE:R2:=fun x y H Q=>∃ z i c,x = .str z/\y = .int i/\z.length<=sizeLine/\atI z.cps.toList i=some c/\Q (.str ⟨#[c]⟩) H
theorem sQ:iZ X (yC X.K):=by
 intro value slice pins s σ H x y v u Q I rx ry h hs
 obtain ⟨p,xs,i,z,rfl,rfl,hq,he,q⟩:=h
 cases rx
 obtain ⟨t,rfl⟩:=ry
 obtain ⟨its,r,pl,hz⟩:=I.list hq
 obtain ⟨j,h1,h2,h3,h4,h5⟩:=sP he
 obtain ⟨w,ew,rw'⟩:=r.get h2
 have hl:=r.length
 have hn:=lH
 have fin:EP X pins σ Q w s:=⟨z,H,I,rw',q⟩
 by_cases h0:0<=i
 ·have hj:i.toNat=j:=by
   rw [seqIndex_of h0 h5] at h1
   exact aW4 h1
  exact item_listR pl.isList h0 (by omega) (by rw [hj]; simpa using ew) fin hs
 ·have hj:(i+(its.toArray.size:Int)).toNat=j:=by
   rw [seqIndex_neg (by omega) h4] at h1
   rw [aT8,<- hl]
   exact aW4 h1
  exact subscriptTail_builtinR (x:=w) pl.isList.typeIs slot_list_getitem.lookup
   (wpAny_getItem_list_neg (Q:=fun r s'=>r=w/\EP X pins σ Q r s') pl.isList (by omega) (by rw [aT8] <;> omega) (by omega) (by rw [hj]; simpa using ew) ⟨rfl,fin⟩) hs
theorem sR:iZ X (yD X.K):=by
 intro value slice pins s σ H x y v u Q I rx ry h hs
 obtain ⟨p,xs,i,z,rfl,rfl,hq,he,q⟩:=h
 cases rx
 obtain ⟨t,rfl⟩:=ry
 obtain ⟨its,r,pl,hz⟩:=I.tuple hq
 obtain ⟨j,h1,h2,h3,h4,h5⟩:=sP he
 obtain ⟨w,ew,rw'⟩:=r.get h2
 have hl:=r.length
 have hn:=lH
 have fin:EP X pins σ Q w s:=⟨z,H,I,rw',q⟩
 exact subscriptTail_builtinR (x:=w) pl.typeIs slot_tuple_getitem.lookup
  (getItem_tuple (j:=j) (Q:=fun r s'=>r=w/\EP X pins σ Q r s') pl (by omega) (by omega) (by rw [aT8,<- hl]; exact h1) (by simpa using ew) ⟨rfl,fin⟩) hs
theorem af3:iZ X yE:=by
 intro value slice pins s σ H x y v u Q I rx ry h hs
 obtain ⟨z,i,c,rfl,rfl,hz,he,q⟩:=h
 obtain ⟨t,rfl⟩:=rx
 obtain ⟨t',rfl⟩:=ry
 obtain ⟨j,h1,h2,h3,h4,h5⟩:=sP he
 have hl:z.cps.toList.length=z.length:=by simp [Str.length]
 rw [hl] at h1 h4 h5
 have hn:=lH
 exact tail_any (typeIs_str s z t) slot_str_getitem.lookup (getItem_str (c:=c) (by
  have e1:decide (i < -(2 ^ 63:Int))=false:=aU1 (by omega)
  have e2:decide (i >= 2 ^ 63)=false:=aU1 (by omega)
  rw [e1,e2,Bool.or_false]) (by rw [h1]; simpa using h2) ⟨.str ⟨#[c]⟩,H,I.tok _,⟨_,rfl⟩,q⟩) hs
noncomputable def yF (K:PySem.W.Frag):R2:=fun x y H Q=>yC K x y H Q ∨ yD K x y H Q ∨ yE x y H Q
theorem af4:iZ X (yF X.K):=sQ.or (sR.or af3)
theorem af5 (its:List Value) (n j:Nat) (u:Value):Obj.mapSeq (·.setIfInBounds j u) { cls:=.type "list",data:=.seq its.toArray n }={ cls:=.type "list",data:=.seq (its.set j u).toArray n }:=by
 simp [Obj.mapSeq]
theorem a7.lst {pins:List (Addr × Obj)}{σ:St}{H:Hp}{s:Shared}{p:Addr}{xs:List V} (I:a7 X pins σ H s) (h:H p=some (.lst xs)) :
  ∃ (its:List Value) (n:Nat),aJ xs its/\s.heap.get? p=some { cls:=.type "list",data:=.seq its.toArray n }/\xs.length<=sizeLine:=by
 obtain ⟨z,its,n,r,e⟩:=I.hok p _ h
 exact⟨its,n,r,e,z⟩
theorem a7.lstUpd {pins:List (Addr × Obj)}{σ:St}{H:Hp}{s:Shared}{p:Addr}{xs ys:List V}{its its':List Value}{n n':Nat}{f:Obj->Obj} (I:a7 X pins σ H s) (h:H p=some (.lst xs))
  (ho:s.heap.get? p=some { cls:=.type "list",data:=.seq its.toArray n }) (hf:f { cls:=.type "list",data:=.seq its.toArray n }={ cls:=.type "list",data:=.seq its'.toArray n' }) (r:aJ ys its') (hz:ys.length<=sizeLine) (t:Nat) :
  a7 X pins σ (upd H p (.lst ys)) { s with heap:=s.heap.update p f,toks:=t }:=by
 have e:(s.heap.update p f).get? p=some { cls:=.type "list",data:=.seq its'.toArray n' }:=by
  rw [aX6 f ho (by rw [hf] <;> rfl),hf]
 refine I.write (x:=p) (e:=p) (by rw [h]; trivial) (.inl rfl) (fun b u hb q=>(aZ9 _ _ (Ne.symm hb)).trans q) ⟨_,e⟩ ?_
 exact⟨hz,its',n',r,e⟩
noncomputable def sS:V->V->V->Hp->(Hp->Prop)->Prop:=fun o i v H Q=>∃ p xs k j,o = .ref p/\i = .int k/\H p=some (.lst xs)/\hG xs.length k=some j/\Q (upd H p (.lst (xs.set j v)))
theorem af6:wV X sS:=by
 intro pins s σ H o i v ov iv u Q I ro ri rv h
 obtain ⟨p,xs,k,j,rfl,rfl,hp,hj,q⟩:=h
 cases ro
 obtain ⟨t,rfl⟩:=ri
 obtain ⟨its,n,r,ho,hz⟩:=I.lst hp
 obtain ⟨h1,h2,h3,h4⟩:=yA hj
 have hl:=r.length
 have hn:=lH
 have I':a7 X pins σ (upd H p (.lst (xs.set j v))) { s with heap:=s.heap.update p (Obj.mapSeq (·.setIfInBounds j u)) }:=
  I.lstUpd hp ho (af5 its n j u) (r.set rv j) (by rw [aZ1]; exact hz) s.toks
 by_cases h0:0<=k
 ·have hk:k.toNat=j:=by
   rw [seqIndex_of h0 h4] at h1
   exact aW4 h1
  exact PySem.W.ki_setAt ho h0 (by omega) (by rw [aT8,<- hl]; exact h4) (by rw [hk]; exact⟨_,I',q⟩)
 ·have hk:(k+(its.toArray.size:Int)).toNat=j:=by
   rw [seqIndex_neg (by omega) h3] at h1
   rw [aT8,<- hl]
   exact aW4 h1
  exact PySem.W.ki_setBack ho (by omega) (by rw [aT8,<- hl]; exact h3) (by omega) (by rw [hk]; exact⟨_,I',q⟩)
theorem af7 (lo hi:Option Int) (n:Nat):(sliceBounds lo hi none n).1=((HT.aV n 0 lo:Nat):Int)/\(sliceBounds lo hi none n).2.1=((HT.aV n n hi:Nat):Int)/\(sliceBounds lo hi none n).2.2=1:=by
 refine⟨?_,?_,rfl⟩
 ·cases lo with
  | none=>simp [sliceBounds,HT.aV]
  | some i=>
   simp only [sliceBounds,HT.aV,Option.getD_none,show (1:Int) > 0 by decide,if_true]
   by_cases h:i < 0
   ·simp only [h,if_true] <;> omega
   ·simp only [h,bb6] <;> omega
 ·cases hi with
  | none=>simp [sliceBounds,HT.aV]
  | some i=>
   simp only [sliceBounds,HT.aV,Option.getD_none,show (1:Int) > 0 by decide,if_true]
   by_cases h:i < 0
   ·simp only [h,if_true] <;> omega
   ·simp only [h,bb6] <;> omega
theorem af8 (its:List Value) (lo hi:Option Int):slicePick its.toArray lo hi none=((its.drop (HT.aV its.length 0 lo)).take (HT.aV its.length its.length hi - HT.aV its.length 0 lo)).toArray:=by
 obtain ⟨h1,h2,h3⟩:=af7 lo hi its.toArray.size
 unfold slicePick
 rw [h1,h2,h3]
 simp only [sliceRange_one,pick_run,aT8] <;> rfl
noncomputable def af9 (K:PySem.W.Frag):V->Option Int->Option Int->Hp->VK->Prop:=fun x lo hi H Q=>∃ a xs,x = .ref a/\aK K H a xs/\∀ p,H p=none->Q (.ref p) (upd H p (.lst (eC xs lo hi)))
theorem yG:jQ X (af9 X.K):=by
 intro pins s σ H x v vl vu lo hi sl Q I rx hs pl pu h
 obtain ⟨a,xs,rfl,hx,q⟩:=h
 cases rx
 obtain ⟨its,r,ht,hz⟩:=I.list hx
 have hlen:=r.length
 refine⟨"list",_,slot_list_getitem.lookup,ht.isList.typeIs,?_⟩
 refine wpAny_getItem_list_slice ht.isList hs pl pu .none (by simp) ?_ (by rw [aT8] <;> omega)
 rw [af8,<- hlen]
 refine⟨.ref s.heap.objs.size,_,I.laid (t':=s.toks) (o:=.lst (eC xs lo hi)) (fun b ob q=>aT5 _ q) (aT9 _) ?_,rfl,q _ (I.hok.fresh (aT9 _))⟩
 exact⟨aX8 (y3 xs lo hi) hz,_,0,(r.drop (HT.aV xs.length 0 lo)).take (HT.aV xs.length xs.length hi - HT.aV xs.length 0 lo),aU0 _ rfl⟩
noncomputable def j3:V->Bool
 | .non=>true
 | .bl _=>true
 | .int _=>true
 | .str _=>true
 | _=>false
noncomputable def hJ:V->V->Bool
 | .non,.non=>true
 | .bl a,.bl b=>a == b
 | .bl a,.int b=>(if a then 1 else 0) == b
 | .int a,.bl b=>a == (if b then 1 else 0)
 | .int a,.int b=>a == b
 | .str a,.str b=>a == b
 | _,_=>false
theorem ag0 {A:Around}{s:Shared}{y x:V}{u v:Value} (ry:aW y u) (rx:aW x v) (fy:j3 y=true) (fx:j3 x=true):SeqAt.EqAt A s u v (hJ y x):=by
 cases y with
 | non=>
  cases ry
  cases x with
  | non=>cases rx; exact bj1 _
  | bl b=>cases rx; exact SeqAt.EqAt.none_bool b
  | int b=>obtain ⟨t,rfl⟩:=rx; exact SeqAt.EqAt.none_int b t
  | str b=>obtain ⟨t,rfl⟩:=rx; exact SeqAt.EqAt.none_str b t
  | _=>exact absurd (show false=true from fx) aV6
 | bl a=>
  cases ry
  cases x with
  | non=>cases rx; exact SeqAt.EqAt.bool_none a
  | bl b=>cases rx; exact SeqAt.EqAt.bool_bool a b
  | int b=>obtain ⟨t,rfl⟩:=rx; exact SeqAt.EqAt.bool_int a b t
  | str b=>obtain ⟨t,rfl⟩:=rx; exact SeqAt.EqAt.bool_str a b t
  | _=>exact absurd (show false=true from fx) aV6
 | int a=>
  obtain ⟨t',rfl⟩:=ry
  cases x with
  | non=>cases rx; exact SeqAt.EqAt.int_none a t'
  | bl b=>cases rx; exact SeqAt.EqAt.int_bool a t' b
  | int b=>obtain ⟨t,rfl⟩:=rx; exact SeqAt.EqAt.int_int a t' b t
  | str b=>obtain ⟨t,rfl⟩:=rx; exact SeqAt.EqAt.int_str a t' b t
  | _=>exact absurd (show false=true from fx) aV6
 | str a=>
  obtain ⟨t',rfl⟩:=ry
  cases x with
  | non=>cases rx; exact SeqAt.EqAt.str_none a t'
  | bl b=>cases rx; exact SeqAt.EqAt.str_bool a t' b
  | int b=>obtain ⟨t,rfl⟩:=rx; exact SeqAt.EqAt.str_int a t' b t
  | str b=>obtain ⟨t,rfl⟩:=rx; exact SeqAt.EqAt.str_str a t' b t
  | _=>exact absurd (show false=true from fx) aV6
 | _=>exact absurd (show false=true from fy) aV6
noncomputable def eV (x:V) (u:Value):Bool:=match u with
 | .none=>hJ .non x
 | .bool b=>hJ (.bl b) x
 | .int i _=>hJ (.int i) x
 | .str z _=>hJ (.str z) x
 | _=>false
theorem yH {x y:V}{u:Value} (r:aW y u) (f:j3 y=true):eV x u=hJ y x:=by
 cases y with
 | non=>cases r; rfl
 | bl b=>cases r; rfl
 | int i=>obtain ⟨t,rfl⟩:=r; rfl
 | str z=>obtain ⟨t,rfl⟩:=r; rfl
 | _=>exact absurd (show false=true from f) aV6
theorem mZ {x:V}:∀ {xs:List V}{us:List Value},aJ xs us->xs.all j3=true->us.any (eV x)=xs.any fun y=>hJ y x
 | _,_,.nil,_=>rfl
 | y :: xs,u :: us,.cons r t,f=>by
  rw [bi1,aX3] at f
  rw [List.any_cons,List.any_cons,yH r f.1,mZ t f.2]
theorem nC {A:Around}{s:Shared}{x:V}{v:Value} (rx:aW x v) (fx:j3 x=true):∀ {xs:List V}{us:List Value},aJ xs us->xs.all j3=true->∀ u ∈ us,SeqAt.EqAt A s u v (eV x u)
 | _,_,.nil,_=>fun u hu=>by cases hu
 | y :: xs,u :: us,.cons r t,f=>fun u' hu=>by
  rw [bi1,aX3] at f
  rcases aU2.mp hu with rfl | hu
  ·rw [yH r f.1]; exact ag0 r rx f.1 fx
  ·exact nC rx fx t f.2 u' hu
noncomputable def nD (x:V) (xs:List V):Bool:=xs.any fun y=>hJ y x
noncomputable def sU (K:PySem.W.Frag) (neg:Bool):R2:=fun x y H Q=>∃ p xs,y = .ref p/\(aK K H p xs ∨ aH K H p xs)/\j3 x=true/\xs.all j3=true/\Q (.bl (if neg then !nD x xs else nD x xs)) H
theorem yI:c9 X (compareOp .In) (sU X.K false):=by
 intro pins s σ H x y v u Q I rx ry h
 obtain ⟨p,xs,rfl,hq,fx,fs,q⟩:=h
 cases ry
 rcases hq with hq | hq
 ·obtain ⟨its,r,pl,hz⟩:=I.list hq
  refine SeqAt.in_listAt (eV x) pl.isList (fun w hw=>nC rx fx r fs w (by simpa using hw)) ⟨.bl _,H,I,rfl,?_⟩
  rw [show its.toArray.any (eV x)=its.any (eV x) by simp,mZ r fs]
  exact q
 ·obtain ⟨its,r,pl,hz⟩:=I.tuple hq
  refine SeqAt.in_tupleAt (eV x) pl (fun w hw=>nC rx fx r fs w (by simpa using hw)) ⟨.bl _,H,I,rfl,?_⟩
  rw [show its.toArray.any (eV x)=its.any (eV x) by simp,mZ r fs]
  exact q
theorem yJ:c9 X (compareOp .NotIn) (sU X.K true):=by
 intro pins s σ H x y v u Q I rx ry h
 obtain ⟨p,xs,rfl,hq,fx,fs,q⟩:=h
 cases ry
 rcases hq with hq | hq
 ·obtain ⟨its,r,pl,hz⟩:=I.list hq
  refine SeqAt.notIn_listAt (eV x) pl.isList (fun w hw=>nC rx fx r fs w (by simpa using hw)) ⟨.bl _,H,I,rfl,?_⟩
  rw [show its.toArray.any (eV x)=its.any (eV x) by simp,mZ r fs]
  exact q
 ·obtain ⟨its,r,pl,hz⟩:=I.tuple hq
  refine SeqAt.notIn_tupleAt (eV x) pl (fun w hw=>nC rx fx r fs w (by simpa using hw)) ⟨.bl _,H,I,rfl,?_⟩
  rw [show its.toArray.any (eV x)=its.any (eV x) by simp,mZ r fs]
  exact q
theorem ag1:cO X (.builtin "len") (fun xs H Q=>∃ p ys,xs = [.ref p]/\(aK X.K H p ys ∨ aH X.K H p ys)/\Q (.int ys.length) H):=by
 intro pins s σ H xs us Q I r h
 obtain ⟨p,ys,rfl,hq,q⟩:=h
 obtain ⟨u,rfl,rx⟩:=fU r
 cases rx
 have hn:=lH
 rcases hq with hq | hq
 ·obtain ⟨its,r',pl,hz⟩:=I.list hq
  have hlen:=r'.length
  exact Calls.call_len_list pl.isList (by simp only [aT8] <;> omega) ⟨.int ys.length,H,I.tok _,⟨s.toks+1,by rw [aT8,hlen]⟩,q⟩
 ·obtain ⟨its,r',pl,hz⟩:=I.tuple hq
  have hlen:=r'.length
  exact len_tuple pl (by simp only [aT8] <;> omega) ⟨.int ys.length,H,I.tok _,⟨s.toks+1,by rw [aT8,hlen]⟩,q⟩
theorem cO.or {f:Value}{r r':List V->Hp->VK->Prop} (h:cO X f r) (h':cO X f r'):cO X f (fun xs H Q=>r xs H Q ∨ r' xs H Q):=by
 intro pins s σ H xs us Q I rs q
 rcases q with q | q
 ·exact h pins s σ H xs us Q I rs q
 ·exact h' pins s σ H xs us Q I rs q
theorem ag2:cO X (.type "list") (fun xs H Q=>∃ p ys,xs = [.ref p]/\(aK X.K H p ys ∨ aH X.K H p ys)/\∀ l,H l=none->Q (.ref l) (upd H l (.lst ys))):=by
 intro pins s σ H xs us Q I r h
 obtain ⟨p,ys,rfl,hq,q⟩:=h
 obtain ⟨u,rfl,rx⟩:=fU r
 cases rx
 have fin:∀ (its:List Value),aJ ys its->ys.length<=sizeLine->∀ (h':Heap) (c':Nat),(∀ b o',s.heap.get? b=some o'->h'.get? b=some o')->
   h'.get? s.heap.objs.size=some { cls:=.type "list",dict:=none,data:=.seq its.toArray c',slots:=#[] }->EP X pins σ Q (.ref s.heap.objs.size) { s with heap:=h' }:=fun its r' hz h' c' kp e=>
  ⟨.ref s.heap.objs.size,_,I.laid (t':=s.toks) kp (aT9 _) (show bO X.prog X.w _ h' _ (.lst ys) from ⟨hz,its,c',r',e⟩),rfl,q _ (I.hok.fresh (aT9 _))⟩
 rcases hq with hq | hq
 ·obtain ⟨its,r',pl,hz⟩:=I.list hq
  have hlen:=r'.length
  obtain ⟨o,ho,hc,n,hd⟩:=pl.isList
  exact call_list_seq p (.inl rfl) ho hc hd (fun h' c' kp e=>fin its r' hz h' c' kp e) (by simp only [aT8] <;> omega)
 ·obtain ⟨its,r',pl,hz⟩:=I.tuple hq
  have hlen:=r'.length
  obtain ⟨o,ho,hc,n,hd⟩:=pl
  exact call_list_seq p (.inr rfl) ho hc hd (fun h' c' kp e=>fin its r' hz h' c' kp e) (by simp only [aT8] <;> omega)
theorem ag3:cO X (.type "tuple") (fun xs H Q=>∃ p ys,xs = [.ref p]/\((aK X.K H p ys/\∀ l,H l=none->Q (.ref l) (upd H l (.tup ys))) ∨ (aH X.K H p ys/\Q (.ref p) H))):=by
 intro pins s σ H xs us Q I r h
 obtain ⟨p,ys,rfl,h⟩:=h
 obtain ⟨u,rfl,rx⟩:=fU r
 cases rx
 rcases h with ⟨hq,q⟩ | ⟨hq,q⟩
 ·obtain ⟨its,r',pl,hz⟩:=I.list hq
  have hlen:=r'.length
  refine call_tuple_list pl.isList (fun h' kp=>?_) (by simp only [aT8] <;> omega)
  have I1:a7 X pins σ H { s with heap:=h' }:=I.kept (t':=s.toks) kp
  have I2:a7 X pins σ (upd H h'.objs.size (.tup ys)) { s with heap:=h'.push { cls:=.type "tuple",data:=.seq its.toArray } }:=
   I1.laid (t':=s.toks) (fun b o e=>aT5 _ e) (aT9 _) (show bO X.prog X.w _ _ _ (.tup ys) from ⟨hz,its,r',IsTup.new _ _,gI.new _ _ rfl⟩)
  exact⟨.ref h'.objs.size,_,I2,rfl,q _ (I1.hok.fresh (aT9 _))⟩
 ·obtain ⟨its,r',pl,hz⟩:=I.tuple hq
  exact call_tuple_same pl ⟨.ref p,H,I,rfl,q⟩
noncomputable def hU (K:PySem.W.Frag) (T:String) (x:V) (H:Hp):Prop:=match x with
 | .str _=>T="str"
 | .int _=>T="int"
 | .ref p=>(T="list"/\∃ xs,aK K H p xs) ∨ (T="tuple"/\∃ o,K.lookup p=some o/\o.cls = .type "tuple"/\o.dict=none) ∨
   (T="dict"/\((∃ kvs,H p=some (.dK kvs)) ∨ ∃ kvs,H p=some (.dT kvs))) ∨ (T="set"/\∃ S n,H p=some (.set S n))
 | _=>False
theorem ag4 {pins:List (Addr × Obj)}{σ:St}{H:Hp}{s:Shared}{T:String}{x:V}{v:Value} (I:a7 X pins σ H s) (r:aW x v) (ty:hU X.K T x H) :
  s.TypeIs v T/\∀ a,v = .ref a->∃ ob,s.heap.get? a=some ob/\ob.dict=none:=by
 cases x with
 | str z=>
  obtain ⟨t,rfl⟩:=r
  cases (show T="str" from ty)
  exact⟨typeIs_str s z t,fun _ e=>nomatch e⟩
 | int i=>
  obtain ⟨t,rfl⟩:=r
  cases (show T="int" from ty)
  exact⟨typeIs_int s i t,fun _ e=>nomatch e⟩
 | ref p=>
  cases r
  rcases ty with ⟨rfl,xs,hq⟩ | ⟨rfl,o,hk,hc,hd⟩ | ⟨rfl,hk⟩ | ⟨rfl,S,n,hk⟩
  ·obtain ⟨its,_,pl,_⟩:=I.list hq
   refine⟨pl.isList.typeIs,fun a e=>?_⟩
   cases e
   obtain ⟨o,n,e,c,hd,_⟩:=pl
   exact⟨o,e,hd⟩
  ·refine⟨⟨o,I.kIn p o hk,hc⟩,fun a e=>?_⟩
   cases e
   exact⟨o,I.kIn _ o hk,hd⟩
  ·have z:∃ o,s.heap.get? p=some o/\o.ExactDict:=by
    rcases hk with ⟨kvs,hk⟩ | ⟨kvs,hk⟩
    ·obtain ⟨_,_,_,_,o,_,_,e,ex,_⟩:=I.hok p _ hk
     exact⟨o,e,ex⟩
    ·obtain ⟨_,_,_,_,o,_,_,e,ex,_⟩:=I.hok p _ hk
     exact⟨o,e,ex⟩
   obtain ⟨o,e,ex⟩:=z
   refine⟨⟨o,e,ex.1⟩,fun a e2=>?_⟩
   cases e2
   exact⟨o,e,ex.2.1⟩
  ·obtain ⟨o,_,_,_,e,ex,_⟩:=I.hok p _ hk
   refine⟨⟨o,e,ex.1⟩,fun a e2=>?_⟩
   cases e2
   exact⟨o,e,ex.2.1⟩
 | _=>exact False.elim ty
noncomputable def lK (K:PySem.W.Frag) (T:String) (r:V->List V->Hp->VK->Prop) (to:TE) (t:TA):TE:=fun σ H Q=>to σ H fun x H1=>hU K T x H1/\t σ H1 fun xs H2=>r x xs H2 Q
variable {o e : Expr} {es : List Expr} {to : TE} {t : TA} {name : Str} {apos cpos : Pos} {T id : String} {r : V → List V → Hp → VK → Prop}
theorem kF (pa:PlainAttrs T) (slot:Slot T name id) (hty:typeOf (.builtin id)=pure (.type "method_descriptor")) (hm:MtR X id r) (ho:PE X o to) (ha:PA X (e :: es) t)
  (hbase:attributeBase o name X.env (eval o X.env)=eval o X.env:=by rfl)
  (hfew:((backTo cpos (starEach (e :: es) X.env)).all (fun x=>!x.1) && (backToKw cpos (keywordEach [] X.env)).all (fun x=>x.1.isSome)
   && decide ((e :: es).length+([]:List Keyword).length+(if ([]:List Keyword).isEmpty then 0 else 1) < 30))=true:=by rfl)
  (hline:(apos.endLine == cpos.line)=true:=by rfl) (hs:starEach (e :: es) X.env=(false,eval e X.env) :: starEach es X.env:=by rfl) (hplain:(backTo cpos (starEach es X.env)).any (·.1)=false:=by rfl) :
  PE X (.Call (.Attribute o name apos) (e :: es) [] cpos) (lK X.K T r to t):=by
 intro pins s σ H Q I h
 refine wpAny_Call_method_late hbase hfew hline rfl (aP (ho pins s σ H _ I h) fun v s1 ⟨x,H1,I1,r1,ty,q1⟩=>?_)
 obtain ⟨h1,h2⟩:=ag4 I1 r1 ty
 refine⟨T,id,pa,slot,hty,h1,h2,?_⟩
 have hA:=ha cpos pins s1 σ H1 _ I1 q1
 rw [hs] at hA ⊢
 refine Calls.callWith_builtin (by show (false || (backTo cpos (starEach es X.env)).any (·.1))=false; rw [hplain] <;> rfl) (Calls.evalArgs_plain ?_)
 exact aP hA fun us s2 ⟨vs,H2,I2,r2,q2⟩=>hm pins s2 σ H2 x vs v us Q I2 r1 r2 q2
end
noncomputable def nE (X:Cx) (id:String) (r:V->List V->Hp->VK->Prop):Prop:=
 ∀ (pins:List (Addr × Obj)) (s:Shared) (σ:St) (H:Hp) (x:V) (xs:List V) (v:Value) (us:List Value) (Q:VK),a7 X pins σ H s->aW x v->aJ xs us->r x xs H Q->
  wpAny (model X.prog X.w) X.A (call (.builtin id) (v :: us)) (EP X pins σ Q) X.xe s
theorem aJ.one {x:V}{us:List Value} (h:aJ [x] us):∃ u,us = [u]/\aW x u:=by
 cases h with
 | cons r t=>
  cases t
  exact⟨_,rfl,r⟩
theorem aJ.two {x y:V}{us:List Value} (h:aJ [x,y] us):∃ u v,us = [u,v]/\aW x u/\aW y v:=by
 cases h with
 | cons r t=>
  cases t with
  | cons q t=>
   cases t
   exact⟨_,_,rfl,r,q⟩
theorem aJ.eraseIdx:∀ {xs:List V}{us:List Value} (i:Nat),aJ xs us->aJ (xs.eraseIdx i) (us.eraseIdx i)
 | _,_,_,.nil=>.nil
 | _,_,0,.cons _ t=>t
 | _,_,i+1,.cons r t=>.cons r (aJ.eraseIdx i t)
theorem aJ.reverse {xs:List V}{us:List Value} (h:aJ xs us):aJ xs.reverse us.reverse:=by
 induction h with
 | nil=>exact .nil
 | cons r t ih=>rw [List.reverse_cons,List.reverse_cons]; exact aJ.append ih (.cons r .nil)
theorem aJ.rep {xs:List V}{us:List Value} (h:aJ xs us):∀ k:Nat,aJ (List.replicate k xs).flatten (List.replicate k us).flatten
 | 0=>.nil
 | k+1=>by
  rw [aZ2,aZ2,be1,be1]
  exact aJ.append h (aJ.rep h k)
theorem yK {α:Type}:∀ (l:List α) (i:Nat),(l.eraseIdx i).length<=l.length
 | [],_=>aT9 _
 | _ :: _,0=>bk8 _
 | _ :: r,i+1=>Nat.succ_le_succ (yK r i)
theorem sV (its:List Value):∀ (k:Nat) (acc:List Value),
  List.foldl (fun x1 x2=>x1 ++ x2) acc.toArray (List.replicate k its.toArray)=(acc ++ (List.replicate k its).flatten).toArray
 | 0,acc=>by simp
 | k+1,acc=>by
  have e:acc.toArray ++ its.toArray=(acc ++ its).toArray:=by simp
  have e2:(acc ++ its) ++ (List.replicate k its).flatten=acc ++ (List.replicate (k+1) its).flatten:=by
   rw [aZ2,be1,bj4]
  rw [<- e2,<- sV its k (acc ++ its),<- e,aZ2,List.foldl_cons]
section
variable {X : Cx} {pins : List (Addr × Obj)} {σ : St} {H : Hp} {s : Shared} {l b : Addr} {xs ys zs : List V}
theorem a7.lset {its its':List Value}{n:Nat}{f:Array Value->Array Value}{t':Nat} (I:a7 X pins σ H s) (hH:H l=some (.lst xs))
  (e:s.heap.get? l=some { cls:=.type "list",data:=.seq its.toArray n }) (hf:f its.toArray=its'.toArray) (hv:aJ ys its') (hz:ys.length<=sizeLine) :
  a7 X pins σ (upd H l (.lst ys)) { s with heap:=s.heap.update l (Obj.mapSeq f),toks:=t' }:=by
 have q:=PySem.IsL.update e f
 rw [hf] at q
 refine I.write (x:=l) (e:=l) (by rw [hH]; exact trivial) (.inl rfl) (fun b' u hb hu=>(aZ9 s.heap (Obj.mapSeq f) (Ne.symm hb)).trans hu) ⟨_,q⟩ ?_
 exact⟨hz,its',_,hv,q⟩
theorem a7.lnew {its:List Value}{t':Nat} (I:a7 X pins σ H s) (hv:aJ ys its) (hz:ys.length<=sizeLine) :
  a7 X pins σ (upd H s.heap.objs.size (.lst ys)) { s with heap:=s.heap.push { cls:=.type "list",data:=.seq its.toArray },toks:=t' }:=
 I.laid (fun _ _ q=>aT5 _ q) (aT9 _) ⟨hz,its,0,hv,aU0 _ rfl⟩
theorem a7.fresh (I:a7 X pins σ H s):H s.heap.objs.size=none:=I.hok.fresh (aT9 _)
theorem a7.lstM (I:a7 X pins σ H s) (hH:H l=some (.lst xs)):xs.length<=sizeLine/\∃ (its:List Value) (n:Nat),aJ xs its/\xs.length=its.length/\s.heap.get? l=some { cls:=.type "list",data:=.seq its.toArray n }:=by
 obtain ⟨z,its,n,r,e⟩:=I.hok l _ hH
 exact⟨z,its,n,r,r.length,e⟩
theorem sW {n:Nat} (h:n<=sizeLine):Builtin.List.listTooLong n=false:=by
 unfold Builtin.List.listTooLong
 exact aU1 (by omega)
end
section
variable {X : Cx}
noncomputable def sX:V->List V->Hp->VK->Prop:=fun x vs H Q=>∃ l xs y,x = .ref l/\vs = [y]/\H l=some (.lst xs)/\xs.length < sizeLine/\Q .non (upd H l (.lst (xs ++ [y])))
theorem nF:nE X "list.append" sX:=by
 intro pins s σ H x vs v us Q I rx rv h
 obtain ⟨l,xs,y,rfl,rfl,hH,hz,q⟩:=h
 cases rx
 obtain ⟨u,rfl,ru⟩:=rv.one
 obtain ⟨z,its,n,r,hl,e⟩:=I.lstM hH
 refine call_meets F.slot_list_append ⟨_,e,rfl⟩ F.entry_list_append (F.args_list_append_2 _ _) (PySem.list_append l its.toArray n u (by rw [aT8]; omega)) ⟨e,?_⟩
 refine⟨.non,_,I.lset (its':=its ++ [u]) hH e (by simp) (r.append (.cons ru .nil)) ?_,rfl,q⟩
 rw [aU6,aX7]
 omega
noncomputable def yL:V->List V->Hp->VK->Prop:=fun x vs H Q=>∃ l b xs zs,x = .ref l/\vs = [.ref b]/\H l=some (.lst xs)/\H b=some (.lst zs)/\xs.length+zs.length<=sizeLine/\Q .non (upd H l (.lst (xs ++ zs)))
theorem ag5:nE X "list.extend" yL:=by
 intro pins s σ H x vs v us Q I rx rv h
 obtain ⟨l,b,xs,zs,rfl,rfl,hH,hB,hz,q⟩:=h
 cases rx
 obtain ⟨u,rfl,ru⟩:=rv.one
 cases ru
 obtain ⟨z,its,n,r,hl,e⟩:=I.lstM hH
 obtain ⟨z2,its2,n2,r2,hl2,e2⟩:=I.lstM hB
 have hsz:its.toArray.size+its2.toArray.size<=sizeLine:=by rw [aT8,aT8]; omega
 have hlong : ¬ (!its.toArray.isEmpty && Builtin.List.listTooLong (its.toArray.size+its2.toArray.size))=true:=by
  rw [sW hsz,bi7]
  exact aV6
 refine call_meets F.slot_list_extend ⟨_,e,rfl⟩ F.entry_list_extend (F.args_list_extend_2 _ _)
  (AutoSeq1.list_extend_list_list_0 l its.toArray n b its2.toArray n2 hlong (by rw [aT8]; omega) (by omega)) ⟨e,e2,?_⟩
 refine⟨.non,_,I.lset (its':=its ++ its2) hH e (by simp) (r.append r2) ?_,rfl,q⟩
 rw [aU6]
 omega
noncomputable def sY:V->List V->Hp->VK->Prop:=fun x vs H Q=>∃ l xs i k y,x = .ref l/\vs = [.int i]/\H l=some (.lst xs)/\-(2 ^ 63)<=i/\i < 2 ^ 63/\seqIndex? i xs.length=some k/\xs[k]? = some y/\Q y (upd H l (.lst (xs.eraseIdx k)))
theorem yM:nE X "list.pop" sY:=by
 intro pins s σ H x vs v us Q I rx rv h
 obtain ⟨l,xs,i,k,y,rfl,rfl,hH,h1,h2,hk,hy,q⟩:=h
 cases rx
 obtain ⟨u,rfl,ru⟩:=rv.one
 obtain ⟨t,rfl⟩:=ru
 obtain ⟨z,its,n,r,hl,e⟩:=I.lstM hH
 obtain ⟨w,hw,rw'⟩:=r.get hy
 refine call_meets F.slot_list_pop ⟨_,e,rfl⟩ F.entry_list_pop (F.args_list_pop_2 _ _)
  (MeetsSeq.list_pop_at l its.toArray n i t k w (fitsIndex_both h1 h2) (by rw [aT8,<- hl]; exact hk) (by rw [<- ba4]; exact hw) (by rw [aT8]; omega)) ⟨e,?_⟩
 refine⟨y,_,I.lset (its':=its.eraseIdx k) hH e ?_ (r.eraseIdx k) ?_,rw',q⟩
 ·show its.toArray.eraseIdxIfInBounds k=(its.eraseIdx k).toArray
  rw [List.eraseIdxIfInBounds_toArray]
 ·have:=yK xs k
  omega
noncomputable def yN:R2:=fun x y H Q=>∃ l b xs zs,x = .ref l/\y = .ref b/\H l=some (.lst xs)/\H b=some (.lst zs)/\xs.length+zs.length<=sizeLine/\∀ p,H p=none->Q (.ref p) (upd H p (.lst (xs ++ zs)))
theorem ag6:c9 X (binaryOp .Add) yN:=by
 intro pins s σ H x y v u Q I rx ry h
 obtain ⟨l,b,xs,zs,rfl,rfl,hH,hB,hz,q⟩:=h
 cases rx
 cases ry
 obtain ⟨z,its,n,r,hl,e⟩:=I.lstM hH
 obtain ⟨z2,its2,n2,r2,hl2,e2⟩:=I.lstM hB
 refine PySem.P.add_list e e2 ?_ (by rw [aT8,aT8]; omega)
 have ea:its.toArray ++ its2.toArray=(its ++ its2).toArray:=by simp
 rw [ea]
 exact⟨.ref _,_,I.lnew (t':=s.toks) (r.append r2) (by rw [aU6]; omega),rfl,q _ I.fresh⟩
noncomputable def yO:R2:=fun x y H Q=>∃ l k xs,x = .ref l/\y = .int k/\H l=some (.lst xs)/\-(2 ^ 63)<=k/\k < 2 ^ 63/\xs.length * k.toNat<=sizeLine/\
 ∀ p,H p=none->Q (.ref p) (upd H p (.lst (List.replicate k.toNat xs).flatten))
theorem yP {α:Type} (xs:List α) (k:Nat):(List.replicate k xs).flatten.length=k * xs.length:=by
 induction k with
 | zero=>simp
 | succ k ih=>rw [aZ2,be1,aU6,ih,Nat.succ_mul,Nat.add_comm]
theorem ag7:c9 X (binaryOp .Mult) yO:=by
 intro pins s σ H x y v u Q I rx ry h
 obtain ⟨l,k,xs,rfl,rfl,hH,h1,h2,hz,q⟩:=h
 cases rx
 obtain ⟨t,rfl⟩:=ry
 obtain ⟨z,its,n,r,hl,e⟩:=I.lstM hH
 have hlen:its.toArray.size * k.toNat<=sizeLine:=by rw [aT8,<- hl]; exact hz
 have hcap : ¬ its.toArray.size * k.toNat > (2 ^ 63 - 1) / 8:=by
  have:(sizeLine:Nat)<=(2 ^ 63 - 1) / 8:=by decide
  omega
 have hfit : ¬ (!Builtin.List.listFitsIndex k)=true:=by
  rw [fitsIndex_both h1 h2]
  exact aV6
 have hlong : ¬ Builtin.List.listTooLong (its.toArray.size * k.toNat)=true:=by
  rw [sW hlen]
  exact aV6
 have hnew:List.foldl (fun x1 x2=>x1 ++ x2) #[] (List.replicate (if its.toArray.isEmpty=true then 0 else k.toNat) its.toArray)=(List.replicate k.toNat its).flatten.toArray:=by
  have f0:∀ m:Nat,List.foldl (fun x1 x2=>x1 ++ x2) #[] (List.replicate m its.toArray)=(List.replicate m its).flatten.toArray:=fun m=>by
   have:=sV its m []
   rw [List.nil_append] at this
   exact this
  rw [f0]
  cases its with
  | nil=>simp
  | cons a r'=>rw [if_neg (by simp)]
 refine wpAny_binaryOp_repeat_ref (T:="list") (U:="int") (by decide) ⟨_,e,rfl⟩ (fun s'=>typeIs_int s' k t) noFill_list_mul F.fills_int_mul F.slot_int_rmul repeat_list F.slot_int_index.lookup
  (call_meets F.slot_int_rmul (typeIs_int s k t) F.entry_int_rmul (F.args_int_rmul_2 _ _) (int___rmul___int_list k t l its.toArray n)
   ⟨e,rfl,⟨_,e,rfl⟩,call_meets F.slot_list_mul ⟨_,e,rfl⟩ F.entry_list_mul (F.args_list_mul_2 _ _) (AutoListH.list___mul___list_int_3 l its.toArray n k t hfit hcap hlong) ⟨e,?_⟩⟩)
 rw [hnew]
 exact⟨.ref _,_,I.lnew (t':=s.toks) (r.rep k.toNat) (by rw [yP,Nat.mul_comm]; exact hz),rfl,q _ I.fresh⟩
end
section
variable {κ : Type} [DecidableEq κ]
noncomputable def iK (kvs:List (κ × V)) (k:κ):Option V:=(kvs.find? fun kv=>decide (kv.1=k)).map (·.2)
noncomputable def fI (kvs:List (κ × V)) (k:κ) (v:V):List (κ × V):=
 if (kvs.any fun kv=>decide (kv.1=k))=true then kvs.map (fun kv=>if kv.1=k then (kv.1,v) else kv) else kvs ++ [(k,v)]
theorem yQ {p:κ × V}{r:List (κ × V)}{k:κ} (e:p.1=k):iK (p :: r) k=some p.2:=by simp [iK,List.find?_cons,e]
theorem yR {p:κ × V}{r:List (κ × V)}{k:κ} (e : ¬ p.1=k):iK (p :: r) k=iK r k:=by simp [iK,List.find?_cons,e]
theorem yS (k:κ):∀ kvs:List (κ × V),(kvs.any fun kv=>decide (kv.1=k))=(iK kvs k).isSome
 | []=>rfl
 | p :: r=>by
  rw [List.any_cons]
  by_cases e:p.1=k
  ·simp only [yQ e,aU5 e,Bool.true_or,Option.isSome_some]
  ·rw [yR e,aU1 e,Bool.false_or]; exact yS k r
theorem yT (kvs:List (κ × V)) (k:κ) (v:V):(fI kvs k v).length<=kvs.length+1:=by
 unfold fI
 split
 ·rw [aU7]; omega
 ·rw [aU6,aZ6,List.length_nil]; omega
theorem lC.isSome_eq {o:Option V}{u:Option Value} (r:lC o u):o.isSome=u.isSome:=by
 cases o with
 | none=>cases u with
  | none=>rfl
  | some _=>exact (show False from r).elim
 | some _=>cases u with
  | none=>exact (show False from r).elim
  | some _=>rfl
theorem KV.any {kvs:List (κ × V)}{vs:List (κ × Value)} (r:KV kvs vs) (k:κ):(kvs.any fun kv=>decide (kv.1=k))=vs.any fun kv=>decide (kv.1=k):=by
 unfold KV at r
 induction r with
 | nil=>rfl
 | cons h t ih=>rw [List.any_cons,List.any_cons,ih,h.1]
theorem KV.repl {kvs:List (κ × V)}{vs:List (κ × Value)} (r:KV kvs vs) (k:κ) {y:V}{u:Value} (ry:aW y u) :
  KV (kvs.map fun kv=>if kv.1=k then (kv.1,y) else kv) (vs.map fun kv=>if kv.1=k then (kv.1,u) else kv):=by
 unfold KV at r ⊢
 induction r with
 | nil=>exact .nil
 | @cons p q ps qs h t ih=>
  rw [ba1,ba1]
  refine .cons ?_ ih
  obtain ⟨h1,h2⟩:=h
  by_cases e:p.1=k
  ·rw [if_pos e,if_pos (h1.symm.trans e)]; exact⟨h1,ry⟩
  ·rw [if_neg e,if_neg (fun z=>e (h1.trans z))]; exact⟨h1,h2⟩
theorem KV.put {kvs:List (κ × V)}{vs:List (κ × Value)} (r:KV kvs vs) (k:κ) {y:V}{u:Value} (ry:aW y u):KV (fI kvs k y) (stored vs k u):=by
 unfold fI stored
 rw [r.any k]
 by_cases e:(vs.any fun kv=>decide (kv.1=k))=true
 ·rw [if_pos e,if_pos e]; exact r.repl k ry
 ·rw [if_neg e,if_neg e]; exact Paired.snoc r ⟨rfl,ry⟩
theorem KV.length {kvs:List (κ × V)}{vs:List (κ × Value)} (r:KV kvs vs):kvs.length=vs.length:=Paired.length r
end
theorem yU {P:Program}{w:World}{k:aS}{u:Value} (r:aW (kV k) u):(fF P w).is k u=true:=by
 cases k with
 | inl i=>obtain ⟨t,e⟩:=(show ∃ t,u=Value.int i t from r); subst e; exact Y1 P w i t
 | inr x=>obtain ⟨t,e⟩:=(show ∃ t,u=Value.str x t from r); subst e; exact Y2 P w x t
theorem yV {P:Program}{w:World}:∀ {ks:List aS}{us:List Value},aJ (ks.map kV) us->ItemsAre (fF P w) ks us
 | [],_,r=>by rw [List.map_nil] at r; cases r; exact .nil
 | k :: ks,_,r=>by
  rw [ba1] at r
  cases r with
  | cons h t=>exact .cons (yU h) (yV t)
noncomputable abbrev KT (H:Hp):List (List aS × V)->List (List aS × Addr × Value)->Prop:=Paired fun p q=>p.1=q.1/\H q.2.1=some (.tup (p.1.map kV))/\aW p.2 q.2.2
theorem KT.val {H:Hp}{kvs:List (List aS × V)}{xs:List (List aS × Addr × Value)} (r:KT H kvs xs) (k:List aS):lC (iK kvs k) ((atKey xs k).map (·.2)):=by
 induction r with
 | nil=>exact True.intro
 | @cons p q ps qs h t ih=>
  obtain ⟨h1,_,h2⟩:=h
  by_cases e:p.1=k
  ·have e':q.1=k:=h1.symm.trans e
   have b:atKey (q :: qs) k=some q.2:=by simp [atKey,List.find?_cons,e']
   rw [yQ e,b]; exact h2
  ·have e' : ¬ q.1=k:=fun z=>e (h1.trans z)
   have b:atKey (q :: qs) k=atKey qs k:=by simp [atKey,List.find?_cons,e']
   rw [yR e,b]; exact ih
theorem KT.repl {H:Hp}{kvs:List (List aS × V)}{xs:List (List aS × Addr × Value)} (r:KT H kvs xs) (k:List aS) {y:V}{u:Value} (ry:aW y u) :
  KT H (kvs.map fun kv=>if kv.1=k then (kv.1,y) else kv) (xs.map (putAt k u)):=by
 induction r with
 | nil=>exact .nil
 | @cons p q ps qs h t ih=>
  rw [ba1,ba1]
  refine .cons ?_ ih
  obtain ⟨h1,h2,h3⟩:=h
  unfold putAt
  by_cases e:p.1=k
  ·rw [if_pos e,if_pos (h1.symm.trans e)]; exact⟨h1,h2,ry⟩
  ·rw [if_neg e,if_neg (fun z=>e (h1.trans z))]; exact⟨h1,h2,h3⟩
theorem KT.put {H:Hp}{kvs:List (List aS × V)}{xs:List (List aS × Addr × Value)} (r:KT H kvs xs) (k:List aS) {b:Addr}{y:V}{u:Value} (hb:H b=some (.tup (k.map kV))) (ry:aW y u) :
  KT H (fI kvs k y) (storedH xs k b u):=by
 have e:(kvs.any fun kv=>decide (kv.1=k))=(atKey xs k).isSome:=by
  rw [yS,(r.val k).isSome_eq,Option.isSome_map]
 unfold fI storedH
 rw [e]
 by_cases q:(atKey xs k).isSome=true
 ·rw [if_pos q,if_pos q]; exact r.repl k ry
 ·rw [if_neg q,if_neg q]; exact Paired.snoc r ⟨rfl,hb,ry⟩
theorem KT.keeps {H H':Hp}{kvs:List (List aS × V)}{xs:List (List aS × Addr × Value)} (r:KT H kvs xs) (ht:∀ b ys,H b=some (.tup ys)->H' b=some (.tup ys)):KT H' kvs xs:=
 Paired.mapP r fun _ _ z=>⟨z.1,ht _ _ z.2.1,z.2.2⟩
section
variable {P : Program} {w : World} {H : Hp} {h : Heap} {a : Addr}
theorem yW {u:HO} (ok:bX P w H h) (e:Rd H a u):bO P w H h a u:=e.ok ok
theorem yX {kvs:List (aS × V)} (ok:bX P w H h) (e:Rd H a (.dK kvs)):kvs.length<=sizeLine/\(a == sysModules)=false/\∃ vs,KV kvs vs/\h.DictOf (fF P w) a vs:=
 show bO P w H h a (.dK kvs) from yW ok e
theorem ag8 {kvs:List (aS × V)} (ok:bX P w H h) (e:H a=some (.dK kvs)):kvs.length<=sizeLine/\(a == sysModules)=false/\∃ vs,KV kvs vs/\h.DictOf (fF P w) a vs:=yX ok (.inl e)
theorem yY {ks:List aS} (ok:bX P w H h) (e:H a=some (.tup (ks.map kV))):(tupleKind (fF P w)).is h ks a:=by
 obtain ⟨_,its,r,⟨o,h1,h2,n,h3⟩,_⟩:=(show bO P w H h a (.tup (ks.map kV)) from ok a _ e)
 exact⟨o,its.toArray,n,h1,h2,h3,by simpa using yV r⟩
theorem ag9 {kvs:List (List aS × V)} (ok:bX P w H h) (e:Rd H a (.dT kvs)):kvs.length<=sizeLine/\(a == sysModules)=false/\
  ∃ xs,KT H kvs xs/\h.DictOfH (tupleKind (fF P w)) a xs:=by
 obtain ⟨z,y,xs,r,o,es,ep,h1,h2,h3,h4,h5⟩:=(show bO P w H h a (.dT kvs) from yW ok e)
 refine⟨z,y,xs,r,o,es,ep,h1,h2,h3,h4,fun x hx=>?_,h5⟩
 have all:∀ {l:List (List aS × V)}{m:List (List aS × Addr × Value)},KT H l m->∀ x ∈ m,(tupleKind (fF P w)).is h x.1 x.2.1:=by
  intro l m q
  induction q with
  | nil=>intro x hx; exact nomatch hx
  | @cons p q ps qs hq t ih=>
   intro x hx
   rcases aU2.mp hx with e | hx
   ·subst e
    exact yY ok (by rw [<- hq.1]; exact hq.2.1)
   ·exact ih x hx
 exact all r x hx
theorem ah0 {kvs:List (List aS × V)} (ok:bX P w H h) (e:H a=some (.dT kvs)):kvs.length<=sizeLine/\(a == sysModules)=false/\
  ∃ xs,KT H kvs xs/\h.DictOfH (tupleKind (fF P w)) a xs:=ag9 ok (.inl e)
end
noncomputable def nG (H:Hp) (a:Addr) (y v:V) (H':Hp):Prop:=
 (∃ kvs k,H a=some (.dK kvs)/\y=kV k/\kvs.length < sizeLine/\H'=upd H a (.dK (fI kvs k v))) ∨
 ∃ kvs k b,H a=some (.dT kvs)/\y = .ref b/\H b=some (.tup (k.map kV))/\kvs.length < sizeLine/\H'=upd H a (.dT (fI kvs k v))
theorem nG.t {H:Hp}{a b:Addr}{kvs:List (List aS × V)}{k:List aS}{v:V} (e:H a=some (.dT kvs)) (eb:H b=some (.tup (k.map kV))) (hl:kvs.length < sizeLine) :
  nG H a (.ref b) v (upd H a (.dT (fI kvs k v))):=.inr ⟨kvs,k,b,e,rfl,eb,hl,rfl⟩
section
variable {X : Cx} {pins : List (Addr × Obj)} {σ : St} {H : Hp} {s : Shared} {a : Addr} {y v : V} {u r : Value} {o : Option V} {A : Around} {E : Value → Shared → Prop}
theorem a7.big (I:a7 X pins σ H s):sysModules < s.heap.objs.size:=by
 have h:mainGlobals < s.heap.objs.size:=(I.mod.glob.keeps I.bk).lt
 exact Nat.lt_trans (by decide) h
theorem yZ {h':Heap}{t':Nat}{ob:HO} (I:a7 X pins σ H s) (mu:mH (H a)) (hs:Heap.SameBut a s.heap h') (he:∃ q,h'.get? a=some q) (new:bO X.prog X.w (upd H a ob) h' a ob) :
  a7 X pins σ (upd H a ob) { s with heap:=h',toks:=t' }:=
 I.write (x:=a) (e:=a) mu (.inl rfl) (fun b q hb z=>(hs.2 b hb).trans z) he new
theorem ah1 {P:Program}{w:World}{H':Hp}{h':Heap}{kvs:List (aS × V)}{vs:List (aS × Value)} (z:kvs.length<=sizeLine) (hd:(a == sysModules)=false) (rel:KV kvs vs) (dd:h'.DictOf (fF P w) a vs) :
  bO P w H' h' a (.dK kvs):=⟨z,hd,vs,rel,dd⟩
theorem ah2 {H':Hp}{Q:Unit->Shared->Prop} (hu:A.units+1 < cLine) (I:a7 X pins σ H s) (g:nG H a y v H') (ry:aW y u) (rv:aW v r) (h:∀ s',a7 X pins σ H' s'->Q () s') :
  wpAny (model X.prog X.w) A (setItem (.ref a) u r) Q E s:=by
 rcases g with ⟨kvs,k,e,ey,l,eH⟩ | ⟨kvs,k,b,e,ey,eb,l,eH⟩
 ·subst ey eH
  obtain ⟨z,hd,vs,rel,dd⟩:=ag8 I.hok e
  have hz:vs.length<=sizeLine:=by rw [<- rel.length]; exact z
  have hl:(fI kvs k v).length<=sizeLine:=by have:=yT kvs k v; omega
  refine wpAny_setItem_pairs (hsz:=hz) (yU ry) dd fun h' dd' hs=>h _ ?_
  have he:∃ q,h'.get? a=some q:=let ⟨q,_,_,hq,_⟩:=dd'; ⟨q,hq⟩
  exact yZ I (by rw [e]; exact True.intro) hs he (ah1 hl hd (rel.put k rv) dd')
 ·subst ey eH
  cases (show u=Value.ref b from ry)
  obtain ⟨z,hd,xs,rel,dd⟩:=ah0 I.hok e
  have hz:xs.length<=sizeLine:=by rw [<- Paired.length rel]; exact z
  have hl:(fI kvs k v).length<=sizeLine:=by have:=yT kvs k v; omega
  refine wpAny_setItem_heap (hsz:=hz) (tupleKind_room_in1 hu) (yY I.hok eb) dd fun h' dd' hs=>h _ ?_
  obtain ⟨q,es,ep,hq,h2,h3,h4,_,h5⟩:=dd'
  refine yZ I (by rw [e]; exact True.intro) hs ⟨q,hq⟩ ⟨hl,hd,_,(rel.put k eb rv).keeps fun c ys ec=>?_,q,es,ep,hq,h2,h3,h4,h5⟩
  rw [aQ (Y3 ec e (fun z=>nomatch z))]
  exact ec
end
section
variable {X : Cx} {pins : List (Addr × Obj)} {σ : St} {H : Hp} {s : Shared} {a : Addr} {kvs : List (aS × V)} {k : aS} {u : Value} {A : Around} {E : Value → Shared → Prop}
theorem ah3 {Q:Value->Shared->Prop} (I:a7 X pins σ H s) (e:Rd H a (.dK kvs)) (h:∀ t s',a7 X pins σ H s'->Q (.int kvs.length t) s'):wpAny (model X.prog X.w) A (call (.builtin "len") [.ref a]) Q E s:=by
 obtain ⟨z,hd,vs,rel,dd⟩:=yX I.hok e
 refine call_len_dict hd dd (by rw [<- rel.length]; rw [sizeLine_eq] at z; omega) ?_
 rw [<- rel.length]
 exact h _ _ (I.tok _)
end
noncomputable def z9 (td ty tv:TE):TS:=fun D σ H=>tv σ H fun v H1=>td σ H1 fun x H2=>ty σ H2 fun y H3=>∃ a H4,x = .ref a/\nG H3 a y v H4/\D.nx σ H4
section
variable {X : Cx} {o i e value : Expr} {pos pos' tpos : Pos} {td ty tv : TE}
theorem ah4 (hu:X.A.units+1 < cLine) (ho:PE X o td) (hi:PE X i ty) (hv:PE X value tv) (hs:swapsWith value (some (.Subscript o i pos')) pos.line X.env=pure false) :
  PS X (.Assign [.Subscript o i pos'] value pos) (z9 td ty tv):=by
 intro pins s σ H D I h
 refine wpAny_Assign_Subscript (aP (hv pins s σ H _ I h) fun r s1 ⟨v,H1,I1,rv,q1⟩=>aP (ho pins s1 σ H1 _ I1 q1) fun u s2 ⟨x,H2,I2,rx,q2⟩=>aP (hi pins s2 σ H2 _ I2 q2) fun iv s3 ⟨y,H3,I3,ry,a,H4,ex,g,q3⟩=>?_) hs
 subst ex
 obtain rfl:u=Value.ref a:=rx
 exact ah2 hu I3 g ry rv fun s4 I4=>⟨σ,H4,I4,q3⟩
end
theorem ah5 {P:Program}{w:World}{H:Hp} (h:Heap) (hb:sysModules < h.objs.size):bO P w H (h.push { cls:=.type "dict",data:=.dict #[] }) h.objs.size (.dT []):=
 ⟨aX0 _,bh7.mpr (Ne.symm (aW6 hb)),[],.nil,_,#[],0,aU0 _ rfl,⟨rfl,rfl,rfl⟩,rfl,rfl,List.nodup_nil⟩
noncomputable def zA:TE:=fun _ H Q=>∀ p,H p=none->Q (.ref p) (upd H p (.dT []))
section
variable {X : Cx} {pos : Pos}
theorem ah6:PE X (.Dict [] [] pos) zA:=fun pins s σ H Q I h=>
 wpAny_Dict_empty ⟨.ref s.heap.objs.size,_,I.laid (a:=s.heap.objs.size) (o:=.dT []) (t':=s.toks) (fun _ _ q=>aT5 _ q) (aT9 _) (ah5 s.heap I.big),rfl,h _ (I.hok.fresh (aT9 _))⟩
end
end L2
namespace Att
open PySem PySem.W PySem.Calls PyProof.Rows
theorem ah7 {P:Params}{h:Heap}:∀ (ns:List Int) (vs:List Value),WellAll P h vs (ns.map WData.int)->IntsAre vs ns:=by
 intro ns
 induction ns with
 | nil=>
  intro vs w
  rw [List.map_nil] at w
  cases w
  exact .nil
 | cons n ns ih=>
  intro vs w
  rw [ba1] at w
  cases w with
  | cons a b=>
   cases a
   exact .cons _ _ (ih _ b)
theorem zB {l:OpenLaw}{n:Nat} (hn:l.most=some n) {P:Params}{h:Heap}{args:List WData}{vals:List Value}
  (hpre:l.row.toRowW.claim.pre args=true) (hwl:WellAll P h vals args) :
  ∃ a vs ns,vals = [Value.ref a]/\args = [WData.list (ns.map WData.int)]/\h.get? a=some { cls:=.type "list",data:=.seq vs.toArray }/\IntsAre vs ns/\ns.length<=n:=by
 have hsh:WShape.hasAll [] args [.list .int]=true:=(pre_splitW hpre).1
 have hc:l.pre.holds [] { args:=args }=true:=(pre_splitW hpre).2
 obtain ⟨d,r,rfl,h1,h2⟩:=hasAllW_cons hsh
 obtain rfl:=hasAllW_nil h2
 obtain ⟨xs,rfl,h3⟩:=hasW_list h1
 obtain ⟨ns,rfl⟩:=items_int h3
 have hlen:ns.length<=n:=by
  unfold OpenLaw.pre at hc
  have h4:(WTm.not (.lt (.lit (.int (n:Int))) (.len (.arg 0)))).holds [] { args:=[.list (ns.map .int)] }=true:=by
   have h4:=(holds_andW hc).1
   rw [hn] at h4
   exact h4
  have h5:=condW_of h4 (w_not (w_lt w_lit (w_len_list (w_arg rfl))))
  rw [aU7] at h5
  refine bi2 fun q=>?_
  have q':(n:Int) < ((ns.length:Nat):Int):=by omega
  first
   | (rw [aU5 q'] at h5; exact absurd h5 (by decide))
   | (simp at h5; omega)
 cases hwl with
 | cons w1 w2=>
  cases w2
  cases w1 with
  | list ho hall=>exact⟨_,_,ns,rfl,rfl,ho,ah7 ns _ hall,hlen⟩
theorem zC (l:OpenLaw) (args:List WData):l.row.toRowW.claim.post args (.bool true) args=true:=
 postW_of (r:=l.row.toRowW) (X:=(true == true))
  (show WShape.has [] (.bool true) .bool=true by first | rfl | decide | simp [WShape.has,WShape.arms,WShape.armsAll])
  (show (WTm.eq .res (.lit (.bool true))).value [] { args:=args,res:=some (.bool true),after:=args }=some (.bool (true == true)) from w_eq_bool (w_res rfl) w_lit) rfl
theorem aT2 {l:OpenLaw}{n:Nat}{q:Program}{loose:List Str}{XP:(Str->Option Value)->Heap->Prop}{YP:World->Heap->Prop}{d:DefRec}{x:Str}
  (hn:l.most=some n) (hdf:d.params.defaults = [])
  (hbind:∀ pm cd doc v:Value,bindArgs (docDef d.name d.params d.body d.scope pm cd doc) ⟨[v],[]⟩=pure [(x,v)])
  (hx:d.scope.names.lookup x=some .local ∨ d.scope.names.lookup x=some .cell)
  (hk:d.scope.kind = .function) (hco:d.scope.isCoroutine=false) (hgen:d.scope.isGenerator=false)
  (body:∀ (w:World) (s₀ s₁ s:Shared) (mg mb:Str->Option Value) (fa:Addr) (o:Obj) (pm cd doc:Value) (a:Addr) (vs:List Value) (ns:List Int),
   Ground q loose [] XP w s₀ mg mb s₁.heap->YP w s₁.heap->
   s₁.heap.get? fa=some o->o.data = .func (docDef d.name d.params d.body d.scope pm cd doc)->s₁.heap.CodeRec cd d.name->mg d.name=some (.ref fa)->
   s₁.heap.get? a=some { cls:=.type "list",data:=.seq vs.toArray }->IntsAre vs ns->ns.length<=n->
   s.gens = #[]->s.os=s₁.os->
   Fr s₁.heap s₁.heap.objs.size s.heap (bindL (envOfC d.name d.scope s₁.heap.objs.size fa cd).kindOf [(x,.ref a)] fun _=>none)->
   Cl s₁.heap.objs.size (cellsFrom (s₁.heap.objs.size+1) d.scope.names []) s.heap (bindC (envOfC d.name d.scope s₁.heap.objs.size fa cd).kindOf [(x,.ref a)] fun _=>none)->
   wpAny (model l.prog w) (callerA.deeper (envOfC d.name d.scope s₁.heap.objs.size fa cd)) (execs d.body (envOfC d.name d.scope s₁.heap.objs.size fa cd))
    (fun f s'=>f = .ret (.bool true)/\OldK s₁.heap s'.heap/\s'.os=s₁.os/\AllBare s'.gens) (fun _ _=>False) s) :
  WalkO q loose XP YP l.row.toRowW d [] (fun f vs=>PySem.call f vs):=by
 intro w s₀ s₁ mg mb G Y fa o pm cd doc dV kV ho hd hcd hD hmg hg args vals as hpre hlay hrd hwl hlo
 obtain rfl:dV = .none:=Dflts.none hD hdf
 obtain rfl:kV = .none:=Dflts.noKw hD
 obtain ⟨a,vs,ns,rfl,rfl,hobj,hints,hlen⟩:=zB hn hpre hwl
 refine enter_call ?_
 refine call_cells_ret (o:=o) (by rw [depth_caller]; decide) ho (fd_plain hd) G.T.nolimit hcd (hbind pm cd doc (.ref a)) (fun y hy=>?_) (fun h₁ tk F X=>?_) hco hgen hk
 ·obtain rfl:y=(x,Value.ref a):=aU3.mp hy
  rcases hx with e | e
  ·exact .inl e
  ·exact .inr ⟨e,cellsFrom_some _ _ _ (.inl e)⟩
 ·refine bc4 (body w s₀ s₁ { s₁ with heap:=h₁,toks:=tk } mg mb fa o pm cd doc a vs ns G Y ho (fd_plain hd) hcd hmg hobj hints hlen hg rfl F X) (fun f s' hq=>?_) (fun _ _ hq=>hq)
  obtain ⟨rfl,h2,h3,h4⟩:=hq
  exact⟨.inl ⟨.bool true,.bool true,[],rfl,fun _=>rfl,.bool true,zC l _,fun _=>⟨bj6,fun _ hm=>(nomatch hm)⟩⟩,h2,h3,h4⟩
theorem ah8 {l:OpenLaw}{n:Nat}{q:Program}{loose:List Str}{XP:(Str->Option Value)->Heap->Prop}{YP:World->Heap->Prop}{d:DefRec}
  (hn:l.most=some n) (hdf:d.params.defaults = [])
  (call:∀ (w:World) (s₀ s₁:Shared) (mg mb:Str->Option Value) (fa:Addr) (o:Obj) (pm cd doc:Value) (a:Addr) (vs:List Value) (ns:List Int),
   Ground q loose [] XP w s₀ mg mb s₁.heap->YP w s₁.heap->
   s₁.heap.get? fa=some o->o.data = .func (docDef d.name d.params d.body d.scope pm cd doc)->s₁.heap.CodeRec cd d.name->mg d.name=some (.ref fa)->
   s₁.heap.get? a=some { cls:=.type "list",data:=.seq vs.toArray }->IntsAre vs ns->ns.length<=n->s₁.gens = #[]->
   codeAny (model l.prog w) callerA (.call (.ref fa) ⟨[.ref a],[]⟩) (fun r s'=>r = .ok (.ret (.bool true))/\OldK s₁.heap s'.heap/\s'.os=s₁.os/\AllBare s'.gens) s₁) :
  WalkO q loose XP YP l.row.toRowW d [] (fun f vs=>PySem.call f vs):=by
 intro w s₀ s₁ mg mb G Y fa o pm cd doc dV kV ho hd hcd hD hmg hg args vals as hpre hlay hrd hwl hlo
 obtain rfl:dV = .none:=Dflts.none hD hdf
 obtain rfl:kV = .none:=Dflts.noKw hD
 obtain ⟨a,vs,ns,rfl,rfl,hobj,hints,hlen⟩:=zB hn hpre hwl
 refine enter_call (codeAny_mono (call w s₀ s₁ mg mb fa o pm cd doc a vs ns G Y ho (fd_plain hd) hcd hmg hobj hints hlen hg) fun r s' hq=>?_)
 obtain ⟨rfl,h2,h3,h4⟩:=hq
 exact⟨.inl ⟨.bool true,.bool true,[],rfl,fun _=>rfl,.bool true,zC l _,fun _=>⟨bj6,fun _ hm=>(nomatch hm)⟩⟩,h2,h3,h4⟩
end Att
namespace L2
open PySem PySem.Spec PyProof.Rows
theorem nH:∀ {vs:List Value}{ns:List Int},IntsAre vs ns->aJ (ns.map V.int) vs
 | _,_,.nil=>.nil
 | _,_,.cons n t h=>.cons ⟨t,rfl⟩ (nH h)
noncomputable def oU (H:Hp):Prop:=∀ b,H b=none ∨ ∃ o xs,H b=some (.frz o (.lst xs))
theorem ah9 {P:Program}{w:World}{K:PySem.W.Frag}{mg mb:Str->Option Value}{CX:gL}{k:Nat}{fa a:Addr}{fd:FuncData}{x:Str}{sp:Sp}{s₁:Shared}{vs:List Value}{ns:List Int}
  (KX:K.In s₁.heap) (hns:s₁.heap.Ns mainGlobals mg) (hb:s₁.heap.Ns builtinsNs mb) (hbb:∀ x:Str,x ≠ "__name__"->mb x=bootBuiltins x) (hlim:s₁.heap.NoLimit) (hg:s₁.gens = #[])
  (ha:s₁.heap.get? a=some { cls:=.type "list",data:=.seq vs.toArray }) (hi:IntsAre vs ns) (hl:ns.length<=sizeLine) (hr:cG k callerA)
  (F:∀ base:Heap,K.In base->base.Ns mainGlobals mg->cU P w K mg base CX k fa fd [x] sp) (hbind:∀ (s:Shared) (u:Value),BindsTo s fd ⟨[u],[]⟩ [(x,u)])
  (hsp:∀ H:Hp,oU H->aK K H a (ns.map V.int)->sp [.ref a] H (fun v _=>v = .bl true) fun _ _ _=>False)
  (hCX:∀ H e s',CX [] H s₁ (fun _ _ _=>False) e s'->False) :
  codeAny (model P w) callerA (.call (.ref fa) ⟨[.ref a],[]⟩) (fun r s'=>r = .ok (.ret (.bool true))/\OldK s₁.heap s'.heap/\s'.os=s₁.os/\AllBare s'.gens) s₁:=by
 have rv:=nH hi
 have lenV:=hi.length
 have core:∀ H:Hp,oU H->aK K H a (ns.map V.int)->bX P w H s₁.heap->(∀ b,H b ≠ none->b=a)->(H a ≠ none->K.lookup a=none)->
   codeAny (model P w) callerA (.call (.ref fa) ⟨[.ref a],[]⟩) (fun r s'=>r = .ok (.ret (.bool true))/\OldK s₁.heap s'.heap/\s'.os=s₁.os/\AllBare s'.gens) s₁:=by
  intro H hO hS hok hA hK
  have base_of:∀ {b:Addr}{o:Obj},s₁.heap.get? b=some o->H b=none->(iX s₁.heap H).get? b=some o:=fun e n=>Y5 e n
  have noA:∀ {b:Addr}{o:Obj}{es:Array DictEntry}{ep:Nat},s₁.heap.get? b=some o->o.data = .dict es ep->H b=none:=fun {b o es ep} e d=>by
   cases q:H b with
   | none=>rfl
   | some u=>
    have e':b=a:=hA b (by rw [q]; simp)
    subst e'
    rw [ha] at e; cases e
    have d':Data.seq vs.toArray _=Data.dict es ep:=d
    cases d'
  have nsK:∀ {b:Addr}{m:Str->Option Value},s₁.heap.Ns b m->(iX s₁.heap H).Ns b m:=fun {b m} ⟨o,es,ep,e,d,r⟩=>⟨o,es,ep,base_of e (noA e d),d,r⟩
  have hKb:K.In (iX s₁.heap H):=fun b o e=>base_of (KX b o e) (by
   cases q:H b with
   | none=>rfl
   | some u=>
    have e':b=a:=hA b (by rw [q]; simp)
    subst e'
    rw [hK (by rw [q]; simp)] at e; cases e)
  have hM:Mod K mg (iX s₁.heap H):=⟨hKb,nsK hns,⟨mb,nsK hb,hbb⟩,let ⟨mc,h1,h2⟩:=hlim; ⟨mc,nsK h1,h2⟩⟩
  have e0:oT P w K mg (iX s₁.heap H) callerA [] s₁ H:=⟨rfl,hM,fun b o e=>Y6 e,Nat.le_of_eq (Y4 _ _),trivial,fun b hb=>absurd (show b ∈ ([]:List Addr) from hb) (by simp),hok,.of_eq hg⟩
  refine codeAny_mono ((F _ hKb (nsK hns)).run callerA [] s₁ H ⟨[.ref a],[]⟩ [.ref a] [.ref a] _ _ hr e0 (hbind s₁ (.ref a)) (.cons rfl .nil) (hsp H hO hS)) fun r s' h=>?_
  cases r with
  | error e=>exact (hCX H e s' h).elim
  | ok fl=>
   cases fl with
   | next=>exact False.elim h
   | brk=>exact False.elim h
   | cont=>exact False.elim h
   | ret u=>
    obtain ⟨v,H',os,bare,un,hok',r',q⟩:=h
    have q':v = .bl true:=q
    subst q'
    obtain rfl:u=Value.bool true:=r'
    refine⟨rfl,OldK.of_keep fun b o e=>?_,os,bare⟩
    cases q:H b with
    | none=>exact un.keep b o e q (by intro z; exact absurd (show b ∈ ([]:List Addr) from z) (by simp)) (by simp)
    | some u=>
     rcases hO b with z | ⟨ob,xs,z⟩
     ·rw [q] at z; cases z
     ·have z2:=un.frzs b ob _ z
      obtain ⟨e1,_⟩:=hok b _ z
      obtain ⟨e2,_⟩:=hok' b _ z2
      rw [e] at e1; cases e1
      exact e2
 cases hk:K.lookup a with
 | some o=>
  have e:=KX a o hk
  rw [ha] at e
  cases e
  refine core (fun _=>none) (fun _=>.inl rfl) (.inr ⟨_,vs.toArray,_,hk,rfl,rfl,rfl,by rw [aT8,lenV]; exact hl,by simpa using rv⟩) (fun b u z=>by have z':(none:Option HO)=some u:=z; cases z') (fun b z=>absurd rfl z) fun z=>absurd rfl z
 | none=>
  refine core (fun b=>if b=a then some (.frz { cls:=.type "list",data:=.seq vs.toArray } (.lst (ns.map V.int))) else none) (fun b=>?_) (.inl (.inr ⟨{ cls:=.type "list",data:=.seq vs.toArray },if_pos rfl⟩)) (fun b u z=>?_) (fun b z=>?_) fun _=>hk
  ·by_cases hb:b=a
   ·exact .inr ⟨_,_,if_pos hb⟩
   ·exact .inl (if_neg hb)
  ·by_cases hb:b=a
   ·have z':=(if_pos hb).symm.trans z
    cases z'
    subst hb
    exact⟨ha,by rw [aU7]; exact hl,vs,_,rv,ha⟩
   ·have z':=(if_neg hb).symm.trans z
    cases z'
  ·by_cases hb:b=a
   ·exact hb
   ·exact absurd (if_neg hb) z
theorem ai0 {l:PySem.W.OpenLaw}{n k:Nat}{q:Program}{loose:List Str}{XP:(Str->Option Value)->Heap->Prop}{YP:World->Heap->Prop}{d:DefRec}{K:Params->PySem.W.Frag}{CX:World->gL}{sp:World->Sp}{x:Str}
  (hn:l.most=some n) (hn2:n<=sizeLine) (hdf:d.params.defaults = []) (hr:cG k callerA)
  (hY:∀ (w:World) (h:Heap),YP w h->(K w.params).In h)
  (F:∀ (w:World) (mg:Str->Option Value) (fa:Addr) (h:Heap),(K w.params).In h->h.Ns mainGlobals mg->mg d.name=some (.ref fa)->
   ∃ fd:FuncData,(∀ (s:Shared) (u:Value),BindsTo s fd ⟨[u],[]⟩ [(x,u)])/\
    ∀ base:Heap,(K w.params).In base->base.Ns mainGlobals mg->cU l.prog w (K w.params) mg base (CX w) k fa fd [x] (sp w))
  (hsp:∀ (w:World) (H:Hp) (a:Addr) (ns:List Int),ns.length<=n->oU H->aK (K w.params) H a (ns.map V.int)->sp w [.ref a] H (fun v _=>v = .bl true) fun _ _ _=>False)
  (hCX:∀ (w:World) (H:Hp) (s:Shared) (e:Value) (s':Shared),CX w [] H s (fun _ _ _=>False) e s'->False) :
  PySem.W.WalkO q loose XP YP l.row.toRowW d [] (fun f vs=>PySem.call f vs):=by
 refine Att.ah8 hn hdf fun w s₀ s₁ mg mb fa o pm cd doc a vs ns G Y ho hd hcd hmg hobj hints hlen hg=>?_
 have KX:=hY w _ Y
 obtain ⟨fd,hb,hF⟩:=F w mg fa _ KX G.T.g hmg
 exact ah9 KX G.T.g G.T.b G.T.builtins G.T.nolimit hg hobj hints (aX8 hlen hn2) hr hF hb (fun H hO hS=>hsp w H a ns hlen hO hS) fun H e s'=>hCX w H s₁ e s'
noncomputable def j4 (s:Stmt):Arguments:=match s with
 | .FunctionDef _ a _ _ _ _ _ _ _ _=>a
 | _=>{ posonlyargs:=[],args:=[],vararg:=none,kwonlyargs:=[],kw_defaults:=[],kwarg:=none,defaults:=[] }
noncomputable def eI (s:Stmt):List Stmt:=match s with
 | .FunctionDef _ _ b _ _ _ _ _ _ _=>b
 | _=>[]
noncomputable def aZ (s:Stmt):Scope:=match s with
 | .FunctionDef _ _ _ _ _ _ sc _ _ _=>sc
 | _=>{ kind:=.function,names:=[],isGenerator:=false,isCoroutine:=false }
noncomputable abbrev dW:gL:=fun _ _ _ _ _ _=>False
noncomputable abbrev E0:XK:=fun _ _ _=>False
theorem ai1 {X:Cx}:mU dW X E0:=fun _ _ _ _ _ _ _ h=>h.elim
structure eW (K:PySem.W.Frag) (x qual:Str) (st:Stmt) (f:Addr) (fd:FuncData):Prop where
 ex:∃ (oc:Value) (od:Option Addr) (kV doc pm:Value) (an:Option Addr) (cdv ct:Value) (osl:Array (Option Value)),
  fd=PySem.W.fnOf x qual (j4 st) (eI st) (aZ st) .none kV doc pm an cdv ct/\K.lookup f=some ⟨oc,od,.func fd,osl⟩/\PySem.W.codeIn K cdv qual=true
 kp:PySem.W.keepIn K (.ref f)=true
section
variable {P : Program} {w : World} {K : PySem.W.Frag} {mg : Str → Option Value} {base : Heap}
theorem eW.ok {x qual:Str}{st:Stmt}{f:Addr}{fd:FuncData}{N ps:List Str}{k:Nat}{sp:Sp} (F:eW K x qual st f fd) (S:FnScope N ps (aZ st)) (len:∀ vs H Q E,sp vs H Q E->vs.length=ps.length)
  (hbody:∀ (cdv:Value) (A:Around) (outer:List Env) (s:Shared) (H:Hp) (vs:List V) (Q:VK) (E:XK),cG k (A.deeper (envOfC qual (aZ st) s.heap.objs.size f cdv))->sp vs H Q E->
   ∃ t,dJ (dC dW P w K mg base N qual (aZ st) f cdv A outer s H E).nox (eI st) t/\t { nx:=fun _ H'=>Q .non H',rt:=Q } (gM N vs) H):cU P w K mg base dW (k+1) f fd ps sp:=by
 obtain ⟨oc,od,kV,doc,pm,an,cdv,ct,osl,rfl,lk,hcd⟩:=F.ex
 refine xV lk hcd S len fun A outer s H vs Q E hr hsp=>?_
 obtain ⟨t,h,q⟩:=hbody cdv A outer s H vs Q E hr hsp
 exact⟨t,h.nox,q⟩
theorem eW.binds {x qual:Str}{st:Stmt}{f:Addr}{fd:FuncData}{ps:List Str} (F:eW K x qual st f fd)
  (h:∀ (kV doc pm:Value) (an:Option Addr) (cdv ct:Value) (us:List Value),us.length=ps.length->bindArgs (PySem.W.fnOf x qual (j4 st) (eI st) (aZ st) .none kV doc pm an cdv ct) ⟨us,[]⟩=pure (ps.zip us)):iJ K fd ps []:=by
 obtain ⟨oc,od,kV,doc,pm,an,cdv,ct,osl,rfl,lk,hcd⟩:=F.ex
 exact .all (h kV doc pm an cdv ct)
theorem ai2 {x qual:Str}{st:Stmt}{f:Addr}{oc:Value}{od an:Option Addr}{osl:Array (Option Value)}{kV doc pm cdv ct:Value} (l:K.lookup f=some ⟨oc,od,.func (PySem.W.fnOf x qual (j4 st) (eI st) (aZ st) .none kV doc pm an cdv ct),osl⟩)
  (c:PySem.W.codeIn K cdv qual=true) (k:PySem.W.keepIn K (.ref f)=true):eW K x qual st f (PySem.W.fnOf x qual (j4 st) (eI st) (aZ st) .none kV doc pm an cdv ct):=⟨⟨oc,od,kV,doc,pm,an,cdv,ct,osl,rfl,l,c⟩,k⟩
end
theorem ai3 {A:Around}{k:Nat} (hr:cG k A):A.units+1 < cLine:=Nat.lt_of_le_of_lt (Nat.add_le_add_left (by decide:1<=64) _) hr.units
theorem nI {n:Nat} (h:n<=1000):n < sizeLine:=Nat.lt_of_le_of_lt h (by decide)
section
variable {X : Cx}
theorem pv (i:Nat) {x:Str}{pos:Pos} (hN:X.N[i]? = some x:=by rfl) (hv:fR X.env.scope x:=by first | exact Or.inl rfl | exact Or.inr (Or.inl rfl) | exact Or.inr (Or.inr rfl)) (hd:(x == ("__debug__" : Str))=false:=by decide)
  (hcd:(x == ("__classdict__" : Str))=false:=by decide):PE X (.Name x pos) (gX i):=iG hN hv hd hcd
theorem ai4:cO X (.builtin "len") (fun xs H Q=>∃ a kvs,xs = [V.ref a]/\H a=some (.dK kvs)/\Q (.int kvs.length) H):=by
 intro pins s σ H xs us Q I r h
 obtain ⟨a,kvs,rfl,ha,q⟩:=h
 obtain ⟨u,rfl,ru⟩:=fU r
 cases ru
 exact ah3 I (.inl ha) fun t s' I'=>⟨.int kvs.length,H,I',⟨t,rfl⟩,q⟩
end
theorem aN {A B:Prop} (h:B):if false=true then A else B:=by
 rw [if_neg aV6]
 exact h
theorem aO {A B:Prop} (h:A):if true=true then A else B:=by
 rw [if_pos rfl]
 exact h
noncomputable def aE (H H':Hp):Prop:=∀ b o,H b=some o->H' b=some o
theorem aE.refl (H:Hp):aE H H:=fun _ _ h=>h
theorem aE.trans {H H1 H2:Hp} (a:aE H H1) (b:aE H1 H2):aE H H2:=fun c o h=>b c o (a c o h)
theorem aE.free {H H':Hp} (e:aE H H') {l:Addr} (h:H' l=Option.none):H l=Option.none:=by
 cases q:H l with
 | none=>rfl
 | some o=>
  rw [e l o q] at h
  cases h
theorem aE.seq {K:PySem.W.Frag}{H H':Hp}{a:Addr}{xs:List V} (e:aE H H') (h:aK K H a xs):aK K H' a xs:=by
 rcases h with (h | ⟨o,h⟩) | h
 ·exact .inl (.inl (e _ _ h))
 ·exact .inl (.inr ⟨o,e _ _ h⟩)
 ·exact .inr h
noncomputable def eD (cells:List (Str × Addr)):List (Str × NameKind)->List (Str × Addr)->List (Str × Addr)
 | [],cs=>cs
 | (n,k) :: r,cs=>eD cells r (if k == .free then (n,(cells.lookup n).getD 0) :: cs else cs)
theorem sZ {env:Env}:∀ (ns:List (Str × NameKind)) (cs:List (Str × Addr)),(∀ x ∈ ns,x.2 = .free->∃ c,env.cells.lookup x.1=some c)->
  (forIn ns cs (fun (x:Str × NameKind) r=>(match x with
   | (name,kind)=>if (kind == .free)=true then (do let y <- cellOf env name; pure (ForInStep.yield ((name,y) :: r))) else pure (ForInStep.yield r)):_->_->Sem _))=(pure (eD env.cells ns cs):Sem (List (Str × Addr)))
 | [],cs,_=>by rw [List.forIn_nil]; rfl
 | (n,k) :: r,cs,h=>by
  rw [List.forIn_cons]
  have hr:∀ x ∈ r,x.2 = .free->∃ c,env.cells.lookup x.1=some c:=fun x hx=>h x (aV3 _ hx)
  cases hk:(k == NameKind.free) with
  | true=>
   have e:k = .free:=by simpa using hk
   obtain ⟨c,hc⟩:=h (n,k) aV2 e
   simp only [hk,if_true]
   have e1:cellOf env n=pure c:=by unfold cellOf; rw [hc]
   rw [e1]
   show ((pure c >>= fun y=>pure (ForInStep.yield ((n,y) :: cs))) >>= _:Sem _)=_
   rw [pure_bind,pure_bind]
   have:=sZ (env:=env) r ((n,c) :: cs) hr
   refine this.trans ?_
   unfold eD
   simp only [hk,if_true,hc,Option.getD_some]
   cases r <;> rfl
  | false=>
   simp only [hk,aW1,bb6]
   rw [pure_bind]
   have:=sZ (env:=env) r cs hr
   refine this.trans ?_
   conv=>rhs; unfold eD
   simp only [hk,aW1,bb6]
theorem oV {scope:Scope}{env:Env} (h:∀ x ∈ scope.names,x.2 = .free->∃ c,env.cells.lookup x.1=some c):closureFor scope env=pure (eD env.cells scope.names []):=by
 have e:=sZ (env:=env) scope.names [] h
 unfold closureFor
 rw [show (pure (eD env.cells scope.names []):Sem (List (Str × Addr)))=(pure (eD env.cells scope.names []) >>= pure) by rw [pure_bind]]
 rw [<- e]
theorem oW {cells:List (Str × Addr)}:∀ (ns:List (Str × NameKind)) (cs:List (Str × Addr)) {x:Str}{c:Addr},(∀ y ∈ ns,y.2 = .free->∃ c,cells.lookup y.1=some c)->
  (∀ x c,cs.lookup x=some c->cells.lookup x=some c)->(eD cells ns cs).lookup x=some c->cells.lookup x=some c
 | [],cs,x,c,_,hc,h=>hc x c h
 | (n,k) :: r,cs,x,c,hn,hc,h=>by
  unfold eD at h
  have hr:∀ y ∈ r,y.2 = .free->∃ c,cells.lookup y.1=some c:=fun y hy=>hn y (aV3 _ hy)
  cases hk:(k == NameKind.free) with
  | false=>
   simp only [hk,aW1,bb6] at h
   exact oW r cs hr hc h
  | true=>
   simp only [hk,if_true] at h
   refine oW r _ hr (fun y d e=>?_) h
   obtain ⟨c0,h0⟩:=hn (n,k) aV2 (by simpa using hk)
   have h0:cells.lookup n=some c0:=h0
   rw [h0] at e
   rw [ba9] at e
   by_cases hyn:y=n
   ·subst hyn
    simp only [bb9,Option.getD_some] at e
    rw [h0]; exact e
   ·have:(y == n)=false:=bh7.mpr hyn
    simp only [this] at e
    exact hc y d e
theorem t0 {cells:List (Str × Addr)}:∀ (ns:List (Str × NameKind)) (cs:List (Str × Addr)) {x:Str},((x,NameKind.free) ∈ ns ∨ ∃ c,cs.lookup x=some c)->∃ c,(eD cells ns cs).lookup x=some c
 | [],cs,x,h=>by
  rcases h with h | h
  ·simp at h
  ·exact h
 | (n,k) :: r,cs,x,h=>by
  unfold eD
  refine t0 r _ ?_
  rcases h with h | ⟨c,h⟩
  ·rcases aU2.mp h with e | e
   ·cases e
    exact .inr ⟨_,by simp [ba9]; rfl⟩
   ·exact .inl e
  ·right
   cases hk:(k == NameKind.free) with
   | false=>exact⟨c,by simpa [hk] using h⟩
   | true=>
    simp only [if_true]
    rw [ba9]
    by_cases hxn:(x == n)=true
    ·simp only [hxn]; exact⟨_,rfl⟩
    ·simp only [bc0.mpr hxn]; exact⟨c,h⟩
theorem oX {env:Env}:∀ {names:List (Str × NameKind)}{x:Str}{k:NameKind},(names.map fun (n,k)=>if (k == NameKind.free && env.scope.kind == .function && env.kindOf n == some .cell) then (n,NameKind.cell) else (n,k)).lookup x=some k->
  names.lookup x=some k ∨ (names.lookup x=some .free/\k = .cell)
 | [],_,_,h=>by simp at h
 | (n,q) :: r,x,k,h=>by
  have ih:=@oX env r x k
  rw [ba1] at h
  by_cases hx:(x == n)=true
  ·have e:x=n:=by simpa using hx
   subst e
   by_cases hc:(q == NameKind.free && env.scope.kind == .function && env.kindOf x == some .cell)=true
   ·simp only [hc,if_true,ba9,bb9] at h
    have hq:q = .free:=by simp at hc; exact hc.1.1
    exact .inr ⟨by simp [ba9,hq],(aW4 h).symm⟩
   ·simp only [hc,aW1,bb6,ba9,bb9] at h
    exact .inl (by simp [ba9]; exact aW4 h)
  ·have hx':(x == n)=false:=bc0.mpr hx
   have h':(r.map fun (n,k)=>if (k == NameKind.free && env.scope.kind == .function && env.kindOf n == some .cell) then (n,NameKind.cell) else (n,k)).lookup x=some k:=by
    by_cases hc:(q == NameKind.free && env.scope.kind == .function && env.kindOf n == some .cell)=true
    ·simp only [hc,if_true,ba9,hx'] at h; exact h
    ·simp only [hc,aW1,bb6,ba9,hx'] at h; exact h
   simp only [ba9,hx']
   exact ih h'
noncomputable def fJ (fr:List (Option Nat)) (σ:St):St:=fr.map fun o=>o.bind fun j=>(σ[j]?).join
noncomputable def Wk (σ₁ σ₂:St):Prop:=σ₁.length=σ₂.length/\∀ (i:Nat) v,σ₁[i]? = some (some v)->σ₂[i]? = some (some v)
theorem Wk.refl (σ:St):Wk σ σ:=⟨rfl,fun _ _ h=>h⟩
theorem Wk.set {σ τ:St}{i:Nat}{v:V} (h:Wk σ τ) (hi:σ[i]? = some none):Wk σ (τ.set i (some v)):=by
 refine⟨by rw [aZ1]; exact h.1,fun j w e=>?_⟩
 by_cases hj:j=i
 ·subst hj; rw [hi] at e; cases e
 ·rw [aW3 (Ne.symm hj)]; exact h.2 j w e
theorem j5:∀ (ns:List (Str × NameKind)) (n:Nat) (cs:List (Str × Addr)),cellsFrom n ns cs=cellsFrom n ns [] ++ cs
 | [],_,_=>rfl
 | (x,k) :: r,n,cs=>by
  unfold cellsFrom
  split
  ·rw [j5 r (n+1) ((x,n) :: cs),j5 r (n+1) [(x,n)]]; simp
  ·exact j5 r n cs
theorem t4:∀ (ns:List (Str × NameKind)) (n:Nat) {x:Str}{c:Addr},(x,c) ∈ cellsFrom n ns []->(x,NameKind.cell) ∈ ns
 | [],_,_,_,h=>by simp [cellsFrom] at h
 | (y,k) :: r,n,x,c,h=>by
  unfold cellsFrom at h
  split at h
  ·rename_i hk
   rw [j5] at h
   rcases aW8.mp h with z | z
   ·exact aV3 _ (t4 r _ z)
   ·rw [aU3] at z
    cases z
    have:k = .cell:=by simpa using hk
    rw [this]; exact aV2
  ·exact aV3 _ (t4 r _ h)
theorem oY:∀ (ns:List (Str × NameKind)) (n:Nat) {x:Str},(x,NameKind.cell) ∈ ns->∃ c,(x,c) ∈ cellsFrom n ns []
 | (y,k) :: r,n,x,h=>by
  unfold cellsFrom
  rcases aU2.mp h with z | z
  ·cases z
   rw [if_pos (by rfl),j5]
   exact⟨n,aY1 _ (by simp)⟩
  ·split
   ·obtain ⟨c,hc⟩:=oY r (n+1) z
    rw [j5]
    exact⟨c,bg8 _ hc⟩
   ·exact oY r n z
theorem t5 {α:Type}:∀ {l:List (Str × α)}{x:Str}{c:α},(x,c) ∈ l->∃ d,l.lookup x=some d
 | (y,v) :: r,x,c,h=>by
  rw [ba9]
  cases hb:x == y with
  | true=>exact⟨v,rfl⟩
  | false=>
   rcases aU2.mp h with z | z
   ·cases z; simp at hb
   ·exact t5 z
theorem oZ {α:Type}{x:Str}:∀ (l r:List (Str × α)),(l ++ r).lookup x=(match l.lookup x with | some v=>some v | none=>r.lookup x)
 | [],_=>rfl
 | (y,v) :: l,r=>by
  rw [List.cons_append,ba9,ba9]
  cases hb:x == y with
  | true=>rfl
  | false=>exact oZ l r
noncomputable def gN (X:Cx) (scope:Scope) (C:Addr):List (Str × Addr):=cellsFrom (C+1) scope.names (eD X.env.cells scope.names [])
theorem kG {X:Cx}{scope:Scope}{C:Addr}{x:Str}{c:Addr} (h:(gN X scope C).lookup x=some c) :
  (x,c) ∈ cellsFrom (C+1) scope.names [] ∨ ((∀ d,(x,d) ∉ cellsFrom (C+1) scope.names [])/\(eD X.env.cells scope.names []).lookup x=some c):=by
 unfold gN at h
 rw [j5,oZ] at h
 cases e:(cellsFrom (C+1) scope.names []).lookup x with
 | some v=>rw [e] at h; cases h; exact .inl (aZ7 e)
 | none=>
  rw [e] at h
  refine .inr ⟨fun d hd=>?_,h⟩
  obtain ⟨d',z⟩:=t5 hd
  rw [e] at z; cases z
theorem ai5 {X:Cx}{scope:Scope}{C:Addr}{x:Str}{c:Addr} (hn:(x,NameKind.cell) ∉ scope.names) (h:(eD X.env.cells scope.names []).lookup x=some c):(gN X scope C).lookup x=some c:=by
 unfold gN
 rw [j5,oZ]
 cases e:(cellsFrom (C+1) scope.names []).lookup x with
 | some v=>exact absurd (t4 _ _ (aZ7 e)) hn
 | none=>exact h
theorem zD {X:Cx}{scope:Scope}{C:Addr}{x:Str} (h:(x,NameKind.cell) ∈ scope.names ∨ ∃ c,(eD X.env.cells scope.names []).lookup x=some c):∃ c,(gN X scope C).lookup x=some c:=by
 unfold gN
 rw [j5,oZ]
 cases e:(cellsFrom (C+1) scope.names []).lookup x with
 | some v=>exact⟨v,rfl⟩
 | none=>
  rcases h with h | h
  ·obtain ⟨c,hc⟩:=oY scope.names (C+1) h
   obtain ⟨d,hd⟩:=t5 hc
   rw [e] at hd; cases hd
  ·exact h
noncomputable def bY (X:Cx) (scope:Scope) (N:List Str) (s:Shared) (H:Hp) (C:Addr) (fp:List Addr) (E:Value->Shared->Prop):Cx:=
 { X with N:=N,s₀:=s,H₀:=H,env:=compEnvC scope (gN X scope C) C X.env,outer:=X.stack,ex:=fp,fn:=fun x=>scope.names.lookup x == some .cell,pn:=[],xe:=E }
structure dD (X:Cx) (scope:Scope) (N:List Str) (fr:List (Option Nat)):Prop where
 kind:scope.kind = .function
 own:∀ y ∈ scope.names,y.2 = .cell->scope.names.lookup y.1=some .cell
 names:∀ y ∈ scope.names,y.2 = .local->scope.names.lookup y.1=some .local
 free:∀ y ∈ scope.names,y.2 = .free->X.env.scope.names.lookup y.1=some .cell ∨ X.env.scope.names.lookup y.1=some .free
 len:fr.length=N.length
 from_:∀ (i j:Nat),fr[i]? = some (some j)->∃ x,N[i]? = some x/\X.N[j]? = some x/\scope.names.lookup x=some .free
section
variable {X : Cx} {pins : List (Addr × Obj)} {σ : St} {H : Hp} {s : Shared} {scope : Scope} {N : List Str} {fr : List (Option Nat)}
theorem dD.cells (S:dD X scope N fr) (I:a7 X pins σ H s):∀ y ∈ scope.names,y.2 = .free->∃ c,X.env.cells.lookup y.1=some c:=fun y hy hk=>I.ok.has y.1 (S.free y hy hk)
theorem ai6 {C D:Addr}{fp:List Addr}{E:Value->Shared->Prop}{h1:Heap}{tk:Nat}{m:Str->Option Value} (S:dD X scope N fr) (I:a7 X pins σ H s)
  (hf:∀ b ∈ fp,gK X pins H b) (hfl:∀ b ∈ fp,b < s.heap.objs.size) (hD:s.heap.objs.size<=D) (hC:s.heap.objs.size<=C) (hDC:D < C)
  (old:∀ b o,s.heap.get? b=some o->h1.get? b=some o) (hns:h1.Ns C m) (hacc:h1.get? D=some { cls:=.type "list",data:=.seq #[] 0 }) (hco:CellsOk h1 (C+1) (cellsFrom (C+1) scope.names [])) :
  a7 (bY X scope N s H C fp E) [] (fJ fr σ) (upd H D (.lst [])) { s with heap:=h1,toks:=tk }:=by
 have hHD:H D=none:=I.hok.fresh hD
 have cl:=S.cells I
 have cs:∀ {x:Str}{c:Addr},(eD X.env.cells scope.names []).lookup x=some c->X.env.cells.lookup x=some c:=fun {x c} h=>oW scope.names [] cl (fun _ _ z=>by simp at z) h
 have clt:∀ {x:Str}{c:Addr},X.env.cells.lookup x=some c->c < s.heap.objs.size:=fun {x c} h=>by obtain ⟨v,z⟩:=I.cell x c h; exact z.lt
 have nge:∀ {x:Str}{c:Addr},(x,c) ∈ cellsFrom (C+1) scope.names []->C < c:=fun {x c} h=>(hco.empty x c h).2
 refine⟨⟨I.ok.mod,?_,I.ok.glob,I.ok.blt,hC,?_,?_,?_,I.ok.hd,I.ok.frames,.inl rfl,?_,I.bs,aX8 I.ok.bsz I.sz,?_,?_,I.stack,I.stkFree⟩,rfl,I.bare,Un.laid old hD hHD,⟨m,hns,?_⟩,?_,?_,?_,fun p hp=>absurd (show p ∈ ([]:List (Addr × Obj)) from hp) (by simp),?_,?_⟩
 ·exact S.kind
 ·intro x y c h1 h2
  rcases kG h1 with a | ⟨_,a⟩ <;> rcases kG h2 with b | ⟨_,b⟩
  ·exact name_of_addr hco.apart a b
  ·exact absurd (aU9 (Nat.lt_trans (nge a) (clt (cs b))) hC) (aZ4 _)
  ·exact absurd (aU9 (Nat.lt_trans (nge b) (clt (cs a))) hC) (aZ4 _)
  ·exact I.ok.inj x y c (cs a) (cs b)
 ·intro x hx
  have hx:(relabel scope X.env).names.lookup x=some .cell ∨ (relabel scope X.env).names.lookup x=some .free:=hx
  have fin:(x,NameKind.free) ∈ scope.names->∃ c,(gN X scope C).lookup x=some c:=fun z=>zD (.inr (t0 scope.names [] (.inl z)))
  rcases hx with hx | hx
  ·rcases oX hx with z | z
   ·exact zD (.inl (aZ7 z))
   ·exact fin (aZ7 z.1)
  ·rcases oX hx with z | z
   ·exact fin (aZ7 z)
   ·exact absurd z.2 (by decide)
 ·intro x c hx h
  have hx:(scope.names.lookup x == some NameKind.cell)=true:=hx
  have hx:scope.names.lookup x=some .cell:=by simpa using hx
  rcases kG h with a | ⟨a,_⟩
  ·exact aX8 hC (ba3 (nge a))
  ·obtain ⟨d,hd⟩:=oY scope.names (C+1) (aZ7 hx)
   exact absurd hd (a d)
 ·intro b hb
  refine⟨aW6 (aU9 (hfl b hb) hC),fun x c e=>?_⟩
  rcases kG e with a | ⟨_,a⟩
  ·exact bb2 (Nat.lt_trans (aU9 (hfl b hb) hC) (nge a))
  ·exact (hf b hb).2.2.2.2.1 x c (cs a)
 ·intro b o e hb
  rcases (hf b hb).2.2.2.1 with z | z
  ·exact I.ok.noex b o e z
  ·exact absurd (aU9 (aU8 e) (aX8 I.ok.bsz z)) (aZ4 _)
 ·intro b hb z
  rcases aU2.mp (I.stkSub b z) with e | e
  ·exact (hf b hb).2.1 e
  ·exact (hf b hb).2.2.1 e
 ·intro i x v e1 e2 e3
  have e2:(fr.map fun o=>o.bind fun j=>(σ[j]?).join)[i]? = some (some v):=e2
  rw [aV5] at e2
  cases ef:fr[i]? with
  | none=>rw [ef] at e2; cases e2
  | some o=>
   rw [ef] at e2
   cases o with
   | none=>cases e2
   | some j=>
    have e2:some ((σ[j]?).join)=some (some v):=e2
    have ej:σ[j]? = some (some v):=by
     cases q:σ[j]? with
     | none=>rw [q] at e2; cases e2
     | some w=>rw [q] at e2; cases w with
      | none=>cases e2
      | some w=>cases e2; rfl
    obtain ⟨y,a1,a2,a4⟩:=S.from_ i j ef
    have e1:N[i]? = some x:=e1
    rw [e1] at a1
    cases a1
    have a3:(x,NameKind.free) ∈ scope.names:=aZ7 a4
    have vis:fR X.env.scope x:=(S.free _ a3 rfl).elim (fun z=>.inr (.inl z)) fun z=>.inr (.inr z)
    obtain ⟨m0,hn0,hl0⟩:=I.loc
    obtain ⟨u,r,l⟩:=hl0 j x v a2 ej vis
    refine⟨u,r,.inr ⟨?_,?_⟩⟩
    ·have e3:(relabel scope X.env).names.lookup x=some .local ∨ (relabel scope X.env).names.lookup x=some .cell ∨ (relabel scope X.env).names.lookup x=some .free:=e3
     rcases e3 with z | z | z
     ·rcases oX z with y | y
      ·rw [a4] at y; cases y
      ·exact absurd y.2 (by decide)
     ·exact .inl z
     ·exact .inr z
    ·obtain ⟨c,hc⟩:=t0 (cells:=X.env.cells) scope.names [] (x:=x) (.inl a3)
     refine⟨c,ai5 (fun z=>by have:=S.own _ z rfl; rw [a4] at this; cases this) hc,?_⟩
     have hc':=cs hc
     have S1:=S.free (x,.free) a3 rfl
     rcases l with ⟨k,_⟩ | ⟨_,c2,hc2,z⟩
     ·have k:X.env.scope.names.lookup x=some .local:=k
      rcases S1 with q | q <;> (have q:X.env.scope.names.lookup x=_:=q; rw [k] at q; cases q)
     ·rw [hc'] at hc2; cases hc2
      obtain ⟨oc,ho,hd⟩:=z
      exact⟨oc,old c oc ho,hd⟩
 ·intro x c e
  rcases kG e with a | ⟨_,a⟩
  ·exact⟨_,(hco.empty x c a).1⟩
  ·obtain ⟨v,oc,ho,hd⟩:=I.cell x c (cs a)
   exact⟨v,oc,old c oc ho,hd⟩
 ·show upd H D (.lst []) C=none
  rw [aQ (bb2 hDC)]; exact I.hok.fresh hC
 ·intro x c e
  show upd H D (.lst []) c=none
  rcases kG e with a | ⟨_,a⟩
  ·rw [aQ (bb2 (Nat.lt_trans hDC (nge a)))]; exact I.hok.fresh (aX8 hC (ba3 (nge a)))
  ·have q:=cs a
   rw [aQ (aW6 (aU9 (clt q) hD))]
   exact I.freeC x c q
 ·exact I.hok.laid old hD ⟨aX0 _,[],0,.nil,hacc⟩
 ·show (fJ fr σ).length=N.length
  unfold fJ; rw [aU7]; exact S.len
end
noncomputable def jR (X:Cx) (ifs:List Expr) (t:TT):Prop:=
 ∀ (pins:List (Addr × Obj)) (s:Shared) (σ:St) (H:Hp) (Q:Bool->Hp->Prop),a7 X pins σ H s->t σ H Q->
  wpAny (model X.prog X.w) X.A (forIn ifs true fun c r=>if r=true then do let ok <- isTrue c X.env (eval c X.env); pure (ForInStep.yield ok) else pure (ForInStep.yield r)) (TP X pins σ Q) X.xe s
noncomputable def t6:TT:=fun _ H Q=>Q true H
theorem p5 {X:Cx}:jR X [] t6:=fun _ _ _ H _ I h=>wpAny_tests_nil ⟨H,I,h⟩
theorem t7 {X:Cx}{c:Expr}{t:TT} (h:PT X c t):jR X [c] t:=fun pins s σ H Q I hq=>wpAny_tests_one (h pins s σ H Q I hq)
section
variable {prog : Program} {w : World} {A : Around}
noncomputable def t8 (prog:Program) (w:World) (A:Around) (elt tg:Expr) (ifs:List Expr) (it acc:Value) (env:Env) (lost:Value->Shared->Prop) (stop next:Shared->Prop) (s:Shared):Prop:=
 let M:=model prog w
 let tests:Sem Bool:=forIn ifs true fun c r=>if r=true then do let ok <- isTrue c env (eval c env); pure (ForInStep.yield ok) else pure (ForInStep.yield r)
 let put:Shared->Prop:=wpAny M A (eval elt env) (fun x=>wpAny M A (call (.builtin "list.append") [acc,x]) (fun _=>next) lost) lost
 let taken:Value->Shared->Prop:=fun v=>wpAny M A (letOwnedTupleGo tg it v) (fun _=>wpAny M A (assign tg env v) (fun _=>wpAny M A tests (fun ok s'=>if ok=true then put s' else next s') lost) lost) lost
 wpAny M A (pyNext it) (fun r s'=>match r with
  | none=>stop s'
  | some v=>taken v s') lost s
theorem ai7 {R:Result->Shared->Prop}{s:Shared}{elt tg iter:Expr}{ifs:List Expr}{scope:Scope}{pos:Pos}{it acc:Value}{env:Env} (I:Nat->Shared->Prop)
  (turn:∀ n s,I n s->t8 prog w A elt tg ifs it acc env (notedBy (model prog w) A env fun e=>R (.error e)) (R (.ok .next)) (fun s'=>∃ m,m < n/\I m s') s) (n:Nat) (h:I n s) :
  codeAny (model prog w) A (.compLoop (.ListComp elt [⟨tg,iter,ifs,0⟩] scope pos) 0 it acc env) R s:=by
 apply codeAny_loop rfl I _ n h
 intro k s1 h1
 change wpAny _ A ((compTurn _ 0 it acc env).onRaise (fun x=>do noteFrame x env; theTreesLotGoes x)) _ _ s1
 apply wpAny_noted
 rw [compTurn_list]
 have t:=turn k s1 h1
 unfold t8 at t
 apply aT3
 apply wpAny_standAt
 apply aT3
 refine bc4 t (fun r s2 h2=>?_) fun _ _ z=>z
 cases r with
 | none=>exact aT6 h2
 | some v=>
  apply aT3
  refine bc4 h2 (fun _ s3 h3=>?_) fun _ _ z=>z
  apply aT3
  refine bc4 h3 (fun _ s4 h4=>?_) fun _ _ z=>z
  apply aT3
  refine bc4 h4 (fun ok s5 h5=>?_) fun _ _ z=>z
  cases ok with
  | false=>exact aT6 ⟨rfl,h5⟩
  | true=>
   apply aT3
   apply aT3
   refine bc4 h5 (fun x s6 h6=>?_) fun _ _ z=>z
   apply aT3
   exact bc4 h6 (fun _ s7 h7=>aT6 (aT6 ⟨rfl,h7⟩)) fun _ _ z=>z
end
noncomputable def nJ (g:TG) (tc:TT) (te:TE) (σ0:St) (J:It) (D:Addr) (Q:VK) (W:Nat->Nat->List V->Hp->Prop):Prop:=
 ∀ i m acc H',W i m acc H'->H' D=some (.lst acc)/\((J.stop i H'/\Q (.ref D) H') ∨ (J.go i H'/\∀ x H2,J.yld i H' x H2->g x σ0 H2 fun σ2 H3=>Wk σ0 σ2/\tc σ2 H3 fun b H4=>
  if b=true then te σ2 H4 fun v H5=>H5 D=some (.lst acc)/\acc.length < sizeLine/\∃ m',m' < m/\W (i+1) m' (acc ++ [v]) (upd H5 D (.lst (acc ++ [v]))) else ∃ m',m' < m/\W (i+1) m' acc H4))
noncomputable def zE (wi:TI) (fr:List (Option Nat)) (g:TG) (tc:TT) (te:TE):TE:=fun σ H Q=>wi σ H fun J H1=>∀ D,H1 D=none->
 ∃ W:Nat->Nat->List V->Hp->Prop,(∃ m,W 0 m [] (upd H1 D (.lst [])))/\nJ g tc te (fJ fr σ) J D Q W
section
variable {M : Model} {A : Around} {E : Value → Shared → Prop} {s : Shared}
theorem ai8 {scope:Scope}{globals:Addr}{cl:List (Str × Addr)}{qual:Str}{func:Option Addr}{code:Value}{builtins:Addr}{outer:Env}{Q:Env->Shared->Prop}
  (hQ:∀ h',h'.Ns s.heap.objs.size (fun _=>none)->(∀ b o,s.heap.get? b=some o->h'.get? b=some o)->CellsOk h' (s.heap.objs.size+1) (cellsFrom (s.heap.objs.size+1) scope.names [])->
   Q (newEnv scope s.heap.objs.size globals (cellsFrom (s.heap.objs.size+1) scope.names cl) qual func code (some outer) builtins) { s with heap:=h' }) :
  wpAny M A (newFunctionEnv scope globals cl [] qual func code (some outer) builtins) Q E s:=by
 simp only [newFunctionEnv,Option.isSome_some,if_true]
 refine aT3 (wpAny_alloc ?_)
 refine aT3 (wpAny_layCells _ (fun name kind cells=>by cases hkc:kind == NameKind.cell <;> simp [hkc]) _ _ _ _ ?_)
 have ok:=cellsFrom_ok scope.names (s.heap.push { cls:=.type "dict",data:=.dict #[] }) (s.heap.objs.size+1) [] ⟨fun _ _ hm=>(nomatch hm),bj6⟩ (by rw [bd6]; exact aT9 _)
 rw [bd6] at ok
 rw [show ({ s with heap:=s.heap.push { cls:=.type "dict",data:=.dict #[] } }:Shared).heap.objs.size=s.heap.objs.size+1 from bd6 ..]
 rw [List.forIn_nil]
 refine aT3 (aT6 (aT6 (hQ _ ((Heap.Ns.new s.heap (.type "dict")).keeps (pushCells_keeps _ _)) (fun b o e=>pushCells_keeps _ _ b o (aT5 _ e)) ok)))
end
section
variable {X : Cx} {pins : List (Addr × Obj)} {σ : St} {H : Hp} {s : Shared} {scope : Scope} {N : List Str} {fr : List (Option Nat)} {tg iter elt : Expr} {ifs : List Expr} {pos : Pos} {wi : TI} {g : TG} {tc : TT} {te : TE}
structure lM (X:Cx) (scope:Scope) (N:List Str) (tg:Expr) (ifs:List Expr) (elt:Expr) (s:Shared) (H:Hp) (g:TG) (tc:TT) (te:TE):Prop where
 tg:∀ (C:Addr) (fp:List Addr),PG (bY X scope N s H C fp fun _ _=>False) tg g
 ifs:∀ (C:Addr) (fp:List Addr),jR (bY X scope N s H C fp fun _ _=>False) ifs tc
 elt:∀ (C:Addr) (fp:List Addr),PE (bY X scope N s H C fp fun _ _=>False) elt te
structure p6 (X:Cx) (scope:Scope) (N:List Str) (tg:Expr) (ifs:List Expr) (elt:Expr) (g:TG) (tc:TT) (te:TE):Prop where
 tg:∀ (s:Shared) (H:Hp) (C:Addr) (fp:List Addr),PG (bY X scope N s H C fp fun _ _=>False) tg g
 ifs:∀ (s:Shared) (H:Hp) (C:Addr) (fp:List Addr),jR (bY X scope N s H C fp fun _ _=>False) ifs tc
 elt:∀ (s:Shared) (H:Hp) (C:Addr) (fp:List Addr),PE (bY X scope N s H C fp fun _ _=>False) elt te
theorem p6.at (B:p6 X scope N tg ifs elt g tc te) (s:Shared) (H:Hp):lM X scope N tg ifs elt s H g tc te:=⟨B.tg s H,B.ifs s H,B.elt s H⟩
theorem ai9 {C:Addr}{fp:List Addr}{E:Value->Shared->Prop}{pins':List (Addr × Obj)}{σ':St}{H':Hp}{s':Shared} (I:a7 X pins σ H s) (hf:∀ b ∈ fp,gK X pins H b) (I':a7 (bY X scope N s H C fp E) pins' σ' H' s'):a7 X pins σ H' s':=
 I.call' (ch:=fp) I'.os I'.base I'.hok I'.bare fun b hb=>⟨(hf b hb).2.2.2.1,(hf b hb).2.1,(hf b hb).2.2.2.2.1,(hf b hb).2.2.2.2.2⟩
theorem p9 {Rr:Value->Addr->Result->Shared->Prop}{J:It}{fp:List Addr}{it:Addr}{tn:Nat->Heap->Prop}{Q:VK}
  (hc:X.calm=true) (S:dD X scope N fr) (B:lM X scope N tg ifs elt s H g tc te) (I:a7 X pins σ H s) (T:iH X.prog X.w X.K tg J fp it tn) (hst:tn 0 s.heap) (hf:∀ b ∈ fp,gK X pins H b)
  (h:∀ D,H D=none->∃ W:Nat->Nat->List V->Hp->Prop,(∃ m,W 0 m [] (upd H D (.lst [])))/\nJ g tc te (fJ fr σ) J D Q W)
  (hend:∀ (D C:Addr) (s':Shared) (H':Hp) (m:Str->Option Value),s.heap.objs.size<=C->s.heap.objs.size<=D->a7 X pins σ H' s'->s'.heap.Ns C m->H' C=none->Q (.ref D) H'->Rr (.ref D) C (.ok .next) s') :
  wpAny (model X.prog X.w) X.A (newList []) (fun acc s₃=>wpAny (model X.prog X.w) X.A (newFunctionEnv scope X.env.globals (eD X.env.cells scope.names []) [] X.env.qual none .none (some X.env)) (fun cenv s₄=>
   codeAny (model X.prog X.w) X.A (.compStart (.ListComp elt [⟨tg,iter,ifs,0⟩] scope pos) 0 (.ref it) acc { cenv with scope:=relabel scope X.env }) (Rr acc cenv.locals) s₄) X.xe s₃) X.xe s:=by
 refine aW2 (ai8 (fun h₁ hns₁ keep₁ hco₁=>?_))
 dsimp only at hns₁ keep₁ hco₁ ⊢
 generalize hH2:s.heap.push { cls:=.type "list",dict:=none,data:=.seq ([]:List Value).toArray }=H2 at hns₁ keep₁ hco₁ ⊢
 have hC:H2.objs.size=s.heap.objs.size+1:=by rw [<- hH2,bd6]
 have hDC:s.heap.objs.size < H2.objs.size:=by rw [hC]; exact Nat.lt_succ_self _
 have hCle:s.heap.objs.size<=H2.objs.size:=by rw [hC]; exact bk8 _
 have old:∀ b o,s.heap.get? b=some o->h₁.get? b=some o:=fun b o e=>keep₁ b o (hH2 ▸ aT5 _ e)
 have hacc:h₁.get? s.heap.objs.size=some { cls:=.type "list",data:=.seq #[] 0 }:=keep₁ _ _ (hH2 ▸ aU0 _ rfl)
 have hfl:∀ b ∈ fp,b < s.heap.objs.size:=fun b hb=>by obtain ⟨o,e,_⟩:=T.obj _ _ hst b hb; exact aU8 e
 obtain ⟨W,⟨m0,w0⟩,turn⟩:=h s.heap.objs.size (I.hok.fresh (aT9 _))
 have st1:tn 0 h₁:=T.keep _ _ _ hst fun b _ o e=>old b o e
 have fr0:∀ b ∈ fp,upd H s.heap.objs.size (.lst []) b=none:=fun b hb=>by rw [aQ (aW6 (hfl b hb))]; exact (hf b hb).1
 have stat:∀ {H':Hp},(∀ b ∈ fp,H' b=none)->∀ b ∈ fp,gK (bY X scope N s H H2.objs.size fp fun _ _=>False) [] H' b:=fun {H'} hn b hb=>by
  have f:=hf b hb
  refine⟨hn b hb,aW6 (aU9 (hfl b hb) hCle),fun z=>?_,.inl hb,fun x c e=>(kG e).elim (fun z=>bb2 (Nat.lt_trans (aU9 (hfl b hb) hCle) (hco₁.empty x c z).2)) fun z=>f.2.2.2.2.1 x c (oW scope.names [] (S.cells I) (fun _ _ z=>by simp at z) z.2),fun p hp=>absurd (show p ∈ ([]:List (Addr × Obj)) from hp) (by simp)⟩
  rcases aU2.mp (I.stkSub b z) with e | e
  ·exact f.2.1 e
  ·exact f.2.2.1 e
 generalize hX:bY X scope N s H H2.objs.size fp (fun _ _=>False)=Y at stat
 have I0:a7 Y [] (fJ fr σ) (upd H s.heap.objs.size (.lst [])) { s with heap:=h₁ }:=hX ▸ ai6 S I hf hfl (aT9 _) hCle hDC old hns₁ hacc hco₁
 have bt:PG Y tg g:=hX ▸ B.tg H2.objs.size fp
 have bi:jR Y ifs tc:=hX ▸ B.ifs H2.objs.size fp
 have be:PE Y elt te:=hX ▸ B.elt H2.objs.size fp
 have eP:Y.prog=X.prog:=by rw [<- hX]; rfl
 have ew:Y.w=X.w:=by rw [<- hX]; rfl
 have eK:Y.K=X.K:=by rw [<- hX]; rfl
 have eA:Y.A=X.A:=by rw [<- hX]; rfl
 have eE:Y.env=compEnvC scope (gN X scope H2.objs.size) H2.objs.size X.env:=by rw [<- hX]; rfl
 have eX:Y.xe=fun _ _=>False:=by rw [<- hX]; rfl
 have ec:Y.calm=true:=by rw [<- hX]; exact hc
 have never:∀ {E:Value->Shared->Prop} (e:Value) (s':Shared),Y.xe e s'->E e s':=fun {E} e s' z=>by rw [eX] at z; exact z.elim
 have out:∀ {pins' σ' H' s'},a7 Y pins' σ' H' s'->a7 X pins σ H' s':=fun {_ _ _ _} I'=>ai9 (C:=H2.objs.size) (E:=fun _ _=>False) (scope:=scope) (N:=N) I hf (hX ▸ I')
 have loop:codeAny (model X.prog X.w) X.A (.compLoop (.ListComp elt [⟨tg,iter,ifs,0⟩] scope pos) 0 (.ref it) (.ref s.heap.objs.size) (compEnvC scope (gN X scope H2.objs.size) H2.objs.size X.env))
   (Rr (.ref s.heap.objs.size) H2.objs.size) { s with heap:=h₁ }:=by
  refine ai7 (fun n s'=>∃ i acc H',a7 Y [] (fJ fr σ) H' s'/\tn i s'.heap/\(∀ b ∈ fp,H' b=none)/\W i n acc H') ?_ m0 ⟨0,[],_,I0,st1,fr0,w0⟩
  rintro n s3 ⟨i,acc,H3,I3,st3,fr3,w3⟩
  unfold t8
  dsimp only
  obtain ⟨hD3,step⟩:=turn i n acc H3 w3
  rcases step with ⟨stop,qn⟩ | ⟨go,step⟩
  ·have z:=T.done Y eP ew eK ec i [] s3 _ H3 (notedBy (model X.prog X.w) X.A (compEnvC scope (gN X scope H2.objs.size) H2.objs.size X.env) fun e s'=>Rr (.ref s.heap.objs.size) H2.objs.size (.error e) s') I3 (stat fr3) st3 stop
   rw [eA] at z
   refine aP z fun r s4 ⟨hr,I4⟩=>?_
   subst hr
   obtain ⟨m4,hn4,_⟩:=I4.loc
   rw [eE] at hn4
   have f4:=I4.free
   rw [eE] at f4
   exact hend _ _ s4 H3 m4 hCle (aT9 _) (out I4) hn4 f4 qn
  ·have z:=T.item Y eP ew eK ec i [] s3 _ H3 (notedBy (model X.prog X.w) X.A (compEnvC scope (gN X scope H2.objs.size) H2.objs.size X.env) fun e s'=>Rr (.ref s.heap.objs.size) H2.objs.size (.error e) s') I3 (stat fr3) st3 go
   rw [eA] at z
   refine aP z fun r s4 ⟨u,hr,h4⟩=>?_
   subst hr
   refine aP h4 fun _ s5 ⟨x,H5,I5,r5,y5,st5,fr5⟩=>?_
   have I5':=I5.pinned (stat fr5) (T.obj _ _ st5)
   have q1:=bt _ s5 _ H5 x u _ I5' r5 (step x H5 y5)
   rw [eP,ew,eA,eE] at q1
   refine bc4 q1 (fun _ s6 ⟨σ6,H6,I6,wk,q6⟩=>?_) never
   have q2:=bi _ s6 σ6 H6 _ I6 q6
   rw [eP,ew,eA,eE] at q2
   refine bc4 q2 (fun b s7 ⟨H7,I7,q7⟩=>?_) never
   have again:∀ {H8:Hp}{s8:Shared}{acc':List V},a7 Y ([] ++ mQ fp s5.heap) σ6 H8 s8->(∃ m',m' < n/\W (i+1) m' acc' H8)->∃ m,m < n/\∃ i acc H',a7 Y [] (fJ fr σ) H' s8/\tn i s8.heap/\(∀ b ∈ fp,H' b=none)/\W i m acc H':=fun {H8 s8 acc'} I8 n8=>by
    obtain ⟨m',hm,w8⟩:=n8
    refine⟨m',hm,i+1,acc',H8,(I8.unpinned).weak wk.1 wk.2,T.keep _ _ _ st5 fun b hb o e=>(I8.pin (b,o) (aY1 _ (aY1 _ (oQ hb e)))).1,fun b hb=>?_,w8⟩
    obtain ⟨o,e,d⟩:=T.obj _ _ st5 b hb
    exact (I8.pin (b,o) (aY1 _ (aY1 _ (oQ hb e)))).2.1
   cases b with
   | false=>
    rw [if_neg aV6] at q7 ⊢
    exact again I7 q7
   | true=>
    rw [if_pos rfl] at q7 ⊢
    have q3:=be _ s7 σ6 H7 _ I7 q7
    rw [eP,ew,eA,eE] at q3
    refine bc4 q3 (fun v s8 ⟨y,H8,I8,r8,hD8,hz8,q8⟩=>?_) never
    have q4:=nF _ s8 σ6 H8 (.ref s.heap.objs.size) [y] (.ref s.heap.objs.size) [v] (fun _ H9=>∃ m',m' < n/\W (i+1) m' (acc ++ [y]) H9) I8 rfl (.cons r8 .nil) ⟨_,_,_,rfl,rfl,hD8,hz8,q8⟩
    rw [eP,ew,eA] at q4
    exact bc4 q4 (fun _ s9 ⟨_,H9,I9,_,q9⟩=>again I9 q9) never
 exact codeAny_compStart_list loop (T.self _ 0 _ _ _ st1 loop)
end
section
variable {X : Cx} {scope : Scope} {N : List Str} {fr : List (Option Nat)} {tg iter elt : Expr} {ifs : List Expr} {pos : Pos} {wi : TI} {g : TG} {tc : TT} {te : TE}
theorem a7.drop {pins:List (Addr × Obj)}{σ:St}{H H':Hp}{s s':Shared}{C:Addr}{h':Heap} (I0:a7 X pins σ H s) (hC:s.heap.objs.size<=C) {σ':St} (I:a7 X pins σ' H' s') (hn:H' C=none) (sb:Heap.SameBut C s'.heap h'):a7 X pins σ' H' { s' with heap:=h' }:=by
 refine I.turned (t':=s'.toks) (it:=C) (fun b o hb e=>(sb.2 b hb).trans e) hn (bb2 (aU9 I0.lt hC)) (.inr (aX8 I0.sz hC)) (fun x c e z=>?_) fun p hp z=>?_
 ·obtain ⟨v,q⟩:=I0.cell x c e
  exact absurd (aU9 q.lt (by rw [z]; exact hC)) (aZ4 _)
 ·exact absurd (aU9 (aU8 (I0.pin p hp).1) (by rw [z]; exact hC)) (aZ4 _)
theorem zF (hc:X.calm=true) (S:dD X scope N fr) (hi:PI X tg iter wi) (B:p6 X scope N tg ifs elt g tc te)
  (hs:∀ x,foldedSetIterable iter X.env x=pure x:=by intro _; rfl):PE X (.ListComp elt [⟨tg,iter,ifs,0⟩] scope pos) (zE wi fr g tc te):=by
 intro pins s σ H Q I h
 rw [eval_ListComp]
 refine wpAny_comprehension_free (use:=none) rfl hs (oV (S.cells I)) S.kind S.names (aP (hi pins s σ H _ I h) fun v s1 h1=>aP h1 fun itv s2 h2=>?_)
 obtain ⟨it,fp,tn,J,H2,e,I2,T,st2,f2,hW⟩:=h2
 subst e
 refine p9 (Rr:=fun acc C=>compPost (model X.prog X.w) X.A X.xe none (EP X pins σ Q) acc C) hc S (B.at _ _) I2 T st2 f2 hW ?_
 intro D C s' H' m hC hD I' hns hHC q
 exact⟨m,hns,fun h' sb=>⟨.ref D,H',I2.drop hC I' hHC sb,rfl,q⟩⟩
theorem aj0 {i:Nat}{x:Str}{px spos:Pos} (hc:X.calm=true) (S:dD X scope N fr) (hi:PI X tg iter wi) (B:p6 X scope N tg ifs elt g tc te) (hN:X.N.Nodup) (hix:X.N[i]? = some x) (hx:X.env.scope.names.lookup x=some .local)
  (hsw:swapsWith (.ListComp elt [⟨tg,iter,ifs,0⟩] scope pos) (some (.Name x px)) spos.line X.env=pure true) (hs:∀ x,foldedSetIterable iter X.env x=pure x:=by intro _; rfl) :
  PS X (.Assign [.Name x px] (.ListComp elt [⟨tg,iter,ifs,0⟩] scope pos) spos) (jO (zE wi fr g tc te) (cT i)):=by
 intro pins s σ H D I h
 rw [exec_Assign_Name_used _ _ _ _ hsw]
 refine aT3 (wpAny_standAt (aT3 ?_))
 show wpAny _ _ (do let _ <- comprehension (.ListComp elt [⟨tg,iter,ifs,0⟩] scope pos) scope X.env _ (newList []) false (eval iter X.env) (some (assign (.Name x px) X.env))) _ _ s
 refine aT3 (bc4 (wpAny_comprehension_free (Q:=fun _ s'=>SP X pins D .next s') (use:=some (assign (.Name x px) X.env)) rfl hs (oV (S.cells I)) S.kind S.names (aP (hi pins s σ H _ I h) fun v s1 h1=>aP h1 fun itv s2 h2=>?_))
  (fun _ s' hq=>aT6 (aT6 hq)) fun _ _ e=>e)
 obtain ⟨it,fp,tn,J,H2,e,I2,T,st2,f2,hW⟩:=h2
 subst e
 refine p9 (Rr:=fun acc C=>compPost (model X.prog X.w) X.A X.xe (some (assign (.Name x px) X.env)) (fun _ s'=>SP X pins D .next s') acc C) hc S (B.at _ _) I2 T st2 f2 hW ?_
 intro D' C s' H' m hC hD I' hns hHC q
 refine wpAny_assign_Name (rV I' hN hix (.inl hx) (v:=.ref D') rfl (fun s'' I'' sb=>?_) (.inr hx))
 obtain ⟨a,sb,ha⟩:=sb
 have hCa:C ≠ a:=by
  rcases ha with z | z
  ·rw [z]; exact bb2 (aU9 I2.lt hC)
  ·intro e; subst e
   obtain ⟨v,q⟩:=I2.cell x _ z
   exact absurd (aU9 q.lt hC) (aZ4 _)
 exact⟨m,hns.sameBut sb hCa,fun h' sb'=>⟨_,H',I2.drop hC I'' hHC sb',q⟩⟩
variable {gh : Hp → TG} {tch : Hp → TT} {teh : Hp → TE}
noncomputable def t9 (wi:TI) (fr:List (Option Nat)) (gh:Hp->TG) (tch:Hp->TT) (teh:Hp->TE):TE:=fun σ H Q=>wi σ H fun J H1=>∀ D,H1 D=none->
 ∃ W:Nat->Nat->List V->Hp->Prop,(∃ m,W 0 m [] (upd H1 D (.lst [])))/\nJ (gh H1) (tch H1) (teh H1) (fJ fr σ) J D Q W
theorem tD (hc:X.calm=true) (S:dD X scope N fr) (hi:PI X tg iter wi) (B:∀ (s:Shared) (H:Hp),lM X scope N tg ifs elt s H (gh H) (tch H) (teh H))
  (hs:∀ x,foldedSetIterable iter X.env x=pure x:=by intro _; rfl):PE X (.ListComp elt [⟨tg,iter,ifs,0⟩] scope pos) (t9 wi fr gh tch teh):=by
 intro pins s σ H Q I h
 rw [eval_ListComp]
 refine wpAny_comprehension_free (use:=none) rfl hs (oV (S.cells I)) S.kind S.names (aP (hi pins s σ H _ I h) fun v s1 h1=>aP h1 fun itv s2 h2=>?_)
 obtain ⟨it,fp,tn,J,H2,e,I2,T,st2,f2,hW⟩:=h2
 subst e
 refine p9 (Rr:=fun acc C=>compPost (model X.prog X.w) X.A X.xe none (EP X pins σ Q) acc C) hc S (B _ _) I2 T st2 f2 hW ?_
 intro D C s' H' m hC hD I' hns hHC q
 exact⟨m,hns,fun h' sb=>⟨.ref D,H',I2.drop hC I' hHC sb,rfl,q⟩⟩
theorem aj1 {i:Nat}{x:Str}{px spos:Pos} (hc:X.calm=true) (S:dD X scope N fr) (hi:PI X tg iter wi) (B:∀ (s:Shared) (H:Hp),lM X scope N tg ifs elt s H (gh H) (tch H) (teh H)) (hN:X.N.Nodup) (hix:X.N[i]? = some x) (hx:X.env.scope.names.lookup x=some .local)
  (hsw:swapsWith (.ListComp elt [⟨tg,iter,ifs,0⟩] scope pos) (some (.Name x px)) spos.line X.env=pure true) (hs:∀ x,foldedSetIterable iter X.env x=pure x:=by intro _; rfl) :
  PS X (.Assign [.Name x px] (.ListComp elt [⟨tg,iter,ifs,0⟩] scope pos) spos) (jO (t9 wi fr gh tch teh) (cT i)):=by
 intro pins s σ H D I h
 rw [exec_Assign_Name_used _ _ _ _ hsw]
 refine aT3 (wpAny_standAt (aT3 ?_))
 show wpAny _ _ (do let _ <- comprehension (.ListComp elt [⟨tg,iter,ifs,0⟩] scope pos) scope X.env _ (newList []) false (eval iter X.env) (some (assign (.Name x px) X.env))) _ _ s
 refine aT3 (bc4 (wpAny_comprehension_free (Q:=fun _ s'=>SP X pins D .next s') (use:=some (assign (.Name x px) X.env)) rfl hs (oV (S.cells I)) S.kind S.names (aP (hi pins s σ H _ I h) fun v s1 h1=>aP h1 fun itv s2 h2=>?_))
  (fun _ s' hq=>aT6 (aT6 hq)) fun _ _ e=>e)
 obtain ⟨it,fp,tn,J,H2,e,I2,T,st2,f2,hW⟩:=h2
 subst e
 refine p9 (Rr:=fun acc C=>compPost (model X.prog X.w) X.A X.xe (some (assign (.Name x px) X.env)) (fun _ s'=>SP X pins D .next s') acc C) hc S (B _ _) I2 T st2 f2 hW ?_
 intro D' C s' H' m hC hD I' hns hHC q
 refine wpAny_assign_Name (rV I' hN hix (.inl hx) (v:=.ref D') rfl (fun s'' I'' sb=>?_) (.inr hx))
 obtain ⟨a,sb,ha⟩:=sb
 have hCa:C ≠ a:=by
  rcases ha with z | z
  ·rw [z]; exact bb2 (aU9 I2.lt hC)
  ·intro e; subst e
   obtain ⟨v,q⟩:=I2.cell x _ z
   exact absurd (aU9 q.lt hC) (aZ4 _)
 exact⟨m,hns.sameBut sb hCa,fun h' sb'=>⟨_,H',I2.drop hC I'' hHC sb',q⟩⟩
end
theorem bE {H:Hp}{p:Addr} (h:H p=none) (o:HO):aE H (upd H p o):=fun b u q=>by rw [aQ (cF q h)]; exact q
theorem aE.tup {K:PySem.W.Frag}{H H':Hp}{a:Addr}{xs:List V} (e:aE H H') (h:aH K H a xs):aH K H' a xs:=by
 rcases h with (h | ⟨o,h⟩) | h
 ·exact .inl (.inl (e _ _ h))
 ·exact .inl (.inr ⟨o,e _ _ h⟩)
 ·exact .inr h
structure zG (H:Hp) (J:It) (xs:List V):Prop where
 go:∀ i H',aE H H'->i < xs.length->J.go i H'
 yld:∀ i H' x H2,aE H H'->J.yld i H' x H2->i < xs.length->xs[i]? = some x/\H2=H'
 stop:∀ H',aE H H'->J.stop xs.length H'
theorem aj2 {K:PySem.W.Frag}{H:Hp}{a:Addr}{xs:List V} (h:aH K H a xs):zG H (jP K a) xs:=
 ⟨fun i H' e hi=>⟨xs,xs[i],e.tup h,by simp [hi]⟩,fun i H' x H2 e y hi=>⟨y.2 xs (e.tup h),y.1⟩,fun H' e=>⟨xs,e.tup h,aT9 _⟩⟩
noncomputable def j6 (lo:Int) (n:Nat):List V:=(List.range n).map fun (i:Nat)=>V.int (lo+(i:Int))
theorem tE (lo:Int) (n:Nat):(j6 lo n).length=n:=by unfold j6; rw [aU7,bf2]
noncomputable def CW (H1:Hp) (D:Addr) (n:Nat) (Pv:Nat->List V->Hp->Prop):Nat->Nat->List V->Hp->Prop:=fun i m acc H'=>m=n - i/\i<=n/\acc.length<=i/\aE H1 H'/\H' D=some (.lst acc)/\Pv i acc H'
noncomputable def tF (H1:Hp) (D:Addr) (n:Nat) (Pv:Nat->List V->Hp->Prop) (i:Nat) (acc:List V) (v:V) (H5:Hp):Prop:=H5 D=some (.lst acc)/\acc.length < sizeLine/\∃ m',m' < n - i/\CW H1 D n Pv (i+1) m' (acc ++ [v]) (upd H5 D (.lst (acc ++ [v])))
noncomputable def zH (H1:Hp) (D:Addr) (n:Nat) (Pv:Nat->List V->Hp->Prop) (i:Nat) (acc:List V) (H4:Hp):Prop:=∃ m',m' < n - i/\CW H1 D n Pv (i+1) m' acc H4
structure pA (H1:Hp) (D:Addr) (n i:Nat) (acc:List V) (H':Hp):Prop where
 lt:i < n
 few:acc.length<=i
 sz:n<=sizeLine
 same:aE H1 H'
 new:H1 D=none
 acc:H' D=some (.lst acc)
theorem pA.yes {H1:Hp}{D:Addr}{n i:Nat}{acc:List V}{H' H5:Hp}{Pv:Nat->List V->Hp->Prop}{v:V} (c:pA H1 D n i acc H') (s:aE H' H5) (p:Pv (i+1) (acc ++ [v]) (upd H5 D (.lst (acc ++ [v])))):tF H1 D n Pv i acc v H5:=by
 refine⟨s _ _ c.acc,Nat.lt_of_le_of_lt c.few (aU9 c.lt c.sz),_,?_,rfl,c.lt,?_,fun b o e=>?_,bI,p⟩
 ·have:=c.lt; omega
 ·rw [aU6,aX7]; exact Nat.succ_le_succ c.few
 ·rw [aQ (cF e c.new)]; exact s _ _ (c.same _ _ e)
theorem aj3 {H1:Hp}{J:It}{xs:List V}{g:TG}{tc:TT}{te:TE}{σ0:St}{Q:VK} (O:zG H1 J xs) (Pv:Nat->List V->Hp->Prop) (hn:xs.length<=sizeLine)
  (h0:∀ D,H1 D=none->Pv 0 [] (upd H1 D (.lst [])))
  (hs:∀ i x acc D H',xs[i]? = some x->pA H1 D xs.length i acc H'->Pv i acc H'->g x σ0 H' fun σ2 H3=>Wk σ0 σ2/\tc σ2 H3 fun b H4=>
   if b=true then te σ2 H4 fun v H5=>tF H1 D xs.length Pv i acc v H5 else zH H1 D xs.length Pv i acc H4)
  (hd:∀ D acc H',H1 D=none->aE H1 H'->H' D=some (.lst acc)->acc.length<=xs.length->Pv xs.length acc H'->Q (.ref D) H') :
  ∀ D,H1 D=none->∃ W:Nat->Nat->List V->Hp->Prop,(∃ m,W 0 m [] (upd H1 D (.lst [])))/\nJ g tc te σ0 J D Q W:=by
 intro D hD
 refine⟨CW H1 D xs.length Pv,⟨xs.length,rfl,aX0 _,aT9 _,bE hD _,bI,h0 D hD⟩,?_⟩
 rintro i m acc H' ⟨rfl,hi,ha,sm,hDa,p⟩
 refine⟨hDa,?_⟩
 by_cases hlt:i < xs.length
 ·refine .inr ⟨O.go i H' sm hlt,fun x H2 y=>?_⟩
  obtain ⟨hx,e⟩:=O.yld i H' x H2 sm y hlt
  subst e
  exact hs i x acc D H2 hx ⟨hlt,ha,hn,sm,hD,hDa⟩ p
 ·have e:i=xs.length:=by omega
  subst e
  exact .inl ⟨O.stop H' sm,hd D acc H' hD sm hDa ha p⟩
end L2
namespace Srt
open PySem PySem.W PyProof.Rows
noncomputable abbrev G (p:Array Nat) (i:Nat):Nat:=p.getD i 0
theorem nK {p q:Array Nat}{i j:Nat} (h:p[i]? = q[j]?):G p i=G q j:=by
 unfold G; rw [bf1,bf1,h]
theorem tG {p:Array Nat}{i j:Nat} (hj:j<=p.size) (k:Nat):G (kas_rev p i j) k=if i<=k/\k < j then G p (i+j - 1 - k) else G p k:=by
 have e:=getElem?_mirror_all (i:=i) hj k
 unfold kas_rev
 by_cases h1:i<=k/\k < j
 ·rw [if_pos h1] at e ⊢; exact nK e
 ·rw [if_neg h1] at e ⊢; exact nK e
theorem aj4 {p:Array Nat}{src d:Nat} (hs:src < p.size) (hd:d<=src) (k:Nat):G (bubble p src d) k=if k=src - d then G p src else if src - d < k/\k<=src then G p (k - 1) else G p k:=by
 have e:=getElem?_bubble hs d hd k
 by_cases h1:k=src - d
 ·rw [if_pos h1] at e ⊢; exact nK e
 ·rw [if_neg h1] at e ⊢
  by_cases h2:src - d < k/\k<=src
  ·rw [if_pos h2] at e ⊢; exact nK e
  ·rw [if_neg h2] at e ⊢; exact nK e
noncomputable def PP (n:Nat) (p:Array Nat):Prop:=p.toList.Perm (List.range n)
theorem PP.size {n:Nat}{p:Array Nat} (h:PP n p):p.size=n:=by
 have:=h.length_eq
 rw [bf2] at this
 simpa using this
theorem PP.lt {n:Nat}{p:Array Nat} (h:PP n p) {k:Nat} (hk:k < n):G p k < n:=by
 have hs:=h.size
 have hk':k < p.toList.length:=by simpa [hs] using hk
 have e:G p k=p.toList[k]:=by
  unfold G; rw [bf1]; simp [hs,hk]
 have m:p.toList[k] ∈ p.toList:=bc8 hk'
 rw [e]
 exact bg7.mp (h.mem_iff.mp m)
theorem PP.of {n:Nat}{p q:Array Nat} (h:PP n p) (e:q.Perm p):PP n q:=(Array.perm_iff_toList_perm.mp e).trans h
theorem PP.rev {n:Nat}{p:Array Nat} (h:PP n p) (i j:Nat):PP n (kas_rev p i j):=h.of (mirror_perm _ _ _ _)
theorem PP.bub {n:Nat}{p:Array Nat} (h:PP n p) (i j:Nat):PP n (bubble p i j):=h.of (bubble_perm _ _ _)
structure tH (c:Nat->Nat->Bool):Prop where
 asym:∀ {i j},c i j=true->c j i=false
 ntr:∀ {i j k},c i j=false->c j k=false->c i k=false
section
variable {c : Nat → Nat → Bool} (O : tH c)
noncomputable def Le (c:Nat->Nat->Bool) (i j:Nat):Prop:=c j i=false
include O
theorem le_refl (i:Nat):Le c i i:=by
 unfold Le
 cases h:c i i with
 | false=>rfl
 | true=>have:=O.asym h; rw [h] at this; exact this
theorem le_trans {i j k:Nat} (h1:Le c i j) (h2:Le c j k):Le c i k:=O.ntr h2 h1
theorem pB {i j:Nat} (h:c i j=true):Le c i j:=O.asym h
omit O
noncomputable def fL (c:Nat->Nat->Bool) (p:Array Nat) (n:Nat):Prop:=∀ a b,a<=b->b < n->Le c (G p a) (G p b)
noncomputable def jS (c:Nat->Nat->Bool) (p:Array Nat) (n:Nat):Prop:=∀ a b,a<=b->b < n->Le c (G p b) (G p a)
include O
theorem aj5 {p:Array Nat}{n:Nat} (h:fL c p n) (h1:1<=n) (hl:Le c (G p (n - 1)) (G p n)):fL c p (n+1):=fun a b hab hb=>by
 by_cases hbn:b < n
 ·exact h a b hab hbn
 ·have e:b=n:=by omega
  subst e
  by_cases han:a=b
  ·subst han; exact le_refl O _
  ·exact le_trans O (h a (b - 1) (by omega) (by omega)) hl
theorem pC {p:Array Nat}{n:Nat} (h:jS c p n) (h1:1<=n) (hl:Le c (G p n) (G p (n - 1))):jS c p (n+1):=fun a b hab hb=>by
 by_cases hbn:b < n
 ·exact h a b hab hbn
 ·have e:b=n:=by omega
  subst e
  by_cases han:a=b
  ·subst han; exact le_refl O _
  ·exact le_trans O hl (h a (b - 1) (by omega) (by omega))
omit O
noncomputable def cD {α:Type} (n:Nat) (c:Nat->Nat->Bool) (R:α->Prop):KasT α->Prop
 | .ret a=>R a
 | .ask i j k=>i < n/\j < n/\cD n c R (k (c i j))
theorem cD.mono {α:Type}{n:Nat}{R R':α->Prop} (h:∀ a,R a->R' a):∀ (t:KasT α),cD n c R t->cD n c R' t
 | .ret a,q=>h a q
 | .ask i j k,q=>⟨q.1,q.2.1,cD.mono h (k (c i j)) q.2.2⟩
theorem cD.bind {α β:Type}{n:Nat}{R:α->Prop}{R':β->Prop}{f:α->KasT β} (h:∀ a,R a->cD n c R' (f a)):∀ (t:KasT α),cD n c R t->cD n c R' (t.bind f)
 | .ret a,q=>h a q
 | .ask i j k,q=>⟨q.1,q.2.1,cD.bind h (k (c i j)) q.2.2⟩
theorem cD.run {α:Type}{n:Nat}{R:α->Prop}{I:Shared->Prop}{cmp:Nat->Nat->(Bool->Shared->Prop)->Shared->Prop}{Q:α->Shared->Prop}
  (hc:∀ i j C s,i < n->j < n->I s->(∀ s',I s'->C (c i j) s')->cmp i j C s) (hQ:∀ a s,R a->I s->Q a s):∀ (t:KasT α) (s:Shared),I s->cD n c R t->t.kasWp cmp Q s
 | .ret a,s,hI,q=>hQ a s q hI
 | .ask i j k,s,hI,q=>hc i j _ s q.1 q.2.1 hI fun s' hI'=>cD.run hc hQ (k (c i j)) s' hI' q.2.2
include O
theorem tI {n:Nat}{p:Array Nat} (hp:PP n p):∀ (f m:Nat),1<=m->m+f<=n->fL c p m->cD n c (fun r=>m<=r/\r<=m+f/\fL c p r/\(r < m+f->c (G p r) (G p (r - 1))=true)) (kas_asc p f m)
 | 0,m,_,_,h=>⟨aT9 _,aT9 _,h,fun z=>absurd z (aZ4 _)⟩
 | f+1,m,h1,h2,h=>by
  refine⟨hp.lt (by omega),hp.lt (by omega),?_⟩
  by_cases hc:c (p.getD m 0) (p.getD (m - 1) 0)=true
  ·simp only [hc,if_true]
   exact⟨aT9 _,by omega,h,fun _=>hc⟩
  ·have hc':c (p.getD m 0) (p.getD (m - 1) 0)=false:=bc0.mpr hc
   simp only [hc',aW1,bb6]
   refine cD.mono (fun r q=>⟨by omega,by omega,q.2.2.1,fun z=>q.2.2.2 (by omega)⟩) _ (tI hp f (m+1) (by omega) (by omega) (aj5 O h h1 hc'))
omit O
noncomputable def kH (c:Nat->Nat->Bool) (i j:Nat):Prop:=Le c i j/\Le c j i
include O
theorem tJ {p q:Array Nat}{n:Nat} (h:jS c p n) (e:∀ k,k < n->kH c (G q k) (G p k)):jS c q n:=fun a b hab hb=>
 le_trans O (e b hb).1 (le_trans O (h a b hab hb) (e a (by omega)).2)
theorem zI {n m i:Nat}{p:Array Nat} (hp:PP n p) (hm:m<=n) (h:∀ a,i<=a->a < m->kH c (G p a) (G p (m - 1))):∀ k,kH c (G (kas_rev p i m) k) (G p k):=fun k=>by
 rw [tG (by rw [hp.size]; exact hm)]
 by_cases hk:i<=k/\k < m
 ·rw [if_pos hk]
  have h1:=h (i+m - 1 - k) (by omega) (by omega)
  have h2:=h k hk.1 hk.2
  exact⟨le_trans O h1.1 h2.2,le_trans O h2.1 h1.2⟩
 ·rw [if_neg hk]; exact⟨le_refl O _,le_refl O _⟩
omit O
noncomputable def DI (c:Nat->Nat->Bool) (n:Nat) (p:Array Nat) (m q:Nat):Prop:=PP n p/\1<=m/\m<=n/\jS c p m/\q+1<=m/\∀ a,m - (q+1)<=a->a < m->kH c (G p a) (G p (m - 1))
include O
theorem zJ {n m q:Nat}{p:Array Nat} (h:DI c n p m q):PP n (kas_rev p (m - (q+1)) m)/\∀ k,kH c (G (kas_rev p (m - (q+1)) m) k) (G p k):=
 ⟨h.1.rev _ _,zI O h.1 h.2.2.1 h.2.2.2.2.2⟩
theorem pD {n:Nat}:∀ (f:Nat) (p:Array Nat) (m q:Nat),m+f<=n->DI c n p m q->cD n c (fun r=>DI c n r.1 r.2.1 r.2.2) (kas_desc f p m q)
 | 0,p,m,q,_,h=>h
 | f+1,p,m,q,hf,h=>by
  have hp:=h.1
  have h1:=h.2.1
  refine⟨hp.lt (by omega),hp.lt (by omega),?_⟩
  by_cases hc:c (p.getD m 0) (p.getD (m - 1) 0)=true
  ·simp only [hc,if_true]
   have dn:jS c p (m+1):=pC O h.2.2.2.1 h1 (pB O hc)
   by_cases hq:q > 0
   ·simp only [hq,if_true]
    obtain ⟨pr,er⟩:=zJ O h
    refine pD f _ (m+1) 0 (by omega) ⟨pr,by omega,by omega,tJ O dn fun k _=>er k,by omega,fun a h1 h2=>?_⟩
    have e:a=m+1 - 1:=by omega
    rw [e]; exact⟨le_refl O _,le_refl O _⟩
   ·simp only [hq,bb6]
    refine pD f p (m+1) 0 (by omega) ⟨hp,by omega,by omega,dn,by omega,fun a h1 h2=>?_⟩
    have e:a=m+1 - 1:=by omega
    rw [e]; exact⟨le_refl O _,le_refl O _⟩
  ·have hc':c (p.getD m 0) (p.getD (m - 1) 0)=false:=bc0.mpr hc
   simp only [hc',aW1,bb6]
   refine⟨hp.lt (by omega),hp.lt (by omega),?_⟩
   by_cases hd:c (p.getD (m - 1) 0) (p.getD m 0)=true
   ·simp only [hd,if_true]
    exact h
   ·have hd':c (p.getD (m - 1) 0) (p.getD m 0)=false:=bc0.mpr hd
    simp only [hd',aW1,bb6]
    have ee:kH c (G p (m - 1)) (G p m):=⟨hc',hd'⟩
    refine pD f p (m+1) (q+1) (by omega) ⟨hp,by omega,by omega,pC O h.2.2.2.1 h1 ee.2,by have:=h.2.2.2.2.1; omega,fun a h1 h2=>?_⟩
    rw [Nat.add_sub_cancel]
    by_cases ha:a=m
    ·rw [ha]; exact⟨le_refl O _,le_refl O _⟩
    ·have z:=h.2.2.2.2.2 a (by omega) (by omega)
     exact⟨le_trans O z.1 ee.1,le_trans O ee.2 z.2⟩
omit O
noncomputable def CI (c:Nat->Nat->Bool) (n:Nat) (r:Nat × Array Nat):Prop:=PP n r.2/\1<=r.1/\r.1<=n/\fL c r.2 r.1
include O
theorem zK {n m:Nat}{p:Array Nat} (hp:PP n p) (h1:1<=m) (hm:m<=n) (h:jS c p m):cD n c (CI c n) (kas_tail3 m n p):=by
 have ha:fL c (kas_rev p 0 m) m:=fun a b hab hb=>by
  rw [tG (by rw [hp.size]; exact hm),tG (by rw [hp.size]; exact hm),if_pos ⟨aX0 _,by omega⟩,if_pos ⟨aX0 _,hb⟩]
  exact h _ _ (by omega) (by omega)
 refine cD.bind (R:=fun r=>m<=r/\r<=m+(n - m)/\fL c (kas_rev p 0 m) r/\_) (fun r q=>?_) _ (tI O (hp.rev 0 m) (n - m) m h1 (by omega) ha)
 exact⟨hp.rev _ _,by have:=q.1; omega,by have:=q.2.1; omega,q.2.2.1⟩
theorem zL {n m:Nat}{p:Array Nat} (hp:PP n p) (h1:1<=m) (hm:m+1<=n) (h:jS c p (m+1)):cD n c (CI c n) (kas_descPart m n p):=by
 refine cD.bind (R:=fun r=>DI c n r.1 r.2.1 r.2.2) (fun r q=>?_) _ (pD O (n - (m+1)) p (m+1) 0 (by omega) ⟨hp,by omega,hm,h,by omega,fun a h1 h2=>?_⟩)
 ·by_cases hq:r.2.2 > 0
  ·rw [if_pos hq]
   obtain ⟨pr,er⟩:=zJ O q
   exact zK O pr q.2.1 q.2.2.1 (tJ O q.2.2.2.1 fun k _=>er k)
  ·rw [if_neg hq]
   exact zK O q.1 q.2.1 q.2.2.1 q.2.2.2.1
 ·have e:a=m+1 - 1:=by omega
  rw [e]; exact⟨le_refl O _,le_refl O _⟩
theorem aj6 {n:Nat}{p:Array Nat} (hp:PP n p) (hn:1<=n):cD n c (CI c n) (kas_count n p):=by
 have a1:fL c p 1:=fun a b hab hb=>by
  have e1:a=0:=by omega
  have e2:b=0:=by omega
  rw [e1,e2]; exact le_refl O _
 refine cD.bind (R:=fun r=>1<=r/\r<=1+(n - 1)/\fL c p r/\(r < 1+(n - 1)->c (G p r) (G p (r - 1))=true)) (fun m q=>?_) _ (tI O hp (n - 1) 1 (aT9 _) (by omega) a1)
 obtain ⟨q1,q2,q3,q4⟩:=q
 by_cases hm:(m == n)=true
 ·rw [if_pos hm]
  exact⟨hp,q1,by omega,q3⟩
 ·rw [if_neg hm]
  have hne:m ≠ n:=by simpa using hm
  have hc:=q4 (by omega)
  by_cases h1:m > 1
  ·rw [if_pos h1]
   refine⟨hp.lt (by omega),hp.lt (by omega),?_⟩
   by_cases hd:c (p.getD 0 0) (p.getD (m - 1) 0)=true
   ·simp only [hd,if_true]
    exact⟨hp,q1,by omega,q3⟩
   ·have hd':c (p.getD 0 0) (p.getD (m - 1) 0)=false:=bc0.mpr hd
    simp only [hd',aW1,bb6]
    have eq:∀ a,0<=a->a < m->kH c (G p a) (G p (m - 1)):=fun a _ ha=>⟨q3 a (m - 1) (by omega) (by omega),le_trans O hd' (q3 0 a (aX0 _) ha)⟩
    have er:=zI O hp (by omega:m<=n) eq
    refine zL O (hp.rev 0 m) q1 (by omega) (tJ O (p:=p) ?_ fun k _=>er k)
    refine pC O (fun a b hab hb=>?_) q1 (pB O hc)
    exact le_trans O (eq b (aX0 _) hb).1 (eq a (aX0 _) (by omega)).2
  ·rw [if_neg h1]
   have e:m=1:=by omega
   subst e
   refine zL O hp (aT9 _) (by omega) (pC O (fun a b hab hb=>?_) (aT9 _) (pB O hc))
   have e1:a=0:=by omega
   have e2:b=0:=by omega
   rw [e1,e2]; exact le_refl O _
theorem tK {n k:Nat}{p:Array Nat} (hp:PP n p) (hk:k < n) (ha:fL c p k):∀ (f l r:Nat),l<=r->r<=k->r - l<=f->(∀ a,a < l->Le c (G p a) (G p k))->(∀ a,r<=a->a < k->Le c (G p k) (G p a))->
  cD n c (fun l=>l<=k/\(∀ a,a < l->Le c (G p a) (G p k))/\∀ a,l<=a->a < k->Le c (G p k) (G p a)) (kas_place p k f l r)
 | 0,l,r,h1,h2,h3,hl,hr=>⟨by omega,hl,fun a h4 h5=>hr a (by omega) h5⟩
 | f+1,l,r,h1,h2,h3,hl,hr=>by
  unfold kas_place
  by_cases hlr:l >= r
  ·rw [if_pos hlr]
   exact⟨by omega,hl,fun a h4 h5=>hr a (by omega) h5⟩
  ·rw [if_neg hlr]
   refine⟨hp.lt hk,hp.lt (by omega),?_⟩
   by_cases hc:c (p.getD k 0) (p.getD ((l+r) / 2) 0)=true
   ·simp only [hc,if_true]
    exact tK hp hk ha f l ((l+r) / 2) (by omega) (by omega) (by omega) hl fun a h4 h5=>le_trans O (pB O hc) (ha _ _ h4 h5)
   ·have hc':c (p.getD k 0) (p.getD ((l+r) / 2) 0)=false:=bc0.mpr hc
    simp only [hc',aW1,bb6]
    exact tK hp hk ha f ((l+r) / 2+1) r (by omega) h2 (by omega) (fun a h4=>le_trans O (ha a ((l+r) / 2) (by omega) (by omega)) hc') hr
theorem zM {n:Nat}:∀ (f:Nat) (p:Array Nat) (k:Nat),PP n p->k+f<=n->fL c p k->cD n c (fun q=>PP n q/\fL c q (k+f)) (kas_bin f p k)
 | 0,p,k,hp,_,h=>⟨hp,h⟩
 | f+1,p,k,hp,hk,h=>by
  refine cD.bind (R:=fun l=>l<=k/\(∀ a,a < l->Le c (G p a) (G p k))/\∀ a,l<=a->a < k->Le c (G p k) (G p a)) (fun l q=>?_) _ (tK O hp (by omega) h k 0 k (aX0 _) (aT9 _) (by omega) (fun a z=>absurd z (bh5 _)) fun a h1 h2=>absurd h2 (by omega))
  obtain ⟨q1,q2,q3⟩:=q
  have e:∀ a,G (bubble p k (k - l)) a=if a=l then G p k else if l < a/\a<=k then G p (a - 1) else G p a:=fun a=>by
   rw [aj4 (by rw [hp.size]; omega) (by omega),show k - (k - l)=l by omega]
  refine cD.mono (fun r z=>⟨z.1,by rw [show k+(f+1)=k+1+f by omega]; exact z.2⟩) _ (zM f _ (k+1) (hp.bub _ _) (by omega) fun a b hab hb=>?_)
  rw [e,e]
  by_cases ha:a=l
  ·rw [if_pos ha]
   by_cases hb':b=l
   ·rw [if_pos hb']; exact le_refl O _
   ·rw [if_neg hb',if_pos (by omega)]; exact q3 _ (by omega) (by omega)
  ·rw [if_neg ha]
   by_cases ha2:l < a/\a<=k
   ·rw [if_pos ha2,if_neg (by omega),if_pos (by omega)]
    exact h _ _ (by omega) (by omega)
   ·rw [if_neg ha2]
    by_cases hb':b=l
    ·rw [if_pos hb']; exact q2 a (by omega)
    ·rw [if_neg hb']
     by_cases hb2:l < b/\b<=k
     ·rw [if_pos hb2]; exact h _ _ (by omega) (by omega)
     ·rw [if_neg hb2]; exact h _ _ hab (by omega)
theorem aj7 {n:Nat} (hn:1<=n):cD n c (fun q=>PP n q/\fL c q n) (kas_sort n):=by
 have hp:PP n (List.toArray (List.range n)):=by unfold PP; simp
 refine cD.bind (R:=CI c n) (fun r q=>?_) _ (aj6 O hp hn)
 obtain ⟨q1,q2,q3,q4⟩:=q
 by_cases h:r.1 < n
 ·rw [if_pos h]
  have e:max r.1 1=r.1:=by omega
  rw [e]
  exact cD.mono (fun p z=>⟨z.1,by rw [show r.1+(n - r.1)=n by omega] at z; exact z.2⟩) _ (zM O (n - r.1) r.2 r.1 q1 (by omega) q4)
 ·rw [if_neg h]
  have e:r.1=n:=by omega
  exact⟨q1,by rw [e] at q4; exact q4⟩
end
end Srt
namespace L2
open PySem PySem.Spec PyProof.Rows
theorem bO.there {P:Program}{w:World}{H:Hp}{h:Heap}{a:Addr}{o:HO} (x:bO P w H h a o):∃ u,h.get? a=some u:=by
 cases o with
 | lst xs=>obtain ⟨_,_,_,_,e⟩:=x; exact⟨_,e⟩
 | tup xs=>obtain ⟨_,_,_,⟨o,e,_⟩,_⟩:=x; exact⟨_,e⟩
 | dK kvs=>obtain ⟨_,_,_,_,o,_,_,e,_⟩:=x; exact⟨_,e⟩
 | dT kvs=>obtain ⟨_,_,_,_,o,_,_,e,_⟩:=x; exact⟨_,e⟩
 | set S n=>obtain ⟨o,_,_,_,e,_⟩:=x; exact⟨_,e⟩
 | ins C dx fs=>obtain ⟨_,_,_,e,_⟩:=x; exact⟨_,e⟩
 | own y=>exact x
 | xd fs=>obtain ⟨_,⟨_,_,_,e,_⟩,_⟩:=x; exact⟨_,e⟩
 | rng lo hi=>obtain ⟨_,_,_,e⟩:=x; exact⟨_,e⟩
 | frz ob u=>obtain ⟨e,_⟩:=x; exact⟨_,e⟩
 | tbl ps=>exact⟨_,(show h.get? a=some _ from x)⟩
 | met f y=>exact⟨_,(show h.get? a=some _ from x)⟩
 | ext φ=>obtain ⟨_,z,_⟩:=x; exact z
section
variable {X : Cx} {pins : List (Addr × Obj)} {σ : St} {H : Hp} {s : Shared} {h' : Heap} {a : Addr} {o : HO} {t' : Nat}
theorem a7.laidF (I:a7 X pins σ H s) (hn:s.heap.get? a=none) (k:∀ b u,b ≠ X.env.locals->s.heap.get? b=some u->h'.get? b=some u) (ns:∀ m,s.heap.Ns X.env.locals m->h'.Ns X.env.locals m)
  (new:bO X.prog X.w (upd H a o) h' a o):H a=none/\a7 X pins σ (upd H a o) { s with heap:=h',toks:=t' }:=by
 have hHn:H a=none:=by
  cases q:H a with
  | none=>rfl
  | some u=>obtain ⟨z,e⟩:=(I.hok a u q).there; rw [hn] at e; cases e
 have ne:∀ b u,s.heap.get? b=some u->b ≠ a:=fun b u e z=>by rw [z,hn] at e; cases e
 have hL:=I.free
 refine⟨hHn,I.step (g':=s.gens) (d':=s.drawn) (ch:=[]) (fun _ z=>nomatch z) (fun b o' h1 _ _ e _=>k b o' h1 e) (fun b o' h1 _ _ e _=>⟨o'.slots,k b o' h1 e⟩) (fun b o' _ e n=>by rw [aQ (ne b o' e)]; exact n) (fun b o' _ e=>?_)
  (fun b xs q=>by rw [aQ (cF q hHn)]; exact q) (fun b u xs q=>by rw [aQ (cF q hHn)]; exact q) (fun b ps q=>⟨#[],by rw [aQ (cF q hHn),q]; simp⟩) ns (fun b u q=>?_) I.bare⟩
 ·by_cases hb:b=X.env.locals
  ·obtain ⟨m,hm,_⟩:=I.loc
   obtain ⟨o2,_,_,e2,_⟩:=ns m hm
   exact⟨o2,by rw [hb]; exact e2⟩
  ·exact⟨o',k b o' hb e⟩
 ·by_cases hb:b=a
  ·subst hb; rw [bI] at q; cases q; exact new
  ·rw [aQ hb] at q
   refine (I.hok b u q).stay (fun c v hc e=>k c v ?_ e) (fun c e=>by rw [aQ (cF e hHn)]; exact e) fun c xs e=>by rw [aQ (cF e hHn)]; exact e
   rcases hc with z | z
   ·rw [z]; intro y; rw [y,hL] at q; cases q
   ·intro y; rw [y,hL] at z; cases z
theorem a7.newsAll (I:a7 X pins σ H s) {news:List (Addr × Obj)}{m:Str->Option Value} (hs:∀ p ∈ mI X.base s.heap X.env.locals,p ∈ news) (F:Fr X.base X.env.locals h' m) (N:News X.base X.env.locals h' news) :
  ∀ b o,b ≠ X.env.locals->s.heap.get? b=some o->h'.get? b=some o:=fun b o h1 e=>by
 cases q:X.base.get? b with
 | some u=>
  have:=I.bk b u q
  rw [e] at this; cases this
  exact F.keep b _ q
 | none=>exact (N (b,o) (hs _ (wK h1 q e))).1
end
theorem aj8 {α:Type}{d:α} (l:List α) {p:List Nat} (h:p.Perm (List.range l.length)):(p.map fun i=>l.getD i d).Perm l:=by
 have e:(List.range l.length).map (fun i=>l.getD i d)=l:=by
  apply List.ext_getElem
  ·simp
  ·intro i h1 h2
   simp at h1
   simp [h1]
 have:=h.map fun i=>l.getD i d
 rw [e] at this
 exact this
theorem tL:∀ {xs:List V}{us:List Value} (i:Nat),i < xs.length->aJ xs us->aW (xs.getD i .non) (us.getD i Value.none)
 | _,_,_,h,.nil=>by simp at h
 | _,_,0,_,.cons r _=>by simpa using r
 | _,_,i+1,h,.cons _ t=>by
  have:=tL i (by simpa using h) t
  simpa using this
theorem zN {xs:List V}{us:List Value} (r:aJ xs us):∀ {p:List Nat},(∀ i ∈ p,i < xs.length)->aJ (p.map fun i=>xs.getD i .non) (p.map fun i=>us.getD i Value.none)
 | [],_=>.nil
 | i :: p,h=>.cons (tL i (h i aV2) r) (zN r fun j hj=>h j (aV3 _ hj))
theorem zO {α:Type}:∀ l:List α,(l.zip l).map (·.2)=l
 | []=>rfl
 | a :: l=>by
  show a :: ((l.zip l).map (·.2))=a :: l
  rw [zO l]
theorem aj9 {prog:Program}{w:World}{A:Around}{E:Value->Shared->Prop}{s:Shared}{a:Addr}{vs:List Value}{n:Nat}{P:PySem.Fin->Shared->Prop} (e:s.heap.get? a=some (seqObj "list" vs.toArray n)) (few:vs.length < 2)
  (q:P (.done (.ret .none)) { s with heap:=sortedHeap s.heap a vs vs.toArray }):wpAny (model prog w) A (Builtin.«list.sort» ⟨[.ref a],[]⟩) P E s:=by
 have big:vs.length<=sizeLine:=aX8 (ba3 few) (by decide)
 have la:=aU8 e
 have c:vs.toArray.size < 2:=by simpa using few
 have same:(arrOf (SortSt.mk' general' (vs.toArray.zip vs.toArray) #[] 7 none)).map (·.2)=vs.toArray:=by
  change (vs.toArray.zip vs.toArray).map (·.2)=vs.toArray
  apply Array.ext'
  simpa using zO vs
 obtain ⟨k,ek⟩:∃ k,(s.heap.update a (Obj.mapSeq fun _=>#[])).get? a=some (seqObj "list" #[] k):=⟨_,get?_update_seq e fun _=>#[]⟩
 have there:(((s.heap.update a (Obj.mapSeq fun _=>#[])).push (seqObj "tuple" vs.toArray 0)).push (seqObj "list" #[] 0)).get? a=some (seqObj "list" #[] k):=
  aT5 _ (aT5 _ ek)
 rw [list_sort_plain]
 apply aT3
 apply listItems_at e rfl
 apply aT3
 refine listUpdate_at e rfl ?_ (by simpa using big) (aX0 _)
 apply aT3
 apply seqEpoch_at ek rfl
 apply aT3
 refine wpAny_newTuple ?_ big
 apply aT3
 refine wpAny_newList ?_ (aX0 _)
 apply ba5
 simp only [c,if_true,StateT.run_pure]
 apply aT3
 apply aT6
 apply aT3
 apply aT6
 apply aT3
 apply seqEpoch_at there rfl
 apply aT3
 refine listUpdate_at there rfl ?_ (aX0 _) (by rw [same,aT8]; exact Nat.le_succ_of_le big)
 rw [same]
 simp only [bne_self_eq_false,aW1,bb6]
 exact aT6 q
theorem ak0 {prog:Program}{w:World}{A:Around}{E:Value->Shared->Prop}{s:Shared}{l:Addr}{vs:List Value}{Q:Value->Shared->Prop} (hl:s.heap.IsList l vs.toArray) (few:vs.length < 2)
  (q:Q (.ref (s.heap.objs.size+1)) { s with heap:=sortedAll s.heap vs vs.toArray }):wpAny (model prog w) A (call (.builtin "sorted") [.ref l]) Q E s:=by
 have big:vs.length<=sizeLine:=aX8 (ba3 few) (by decide)
 apply Calls.call_function_entry kind_sorted plain_sorted entry_sorted (args_sorted1 _)
 simp only [Builtin.«sorted»]
 apply aT3 (m:=checkCount "sorted" 1 1 _)
 apply aT6
 apply aT3
 refine collect_list hl ?_ big
 apply aT3
 refine wpAny_newList ?_ big
 have one:((s.heap.push (seqObj "list" #[] 0)).update s.heap.objs.size (Obj.mapSeq (· ++ vs.toArray))).objs.size=s.heap.objs.size+1:=(Heap.size_update _ _ _).trans (size_push' _ _)
 have at1:(((s.heap.push (seqObj "list" #[] 0)).update s.heap.objs.size (Obj.mapSeq (· ++ vs.toArray))).push (seqObj "list" vs.toArray 0)).get? (s.heap.objs.size+1)=some (seqObj "list" vs.toArray 0):=one ▸ aU0 _ rfl
 change wpAny _ _ _ _ _ { s with heap:=((s.heap.push (seqObj "list" #[] 0)).update s.heap.objs.size (Obj.mapSeq (· ++ vs.toArray))).push (seqObj "list" vs.toArray 0) }
 rw [one]
 apply aT3
 apply ba5
 refine aW5 slot_list_sort ⟨_,at1,rfl⟩ entry_list_sort ?_ (args_list_sort _)
 refine aj9 at1 few ⟨_,rfl,?_⟩
 exact aT6 ⟨_,rfl,q⟩
noncomputable def zP (K:PySem.W.Frag):List V->Hp->VK->Prop:=fun xs H Q=>∃ a ns,xs = [.ref a]/\aK K H a (ns.map V.int)/\ns.length < 64/\∀ l (ms:List Int),H l=none->ms.Perm ns->ms.Pairwise (· <= ·)->Q (.ref l) (upd H l (.lst (ms.map V.int)))
theorem zQ {X:Cx}:cO X (.builtin "sorted") (zP X.K):=by
 intro pins s σ H xs us Q I r h
 obtain ⟨a,ns,rfl,hs,h64,q⟩:=h
 obtain ⟨u,rfl,ru⟩:=fU r
 cases ru
 obtain ⟨its,rv,p,hz⟩:=I.list hs
 have hl:=rv.length
 rw [aU7] at hl
 refine sorted_ints p.isList (mW rv) (by omega) fun out ns' a1 a2 a3=>?_
 obtain ⟨e,he⟩:=sortedAll_at s.heap its out
 have hn:s.heap.objs.size<=s.heap.objs.size+1:=bk8 _
 have hlen:ns'.length=ns.length:=a2.length_eq
 refine⟨.ref (s.heap.objs.size+1),upd H (s.heap.objs.size+1) (.lst (ns'.map V.int)),I.laid (t':=s.toks) (fun _ _=>sortedAll_old) hn ⟨?_,out.toList,e,nH a1,by simpa using he⟩,rfl,q _ ns' (I.hok.fresh hn) a2 a3⟩
 rw [aU7,hlen]
 exact ba3 (nI (by omega))
theorem zR:∀ {a b:List Int},HT.fH a b=true->HT.fH b a=false
 | [],[],h=>by cases h
 | [],_ :: _,_=>rfl
 | _ :: _,[],h=>by cases h
 | x :: xs,y :: ys,h=>by
  rw [HT.mV] at h ⊢
  by_cases e:x=y
  ·rw [if_pos e] at h; rw [if_pos e.symm]; exact zR h
  ·rw [if_neg e] at h; rw [if_neg (Ne.symm e)]
   have:=bb3 h
   exact aU1 (by omega)
theorem zS:∀ {a b c:List Int},HT.fH a b=false->HT.fH b c=false->HT.fH a c=false
 | [],[],c,_,h=>h
 | [],_ :: _,_,h,_=>by cases h
 | _ :: _,[],[],_,_=>rfl
 | _ :: _,[],_ :: _,_,h=>by cases h
 | _ :: _,_ :: _,[],_,_=>rfl
 | x :: xs,y :: ys,z :: zs,h1,h2=>by
  rw [HT.mV] at h1 h2 ⊢
  by_cases e1:x=y
  ·rw [if_pos e1] at h1
   by_cases e2:y=z
   ·rw [if_pos e2] at h2; rw [if_pos (e1.trans e2)]; exact zS h1 h2
   ·rw [if_neg e2] at h2; rw [if_neg (by rw [e1]; exact e2)]; rw [e1]; exact h2
  ·rw [if_neg e1] at h1
   have k1:=bg1 h1
   by_cases e2:y=z
   ·rw [<- e2,if_neg e1]; exact h1
   ·rw [if_neg e2] at h2
    have k2:=bg1 h2
    rw [if_neg (by omega)]
    exact aU1 (by omega)
section
variable {prog : Program} {w : World} {A : Around} {s : Shared} {Q : Bool → Shared → Prop}
theorem zT:∀ {us ws:List Value}{xs ys:List Int} (i:Nat),IntsAre us xs->IntsAre ws ys->Q (HT.fH xs ys) s->PySem.W.KatLex prog w A true (decide (us.length < ws.length)) Q (us.zip ws) i s
 | _,_,_,_,_,.nil,.nil,h=>h
 | _,_,_,_,_,.nil,.cons _ _ _,h=>h
 | _,_,_,_,_,.cons _ _ _,.nil,h=>h
 | _,_,_,_,i,.cons (vs:=us) x t hx,.cons (vs:=ws) y u hy,h=>by
  refine PySem.W.kat_cons (wpAny_eqBool_int ?_)
  rw [HT.mV] at h
  by_cases e:x=y
  ·rw [if_pos e] at h
   have eb:(x == y)=true:=by simpa using e
   rw [eb]
   refine PySem.W.kat_yes ?_
   have e2:decide ((Value.int x t :: us).length < (Value.int y u :: ws).length)=decide (us.length < ws.length):=by simp
   rw [e2]
   exact zT (i+1) hx hy h
  ·rw [if_neg e] at h
   have eb:(x == y)=false:=by simpa using e
   rw [eb]
   refine PySem.W.kat_no ?_
   cases hi:(true && i == 0) with
   | true=>exact PySem.W.kat_lt_int h
   | false=>exact PySem.W.kat_one _ _ (lt_int h)
end
noncomputable def zU (K:PySem.W.Frag):List V->Hp->VK->Prop:=fun xs H Q=>∃ (a:Addr) (ys:List V) (key:V->List Int),xs = [.ref a]/\aK K H a ys/\ys.length < 64/\(∀ y ∈ ys,∃ b,y = .ref b/\aH K H b ((key y).map V.int)/\key y ≠ [])/\
 ∀ l (zs:List V),H l=none->zs.Perm ys->zs.Pairwise (fun u v=>HT.fH (key v) (key u)=false)->Q (.ref l) (upd H l (.lst zs))
theorem ak1 {c:Nat->Nat->Bool}{R:V->V->Prop}{ys:List V}{p:Array Nat}{n:Nat} (hp:Srt.PP n p) (ha:Srt.fL c p n) (hR:∀ i j,Srt.Le c i j->R (ys.getD i .non) (ys.getD j .non)) :
  (p.toList.map fun i=>ys.getD i .non).Pairwise R:=by
 rw [bh2,bc1]
 intro i j hi hj hij
 have hs:=hp.size
 have h1:i < n:=by rw [<- hs]; simpa using hi
 have h2:j < n:=by rw [<- hs]; simpa using hj
 have q:=ha i j (ba3 hij) h2
 have e:∀ k (hk:k < p.toList.length),Srt.G p k=p.toList[k]:=fun k hk=>by
  have hk':k < p.size:=by simpa using hk
  unfold Srt.G; rw [bf1]; simp [hk']
 rw [e i hi,e j hj] at q
 exact hR _ _ q
theorem ak2 {X:Cx}:cO X (.builtin "sorted") (zU X.K):=by
 intro pins s σ H xs us Q I r h
 obtain ⟨a,ys,key,rfl,hs,h64,hk,q⟩:=h
 obtain ⟨u,rfl,ru⟩:=fU r
 cases ru
 obtain ⟨its,rv,p,hz⟩:=I.list hs
 have hl:=rv.length
 by_cases h2:its.length < 2
 ·
  refine ak0 p.isList h2 ?_
  obtain ⟨e,he⟩:=sortedAll_at s.heap its its.toArray
  have hn:s.heap.objs.size<=s.heap.objs.size+1:=bk8 _
  refine⟨.ref (s.heap.objs.size+1),upd H (s.heap.objs.size+1) (.lst ys),I.laid (t':=s.toks) (fun _ _=>sortedAll_old) hn ⟨hz,its,e,rv,he⟩,rfl,q _ ys (I.hok.fresh hn) (bk6 _) ?_⟩
  match ys,hl with
  | [],_=>exact bj6
  | [_],_=>exact aY0 _ _
  | _ :: _ :: _,hl=>simp at hl; omega
 ·obtain ⟨m,F⟩:=I.fr
  have hL:∀ {b:Addr}{k:List Int},aH X.K H b (k.map V.int)->b ≠ X.env.locals:=fun {b k} z e=>by
   obtain ⟨its',_,⟨ob,e1,c1,_⟩,_⟩:=I.tuple z
   obtain ⟨m',⟨o',es',ep',e2,d2,_⟩,_⟩:=I.loc
   rcases z with (z | ⟨_,z⟩) | ⟨o3,its3,n3,z3,zc,zd,_⟩
   ·rw [e,I.free] at z; cases z
   ·rw [e,I.free] at z; cases z
   ·have:=I.kIn b o3 z3
    rw [e,e2] at this
    cases this
    rw [d2] at zd; cases zd
  refine PySem.W.kat_sorted F (Y8 (g:=X.base) (h:=s.heap) (L:=X.env.locals)) p.isList (by omega) (by omega) fun D e1 h' F' N' hD=>?_
  have keep:=I.newsAll (fun p hp=>aV3 _ hp) F' N'
  have look:∀ i,i < ys.length->∃ (b:Addr) (ob:Obj) (us:List Value) (n:Nat),its.getD i Value.none = .ref b/\h'.get? b=some ob/\ob.cls = .type "tuple"/\ob.data = .seq us.toArray n/\IntsAre us (key (ys.getD i .non))/\key (ys.getD i .non) ≠ []:=fun i hi=>by
   have hy:ys.getD i .non ∈ ys:=by
    rw [aU4,aT7 hi]; exact bc8 hi
   obtain ⟨b,eb,sq,ne⟩:=hk _ hy
   have rr:=tL i hi rv
   rw [eb] at rr
   have rr:its.getD i Value.none = .ref b:=rr
   obtain ⟨us,ru,⟨ob,e1,c1,n1,d1⟩,_⟩:=I.tuple sq
   exact⟨b,ob,us,n1,rr,keep b ob (hL sq) e1,c1,d1,mW ru,ne⟩
  have firsts:∀ {xs:List V}{vs:List Value},aJ xs vs->(∀ y ∈ xs,∃ b,y = .ref b/\aH X.K H b ((key y).map V.int)/\key y ≠ [])->∃ fs:List Value,PySem.W.KatTups h' vs fs/\fs.length=vs.length/\∀ v ∈ fs,∃ i t,v=Value.int i t:=by
   intro xs vs r
   induction r with
   | nil=>intro _; exact⟨[],PySem.W.KatTups.nil,rfl,fun _ z=>nomatch z⟩
   | @cons x v xs vs rx rt ih=>
    intro hh
    obtain ⟨fs,t1,t2,t3⟩:=ih fun y hy=>hh y (aV3 _ hy)
    obtain ⟨b,eb,sq,ne⟩:=hh x aV2
    subst eb
    cases rx
    obtain ⟨us,ru,⟨ob,e1,c1,n1,d1⟩,_⟩:=I.tuple sq
    have ia:=mW ru
    generalize key (V.ref b)=kk at ia ne
    cases ia with
    | nil=>exact absurd rfl ne
    | @cons n t vs0 ns0 ht=>
     exact⟨Value.int n t :: fs,PySem.W.KatTups.cons (keep b ob (hL sq) e1) c1 d1 (by simp) t1,by simp [t2],fun v hv=>(aU2.mp hv).elim (fun z=>⟨n,t,z⟩) (t3 v)⟩
  obtain ⟨fs,t1,t2,t3⟩:=firsts rv hk
  refine PySem.W.kat_kind (T:=.type "int") t1 (by omega) (fun v hv=>?_) (by decide) ?_
  ·obtain ⟨i,t,rfl⟩:=t3 v hv
   exact PySem.W.Looks.now
  let c:Nat->Nat->Bool:=fun i j=>HT.fH (key (ys.getD i .non)) (key (ys.getD j .non))
  have O:Srt.tH c:=⟨fun h=>zR h,fun h1 h2=>zS h1 h2⟩
  have ok:=Srt.aj7 (n:=its.length) O (by omega)
  refine Srt.cD.run (I:=fun s'=>s'={ s with heap:=h' }) (fun i j C s' hi hj hI hC=>?_) (fun pa s' hR hI=>?_) _ _ rfl ok
  ·subst hI
   obtain ⟨b1,o1,u1,n1,g1,g2,_,g4,g5,_⟩:=look i (by omega)
   obtain ⟨b2,o2,u2,n2,k1,k2,_,k4,k5,_⟩:=look j (by omega)
   show wpAny _ _ (keyLt' (tuples' (Value.type "int" != Value.type "tuple")) (its.getD i Value.none) (its.getD j Value.none)) _ _ _
   rw [g1,k1]
   have eT:(Value.type "int" != Value.type "tuple")=true:=by decide
   rw [eT]
   refine PySem.W.kat_lt g2 g4 k2 k4 ?_
   have:=zT (prog:=X.prog) (w:=X.w) (A:=X.A.in1.in1) (s:={ s with heap:=h' }) (Q:=C) 0 g5 k5 (hC _ rfl)
   simpa using this
  ·subst hI
   obtain ⟨hp,hasc⟩:=hR
   refine PySem.W.KasFin.intro F' N' (PySem.W.UpdF.head fun p hp=>aW6 (hD p hp)) fun h2 cc F2 N2=>?_
   have keep2:=I.newsAll (fun p hp=>aV3 _ hp) F2 N2
   have hDn:s.heap.get? D=none:=by
    cases z:s.heap.get? D with
    | none=>rfl
    | some o=>
     obtain ⟨_,n1,n2⟩:=N2 (D,_) aV2
     exact absurd (hD _ (wK n1 n2 z)) (aZ4 _)
   have hpl:∀ i ∈ pa.toList,i < ys.length:=fun i hi=>by
    have:=bg7.mp (hp.mem_iff.mp hi); omega
   have hp':pa.toList.Perm (List.range ys.length):=by rw [hl]; exact hp
   have pm:=aj8 (d:=V.non) ys hp'
   obtain ⟨hDo,hDL,hDb⟩:=N2 (D,_) aV2
   obtain ⟨hHD,I2⟩:=I.laidF (t':=s.toks) (a:=D) (o:=.lst (pa.toList.map fun i=>ys.getD i .non)) hDn keep2 (fun m' hm'=>by
     have e:m'=m:=funext fun nm=>Heap.Ns.agree hm' F.ns nm
     rw [e]; exact F2.ns) ⟨by rw [pm.length_eq]; exact hz,_,cc,zN rv hpl,hDo⟩
   exact⟨.ref D,_,I2,rfl,q D _ hHD pm (ak1 hp hasc fun i j hle=>hle)⟩
end L2
namespace Raw
open PySem PySem.W PySem.Calls PyProof.Rows
noncomputable def gO (h:Heap) (d:Addr) (es:Array DictEntry) (ep:Nat):Prop:=∃ o,h.get? d=some o/\o.ExactDict/\o.data = .dict es ep
theorem gO.ty {s:Shared}{d:Addr}{es:Array DictEntry}{ep:Nat} (x:gO s.heap d es ep):s.TypeIs (.ref d) "dict":=x.elim fun o y=>⟨o,y.1,y.2.1.1⟩
theorem gO.lt {h:Heap}{d:Addr}{es:Array DictEntry}{ep:Nat} (x:gO h d es ep):d < h.objs.size:=x.elim fun _ y=>aU8 y.1
theorem gO.keep {h h':Heap}{d:Addr}{es:Array DictEntry}{ep:Nat} (x:gO h d es ep) (k:∀ o,h.get? d=some o->h'.get? d=some o):gO h' d es ep:=x.elim fun o y=>⟨o,k o y.1,y.2⟩
section
variable {prog : Program} {w : World} {A : Around} {E : Value → Shared → Prop} {s : Shared} {d it : Addr} {es : Array DictEntry} {ep i : Nat}
theorem made (far:(d == sysModules)=false) (x:gO s.heap d es ep) {Q:Value->Shared->Prop}
  (q:Q (.ref s.heap.objs.size) { s with heap:=s.heap.push { cls:=.type "dict_keyiterator",data:=.fields #[.ref d,.int 0 0,.int es.size 0,.int ep 0] } }):wpAny (model prog w) A (pyIter (.ref d)) Q E s:=by
 have T:=x.ty
 obtain ⟨o,e1,e2,e3⟩:=x
 apply wpAny_pyIter_slot T PySem.F.slot_dict_iter
 apply aW5 PySem.F.slot_dict_iter T PySem.F.entry_dict_iter _ (PySem.F.args_dict_iter_1 _)
 simp only [Builtin.«dict.__iter__»,Builtin.Dict.dictSlotNone]
 apply aT3
 apply aT3
 apply wpAny_notOrdered_dict T
 apply aT6
 change wpAny _ _ (Builtin.Dict.showsAll d >>= _) _ _ s
 have far':Builtin.Dict.showsAll d=pure ():=by
  unfold Builtin.Dict.showsAll
  simp only [far,aW1,bb6]
 rw [far',pure_bind]
 apply aT3
 apply wpAny_dictEntries e1 e3
 apply aT3
 apply wpAny_dictEpoch e1 e3
 apply aT3
 refine aW2 (aT6 ?_)
 refine⟨.ref s.heap.objs.size,rfl,"dict_keyiterator",_,⟨_,aU0 _ rfl,rfl⟩,PySem.F.slot_dict_keyiterator_next.lookup,?_⟩
 simpa only [rawInt] using q
theorem turn (hh:A.handled=none) (hi:s.heap.IsKeyIter it d i es.size ep) (x:gO s.heap d es ep) {Q:Option Value->Shared->Prop}
  (yes:∀ (lt:i < es.size) h',h'.IsKeyIter it d (i+1) es.size ep->Heap.SameBut it s.heap h'->Q (some es[i].key) { s with heap:=h' })
  (no:es.size<=i->∀ h',Heap.ExtBut it s.heap h'->Q none { s with heap:=h' }):wpAny (model prog w) A (pyNext (.ref it)) Q E s:=by
 have T:=hi.typeIs
 obtain ⟨oi,f1,f2,f3⟩:=hi
 obtain ⟨o,e1,e2,e3⟩:=x
 have slot:=PySem.F.slot_dict_keyiterator_next
 have plain:Builtin.Dict_items.ownsTuple "dict_keyiterator" = false:=by decide
 have isref:(Value.ref d == Value.none)=false:=rfl
 have nn : ¬ (i:Int) < 0:=by omega
 unfold pyNext
 apply aT3
 apply bc9
 apply aW7 (name:=Str.ofString "__next__") T slot
 apply aW5 slot T PySem.F.entry_dict_keyiterator_next _ (PySem.F.args_dict_keyiterator_next_1 _)
 apply aT3
 apply aT6
 apply aT3
 apply aT3
 apply aT3
 first
  | apply wpAny_typeNameOfWhole_keyiter T
  | apply wpAny_typeNameOf_keyiter T
 apply aT6
 apply aT3
 apply wpAny_fieldsOf f1 f3
 simp only [plain,aW1,bb6]
 change wpAny _ _ (if (Value.ref d == Value.none)=true then _ else _) _ _ s
 have adr:Builtin.Dict_items.addrOf (Value.ref d)=pure d:=rfl
 simp only [isref,aW1,bb6,adr,pure_bind]
 apply aT3
 apply wpAny_dictEntries e1 e3
 simp only [bne_self_eq_false,aW1,bb6]
 apply aT3
 apply wpAny_dictEpoch e1 e3
 simp only [bne_self_eq_false,aW1,bb6]
 apply aT6
 simp only [nn,bb6,bd2]
 by_cases lt:i < es.size
 ·simp only [aX4 lt]
  apply aT3
  apply aT3
  first
   | apply wpAny_typeNameOfWhole_keyiter T
   | apply wpAny_typeNameOf_keyiter T
  apply aT6
  apply aT3
  apply wpAny_isOneOf_keyiter T
  change wpAny _ _ (setField (.ref it) 1 (rawInt ((i:Int)+1)) >>= _) _ _ s
  apply aT3
  refine bc7 f1 f3 (by simp) ?_
  have again:(s.heap.update it (Obj.mapFields (·.setIfInBounds 1 (rawInt ((i:Int)+1))))).IsKeyIter it d (i+1) es.size ep:=by
   refine⟨_,aX6 _ f1 (Obj.isFreed_of_fields (be6 f3 _)),?_,?_⟩
   ·rw [Obj.cls_mapFields]; exact f2
   ·rw [be6 f3]; simp [rawInt]
  apply aT3
  apply ba5
  apply aT3
  refine wpAny_isOneOf_keyiter (s:={ s with heap:=s.heap.update it (Obj.mapFields (·.setIfInBounds 1 (rawInt ((i:Int)+1)))) }) again.typeIs ?_
  change wpAny _ _ (pure es[i].key) _ _ _
  apply aT6
  apply aT6
  exact⟨es[i].key,rfl,aT6 (yes lt _ again (aZ3 ..))⟩
 ·have ge:es.size<=i:=bi2 lt
  simp only [bf3 ge]
  apply aT3
  apply aT3
  first
   | apply wpAny_typeNameOfWhole_keyiter T
   | apply wpAny_typeNameOf_keyiter T
  apply aT6
  change wpAny _ _ (setField (.ref it) 0 .none >>= _) _ _ s
  apply aT3
  refine bc7 f1 f3 (by simp) ?_
  apply aT3
  simp only [newExc,newTuple]
  apply aT3
  refine aW2 ?_ (by size_fits)
  apply aT3
  refine be7 (a:=Value.none) (by first | rfl | (simp only [firstArgMember]; rfl)) ?_
  refine aW2 ?_ (by size_fits)
  unfold raiseNew
  apply aT3
  apply wpAny_handled
  have quiet:A.in1.handled=none:=hh
  rw [quiet]
  refine wpAny_throw ?_
  apply aT3
  refine be8 (T:="StopIteration") (b:=true) ⟨_,aU0 _ rfl,rfl⟩ bk7 ?_
  exact aT6 (no ge _ (((aZ3 ..).extBut.push _).push _))
theorem ak3 (hh:A.handled=none) (ne:d ≠ it):Walks prog w A it [it,d] [it] es.size (fun i v=>∃ lt:i < es.size,es[i].key=v) (fun i h=>h.IsKeyIter it d i es.size ep/\gO h d es ep) where
 sub:=by intro b hb; rw [aU3.mp hb]; exact aV2
 frame:=by
  intro i h h' st hk
  exact⟨st.1.at (hk it aV2),st.2.keep (hk d (aV3 _ aV2))⟩
 item:=by
  intro i s Q E lt st hQ
  refine turn hh st.1 st.2 (fun lt' h' again sb=>?_) fun ge=>absurd lt (Nat.not_lt.mpr ge)
  exact hQ _ h' s.toks ⟨lt',rfl⟩ ⟨again,st.2.keep fun o e=>sb.extBut d o ne e⟩ fun b o hb e=>sb.extBut b o (fun z=>hb (aU3.mpr z)) e
 done:=by
  intro s Q E st hQ
  refine turn hh st.1 st.2 (fun lt=>absurd lt (aZ4 _)) fun _ h' eb=>?_
  exact hQ h' s.toks fun b o hb e=>eb b o (fun z=>hb (aU3.mpr z)) e
 self:=by intro i s Q E st hQ; exact wpAny_pyIter_keyiter st.1 hQ
theorem ak4 (far:(d == sysModules)=false):KdlSrc prog w "dict" d d es.size (fun i v=>∃ lt:i < es.size,es[i].key=v) (fun h=>gO h d es ep) where
 type:=fun _ x=>x.ty
 there:=fun _ x=>⟨x.lt,x.lt⟩
 keep:=fun _ _ x k=>x.keep (k d (.inl rfl))
 notList:=by decide
 notTuple:=by decide
 hint:=fun _ _ _ _ x q=>kdl_hint_dict x.ty q
 iter:=fun _ _ hh x=>⟨_,_,fun _ _ q=>made far x q,ak3 hh (aW6 x.lt),⟨_,aU0 _ rfl,rfl,rfl⟩,x.keep fun o e=>aT5 _ e⟩
end
end Raw
namespace L2
open PySem PySem.Spec PyProof.Rows
section
variable {X : Cx} {pins : List (Addr × Obj)} {σ : St} {H : Hp} {s : Shared} {a : Addr}
noncomputable def pE (H:Hp) (y:V) (k:List aS):Prop:=∃ q,y = .ref q/\H q=some (.tup (k.map kV))
theorem ak5 {kvs:List (List aS × V)} (I:a7 X pins σ H s) (h:H a=some (.dT kvs)):∃ es ep ys,Raw.gO s.heap a es ep/\(a == sysModules)=false/\Paired (pE H) ys (kvs.map (·.1))/\aJ ys (es.toList.map (·.key))/\kvs.length<=sizeLine:=by
 obtain ⟨z,far,xs,rel,o,es,ep,e1,e2,e3,e4,nd⟩:=(show bO X.prog X.w H s.heap a (.dT kvs) from I.hok a _ h)
 refine⟨es,ep,xs.map fun q=>V.ref q.2.1,⟨o,e1,e2,e3⟩,far,?_,?_,z⟩
 ·clear e4 nd h z
  induction rel with
  | nil=>exact .nil
  | cons r rs ih=>exact .cons ⟨_,rfl,r.2.1⟩ ih
 ·rw [e4]
  clear rel e4 nd
  induction xs with
  | nil=>exact .nil
  | cons q qs ih=>exact .cons rfl ih
theorem ak6 {es:Array DictEntry}{acc:Array Value} (h:ItemsOf (fun i v=>∃ lt:i < es.size,es[i].key=v) acc es.size):acc.toList=es.toList.map (·.key):=by
 apply List.ext_getElem?
 intro j
 have h1:=h.1
 by_cases hj:j < es.size
 ·have hj':j < acc.size:=by rw [h1]; exact hj
  obtain ⟨_,e⟩:=h.2 j acc[j] (by simp [hj'])
  rw [aV5]
  simp [hj,hj',e]
 ·have hj' : ¬ j < acc.size:=by rw [h1]; exact hj
  rw [aV5]
  simp [bi2 hj,bi2 hj']
theorem ak7 (hc:X.calm=true):cO X (.type "list") (fun xs H Q=>∃ a kvs,xs = [.ref a]/\H a=some (.dT kvs)/\∀ l ys,H l=none->Paired (pE H) ys (kvs.map (·.1))->Q (.ref l) (upd H l (.lst ys))):=by
 intro pins s σ H xs us Q I r h
 obtain ⟨a,kvs,rfl,ha,q⟩:=h
 obtain ⟨u,rfl,ru⟩:=fU r
 cases ru
 obtain ⟨es,ep,ys,rd,far,pk,vk,z⟩:=ak5 I ha
 have hl:=vk.length
 have hl2:=pk.length
 rw [aU7] at hl hl2
 have hsz:es.toList.length=es.size:=aV7
 refine PySem.W.kdl_call (Raw.ak4 far) (I.ok.hd hc) rd (by omega) fun h' tk acc c kp e it=>?_
 refine⟨.ref s.heap.objs.size,_,I.laid (t':=tk) kp (aT9 _) (show bO X.prog X.w _ h' _ (.lst ys) from ⟨by omega,acc.toList,c,by rw [ak6 it]; exact vk,by simpa using e⟩),rfl,q _ ys (I.hok.fresh (aT9 _)) pk⟩
end
section
variable {X : Cx}
theorem ak8:cO X (.builtin "isinstance") (fun xs H Q=>∃ x t n b,xs = [x,.ty n]/\fG X.K H x t/\PySem.W.kitOne X.K t (.type n)=some b/\Q (.bl b) H):=by
 intro pins s σ H xs us Q I r h
 obtain ⟨x,t,n,b,rfl,ty,e,q⟩:=h
 obtain ⟨u,u',rfl,ru,ru'⟩:=mT r
 cases ru'
 exact ad6 I ru ty e fun tk=>⟨.bl b,H,I.tok tk,rfl,q⟩
end
noncomputable def zV (outer:List (Str × NameKind)) (XN:List Str) (names:List (Str × NameKind)) (N:List Str) (fr:List (Option Nat)):Bool:=
 names.all (fun y=>!(y.2 == .cell) || names.lookup y.1 == some .cell) && names.all (fun y=>!(y.2 == .local) || names.lookup y.1 == some .local) &&
 names.all (fun y=>!(y.2 == .free) || (outer.lookup y.1 == some .cell || outer.lookup y.1 == some .free)) && fr.length == N.length &&
 (fr.zip N).all (fun p=>match p.1 with
  | none=>true
  | some j=>XN[j]? == some p.2 && names.lookup p.2 == some .free)
theorem dD.of {X:Cx}{scope:Scope}{N:List Str}{fr:List (Option Nat)} (hk:scope.kind = .function) (h:zV X.env.scope.names X.N scope.names N fr=true):dD X scope N fr:=by
 unfold zV at h
 simp only [aX3] at h
 obtain ⟨⟨⟨⟨h1,h2⟩,h3⟩,h4⟩,h5⟩:=h
 refine⟨hk,fun y hy e=>?_,fun y hy e=>?_,fun y hy e=>?_,by simpa using h4,fun i j e=>?_⟩
 ·have:=aY3.mp h1 y hy
  rw [e] at this; simpa using this
 ·have:=aY3.mp h2 y hy
  rw [e] at this; simpa using this
 ·have:=aY3.mp h3 y hy
  rw [e] at this; simpa using this
 ·have hl:fr.length=N.length:=by simpa using h4
  have hi:i < fr.length:=(aV0.mp e).1
  have m:(some j,N[i]'(by omega)) ∈ fr.zip N:=by
   have:(fr.zip N)[i]? = some (some j,N[i]'(by omega)):=by
    rw [List.getElem?_zip_eq_some]
    exact⟨e,by simp⟩
   exact aY4 this
  have:=aY3.mp h5 _ m
  simp only [aX3,beq_iff_eq] at this
  exact⟨N[i]'(by omega),by simp,this.1,this.2⟩
theorem wk0 {n:Option V}{r:St}{v:V}:Wk (none :: r) (some v :: r):=(Wk.refl (none :: r)).set (i:=0) rfl
noncomputable def nL (H:Hp) (ys:List V) (ls:List (Int × Int)):Prop:=Paired (fun y l=>∃ b,y = .ref b/\H b=some (.tup [.int l.1,.int l.2])) ys ls
structure zW (H:Hp) (v:V) (ws:List Int) (ls:List (Int × Int)):Prop where
 at_:∃ a p q ys,v = .ref a/\H a=some (.tup [.ref p,.ref q])/\H p=some (.tup (ws.map V.int))/\H q=some (.tup ys)/\nL H ys ls
theorem nL.get {H:Hp}:∀ {ys:List V}{ls:List (Int × Int)}{i:Nat}{y:V},nL H ys ls->ys[i]? = some y->∃ l b,ls[i]? = some l/\y = .ref b/\H b=some (.tup [.int l.1,.int l.2])
 | _,_,_,_,.nil,e=>by simp at e
 | _,_,0,_,.cons (b:=l) ⟨b,h1,h2⟩ _,e=>by simp at e; subst e; exact⟨l,b,rfl,h1,h2⟩
 | _,_,i+1,_,.cons _ t,e=>by
  obtain ⟨l,b,h1,h2⟩:=nL.get (i:=i) t (by simpa using e)
  exact⟨l,b,by simpa using h1,h2⟩
noncomputable def b8 (ls:List (Int × Int)) (k:Int):List Int:=ls.flatMap fun l=>(if l.1=k then [l.2] else []) ++ (if l.2=k then [l.1] else [])
theorem ak9 (ls:List (Int × Int)) (l:Int × Int) (k:Int):b8 (ls ++ [l]) k=b8 ls k ++ ((if l.1=k then [l.2] else []) ++ (if l.2=k then [l.1] else [])):=by
 unfold b8; rw [List.flatMap_append]; simp
theorem zX {ls:List (Int × Int)}{i:Nat}{l:Int × Int} (h:ls[i]? = some l) (k:Int):b8 (ls.take (i+1)) k=b8 (ls.take i) k ++ ((if l.1=k then [l.2] else []) ++ (if l.2=k then [l.1] else [])):=by
 rw [bh3,h]; exact ak9 _ _ _
structure j7 (H H':Hp) (r:Addr) (bs:List Addr) (f:Nat->List Int):Prop where
 new:H r=none
 news:∀ b ∈ bs,H b=none/\b ≠ r
 nd:bs.Nodup
 row:H' r=some (.lst (bs.map V.ref))
 rows:∀ (k:Nat) (b:Addr),bs[k]? = some b->H' b=some (.lst ((f k).map V.int))
 same:aE H H'
theorem j7.congr {H H':Hp}{r:Addr}{bs:List Addr}{f g:Nat->List Int} (h:j7 H H' r bs f) (e:∀ k,k < bs.length->f k=g k):j7 H H' r bs g:=
 ⟨h.new,h.news,h.nd,h.row,fun k b hb=>by rw [<- e k (aV0.mp hb).1]; exact h.rows k b hb,h.same⟩
theorem j7.app {H H':Hp}{r:Addr}{bs:List Addr}{f:Nat->List Int} (h:j7 H H' r bs f) {k:Nat}{b:Addr} (hb:bs[k]? = some b) (x:Int) :
  j7 H (upd H' b (.lst ((f k).map V.int ++ [V.int x]))) r bs (fun j=>if j=k then f j ++ [x] else f j):=by
 have hm:b ∈ bs:=aY4 hb
 refine⟨h.new,h.news,h.nd,by rw [aQ (Ne.symm (h.news b hm).2)]; exact h.row,fun j c hc=>?_,fun c o e=>by rw [aQ (cF e (h.news b hm).1)]; exact h.same c o e⟩
 by_cases hj:j=k
 ·subst hj
  rw [hb] at hc; cases hc
  rw [bI,if_pos rfl]; simp
 ·rw [if_neg hj]
  have ne:c ≠ b:=fun z=>by
   subst z
   obtain ⟨i1,e1⟩:=aV0.mp hb
   obtain ⟨i2,e2⟩:=aV0.mp hc
   refine hj (Nat.le_antisymm (bi2 fun z=>?_) (bi2 fun z=>?_))
   ·exact bc1.mp h.nd _ _ i1 i2 z (e1.trans e2.symm)
   ·exact bc1.mp h.nd _ _ i2 i1 z (e2.trans e1.symm)
  rw [aQ ne]; exact h.rows j c hc
theorem tM (ls:List (Int × Int)) (k:Int):(b8 ls k).length<=2 * ls.length:=by
 induction ls with
 | nil=>exact aT9 _
 | cons l r ih=>
  have e:b8 (l :: r) k=((if l.1=k then [l.2] else []) ++ (if l.2=k then [l.1] else [])) ++ b8 r k:=rfl
  rw [e,aU6,aU6,aZ6]
  have h1:(if l.1=k then [l.2] else []).length<=1:=by split <;> simp
  have h2:(if l.2=k then [l.1] else []).length<=1:=by split <;> simp
  omega
theorem lN {α:Type}{xs:List α}{i:Int}{v:α} (h0:0<=i) (h:xs[i.toNat]? = some v):atI xs i=some v:=by
 have:=mX h
 rwa [show ((i.toNat:Nat):Int)=i by omega] at this
theorem j8 {n:Nat} (h:n<=16000000):n < sizeLine:=by rw [sizeLine_eq]; omega
theorem pF {σ:St}{H:Hp}{A B:Hp->Prop} (h:A H):t6 σ H fun b H4=>if b=true then A H4 else B H4:=by
 show if true=true then A H else B H
 rw [if_pos rfl]; exact h
theorem kI {K:PySem.W.Frag}{H:Hp}{p:Addr}{xs:List V} (h:aK K H p xs):hU K "list" (.ref p) H:=.inl ⟨rfl,xs,h⟩
end L2
namespace Zp
open PySem PyProof.Rows
section
variable {prog : Program} {w : World} {A : Around} {E : Value → Shared → Prop} {s : Shared}
theorem zY {it t:Addr}{i:Nat}{items:Array Value}{x:Value}{Q:Value->Shared->Prop} (hi:s.heap.IsTupleIter it t i) (ht:s.heap.IsTuple t items) (hx:items[i]? = some x)
  (q:∀ h',h'.IsTupleIter it t (i+1)->Heap.SameBut it s.heap h'->Q x { s with heap:=h' }):wpAny (model prog w) A (Builtin.SmallTypes.nextOf (.ref it)) Q E s:=by
 have T:=hi.typeIs
 obtain ⟨o,e1,e2,e3⟩:=hi
 obtain ⟨u,f1,_,k,f3⟩:=ht
 have slot:=PySem.F.slot_tuple_iterator_next
 have isref:(Value.ref t == Value.none)=false:=rfl
 unfold Builtin.SmallTypes.nextOf
 apply aT3
 apply aW7 (name:=Str.ofString "__next__") T slot
 apply aW5 slot T PySem.F.entry_tuple_iterator_next _ (PySem.F.args_tuple_iterator_next_1 _)
 change wpAny _ _ (field (.ref it) 0 >>= _) _ _ s
 apply aT3
 refine aX9 e1 e3 (x:=.ref t) rfl ?_
 change wpAny _ _ (if (Value.ref t == Value.none)=true then _ else _) _ _ s
 simp only [isref,aW1,bb6]
 change wpAny _ _ (field (.ref it) 1 >>= _) _ _ s
 apply aT3
 refine aX9 e1 e3 (x:=.int i 0) rfl ?_
 change wpAny _ _ (seqItems? (.ref t) >>= _) _ _ s
 apply aT3
 apply bi8 f1 f3
 simp only [bd2,hx]
 apply aT3
 refine bc7 e1 e3 (by simp) ?_
 apply aT6
 refine⟨x,rfl,aT6 (q _ ⟨_,aX6 _ e1 (Obj.isFreed_of_fields (be6 e3 _)),?_,?_⟩ (aZ3 ..))⟩
 ·rw [Obj.cls_mapFields]; exact e2
 ·rw [be6 e3]; simp [rawInt]
theorem zZ {it t:Addr}{i:Nat}{items:Array Value}{Q:Value->Shared->Prop} (hh:A.handled=none) (hi:s.heap.IsTupleIter it t i) (ht:s.heap.IsTuple t items) (hx:items[i]? = none)
  (q:∀ h' e,Heap.ExtBut it s.heap h'->(∃ o,h'.get? e=some o/\o.cls = .type "StopIteration")->E (.ref e) { s with heap:=h' }):wpAny (model prog w) A (Builtin.SmallTypes.nextOf (.ref it)) Q E s:=by
 have T:=hi.typeIs
 obtain ⟨o,e1,e2,e3⟩:=hi
 obtain ⟨u,f1,_,k,f3⟩:=ht
 have slot:=PySem.F.slot_tuple_iterator_next
 have isref:(Value.ref t == Value.none)=false:=rfl
 unfold Builtin.SmallTypes.nextOf
 apply aT3
 apply aW7 (name:=Str.ofString "__next__") T slot
 apply aW5 slot T PySem.F.entry_tuple_iterator_next _ (PySem.F.args_tuple_iterator_next_1 _)
 change wpAny _ _ (field (.ref it) 0 >>= _) _ _ s
 apply aT3
 refine aX9 e1 e3 (x:=.ref t) rfl ?_
 change wpAny _ _ (if (Value.ref t == Value.none)=true then _ else _) _ _ s
 simp only [isref,aW1,bb6]
 change wpAny _ _ (field (.ref it) 1 >>= _) _ _ s
 apply aT3
 refine aX9 e1 e3 (x:=.int i 0) rfl ?_
 change wpAny _ _ (seqItems? (.ref t) >>= _) _ _ s
 apply aT3
 apply bi8 f1 f3
 simp only [bd2,hx]
 apply aT3
 apply bk2
 apply aT3
 refine bc7 e1 e3 (by simp) ?_
 apply aT3
 simp only [newExc,newTuple]
 apply aT3
 refine aW2 ?_ (by size_fits)
 apply aT3
 refine be7 (a:=Value.none) (by first | rfl | (simp only [firstArgMember]; rfl)) ?_
 refine aW2 ?_ (by size_fits)
 unfold raiseNew
 apply aT3
 apply wpAny_handled
 have quiet:A.in1.handled=none:=hh
 rw [quiet]
 refine wpAny_throw ?_
 exact q _ _ (((aZ3 ..).extBut.push _).push _) ⟨_,aU0 _ rfl,rfl⟩
theorem al0 (hh:A.handled=none) (it t:Addr) (ne:t ≠ it) (items:Array Value):Draws prog w A it [it,t] items.size (fun i v=>items[i]? = some v) (fun i h=>h.IsTupleIter it t i/\h.IsTuple t items) where
 live:=fun _ _ st=>st.1.elim fun o y=>⟨o,y.1⟩
 frame:=fun _ _ _ st k=>⟨st.1.at fun o e=>k it aV2 o e,st.2.elim fun o y=>⟨o,k t (aV3 _ aV2) o y.1,y.2⟩⟩
 item:=fun i s Q E lt st q=>zY st.1 st.2 (aX4 lt) fun h' again sb=>q _ h' s.toks (aX4 lt) ⟨again,st.2.elim fun o y=>⟨o,sb.extBut t o ne y.1,y.2⟩⟩ sb
 done:=fun s Q E st q=>zZ hh st.1 st.2 (bf3 (aT9 _)) q
end
structure Ap (z TI TO i1 i2:Addr) (fp1 fp2:List Addr):Prop where
 TIz:TI ≠ z
 TOz:TO ≠ z
 TITO:TI ≠ TO
 z1:z ∉ fp1
 z2:z ∉ fp2
 o1:TO ∉ fp1
 o2:TO ∉ fp2
 t1:TI ∉ fp1
 t2:TI ∉ fp2
 m1:i1 ∈ fp1
 m2:i2 ∈ fp2
 n1:i1 ∉ fp2
 n2:i2 ∉ fp1
structure tN (z TI TO i1 i2:Addr) (St1 St2:Nat->Heap->Prop) (f0:Value) (i j:Nat) (h:Heap):Prop where
 zz:IsZip h z TI TO f0
 ti:IsPair h TI (.ref i1) (.ref i2)
 to_:∃ a b,IsPair h TO a b
 s1:St1 i h
 s2:St2 j h
section
variable {prog : Program} {w : World} {A : Around} {E : Value → Shared → Prop} {s : Shared} {z TI TO i1 i2 : Addr} {fp1 fp2 : List Addr} {n1 n2 : Nat} {P1 P2 : Nat → Value → Prop} {St1 St2 : Nat → Heap → Prop}
theorem lO (ap:Ap z TI TO i1 i2 fp1 fp2) {b:Addr} (h:b ∉ fp1):b ≠ i1:=fun e=>h (e ▸ ap.m1)
theorem pG (ap:Ap z TI TO i1 i2 fp1 fp2) {b:Addr} (h:b ∉ fp2):b ≠ i2:=fun e=>h (e ▸ ap.m2)
theorem item (D1:Draws prog w A.in1 i1 fp1 n1 P1 St1) (D2:Draws prog w A.in1 i2 fp2 n2 P2 St2) (ap:Ap z TI TO i1 i2 fp1 fp2) {i:Nat} (l1:i < n1) (l2:i < n2) (st:tN z TI TO i1 i2 St1 St2 .none i i s.heap) {Q:Option Value->Shared->Prop}
  (q:∀ x y h' tk,P1 i x->P2 i y->tN z TI TO i1 i2 St1 St2 (rawInt s.heap.objs.size) (i+1) (i+1) h'->IsPair h' s.heap.objs.size x y->(∀ c o,c ≠ z->c ≠ TO->c ≠ i1->c ≠ i2->s.heap.get? c=some o->h'.get? c=some o)->
   h'.objs.size=s.heap.objs.size+1->Q (some (.ref s.heap.objs.size)) { s with heap:=h',toks:=tk }):wpAny (model prog w) A (pyNext (.ref z)) Q E s:=by
 obtain ⟨hz,hti,⟨a,b,hto⟩,h1,h2⟩:=st
 have T:s.TypeIs (.ref z) "zip":=⟨_,hz,rfl⟩
 have slot:=PySem.F.slot_zip_next
 unfold pyNext
 apply aT3
 apply bc9
 apply aW7 (name:=Str.ofString "__next__") T slot
 apply aW5 slot T PySem.F.entry_zip_next _ (PySem.F.args_zip_next_1 _)
 change wpAny _ _ (field (.ref z) 2 >>= _) _ _ _
 apply aT3
 refine aX9 hz rfl (x:=.bool false) rfl ?_
 change wpAny _ _ (field (.ref z) 3 >>= _) _ _ _
 apply aT3
 refine aX9 hz rfl (x:=.ref TI) rfl ?_
 apply aT3
 apply bi8 hti rfl
 change wpAny _ _ (Builtin.SmallTypes.ownedTupleIsFree (.ref z) >>= _) _ _ _
 apply aT3
 unfold Builtin.SmallTypes.ownedTupleIsFree
 apply aT3
 refine aX9 hz rfl (x:=.none) rfl (aT6 ?_)
 simp only [if_true]
 apply aT3
 apply bk2
 apply aT3
 refine aX9 hz rfl (x:=.ref TO) rfl ?_
 apply aT3
 refine bb5 hz (by simp) fun g1 hz1 sb1=>?_
 have k1:∀ c o,c ≠ z->s.heap.get? c=some o->g1.get? c=some o:=fun c o c1 e=>sb1.extBut c o c1 e
 apply aT3
 simp only [List.zipIdx_cons,List.zipIdx_nil,List.forIn_cons,List.forIn_nil]
 apply aT3
 apply aT3
 apply wpAny_onRaise
 change wpAny _ _ (Builtin.SmallTypes.nextOf (.ref i1) >>= _) _ _ _
 apply aT3
 refine D1.item i { s with heap:=g1 } _ _ l1 (D1.frame _ _ _ h1 fun c hc o e=>k1 c o (fun y=>ap.z1 (y ▸ hc)) e) fun x g2 tk2 px st1 sb2=>aT6 ?_
 have k2:∀ c o,c ≠ z->c ≠ i1->s.heap.get? c=some o->g2.get? c=some o:=fun c o c1 c2 e=>sb2.extBut c o c2 (k1 c o c1 e)
 have to2:IsPair g2 TO a b:=k2 _ _ ap.TOz (lO ap ap.o1) hto
 apply aT3
 apply bi8 to2 rfl
 apply aT3
 refine wpAny_updateSeq_pair to2 fun g3 to3 sb3=>?_
 have to3:IsPair g3 TO x b:=to3
 apply aT3
 apply wpAny_letGo
 apply aT6
 apply aT3
 apply aT3
 apply wpAny_onRaise
 change wpAny _ _ (Builtin.SmallTypes.nextOf (.ref i2) >>= _) _ _ _
 apply aT3
 have k3:∀ c o,c ≠ z->c ≠ i1->c ≠ TO->s.heap.get? c=some o->g3.get? c=some o:=fun c o c1 c2 c3 e=>sb3.extBut c o c3 (k2 c o c1 c2 e)
 refine D2.item i { s with heap:=g3,toks:=tk2 } _ _ l2 (D2.frame _ _ _ h2 fun c hc o e=>k3 c o (fun y=>ap.z2 (y ▸ hc)) (fun y=>ap.n1 (y ▸ hc)) (fun y=>ap.o2 (y ▸ hc)) e) fun y g4 tk4 py st2 sb4=>aT6 ?_
 have to4:IsPair g4 TO x b:=sb4.extBut _ _ (pG ap ap.o2) to3
 apply aT3
 apply bi8 to4 rfl
 apply aT3
 refine wpAny_updateSeq_pair to4 fun g5 to5 sb5=>?_
 have to5:IsPair g5 TO x y:=to5
 apply aT3
 apply wpAny_letGo
 apply aT6
 apply aT6
 apply aT3
 apply bi8 to5 rfl
 apply aT3
 refine wpAny_newTuple ?_ (by show 2<=sizeLine; decide)
 have size:g5.objs.size=s.heap.objs.size:=by rw [sb5.1,sb4.1,sb3.1,sb2.1,sb1.1]
 have k5:∀ c o,c ≠ z->c ≠ TO->c ≠ i1->c ≠ i2->s.heap.get? c=some o->g5.get? c=some o:=fun c o c1 c2 c3 c4 e=>sb5.extBut c o c2 (sb4.extBut c o c4 (k3 c o c1 c3 c2 e))
 have z5:IsZip g5 z TI TO .ellipsis:=sb5.extBut _ _ (Ne.symm ap.TOz) (sb4.extBut _ _ (pG ap ap.z2) (sb3.extBut _ _ (Ne.symm ap.TOz) (sb2.extBut _ _ (lO ap ap.z1) hz1)))
 change wpAny _ _ (Builtin.SmallTypes.ownedTupleHandOut (.ref z) (.ref g5.objs.size) >>= _) _ _ _
 apply aT3
 unfold Builtin.SmallTypes.ownedTupleHandOut
 apply aT3
 have z6:IsZip (g5.push { cls:=.type "tuple",data:=.seq #[x,y] }) z TI TO .ellipsis:=aT5 _ z5
 refine bb5 z6 (by simp) fun g7 z7 sb7=>?_
 have z7:IsZip g7 z TI TO (rawInt g5.objs.size):=z7
 refine bb5 z7 (by simp) fun g8 z8 sb8=>?_
 have z8:IsZip g8 z TI TO (rawInt g5.objs.size):=z8
 have zlt:z < g5.objs.size:=aU8 z5
 have up:∀ c o,c ≠ z->g5.get? c=some o->g8.get? c=some o:=fun c o c1 e=>sb8.extBut c o c1 (sb7.extBut c o c1 (aT5 _ e))
 have p8:IsPair g8 g5.objs.size x y:=sb8.extBut _ _ (bb2 zlt) (sb7.extBut _ _ (bb2 zlt) (aU0 _ rfl))
 have s8:g8.objs.size=g5.objs.size+1:=by rw [sb8.1,sb7.1,bd6]
 have f1:St1 (i+1) g8:=D1.frame _ _ _ st1 fun c hc o e=>up c o (fun y=>ap.z1 (y ▸ hc)) (sb5.extBut c o (fun y=>ap.o1 (y ▸ hc)) (sb4.extBut c o (fun y=>ap.n2 (y ▸ hc)) (sb3.extBut c o (fun y=>ap.o1 (y ▸ hc)) e)))
 have f2:St2 (i+1) g8:=D2.frame _ _ _ st2 fun c hc o e=>up c o (fun y=>ap.z2 (y ▸ hc)) (sb5.extBut c o (fun y=>ap.o2 (y ▸ hc)) e)
 have ti8:IsPair g8 TI (.ref i1) (.ref i2):=up _ _ ap.TIz (k5 _ _ ap.TIz ap.TITO (lO ap ap.t1) (pG ap ap.t2) hti)
 rw [size] at z8 p8 s8
 apply aT6
 refine⟨_,rfl,aT6 ?_⟩
 change Q (some (.ref g5.objs.size)) _
 rw [size]
 exact q x y g8 tk4 px py ⟨z8,ti8,⟨x,y,up _ _ ap.TOz to5⟩,f1,f2⟩ p8 (fun c o c1 c2 c3 c4 e=>up c o c1 (k5 c o c1 c2 c3 c4 e)) s8
theorem fin (D1:Draws prog w A.in1 i1 fp1 n1 P1 St1) (D2:Draws prog w A.in1 i2 fp2 n2 P2 St2) (ap:Ap z TI TO i1 i2 fp1 fp2) {i:Nat} (le:i=n1 ∨ (i < n1/\i=n2)) (st:tN z TI TO i1 i2 St1 St2 .none i i s.heap) {Q:Option Value->Shared->Prop}
  (q:∀ h' tk,(∀ c o,c ≠ z->c ≠ TO->c ≠ i1->c ≠ i2->s.heap.get? c=some o->h'.get? c=some o)->Q none { s with heap:=h',toks:=tk }):wpAny (model prog w) A (pyNext (.ref z)) Q E s:=by
 obtain ⟨hz,hti,⟨a,b,hto⟩,h1,h2⟩:=st
 have T:s.TypeIs (.ref z) "zip":=⟨_,hz,rfl⟩
 have slot:=PySem.F.slot_zip_next
 unfold pyNext
 apply aT3
 apply bc9
 apply aW7 (name:=Str.ofString "__next__") T slot
 apply aW5 slot T PySem.F.entry_zip_next _ (PySem.F.args_zip_next_1 _)
 change wpAny _ _ (field (.ref z) 2 >>= _) _ _ _
 apply aT3
 refine aX9 hz rfl (x:=.bool false) rfl ?_
 change wpAny _ _ (field (.ref z) 3 >>= _) _ _ _
 apply aT3
 refine aX9 hz rfl (x:=.ref TI) rfl ?_
 apply aT3
 apply bi8 hti rfl
 change wpAny _ _ (Builtin.SmallTypes.ownedTupleIsFree (.ref z) >>= _) _ _ _
 apply aT3
 unfold Builtin.SmallTypes.ownedTupleIsFree
 apply aT3
 refine aX9 hz rfl (x:=.none) rfl (aT6 ?_)
 simp only [if_true]
 apply aT3
 apply bk2
 apply aT3
 refine aX9 hz rfl (x:=.ref TO) rfl ?_
 apply aT3
 refine bb5 hz (by simp) fun g1 hz1 sb1=>?_
 have k1:∀ c o,c ≠ z->s.heap.get? c=some o->g1.get? c=some o:=fun c o c1 e=>sb1.extBut c o c1 e
 apply aT3
 simp only [List.zipIdx_cons,List.zipIdx_nil,List.forIn_cons,List.forIn_nil]
 apply aT3
 apply aT3
 apply wpAny_onRaise
 change wpAny _ _ (Builtin.SmallTypes.nextOf (.ref i1) >>= _) _ _ _
 apply aT3
 have z1:IsZip g1 z TI TO .ellipsis:=hz1
 rcases le with rfl | ⟨lt,rfl⟩
 ·refine D1.done { s with heap:=g1 } _ _ (D1.frame _ _ _ h1 fun c hc o e=>k1 c o (fun y=>ap.z1 (y ▸ hc)) e) fun g2 e eb ex=>?_
  have z2:IsZip g2 z TI TO .ellipsis:=eb _ _ (lO ap ap.z1) z1
  refine bb5 z2 (by simp) fun g3 z3 sb3=>?_
  obtain ⟨oe,eo,co⟩:=ex
  have ne:e ≠ z:=fun y=>by
   rw [y,z2] at eo
   have:=aW4 eo
   rw [<- this] at co; exact absurd (show Value.type "zip" = Value.type "StopIteration" from co) (by decide)
  apply aT3
  refine be8 (T:="StopIteration") (b:=true) ⟨oe,sb3.extBut _ _ ne eo,co⟩ bk7 ?_
  exact aT6 (q g3 s.toks fun c o c1 _ c3 _ e=>sb3.extBut c o c1 (eb c o c3 (k1 c o c1 e)))
 ·refine D1.item i { s with heap:=g1 } _ _ lt (D1.frame _ _ _ h1 fun c hc o e=>k1 c o (fun y=>ap.z1 (y ▸ hc)) e) fun x g2 tk2 px st1 sb2=>aT6 ?_
  have k2:∀ c o,c ≠ z->c ≠ i1->s.heap.get? c=some o->g2.get? c=some o:=fun c o c1 c2 e=>sb2.extBut c o c2 (k1 c o c1 e)
  have to2:IsPair g2 TO a b:=k2 _ _ ap.TOz (lO ap ap.o1) hto
  apply aT3
  apply bi8 to2 rfl
  apply aT3
  refine wpAny_updateSeq_pair to2 fun g3 to3 sb3=>?_
  apply aT3
  apply wpAny_letGo
  apply aT6
  apply aT3
  apply aT3
  apply wpAny_onRaise
  change wpAny _ _ (Builtin.SmallTypes.nextOf (.ref i2) >>= _) _ _ _
  apply aT3
  have k3:∀ c o,c ≠ z->c ≠ i1->c ≠ TO->s.heap.get? c=some o->g3.get? c=some o:=fun c o c1 c2 c3 e=>sb3.extBut c o c3 (k2 c o c1 c2 e)
  refine D2.done { s with heap:=g3,toks:=tk2 } _ _ (D2.frame _ _ _ h2 fun c hc o e=>k3 c o (fun y=>ap.z2 (y ▸ hc)) (fun y=>ap.n1 (y ▸ hc)) (fun y=>ap.o2 (y ▸ hc)) e) fun g4 e eb ex=>?_
  have z4:IsZip g4 z TI TO .ellipsis:=eb _ _ (pG ap ap.z2) (sb3.extBut _ _ (Ne.symm ap.TOz) (sb2.extBut _ _ (lO ap ap.z1) z1))
  refine bb5 z4 (by simp) fun g5 z5 sb5=>?_
  obtain ⟨oe,eo,co⟩:=ex
  have ne:e ≠ z:=fun y=>by
   rw [y,z4] at eo
   have:=aW4 eo
   rw [<- this] at co; exact absurd (show Value.type "zip" = Value.type "StopIteration" from co) (by decide)
  apply aT3
  refine be8 (T:="StopIteration") (b:=true) ⟨oe,sb5.extBut _ _ ne eo,co⟩ bk7 ?_
  exact aT6 (q g5 tk2 fun c o c1 c2 c3 c4 e=>sb5.extBut c o c1 (eb c o c4 (k3 c o c1 c3 c2 e)))
end
noncomputable def fV (h:Heap) (t u:Addr):Heap:=
 ((((h.push { cls:=.type "tuple_iterator",data:=.fields #[.ref t,.int 0 0] }).push { cls:=.type "tuple_iterator",data:=.fields #[.ref u,.int 0 0] }).push { cls:=.type "tuple",data:=.seq #[.ref h.objs.size,.ref (h.objs.size+1)] }).push
  { cls:=.type "tuple",data:=.seq #[.none,.none] }).push { cls:=.type "zip",data:=.fields #[.none,.bool false,.bool false,.ref (h.objs.size+2),.ref (h.objs.size+3)] }
theorem al1 (t u:Addr) (xs ys:Array Value):Meets (Builtin.«zip.__new__» ⟨[.type "zip",.ref t,.ref u],[]⟩) (fun _ R s=>s.heap.IsTuple t xs/\s.heap.IsTuple u ys/\R (.ok (.ret (.ref (s.heap.objs.size+4)))) { s with heap:=fV s.heap t u }):=
 .of_wp fun prog w A R s h=>by
  obtain ⟨hp,g,d,tk,os⟩:=s
  obtain ⟨ht,hu,h⟩:=h
  have sub:=sub_zip
  have a1:Heap.IsTuple (Shared.heap ⟨hp,g,d,tk,os⟩) t xs:=ht
  have a2:Heap.IsTuple (Shared.heap ⟨hp.push { cls:=.type "tuple_iterator",data:=.fields #[.ref t,.int 0 0] },g,d,tk,os⟩) u ys:=hu.elim fun o y=>⟨o,aT5 _ y.1,y.2⟩
  wp_walk using bf9 a1,bf9 a2
  have e:∀ (o:Obj) (k:Heap),(k.push o).objs.size=k.objs.size+1:=fun o k=>bd6 ..
  refine⟨_,rfl,?_⟩
  simp only [fV,e] at h ⊢
  exact h
section
variable {prog : Program} {w : World} {A : Around} {E : Value → Shared → Prop} {s : Shared}
theorem al2 {t u:Addr}{xs ys:Array Value}{Q:Value->Shared->Prop} (ht:s.heap.IsTuple t xs) (hu:s.heap.IsTuple u ys)
  (q:∀ h',IsZip h' (s.heap.objs.size+4) (s.heap.objs.size+2) (s.heap.objs.size+3) .none->IsPair h' (s.heap.objs.size+2) (.ref s.heap.objs.size) (.ref (s.heap.objs.size+1))->
   IsPair h' (s.heap.objs.size+3) .none .none->h'.IsTupleIter s.heap.objs.size t 0->h'.IsTupleIter (s.heap.objs.size+1) u 0->(∀ c o,s.heap.get? c=some o->h'.get? c=some o)->Q (.ref (s.heap.objs.size+4)) { s with heap:=h' }) :
  wpAny (model prog w) A (call (.type "zip") [.ref t,.ref u]) Q E s:=by
 refine callType_new PySem.F.called_zip (by decide) (PySem.F.typeCall_zip_2 _ _) (PySem.F.newCall_zip_2 _ _) (fun obj=>PySem.F.args_object_init_3 obj _ _) PySem.F.entry_zip_new (al1 t u xs ys) ⟨ht,hu,?_⟩
 have e:∀ (o:Obj) (k:Heap),(k.push o).objs.size=k.objs.size+1:=fun o k=>bd6 ..
 have p0:∀ (k:Heap) (o:Obj) (m:Nat),o.isFreed=false->m=k.objs.size->(k.push o).get? m=some o:=fun k o m f z=>by rw [z]; exact aU0 _ f
 have g0:(fV s.heap t u).get? s.heap.objs.size=some { cls:=.type "tuple_iterator",data:=.fields #[.ref t,.int 0 0] }:=by
  unfold fV
  exact aT5 _ (aT5 _ (aT5 _ (aT5 _ (p0 _ _ _ rfl rfl))))
 have g1:(fV s.heap t u).get? (s.heap.objs.size+1)=some { cls:=.type "tuple_iterator",data:=.fields #[.ref u,.int 0 0] }:=by
  unfold fV
  exact aT5 _ (aT5 _ (aT5 _ (p0 _ _ _ rfl (by simp only [e]))))
 have g2:(fV s.heap t u).get? (s.heap.objs.size+2)=some { cls:=.type "tuple",data:=.seq #[.ref s.heap.objs.size,.ref (s.heap.objs.size+1)] }:=by
  unfold fV
  exact aT5 _ (aT5 _ (p0 _ _ _ rfl (by simp only [e])))
 have g3:(fV s.heap t u).get? (s.heap.objs.size+3)=some { cls:=.type "tuple",data:=.seq #[.none,.none] }:=by
  unfold fV
  exact aT5 _ (p0 _ _ _ rfl (by simp only [e]))
 have g4:(fV s.heap t u).get? (s.heap.objs.size+4)=some { cls:=.type "zip",data:=.fields #[.none,.bool false,.bool false,.ref (s.heap.objs.size+2),.ref (s.heap.objs.size+3)] }:=by
  unfold fV
  exact p0 _ _ _ rfl (by simp only [e])
 refine⟨⟨_,g4,rfl⟩,q _ g4 g2 g3 ⟨_,g0,rfl,rfl⟩ ⟨_,g1,rfl,rfl⟩ fun c o z=>?_⟩
 unfold fV
 exact aT5 _ (aT5 _ (aT5 _ (aT5 _ (aT5 _ z))))
end
end Zp
namespace L2
open PySem PySem.Spec PyProof.Rows
noncomputable def tO (K:PySem.W.Frag) (a b:Addr):It:=
  ⟨fun i H=>∃ xs ys x y,aH K H a xs/\aH K H b ys/\xs[i]? = some x/\ys[i]? = some y,
   fun i H v H'=>∃ T x y,H T=none/\v = .ref T/\H'=upd H T (.tup [x,y])/\∀ xs ys,aH K H a xs->aH K H b ys->xs[i]? = some x/\ys[i]? = some y,
   fun i H=>∃ xs ys,aH K H a xs/\aH K H b ys/\(i=xs.length ∨ (i < xs.length/\i=ys.length))⟩
noncomputable def Sq (t:Bool) (K:PySem.W.Frag) (H:Hp) (a:Addr) (xs:List V):Prop:=match t with
 | true=>aH K H a xs
 | false=>aK K H a xs
noncomputable def fW (t:Bool) (h:Heap) (i a:Addr) (n:Nat):Prop:=match t with
 | true=>h.IsTupleIter i a n
 | false=>h.IsListIter i a n
noncomputable def A0 (t:Bool) (h:Heap) (a:Addr) (xs:Array Value):Prop:=match t with
 | true=>h.IsTuple a xs
 | false=>h.IsList a xs
theorem fW.at {h h':Heap}{i a:Addr}{n:Nat}:∀ {t:Bool},fW t h i a n->(∀ o,h.get? i=some o->h'.get? i=some o)->fW t h' i a n
 | true,x,k=>Heap.IsTupleIter.at x k
 | false,x,k=>Heap.IsListIter.at x k
theorem fW.ob {h:Heap}{i a:Addr}{n:Nat}:∀ {t:Bool},fW t h i a n->∃ o,h.get? i=some o/\∀ v,o.data ≠ .cell v
 | true,⟨o,f,_,d⟩=>⟨o,f,fun v q=>by rw [d] at q; cases q⟩
 | false,⟨o,f,_,d⟩=>⟨o,f,fun v q=>by rw [d] at q; cases q⟩
theorem fW.draws {prog:Program}{w:World}{A:Around}:∀ (t:Bool) (hh:A.handled=none) (it a:Addr) (ne:a ≠ it) (items:Array Value),Draws prog w A it [it,a] items.size (fun i v=>items[i]? = some v) (fun i h=>fW t h it a i/\A0 t h a items)
 | true,hh,it,a,ne,items=>Zp.al0 hh it a ne items
 | false,hh,it,a,ne,items=>Draws.list hh it a ne items
section
variable {X : Cx} {pins : List (Addr × Obj)} {σ : St} {H : Hp} {s : Shared} {a : Addr} {xs ys : List V}
theorem Sq.get (I:a7 X pins σ H s):∀ {t:Bool},Sq t X.K H a xs->∃ us,aJ xs us/\A0 t s.heap a us.toArray
 | true,h=>by obtain ⟨us,r,p,_⟩:=I.tuple h; exact⟨us,r,p⟩
 | false,h=>by obtain ⟨us,r,p,_⟩:=I.list h; exact⟨us,r,p.isList⟩
theorem Sq.inj (I:a7 X pins σ H s):∀ {t:Bool},Sq t X.K H a xs->Sq t X.K H a ys->xs=ys
 | true,h,g=>I.tuple_inj h g
 | false,h,g=>I.list_inj h g
theorem Sq.off (I:a7 X pins σ H s) (he:H a=none) (hb:X.base.get? a=none):∀ {t:Bool},Sq t X.K H a xs->False
 | true,h=>by
  rcases h with (h | ⟨_,h⟩) | ⟨o,_,_,h,_⟩
  ·rw [he] at h; cases h
  ·rw [he] at h; cases h
  ·have:=I.ok.mod.kin a o h
   rw [hb] at this; cases this
 | false,h=>by
  rcases h with (h | ⟨_,h⟩) | ⟨o,_,_,h,_⟩
  ·rw [he] at h; cases h
  ·rw [he] at h; cases h
  ·have:=I.ok.mod.kin a o h
   rw [hb] at this; cases this
end
noncomputable def al3 (t1 t2:Bool) (K:PySem.W.Frag) (a b:Addr):It:=
  ⟨fun i H=>∃ xs ys x y,Sq t1 K H a xs/\Sq t2 K H b ys/\xs[i]? = some x/\ys[i]? = some y,
   fun i H v H'=>∃ T x y,H T=none/\v = .ref T/\H'=upd H T (.tup [x,y])/\∀ xs ys,Sq t1 K H a xs->Sq t2 K H b ys->xs[i]? = some x/\ys[i]? = some y,
   fun i H=>∃ xs ys,Sq t1 K H a xs/\Sq t2 K H b ys/\(i=xs.length ∨ (i < xs.length/\i=ys.length))⟩
structure tP (t1 t2:Bool) (z TI TO i1 i2 a b:Addr) (i:Nat) (h:Heap):Prop where
 zz:IsZip h z TI TO .none
 ti:IsPair h TI (.ref i1) (.ref i2)
 to_:∃ x y,IsPair h TO x y
 s1:fW t1 h i1 a i
 s2:fW t2 h i2 b i
theorem A1 (t1 t2:Bool) {P:Program}{w:World}{K:PySem.W.Frag}{elts:List Expr}{k:Nat}{pos:Pos} (a b z TI TO i1 i2:Addr) (d : [z,TI,TO,i1,i2].Nodup) :
  iH P w K (.Tuple elts k pos) (al3 t1 t2 K a b) [z,TI,TO,i1,i2] z (tP t1 t2 z TI TO i1 i2 a b):=by
 have nd:z ≠ TI/\z ≠ TO/\z ≠ i1/\z ≠ i2/\TI ≠ TO/\TI ≠ i1/\TI ≠ i2/\TO ≠ i1/\TO ≠ i2/\i1 ≠ i2:=by
  simp only [List.nodup_cons,aU2,aV1,aY5,not_or] at d
  obtain ⟨⟨a1,a2,a3,a4⟩,⟨b1,b2,b3⟩,⟨c1,c2⟩,e1,_⟩:=d
  exact⟨a1,a2,a3,a4,b1,b2,b3,c1,c2,e1⟩
 obtain ⟨n1,n2,n3,n4,n5,n6,n7,n8,n9,n10⟩:=nd
 have offBase:∀ {X:Cx}{pins:List (Addr × Obj)}{σ:St}{H:Hp}{s:Shared},a7 X pins σ H s->(∀ c ∈ [z,TI,TO,i1,i2],gK X pins H c)->∀ c ∈ [z,TI,TO,i1,i2],X.base.get? c=none:=by
  intro X pins σ H s I hf c hc
  cases q:X.base.get? c with
  | none=>rfl
  | some o=>
   rcases (hf c hc).2.2.2.1 with h | h
   ·exact absurd h (I.ok.noex c o q)
   ·exact absurd (aU9 (aU8 q) (aX8 I.ok.bsz h)) (aZ4 _)
 have off:∀ {t:Bool}{X:Cx}{pins:List (Addr × Obj)}{σ:St}{H:Hp}{s:Shared}{c:Addr}{zs:List V},a7 X pins σ H s->(∀ c ∈ [z,TI,TO,i1,i2],gK X pins H c)->Sq t X.K H c zs->c ∉ [z,TI,TO,i1,i2]:=by
  intro t X pins σ H s c zs I hf hc hm
  exact Sq.off I (hf c hm).1 (offBase I hf c hm) hc
 have ap:∀ {c e:Addr},c ∉ [z,TI,TO,i1,i2]->e ∉ [z,TI,TO,i1,i2]->Zp.Ap z TI TO i1 i2 [i1,c] [i2,e]:=fun {c e} hc he=>by
  simp only [aU2,aV1,aY5,not_or] at hc he
  obtain ⟨c1,c2,c3,c4,c5⟩:=hc
  obtain ⟨e1,e2,e3,e4,e5⟩:=he
  have two:∀ {q u v:Addr},q ≠ u->q ≠ v->q ∉ [u,v]:=fun {q u v} h1 h2 hm=>by
   simp only [aU2,aV1,aY5] at hm
   exact hm.elim h1 h2
  exact⟨n1.symm,n2.symm,n5,two n3 (Ne.symm c1),two n4 (Ne.symm e1),two n8 (Ne.symm c3),two n9 (Ne.symm e3),two n6 (Ne.symm c2),two n7 (Ne.symm e2),aV2,aV2,two n10 (Ne.symm e4),two n10.symm (Ne.symm c5)⟩
 refine⟨by simp,fun i h st c hc=>?_,fun i h h' st kp=>?_,?_,?_,fun A i s Q E st q=>wpAny_pyIter_zip st.zz q⟩
 ·simp only [aU2,aV1,aY5] at hc
  obtain ⟨x,y,to⟩:=st.to_
  rcases hc with rfl | rfl | rfl | rfl | rfl
  ·exact⟨_,st.zz,fun v q=>by cases q⟩
  ·exact⟨_,st.ti,fun v q=>by cases q⟩
  ·exact⟨_,to,fun v q=>by cases q⟩
  ·exact st.s1.ob
  ·exact st.s2.ob
 ·obtain ⟨x,y,to⟩:=st.to_
  exact⟨kp z (by simp) _ st.zz,kp TI (by simp) _ st.ti,⟨x,y,kp TO (by simp) _ to⟩,st.s1.at fun o e=>kp i1 (by simp) o e,st.s2.at fun o e=>kp i2 (by simp) o e⟩
 ·
  intro X hP hw hK hc i pins s σ H E I hf st hg
  subst hP hw hK
  obtain ⟨xs,ys,x,y,ha,hb,hx,hy⟩:=hg
  obtain ⟨us,ru,pu⟩:=Sq.get I ha
  obtain ⟨vs,rv,pv'⟩:=Sq.get I hb
  obtain ⟨ux,eux,rux⟩:=ru.get hx
  obtain ⟨vy,evy,rvy⟩:=rv.get hy
  have fa:=off I hf ha
  have fb:=off I hf hb
  have hh:X.A.in1.handled=none:=I.ok.hd hc
  have l1:i < us.toArray.size:=by simpa using (aV0.mp eux).1
  have l2:i < vs.toArray.size:=by simpa using (aV0.mp evy).1
  have fa':a ≠ i1:=fun q=>fa (by rw [q]; simp)
  have fb':b ≠ i2:=fun q=>fb (by rw [q]; simp)
  have D1:=fW.draws t1 (prog:=X.prog) (w:=X.w) hh i1 a fa' us.toArray
  have D2:=fW.draws t2 (prog:=X.prog) (w:=X.w) hh i2 b fb' vs.toArray
  refine Zp.item D1 D2 (ap fa fb) l1 l2 ⟨st.zz,st.ti,st.to_,⟨st.s1,pu⟩,⟨st.s2,pv'⟩⟩ fun p q h' tk hp hq st' pr kp sz=>⟨_,rfl,?_⟩
  obtain rfl:p=ux:=by
   have:us.toArray[i]? = some ux:=by simpa using eux
   rw [this] at hp; exact (aW4 hp).symm
  obtain rfl:q=vy:=by
   have:vs.toArray[i]? = some vy:=by simpa using evy
   rw [this] at hq; exact (aW4 hq).symm
  refine wpAny_letOwnedTupleGo_zip (s:={ s with heap:=h',toks:=tk }) st'.zz fun g zz sb=>?_
  have hzl:z < s.heap.objs.size:=aU8 st.zz
  have up:∀ c o,c ≠ z->c ≠ TO->c ≠ i1->c ≠ i2->s.heap.get? c=some o->g.get? c=some o:=fun c o c1 c2 c3 c4 e=>sb.extBut c o c1 (kp c o c1 c2 c3 c4 e)
  have hT:H s.heap.objs.size=none:=I.hok.fresh (aT9 _)
  have prG:IsPair g s.heap.objs.size p q:=sb.extBut _ _ (bb2 hzl) pr
  have fpn:∀ c u,H c=some u->c ∉ [z,TI,TO,i1,i2]:=fun c u e hm=>by rw [(hf c hm).1] at e; cases e
  have upH:∀ c o u,H c=some u->s.heap.get? c=some o->g.get? c=some o:=fun c o u e z=>by
   have:=fpn c u e
   simp only [aU2,aV1,aY5,not_or] at this
   exact up c o this.1 this.2.2.1 this.2.2.2.1 this.2.2.2.2 z
  have ns:∀ m,s.heap.Ns X.env.locals m->g.Ns X.env.locals m:=fun m hm=>by
   obtain ⟨o,es,ep,e1,e2⟩:=hm
   exact⟨o,es,ep,up _ o (Ne.symm (hf z (by simp)).2.1) (Ne.symm (hf TO (by simp)).2.1) (Ne.symm (hf i1 (by simp)).2.1) (Ne.symm (hf i2 (by simp)).2.1) e1,e2⟩
  have I2:a7 X pins σ (upd H s.heap.objs.size (.tup [x,y])) { s with heap:=g,toks:=tk }:=by
   refine I.step (g':=s.gens) (d':=s.drawn) (ch:=[z,TO,i1,i2]) (fun c hc'=>?_) (fun c o _ _ hc' e _=>?_) (fun c o _ _ hc' e _=>⟨o.slots,?_⟩) (fun c o _ e n=>?_) (fun c o hc' e=>⟨o,?_⟩)
    (fun c zs e=>by rw [aQ (cF e hT)]; exact e) (fun c u zs e=>by rw [aQ (cF e hT)]; exact e) (fun c ps e=>⟨#[],by rw [aQ (cF e hT),e]; simp⟩) ns (fun c u e=>?_) I.bare
   ·have hm:c ∈ [z,TI,TO,i1,i2]:=by
     simp only [aU2,aV1,aY5] at hc' ⊢
     rcases hc' with h | h | h | h <;> simp [h]
    exact⟨(hf c hm).2.2.2.1,(hf c hm).2.1,(hf c hm).2.2.2.2.1,(hf c hm).2.2.2.2.2⟩
   ·simp only [aU2,aV1,aY5,not_or] at hc'
    exact up c o hc'.1 hc'.2.1 hc'.2.2.1 hc'.2.2.2 e
   ·simp only [aU2,aV1,aY5,not_or] at hc'
    exact up c o hc'.1 hc'.2.1 hc'.2.2.1 hc'.2.2.2 e
   ·rw [aQ (aW6 (aU8 e))]; exact n
   ·simp only [aU2,aV1,aY5,not_or] at hc'
    exact up c o hc'.1 hc'.2.1 hc'.2.2.1 hc'.2.2.2 e
   ·by_cases hcT:c=s.heap.objs.size
    ·subst hcT
     rw [bI] at e; cases e
     exact⟨by show 2<=sizeLine; decide,[p,q],.cons rux (.cons rvy .nil),⟨_,prG,rfl,_,rfl⟩,fun u e=>by rw [prG] at e; cases e; rfl⟩
    ·rw [aQ hcT] at e
     refine (I.hok c u e).stay (fun c' o' hc2 q'=>?_) (fun c' q'=>by rw [aQ (cF q' hT)]; exact q') fun c' zs q'=>by rw [aQ (cF q' hT)]; exact q'
     rcases hc2 with rfl | hc2
     ·exact upH _ _ _ e q'
     ·exact upH _ _ _ hc2 q'
  obtain ⟨x',y',to'⟩:=st'.to_
  refine⟨.ref s.heap.objs.size,_,I2,rfl,⟨_,x,y,hT,rfl,rfl,fun xs' ys' ha' hb'=>?_⟩,⟨zz,sb.extBut _ _ n1.symm st'.ti,⟨x',y',sb.extBut _ _ n2.symm to'⟩,st'.s1.1.at fun o e=>sb.extBut _ o n3.symm e,st'.s2.1.at fun o e=>sb.extBut _ o n4.symm e⟩,fun c hc'=>?_⟩
  ·rw [Sq.inj I ha' ha,Sq.inj I hb' hb]; exact⟨hx,hy⟩
  ·obtain ⟨o,e,_⟩:∃ o,s.heap.get? c=some o/\True:=by
    simp only [aU2,aV1,aY5] at hc'
    obtain ⟨x2,y2,to2⟩:=st.to_
    obtain ⟨o1,f1,_⟩:=st.s1.ob
    obtain ⟨o2,f2,_⟩:=st.s2.ob
    rcases hc' with rfl | rfl | rfl | rfl | rfl
    ·exact⟨_,st.zz,trivial⟩
    ·exact⟨_,st.ti,trivial⟩
    ·exact⟨_,to2,trivial⟩
    ·exact⟨_,f1,trivial⟩
    ·exact⟨_,f2,trivial⟩
   rw [aQ (aW6 (aU8 e))]; exact (hf c hc').1
 ·
  intro X hP hw hK hc i pins s σ H E I hf st hg
  subst hP hw hK
  obtain ⟨xs,ys,ha,hb,hi⟩:=hg
  obtain ⟨us,ru,pu⟩:=Sq.get I ha
  obtain ⟨vs,rv,pv'⟩:=Sq.get I hb
  have fa:=off I hf ha
  have fb:=off I hf hb
  have hh:X.A.in1.handled=none:=I.ok.hd hc
  have fa':a ≠ i1:=fun q=>fa (by rw [q]; simp)
  have fb':b ≠ i2:=fun q=>fb (by rw [q]; simp)
  have D1:=fW.draws t1 (prog:=X.prog) (w:=X.w) hh i1 a fa' us.toArray
  have D2:=fW.draws t2 (prog:=X.prog) (w:=X.w) hh i2 b fb' vs.toArray
  have e1:=ru.length
  have e2:=rv.length
  refine Zp.fin D1 D2 (ap fa fb) (by simp only [aT8]; omega) ⟨st.zz,st.ti,st.to_,⟨st.s1,pu⟩,⟨st.s2,pv'⟩⟩ fun g tk kp=>⟨rfl,?_⟩
  have fpn:∀ c u,H c=some u->c ∉ [z,TI,TO,i1,i2]:=fun c u e hm=>by rw [(hf c hm).1] at e; cases e
  have upH:∀ c o u,H c=some u->s.heap.get? c=some o->g.get? c=some o:=fun c o u e z=>by
   have:=fpn c u e
   simp only [aU2,aV1,aY5,not_or] at this
   exact kp c o this.1 this.2.2.1 this.2.2.2.1 this.2.2.2.2 z
  have ns:∀ m,s.heap.Ns X.env.locals m->g.Ns X.env.locals m:=fun m hm=>by
   obtain ⟨o,es,ep,e1,e2⟩:=hm
   exact⟨o,es,ep,kp _ o (Ne.symm (hf z (by simp)).2.1) (Ne.symm (hf TO (by simp)).2.1) (Ne.symm (hf i1 (by simp)).2.1) (Ne.symm (hf i2 (by simp)).2.1) e1,e2⟩
  refine I.step (g':=s.gens) (d':=s.drawn) (ch:=[z,TO,i1,i2]) (fun c hc'=>?_) (fun c o _ _ hc' e _=>?_) (fun c o _ _ hc' e _=>⟨o.slots,?_⟩) (fun c o _ e n=>n) (fun c o hc' e=>⟨o,?_⟩)
   (fun c zs e=>e) (fun c u zs e=>e) (fun c ps e=>⟨#[],by rw [e]; simp⟩) ns (fun c u e=>?_) I.bare
  ·have hm:c ∈ [z,TI,TO,i1,i2]:=by
    simp only [aU2,aV1,aY5] at hc' ⊢
    rcases hc' with h | h | h | h <;> simp [h]
   exact⟨(hf c hm).2.2.2.1,(hf c hm).2.1,(hf c hm).2.2.2.2.1,(hf c hm).2.2.2.2.2⟩
  ·simp only [aU2,aV1,aY5,not_or] at hc'
   exact kp c o hc'.1 hc'.2.1 hc'.2.2.1 hc'.2.2.2 e
  ·simp only [aU2,aV1,aY5,not_or] at hc'
   exact kp c o hc'.1 hc'.2.1 hc'.2.2.1 hc'.2.2.2 e
  ·simp only [aU2,aV1,aY5,not_or] at hc'
   exact kp c o hc'.1 hc'.2.1 hc'.2.2.1 hc'.2.2.2 e
  ·refine (I.hok c u e).stay (fun c' o' hc2 q'=>?_) (fun _ q'=>q') fun _ _ q'=>q'
   rcases hc2 with rfl | hc2
   ·exact upH _ _ _ e q'
   ·exact upH _ _ _ hc2 q'
noncomputable abbrev al4:=tP true true
theorem al5 {P:Program}{w:World}{K:PySem.W.Frag}{elts:List Expr}{k:Nat}{pos:Pos} (a b z TI TO i1 i2:Addr) (d : [z,TI,TO,i1,i2].Nodup) :
  iH P w K (.Tuple elts k pos) (tO K a b) [z,TI,TO,i1,i2] z (al4 z TI TO i1 i2 a b):=A1 true true a b z TI TO i1 i2 d
section
variable {X : Cx}
noncomputable def al6 (K:PySem.W.Frag) (ta:TA):TI:=fun σ H R=>ta σ H fun vs H1=>∃ a b xs ys,vs = [.ref a,.ref b]/\aH K H1 a xs/\aH K H1 b ys/\R (tO K a b) H1
theorem al7 {elts:List Expr}{kt:Nat}{pt:Pos}{a b:Expr}{ta:TA}{p pos:Pos} (hg:Gl X "zip") (hm:X.mg "zip" = none) (ha:PA X [a,b] ta) (hs:starEach [a,b] X.env = [(false,eval a X.env),(false,eval b X.env)]:=by rfl) (hs2:starEach [b] X.env = [(false,eval b X.env)]:=by rfl) :
  PI X (.Tuple elts kt pt) (.Call (.Name "zip" p) [a,b] [] pos) (al6 X.K ta):=by
 intro pins s σ H R I h
 refine Call_ (gY I hg hm PyProof.Rows.boot_zip (aY7 (aP (ha pos pins s σ H _ I h) fun us s1 ⟨vs,H1,I1,r1,q1⟩=>?_) (by rw [hs,hs2]) (by rw [hs2]; rfl)))
 obtain ⟨a',b',xs,ys,e,h1,h2,q⟩:=q1
 subst e
 cases r1 with
 | cons r rr=>
  cases rr with
  | cons r' rr=>
   cases rr
   cases r
   cases r'
   obtain ⟨us,_,p1,_⟩:=I1.tuple h1
   obtain ⟨ws,_,p2,_⟩:=I1.tuple h2
   refine Zp.al2 p1 p2 fun h' z ti to s1' s2' kp=>wpAny_pyIter_zip z ?_
   have fresh:∀ k,H1 (s1.heap.objs.size+k)=none:=fun k=>I1.hok.fresh (bb0 _ _)
   refine⟨s1.heap.objs.size+4,[s1.heap.objs.size+4,s1.heap.objs.size+2,s1.heap.objs.size+3,s1.heap.objs.size,s1.heap.objs.size+1],_,_,H1,rfl,I1.kept (t':=s1.toks) kp,
    al5 a' b' _ _ _ _ _ (by simp),⟨z,ti,⟨_,_,to⟩,s1',s2'⟩,fun c hc=>?_,q⟩
   simp only [aU2,aV1,aY5] at hc
   rcases hc with rfl | rfl | rfl | rfl | rfl
   ·exact I1.fpOk (bb0 _ _) (fresh 4)
   ·exact I1.fpOk (bb0 _ _) (fresh 2)
   ·exact I1.fpOk (bb0 _ _) (fresh 3)
   ·exact I1.fpOk (aT9 _) (fresh 0)
   ·exact I1.fpOk (bb0 _ _) (fresh 1)
theorem tQ (hc:X.calm=true):cO X (.builtin "all") (fun xs H Q=>∃ (a:Addr) (bs:List Bool),xs = [.ref a]/\aK X.K H a (bs.map V.bl)/\Q (.bl (bs.all id)) H):=by
 intro pins s σ H xs us Q I r h
 obtain ⟨a,bs,rfl,hq,q⟩:=h
 obtain ⟨u,rfl,ru⟩:=fU r
 cases ru
 obtain ⟨its,rv,p,hz⟩:=I.list hq
 have hl:=rv.length
 rw [aU7] at hl
 have hlt:a < s.heap.objs.size:=by obtain ⟨o,e,_⟩:=p.isList; exact aU8 e
 refine call_all_walk (wpAny_pyIter_list p.isList ?_)
 have hh:X.A.in1.handled=none:=I.ok.hd hc
 refine⟨s.heap.objs.size,_,_,_,_,_,fun i=>bs.getD i false,rfl,Walks.list hh s.heap.objs.size a (aW6 hlt) its.toArray,⟨⟨_,aU0 _ rfl,rfl,rfl⟩,p.isList.push _⟩,?_,fun h' tk kp=>?_⟩
 ·intro i v s' Q' E' hP hQ'
  have hi:its[i]? = some v:=by simpa using hP
  have hil:i < bs.length:=by rw [hl]; exact (aV0.mp hi).1
  obtain ⟨u,e1,e2⟩:=rv.get (i:=i) (x:=.bl bs[i]) (by simp [hil])
  rw [hi] at e1; cases e1
  cases e2
  have:bs.getD i false=bs[i]:=by rw [aU4,aT7 hil]; rfl
  have hQ2:Q' (bs.getD i false) s':=hQ'
  rw [this] at hQ2
  exact bh1 hQ2
 ·have all_eq:(List.range its.toArray.size).all (fun i=>bs.getD i false)=bs.all id:=by
   rw [aT8,<- hl]
   clear q rv hz hl hq hlt p hh kp
   induction bs with
   | nil=>rfl
   | cons b r ih=>
    rw [aZ6,List.range_succ_eq_map,bi1,List.all_map,bi1,<- ih]
    rfl
  rw [all_eq]
  refine⟨.bl (bs.all id),H,I.kept (t':=tk) (h':=h') fun b o e=>kp b o (fun z=>?_) (aT5 _ e),rfl,q⟩
  rw [aU3.mp z] at e
  exact absurd (aU8 e) (aZ4 _)
end
structure tR (H:Hp) (J:It) (n:Nat) (R:Nat->V->Hp->Prop):Prop where
 go:∀ i H',aE H H'->i < n->J.go i H'
 yld:∀ i H' x H2,aE H H'->J.yld i H' x H2->i < n->aE H' H2/\R i x H2
 stop:∀ H',aE H H'->J.stop n H'
theorem tS {H1:Hp}{J:It}{n:Nat}{R:Nat->V->Hp->Prop}{g:TG}{tc:TT}{te:TE}{σ0:St}{Q:VK} (O:tR H1 J n R) (Pv:Nat->List V->Hp->Prop) (hn:n<=sizeLine)
  (h0:∀ D,H1 D=none->Pv 0 [] (upd H1 D (.lst [])))
  (mono:∀ i acc H' H2,aE H' H2->Pv i acc H'->Pv i acc H2)
  (hs:∀ i x acc D H',i < n->R i x H'->pA H1 D n i acc H'->Pv i acc H'->g x σ0 H' fun σ2 H3=>Wk σ0 σ2/\tc σ2 H3 fun b H4=>
   if b=true then te σ2 H4 fun v H5=>tF H1 D n Pv i acc v H5 else zH H1 D n Pv i acc H4)
  (hd:∀ D acc H',H1 D=none->aE H1 H'->H' D=some (.lst acc)->acc.length<=n->Pv n acc H'->Q (.ref D) H') :
  ∀ D,H1 D=none->∃ W:Nat->Nat->List V->Hp->Prop,(∃ m,W 0 m [] (upd H1 D (.lst [])))/\nJ g tc te σ0 J D Q W:=by
 intro D hD
 refine⟨CW H1 D n Pv,⟨n,rfl,aX0 _,aT9 _,bE hD _,bI,h0 D hD⟩,?_⟩
 rintro i m acc H' ⟨rfl,hi,ha,sm,hDa,p⟩
 refine⟨hDa,?_⟩
 by_cases hlt:i < n
 ·refine .inr ⟨O.go i H' sm hlt,fun x H2 y=>?_⟩
  obtain ⟨s2,r2⟩:=O.yld i H' x H2 sm y hlt
  exact hs i x acc D H2 hlt r2 ⟨hlt,ha,hn,sm.trans s2,hD,s2 _ _ hDa⟩ (mono i acc H' H2 s2 p)
 ·have e:i=n:=by omega
  subst e
  exact .inl ⟨O.stop H' sm,hd D acc H' hD sm hDa ha p⟩
theorem A2 {K:PySem.W.Frag}{H:Hp}{a b:Addr}{xs ys:List V} (ha:aH K H a xs) (hb:aH K H b ys) (hl:ys.length<=xs.length) :
  tR H (tO K a b) ys.length (fun i v H2=>∃ T x y,v = .ref T/\H2 T=some (.tup [x,y])/\xs[i]? = some x/\ys[i]? = some y):=by
 refine⟨fun i H' sm hi=>⟨xs,ys,xs[i]'(by omega),ys[i],sm.tup ha,sm.tup hb,by simp,by simp⟩,fun i H' v H2 sm y hi=>?_,fun H' sm=>⟨xs,ys,sm.tup ha,sm.tup hb,by omega⟩⟩
 obtain ⟨T,x,y',hT,hv,e,hxy⟩:=y
 subst e
 obtain ⟨h1,h2⟩:=hxy xs ys (sm.tup ha) (sm.tup hb)
 exact⟨bE hT _,T,x,y',hv,bI,h1,h2⟩
end L2
namespace HT
open PySem PyProof.Rows
section
variable {prog : Program} {w : World} {A : Around} {E : Value → Shared → Prop} {s : Shared}
theorem al8 {t sl:Addr}{items:Array Value}{vl vu:Value}{lo hi:Option Int}{Q:Value->Shared->Prop} (ht:IsTup s.heap t items) (hs:s.heap.IsSliceOf sl vl vu .none) (pl:IsPart vl lo) (pu:IsPart vu hi)
  (h1:aV items.size 0 lo=0) (h2:aV items.size items.size hi=items.size) (h:Q (.ref t) s):wpAny (model prog w) A (getItem (.ref t) (.ref sl)) Q E s:=by
 obtain ⟨o,e1,e2,e3⟩:=id hs
 have T:s.TypeIs (.ref sl) "slice":=⟨o,e1,e2⟩
 unfold getItem
 try with_reducible refine ba5 ?_
 first | refine aT3 (aT6 ?_) | skip
 apply aT3
 apply wpAny_sequenceKey ht.typeIs (by decide)
 apply aT3
 apply aW7 (name:=Str.ofString "__getitem__") ht.typeIs bf6
 apply aW5 bf6 ht.typeIs entry_tuple_getitem _ (args_tuple_getitem _ _)
 change wpAny _ _ (Builtin.Tuple.tupleItemsOf (.ref t) >>= _) _ _ s
 apply aT3
 apply tupleItemsOf_ ht
 apply aT3
 apply bj3 T
 rw [if_pos (by decide)]
 apply aT3
 apply xZ hs pl pu
 rw [h1,h2]
 have yes:((((0:Nat):Int) == 0 && (1:Int) == 1 && (items.size - 0) == items.size)=true):=by simp
 change wpAny _ _ (if ((((0:Nat):Int) == 0 && (1:Int) == 1 && (items.size - 0) == items.size)=true) then _ else _) _ _ s
 rw [if_pos yes]
 apply aT3
 unfold Builtin.Tuple.tupleIsExact
 apply aT3
 apply bj3 ht.typeIs
 apply aT6
 change wpAny _ _ (rule "tuple.getitem.whole" >>= fun _=>ret (Value.ref t)) _ _ s
 apply aT3
 apply bk2
 exact aT6 ⟨_,rfl,aT6 h⟩
end
end HT
namespace L2
open PySem PySem.Spec PyProof.Rows
section
variable {X : Cx}
noncomputable def al9 (K:PySem.W.Frag):V->Option Int->Option Int->Hp->VK->Prop:=fun x lo hi H Q=>∃ a xs,x = .ref a/\aH K H a xs/\(∀ p,H p=none->Q (.ref p) (upd H p (.tup (eC xs lo hi))))/\(eC xs lo hi=xs->Q (.ref a) H)
theorem A3:jQ X (al9 X.K):=by
 intro pins s σ H x v vl vu lo hi sl Q I rx hs pl pu h
 obtain ⟨a,xs,ex,hx,q1,q2⟩:=h
 by_cases hw:HT.aV xs.length 0 lo=0/\HT.aV xs.length xs.length hi=xs.length
 ·subst ex
  cases rx
  obtain ⟨its,r,ht,hz⟩:=I.tuple hx
  have hlen:its.toArray.size=xs.length:=by rw [aT8]; exact r.length.symm
  refine⟨"tuple",_,PyProof.Rows.slot_tuple_getitem.lookup,ht.typeIs,?_⟩
  refine HT.al8 ht hs pl pu (by rw [hlen]; exact hw.1) (by rw [hlen]; exact hw.2) ⟨.ref a,H,I,rfl,q2 ?_⟩
  unfold eC
  rw [hw.1,hw.2]
  simp
 ·exact af0 pins s σ H x v vl vu lo hi sl Q I rx hs pl pu ⟨a,xs,ex,hx,hw,q1⟩
end
theorem tT (xs:List V):eC xs (some 1) none=xs.drop 1:=by
 unfold eC
 have e1:HT.aV xs.length 0 (some 1)=min 1 xs.length:=HT.xW xs.length 0 1
 have e2:HT.aV xs.length xs.length none=xs.length:=rfl
 rw [e1,e2]
 cases xs with
 | nil=>rfl
 | cons x r=>
  have:min 1 (x :: r).length=1:=by simp
  rw [this]
  simp
noncomputable def tU (K:PySem.W.Frag) (a b:Addr):It:=
  ⟨fun i H=>∃ xs ys x y,aK K H a xs/\aK K H b ys/\xs[i]? = some x/\ys[i]? = some y,
   fun i H v H'=>∃ T x y,H T=none/\v = .ref T/\H'=upd H T (.tup [x,y])/\∀ xs ys,aK K H a xs->aK K H b ys->xs[i]? = some x/\ys[i]? = some y,
   fun i H=>∃ xs ys,aK K H a xs/\aK K H b ys/\(i=xs.length ∨ (i < xs.length/\i=ys.length))⟩
noncomputable abbrev am0:=tP false false
theorem am1 {P:Program}{w:World}{K:PySem.W.Frag}{elts:List Expr}{k:Nat}{pos:Pos} (a b z TI TO i1 i2:Addr) (d : [z,TI,TO,i1,i2].Nodup) :
  iH P w K (.Tuple elts k pos) (tU K a b) [z,TI,TO,i1,i2] z (am0 z TI TO i1 i2 a b):=A1 false false a b z TI TO i1 i2 d
section
variable {X : Cx}
noncomputable def am2 (K:PySem.W.Frag) (ta:TA):TI:=fun σ H R=>ta σ H fun vs H1=>∃ a b xs ys,vs = [.ref a,.ref b]/\aK K H1 a xs/\aK K H1 b ys/\R (tU K a b) H1
theorem am3 {elts:List Expr}{kt:Nat}{pt:Pos}{a b:Expr}{ta:TA}{p pos:Pos} (hg:Gl X "zip") (hm:X.mg "zip" = none) (ha:PA X [a,b] ta) (hs:starEach [a,b] X.env = [(false,eval a X.env),(false,eval b X.env)]:=by rfl) (hs2:starEach [b] X.env = [(false,eval b X.env)]:=by rfl) :
  PI X (.Tuple elts kt pt) (.Call (.Name "zip" p) [a,b] [] pos) (am2 X.K ta):=by
 intro pins s σ H R I h
 refine Call_ (gY I hg hm PyProof.Rows.boot_zip (aY7 (aP (ha pos pins s σ H _ I h) fun us s1 ⟨vs,H1,I1,r1,q1⟩=>?_) (by rw [hs,hs2]) (by rw [hs2]; rfl)))
 obtain ⟨a',b',xs,ys,e,h1,h2,q⟩:=q1
 subst e
 cases r1 with
 | cons r rr=>
  cases rr with
  | cons r' rr=>
   cases rr
   cases r
   cases r'
   obtain ⟨us,_,p1,_⟩:=I1.list h1
   obtain ⟨ws,_,p2,_⟩:=I1.list h2
   refine call_zip_2 p1.isList p2.isList fun h' z ti to s1' s2' _ kp=>wpAny_pyIter_zip z ?_
   have fresh:∀ k,H1 (s1.heap.objs.size+k)=none:=fun k=>I1.hok.fresh (bb0 _ _)
   refine⟨s1.heap.objs.size+4,[s1.heap.objs.size+4,s1.heap.objs.size+2,s1.heap.objs.size+3,s1.heap.objs.size,s1.heap.objs.size+1],_,_,H1,rfl,I1.kept (t':=s1.toks) kp,
    am1 a' b' _ _ _ _ _ (by simp),⟨z,ti,⟨_,_,to⟩,s1',s2'⟩,fun c hc=>?_,q⟩
   simp only [aU2,aV1,aY5] at hc
   rcases hc with rfl | rfl | rfl | rfl | rfl
   ·exact I1.fpOk (bb0 _ _) (fresh 4)
   ·exact I1.fpOk (bb0 _ _) (fresh 2)
   ·exact I1.fpOk (bb0 _ _) (fresh 3)
   ·exact I1.fpOk (aT9 _) (fresh 0)
   ·exact I1.fpOk (bb0 _ _) (fresh 1)
end
theorem am4 {K:PySem.W.Frag}{H:Hp}{a b:Addr}{xs ys:List V} (ha:aK K H a xs) (hb:aK K H b ys) (hl:ys.length<=xs.length) :
  tR H (tU K a b) ys.length (fun i v H2=>∃ T x y,v = .ref T/\H2 T=some (.tup [x,y])/\xs[i]? = some x/\ys[i]? = some y):=by
 refine⟨fun i H' sm hi=>⟨xs,ys,xs[i]'(by omega),ys[i],sm.seq ha,sm.seq hb,by simp,by simp⟩,fun i H' v H2 sm y hi=>?_,fun H' sm=>⟨xs,ys,sm.seq ha,sm.seq hb,by omega⟩⟩
 obtain ⟨T,x,y',hT,hv,e,hxy⟩:=y
 subst e
 obtain ⟨h1,h2⟩:=hxy xs ys (sm.seq ha) (sm.seq hb)
 exact⟨bE hT _,T,x,y',hv,bI,h1,h2⟩
theorem am5 (l:Addr) (items:Array Value) (n:Nat) (b:Addr) (items2:Array Value) (n2:Nat) (dd:Option Addr) (ss:Array (Option Value)) (h0 : ¬(!items.isEmpty && Builtin.List.listTooLong (items.size+items2.size))=true) (h1:items.size<=sizeLine) (h2:items.size+items2.size<=sizeLine+1) :
  Meets (Builtin.«list.extend» ⟨[.ref l,.ref b],[]⟩) (fun _ R s=>s.heap.get? l=some { cls:=.type "list",dict:=none,data:=.seq items n,slots:=#[] }/\s.heap.get? b=some { cls:=.type "tuple",dict:=dd,data:=.seq items2 n2,slots:=ss }/\R (.ok (.ret Value.none)) { s with heap:=s.heap.update l (Obj.mapSeq fun x=>x ++ items2),toks:=s.toks }):=
 .of_wp fun prog w A R s h=>by
  obtain ⟨hp,g,d,tk,os⟩:=s; obtain ⟨hl,hb,h⟩:=h; have f2:=AutoSeq1.sub_tuple_tuple; have f3:=AutoSeq1.sub_list_list; have f4:=AutoSeq1.sub_tuple_list; have f5:=AutoSeq1.sub_list_tuple
  have hz':(items ++ items2).size<=sizeLine+1:=by rw [Array.size_append]; exact h2
  wp_walk using (wpAny_updateSeq hl rfl (hz:=h1) (_hz':=hz')),AutoSeq1.wpAny_loadPart' hl,AutoSeq1.wpAny_loadPart' hb
  exact⟨_,rfl,h⟩
noncomputable def A4 (K:PySem.W.Frag):V->List V->Hp->VK->Prop:=fun x vs H Q=>∃ (l b:Addr) (xs zs:List V),x = .ref l/\vs = [.ref b]/\H l=some (.lst xs)/\aH K H b zs/\xs.length+zs.length<=sizeLine/\Q .non (upd H l (.lst (xs ++ zs)))
theorem am6 {X:Cx}:nE X "list.extend" (A4 X.K):=by
 intro pins s σ H x vs v us Q I rx rv h
 obtain ⟨l,b,xs,zs,rfl,rfl,hH,hB,hz,q⟩:=h
 cases rx
 obtain ⟨u,rfl,ru⟩:=rv.one
 cases ru
 obtain ⟨z,its,n,r,hl,e⟩:=I.lstM hH
 obtain ⟨its2,r2,⟨⟨cls,dd,data,ss⟩,e2,hc,n2,hd⟩,z2⟩:=I.tuple hB
 cases hc
 cases hd
 have hl2:=r2.length
 have hsz:its.toArray.size+its2.toArray.size<=sizeLine:=by rw [aT8,aT8]; omega
 have hlong : ¬ (!its.toArray.isEmpty && Builtin.List.listTooLong (its.toArray.size+its2.toArray.size))=true:=by
  rw [sW hsz,bi7]
  exact aV6
 refine call_meets F.slot_list_extend ⟨_,e,rfl⟩ F.entry_list_extend (F.args_list_extend_2 _ _)
  (am5 l its.toArray n b its2.toArray n2 dd ss hlong (by rw [aT8]; omega) (by omega)) ⟨e,e2,?_⟩
 refine⟨.non,_,I.lset (its':=its ++ its2) hH e (by simp) (r.append r2) ?_,rfl,q⟩
 rw [aU6]
 omega
end L2
namespace PP
open PySem L2
inductive PV where
 | non | bl (b:Bool) | int (i:Int) | str (x:Str) | tup (xs:List PV) | lst (xs:List PV)
 | dK (kvs:List (aS × PV)) | dT (kvs:List (List aS × PV)) | scr (ns:List Int) | kt (xs:List PV) | exc (c:Str) | fK (kvs:List (aS × PV)) | fT (kvs:List (List aS × PV))
mutual
noncomputable def flat:PV->Bool
 | .tup xs=>flats xs
 | .lst _=>false
 | .dK _=>false
 | .dT _=>false
 | .non=>true
 | .bl _=>true
 | .int _=>true
 | .str _=>true
 | .scr _=>true
 | .kt xs=>flats xs
 | .exc _=>true
 | .fK _=>false
 | .fT _=>false
noncomputable def flats:List PV->Bool
 | []=>true
 | x :: r=>flat x && flats r
end
noncomputable def j9 (K:PySem.W.Frag) (H:Hp) (a:Addr) (ns:List Int):Prop:=(∃ o,H a=some (.frz o (.lst (ns.map V.int)))) ∨
  ∃ (o:Obj) (its:Array Value) (n:Nat),K.lookup a=some o/\o.cls = .type "list"/\o.dict=none/\o.data = .seq its n/\its.size<=sizeLine/\aJ (ns.map V.int) its.toList
noncomputable def jA (K:PySem.W.Frag) (a:Addr) (us:List V):Prop:=∃ (o:Obj) (its:Array Value) (n:Nat),K.lookup a=some o/\o.cls = .type "tuple"/\o.data = .seq its n/\its.size<=sizeLine/\aJ us its.toList
mutual
inductive aI (K:PySem.W.Frag) (M:Addr->Prop) (H:Hp):V->PV->Prop
 | non:aI K M H .non .non
 | bl (b:Bool):aI K M H (.bl b) (.bl b)
 | int (i:Int):aI K M H (.int i) (.int i)
 | str (x:Str):aI K M H (.str x) (.str x)
 | tup {a:Addr}{us:List V}{xs:List PV}:H a=some (.tup us)->Reps K M H us xs->aI K M H (.ref a) (.tup xs)
 | lst {a:Addr}{us:List V}{xs:List PV}:M a->H a=some (.lst us)->Reps K M H us xs->aI K M H (.ref a) (.lst xs)
 | dK {a:Addr}{kvs:List (aS × V)}{ps:List (aS × PV)}:M a->H a=some (.dK kvs)->kvs.map (·.1)=ps.map (·.1)->Reps K M H (kvs.map (·.2)) (ps.map (·.2))->aI K M H (.ref a) (.dK ps)
 | dT {a:Addr}{kvs:List (List aS × V)}{ps:List (List aS × PV)}:M a->H a=some (.dT kvs)->kvs.map (·.1)=ps.map (·.1)->Reps K M H (kvs.map (·.2)) (ps.map (·.2))->aI K M H (.ref a) (.dT ps)
 | scr {a:Addr}{ns:List Int}:j9 K H a ns->aI K M H (.ref a) (.scr ns)
 | kt {a:Addr}{us:List V}{xs:List PV}:jA K a us->Reps K M H us xs->aI K M H (.ref a) (.kt xs)
 | exc {a C:Addr}{o:Obj}{c:Str}:H a=some (.frz o (.own a))->PySem.W.nsIn K mainGlobals c=some (some (.ref C))->o.cls = .ref C->aI K M H (.ref a) (.exc c)
 | fK {a:Addr}{o:Obj}{kvs:List (aS × V)}{ps:List (aS × PV)}:H a=some (.frz o (.dK kvs))->kvs.map (·.1)=ps.map (·.1)->Reps K M H (kvs.map (·.2)) (ps.map (·.2))->aI K M H (.ref a) (.fK ps)
 | fT {a:Addr}{o:Obj}{kvs:List (List aS × V)}{ps:List (List aS × PV)}:H a=some (.frz o (.dT kvs))->kvs.map (·.1)=ps.map (·.1)->Reps K M H (kvs.map (·.2)) (ps.map (·.2))->aI K M H (.ref a) (.fT ps)
inductive Reps (K:PySem.W.Frag) (M:Addr->Prop) (H:Hp):List V->List PV->Prop
 | nil:Reps K M H [] []
 | cons {v:V}{x:PV}{vs:List V}{xs:List PV}:aI K M H v x->Reps K M H vs xs->Reps K M H (v :: vs) (x :: xs)
end
structure gP (M M':Addr->Prop) (H H':Hp):Prop where
 lst:∀ a us,M a->H a=some (.lst us)->M' a/\H' a=some (.lst us)
 dK:∀ a kvs,M a->H a=some (.dK kvs)->M' a/\H' a=some (.dK kvs)
 dT:∀ a kvs,M a->H a=some (.dT kvs)->M' a/\H' a=some (.dT kvs)
 tup:∀ a us,H a=some (.tup us)->H' a=some (.tup us)
 frz:∀ a o u,H a=some (.frz o u)->H' a=some (.frz o u)
theorem j9.keep {K:PySem.W.Frag}{H H':Hp}{a:Addr}{ns:List Int} (k:∀ a o u,H a=some (.frz o u)->H' a=some (.frz o u)) (h:j9 K H a ns):j9 K H' a ns:=
 h.elim (fun ⟨o,e⟩=>.inl ⟨o,k _ _ _ e⟩) .inr
mutual
theorem aI.keep {K:PySem.W.Frag}{M M':Addr->Prop}{H H':Hp} (k:gP M M' H H'):∀ {v:V}{x:PV},aI K M H v x->aI K M' H' v x
 | _,_,.non=>.non
 | _,_,.bl b=>.bl b
 | _,_,.int i=>.int i
 | _,_,.str x=>.str x
 | _,_,.tup h r=>.tup (k.tup _ _ h) (Reps.keep k r)
 | _,_,.lst m h r=>.lst (k.lst _ _ m h).1 (k.lst _ _ m h).2 (Reps.keep k r)
 | _,_,.dK m h e r=>.dK (k.dK _ _ m h).1 (k.dK _ _ m h).2 e (Reps.keep k r)
 | _,_,.dT m h e r=>.dT (k.dT _ _ m h).1 (k.dT _ _ m h).2 e (Reps.keep k r)
 | _,_,.scr h=>.scr (h.keep k.frz)
 | _,_,.kt h r=>.kt h (Reps.keep k r)
 | _,_,.exc h e c=>.exc (k.frz _ _ _ h) e c
 | _,_,.fK h e r=>.fK (k.frz _ _ _ h) e (Reps.keep k r)
 | _,_,.fT h e r=>.fT (k.frz _ _ _ h) e (Reps.keep k r)
theorem Reps.keep {K:PySem.W.Frag}{M M':Addr->Prop}{H H':Hp} (k:gP M M' H H'):∀ {vs:List V}{xs:List PV},Reps K M H vs xs->Reps K M' H' vs xs
 | _,_,.nil=>.nil
 | _,_,.cons r t=>.cons (aI.keep k r) (Reps.keep k t)
end
mutual
theorem aI.flat {K:PySem.W.Frag}{M M':Addr->Prop}{H:Hp}{v:V}{x:PV} (f:flat x=true) (r:aI K M H v x):aI K M' H v x:=by
 cases r with
 | non=>exact .non
 | bl b=>exact .bl b
 | int i=>exact .int i
 | str x=>exact .str x
 | tup h r=>exact .tup h (Reps.flat (by unfold PP.flat at f; exact f) r)
 | lst m h r=>unfold PP.flat at f; cases f
 | dK m h e r=>unfold PP.flat at f; cases f
 | dT m h e r=>unfold PP.flat at f; cases f
 | scr h=>exact .scr h
 | kt h r=>exact .kt h (Reps.flat (by unfold PP.flat at f; exact f) r)
 | exc h e c=>exact .exc h e c
 | fK h e r=>unfold PP.flat at f; cases f
 | fT h e r=>unfold PP.flat at f; cases f
theorem Reps.flat {K:PySem.W.Frag}{M M':Addr->Prop}{H:Hp}{vs:List V}{xs:List PV} (f:flats xs=true) (r:Reps K M H vs xs):Reps K M' H vs xs:=by
 cases r with
 | nil=>exact .nil
 | cons r t=>
  unfold PP.flats at f
  rw [aX3] at f
  exact .cons (aI.flat f.1 r) (Reps.flat f.2 t)
end
theorem gP.same {M M':Addr->Prop}{H H':Hp} (s:aE H H') (m:∀ a,M a->M' a):gP M M' H H':=
 ⟨fun a _ h e=>⟨m a h,s _ _ e⟩,fun a _ h e=>⟨m a h,s _ _ e⟩,fun a _ h e=>⟨m a h,s _ _ e⟩,fun _ _ e=>s _ _ e,fun _ _ _ e=>s _ _ e⟩
theorem aI.same {K:PySem.W.Frag}{M M':Addr->Prop}{H H':Hp}{v:V}{x:PV} (r:aI K M H v x) (s:aE H H') (m:∀ a,M a->M' a):aI K M' H' v x:=r.keep (.same s m)
theorem Reps.same {K:PySem.W.Frag}{M M':Addr->Prop}{H H':Hp}{v:List V}{x:List PV} (r:Reps K M H v x) (s:aE H H') (m:∀ a,M a->M' a):Reps K M' H' v x:=r.keep (.same s m)
noncomputable def hV:HO->Bool
 | .lst _=>true
 | .dK _=>true
 | .dT _=>true
 | _=>false
theorem gP.upd {M M':Addr->Prop}{H:Hp}{a:Addr}{o o':HO} (h:H a=some o') (mu:hV o'=true) (m:∀ b,M b->b ≠ a/\M' b):gP M M' H (upd H a o):=
 ⟨fun b _ hb e=>⟨(m b hb).2,by rw [aQ (m b hb).1]; exact e⟩,fun b _ hb e=>⟨(m b hb).2,by rw [aQ (m b hb).1]; exact e⟩,fun b _ hb e=>⟨(m b hb).2,by rw [aQ (m b hb).1]; exact e⟩,
  fun b _ e=>by rw [aQ (fun z=>by rw [z,h] at e; cases e; cases mu)]; exact e,
  fun b _ _ e=>by rw [aQ (fun z=>by rw [z,h] at e; cases e; cases mu)]; exact e⟩
theorem Reps.length {K:PySem.W.Frag}{M:Addr->Prop}{H:Hp}:∀ {vs:List V}{xs:List PV},Reps K M H vs xs->vs.length=xs.length
 | _,_,.nil=>rfl
 | _,_,.cons _ t=>congrArg (· + 1) t.length
theorem Reps.get {K:PySem.W.Frag}{M:Addr->Prop}{H:Hp}:∀ {vs:List V}{xs:List PV}{i:Nat}{v:V},Reps K M H vs xs->vs[i]? = some v->∃ x,xs[i]? = some x/\aI K M H v x
 | _,_,_,_,.nil,e=>by simp at e
 | _,_,0,_,.cons r _,e=>by simp at e; subst e; exact⟨_,rfl,r⟩
 | _,_,i+1,v,.cons _ t,e=>by
  rw [bd4] at e
  obtain ⟨x,h1,h2⟩:=t.get e
  exact⟨x,by rw [bd4]; exact h1,h2⟩
theorem Reps.at {K:PySem.W.Frag}{M:Addr->Prop}{H:Hp}:∀ {vs:List V}{xs:List PV}{i:Nat}{x:PV},Reps K M H vs xs->xs[i]? = some x->∃ v,vs[i]? = some v/\aI K M H v x
 | _,_,_,_,.nil,e=>by simp at e
 | _,_,0,_,.cons r _,e=>by simp at e; subst e; exact⟨_,rfl,r⟩
 | _,_,i+1,v,.cons _ t,e=>by
  rw [bd4] at e
  obtain ⟨x,h1,h2⟩:=t.at e
  exact⟨x,by rw [bd4]; exact h1,h2⟩
theorem Reps.append {K:PySem.W.Frag}{M:Addr->Prop}{H:Hp}:∀ {vs:List V}{xs:List PV}{us:List V}{ys:List PV},Reps K M H vs xs->Reps K M H us ys->Reps K M H (vs ++ us) (xs ++ ys)
 | _,_,_,_,.nil,s=>s
 | _,_,_,_,.cons r t,s=>.cons r (t.append s)
theorem Reps.set {K:PySem.W.Frag}{M:Addr->Prop}{H:Hp}{v:V}{x:PV} (q:aI K M H v x):∀ (i:Nat) {vs:List V}{xs:List PV},Reps K M H vs xs->Reps K M H (vs.set i v) (xs.set i x)
 | _,_,_,.nil=>.nil
 | 0,_,_,.cons r t=>.cons q t
 | i+1,_,_,.cons r t=>.cons r (Reps.set q i t)
theorem Reps.take {K:PySem.W.Frag}{M:Addr->Prop}{H:Hp}:∀ (n:Nat) {vs:List V}{xs:List PV},Reps K M H vs xs->Reps K M H (vs.take n) (xs.take n)
 | 0,_,_,_=>by simp; exact .nil
 | _+1,_,_,.nil=>.nil
 | n+1,_,_,.cons r t=>.cons r (Reps.take n t)
theorem Reps.drop {K:PySem.W.Frag}{M:Addr->Prop}{H:Hp}:∀ (n:Nat) {vs:List V}{xs:List PV},Reps K M H vs xs->Reps K M H (vs.drop n) (xs.drop n)
 | 0,_,_,r=>r
 | _+1,_,_,.nil=>.nil
 | n+1,_,_,.cons _ t=>Reps.drop n t
theorem Reps.eraseIdx {K:PySem.W.Frag}{M:Addr->Prop}{H:Hp}:∀ (n:Nat) {vs:List V}{xs:List PV},Reps K M H vs xs->Reps K M H (vs.eraseIdx n) (xs.eraseIdx n)
 | _,_,_,.nil=>.nil
 | 0,_,_,.cons _ t=>t
 | n+1,_,_,.cons r t=>.cons r (Reps.eraseIdx n t)
noncomputable abbrev intz (ns:List Int):List PV:=ns.map PV.int
theorem Reps.intz {K:PySem.W.Frag}{M:Addr->Prop}{H:Hp}:∀ (ns:List Int),Reps K M H (ns.map V.int) (intz ns)
 | []=>.nil
 | n :: r=>.cons (.int n) (Reps.intz r)
theorem Reps.ofInts {K:PySem.W.Frag}{M:Addr->Prop}{H:Hp}:∀ {ns:List Int}{us:List V},Reps K M H us (PP.intz ns)->us=ns.map V.int
 | [],_,.nil=>rfl
 | n :: r,_,.cons q t=>by
  cases q
  rw [Reps.ofInts t]; rfl
theorem bT:∀ (ns:List Int),flats (intz ns)=true
 | []=>rfl
 | n :: r=>by show (flat (.int n) && flats (intz r))=true; rw [bT r]; rfl
inductive Tg | rd | sh | nw | fr
inductive Slot | sh (g:Bool) (x:PV) | own (x:PV)
noncomputable def Slot.val:Slot->PV
 | .sh _ x=>x
 | .own x=>x
noncomputable def Slot.tag:Slot->Tg
 | .sh true _=>.nw
 | .sh false _=>.sh
 | .own _=>.rd
noncomputable abbrev bM:=List (Option Slot)
noncomputable def Ms (H0:Hp) (W:Addr->Prop):Bool->Addr->Prop
 | false,a=>¬ W a
 | true,a=>¬ W a/\H0 a=none
noncomputable def Mg (H0:Hp) (W:Addr->Prop) (Hs:Hp):Tg->Addr->Prop
 | .rd,_=>True
 | .sh,a=>¬ W a
 | .nw,a=>¬ W a/\H0 a=none
 | .fr,a=>Hs a=none
noncomputable def hZ (K:PySem.W.Frag) (M:Addr->Prop) (H:Hp) (a:Addr):PV->Prop
 | .lst xs=>∃ us,H a=some (.lst us)/\Reps K M H us xs
 | .dK ps=>∃ kvs,H a=some (.dK kvs)/\kvs.map (·.1)=ps.map (·.1)/\Reps K M H (kvs.map (·.2)) (ps.map (·.2))
 | .dT ps=>∃ kvs,H a=some (.dT kvs)/\kvs.map (·.1)=ps.map (·.1)/\Reps K M H (kvs.map (·.2)) (ps.map (·.2))
 | _=>False
noncomputable def A5 (K:PySem.W.Frag) (H0:Hp) (W:Addr->Prop) (H:Hp) (v:V):Slot->Prop
 | .sh g x=>aI K (Ms H0 W g) H v x
 | .own x=>∃ a,v = .ref a/\W a/\hZ K (Ms H0 W true) H a x
structure PX (K:PySem.W.Frag) (H0:Hp) (W:Addr->Prop) (σ:St) (ρ:bM) (H:Hp):Prop where
 len:ρ.length=σ.length
 same:aE H0 H
 wm:∀ a,W a->H0 a=none/\∃ o,H a=some o/\hV o=true
 sl:∀ (i:Nat) (m:Slot),ρ[i]? = some (some m)->∃ v,σ[i]? = some (some v)/\A5 K H0 W H v m
 dis:∀ (i j:Nat) (x y:PV) (a:Addr),ρ[i]? = some (some (.own x))->ρ[j]? = some (some (.own y))->σ[i]? = some (some (.ref a))->σ[j]? = some (some (.ref a))->i=j
theorem hZ.keep {K:PySem.W.Frag}{M M':Addr->Prop}{H H':Hp}{a:Addr} (k:gP M M' H H') (ha:∀ o,H a=some o->H' a=some o):∀ {x:PV},hZ K M H a x->hZ K M' H' a x
 | .lst _,⟨us,e,r⟩=>⟨us,ha _ e,r.keep k⟩
 | .dK _,⟨us,e,q,r⟩=>⟨us,ha _ e,q,r.keep k⟩
 | .dT _,⟨us,e,q,r⟩=>⟨us,ha _ e,q,r.keep k⟩
theorem hZ.at {K:PySem.W.Frag}{M:Addr->Prop}{H:Hp}{a:Addr}:∀ {x:PV},hZ K M H a x->∃ o,H a=some o/\hV o=true
 | .lst _,⟨us,e,r⟩=>⟨_,e,rfl⟩
 | .dK _,⟨us,e,q,r⟩=>⟨_,e,rfl⟩
 | .dT _,⟨us,e,q,r⟩=>⟨_,e,rfl⟩
theorem hZ.rep {K:PySem.W.Frag}{M M':Addr->Prop}{H:Hp}{a:Addr} (m:∀ b,M b->M' b) (ha:M' a):∀ {x:PV},hZ K M H a x->aI K M' H (.ref a) x
 | .lst _,⟨us,e,r⟩=>.lst ha e (r.same (aE.refl _) m)
 | .dK _,⟨us,e,q,r⟩=>.dK ha e q (r.same (aE.refl _) m)
 | .dT _,⟨us,e,q,r⟩=>.dT ha e q (r.same (aE.refl _) m)
section
variable {K : PySem.W.Frag} {H0 : Hp} {W W' : Addr → Prop} {σ : St} {ρ : bM} {H H' : Hp}
theorem PX.mono (p:PX K H0 W σ ρ H) (s:aE H H'):PX K H0 W σ ρ H':=by
 refine⟨p.len,p.same.trans s,fun a h=>⟨(p.wm a h).1,let ⟨o,e,m⟩:=(p.wm a h).2; ⟨o,s _ _ e,m⟩⟩,fun i m h=>?_,p.dis⟩
 obtain ⟨v,e,r⟩:=p.sl i m h
 refine⟨v,e,?_⟩
 cases m with
 | sh g x=>exact aI.same r s fun _ z=>z
 | own x=>
  obtain ⟨a,e1,e2,r⟩:=r
  exact⟨a,e1,e2,r.keep (.same s fun _ z=>z) fun _ z=>s _ _ z⟩
theorem PX.new (p:PX K H0 W σ ρ H) {a:Addr} (h:H a=none) : ¬ W a/\H0 a=none:=
 ⟨fun z=>(by obtain ⟨_,o,e,_⟩:=p.wm a z; rw [h] at e; cases e),p.same.free h⟩
theorem Mg.back {g:Tg}{H1:Hp} (s:aE H H1) {a:Addr} (h:Mg H0 W H1 g a):Mg H0 W H g a:=by
 cases g with
 | fr=>exact s.free h
 | rd=>exact h
 | sh=>exact h
 | nw=>exact h
end
noncomputable abbrev PK:=PV->Tg->Prop
noncomputable abbrev aF:=bM->PK->Prop
noncomputable abbrev cH:=bM->(Bool->Prop)->Prop
noncomputable abbrev cS:=bM->(List (PV × Tg)->Prop)->Prop
inductive i3 (K:PySem.W.Frag) (H0:Hp) (W:Addr->Prop) (Hs H:Hp):List V->List (PV × Tg)->Prop
 | nil:i3 K H0 W Hs H [] []
 | cons {v:V}{x:PV}{g:Tg}{vs:List V}{xs:List (PV × Tg)}:aI K (Mg H0 W Hs g) H v x->i3 K H0 W Hs H vs xs->i3 K H0 W Hs H (v :: vs) ((x,g) :: xs)
noncomputable def pH (K:PySem.W.Frag) (H0:Hp) (W:Addr->Prop) (H:Hp) (Q:PK) (Q':VK):Prop:=∀ v H' x g,aE H H'->aI K (Mg H0 W H g) H' v x->Q x g->Q' v H'
noncomputable def LE (X:Cx) (t:aF):TE:=fun σ H Q'=>∃ (W:Addr->Prop) (ρ:bM) (Q:PK),PX X.K X.H₀ W σ ρ H/\t ρ Q/\pH X.K X.H₀ W H Q Q'
noncomputable def LT (X:Cx) (t:cH):TT:=fun σ H Q'=>∃ (W:Addr->Prop) (ρ:bM) (Q:Bool->Prop),PX X.K X.H₀ W σ ρ H/\t ρ Q/\∀ b H',aE H H'->Q b->Q' b H'
noncomputable def LA (X:Cx) (t:cS):TA:=fun σ H Q'=>∃ (W:Addr->Prop) (ρ:bM) (Q:List (PV × Tg)->Prop),PX X.K X.H₀ W σ ρ H/\t ρ Q/\∀ vs H' xs,aE H H'->i3 X.K X.H₀ W H H' vs xs->Q xs->Q' vs H'
theorem i3.same {K:PySem.W.Frag}{H0:Hp}{W:Addr->Prop}{Hs Hs' H H':Hp} (s:aE H H') (b:aE Hs' Hs):∀ {vs:List V}{xs:List (PV × Tg)},i3 K H0 W Hs H vs xs->i3 K H0 W Hs' H' vs xs
 | _,_,.nil=>.nil
 | _,_,.cons r t=>.cons (r.same s fun _ z=>Mg.back b z) (t.same s b)
theorem i3.any {K:PySem.W.Frag}{H0:Hp}{W:Addr->Prop}{Hs H:Hp}:∀ {vs:List V}{xs:List (PV × Tg)},i3 K H0 W Hs H vs xs->Reps K (fun _=>True) H vs (xs.map (·.1))
 | _,_,.nil=>.nil
 | _,_,.cons r t=>.cons (r.same (aE.refl _) fun _ _=>trivial) t.any
noncomputable def Nw:Tg->PV->Prop
 | .fr,_=>True
 | .nw,_=>True
 | _,x=>flat x=true
section
variable {K : PySem.W.Frag} {H0 Hs H : Hp} {W : Addr → Prop} {σ : St} {ρ : bM}
theorem Nw.rep {g:Tg}{x:PV}{v:V} (px:PX K H0 W σ ρ Hs) (n:Nw g x) (r:aI K (Mg H0 W Hs g) H v x):aI K (Ms H0 W true) H v x:=by
 cases g with
 | fr=>exact r.same (aE.refl _) fun a z=>px.new z
 | nw=>exact r.same (aE.refl _) fun a z=>z
 | sh=>exact r.flat n
 | rd=>exact r.flat n
theorem A6 {v:V}{m:Slot} (r:A5 K H0 W H v m):aI K (Mg H0 W Hs m.tag) H v m.val:=by
 cases m with
 | sh g x=>
  cases g with
  | true=>exact aI.same r (aE.refl _) fun _ z=>z
  | false=>exact aI.same r (aE.refl _) fun _ z=>z
 | own x=>
  obtain ⟨a,rfl,_,r⟩:=r
  exact r.rep (fun _ _=>trivial) trivial
end
section
variable {X : Cx} {σ : St} {H : Hp} {Q' : VK} {ta tb : aF}
noncomputable def a5 (i:Nat):aF:=fun ρ Q=>∃ m,ρ[i]? = some (some m)/\Q m.val m.tag
noncomputable def qC (x:PV):aF:=fun _ Q=>Q x .fr
theorem am7 {i:Nat} (h:LE X (a5 i) σ H Q'):gX i σ H Q':=by
 obtain ⟨W,ρ,Q,px,⟨m,e,q⟩,k⟩:=h
 obtain ⟨v,ev,r⟩:=px.sl i m e
 exact⟨v,ev,k v H _ _ (aE.refl _) (A6 r) q⟩
theorem nM {x:PV}{v:V} (hr:∀ M,aI X.K M H v x) (h:LE X (qC x) σ H Q'):tC v σ H Q':=by
 obtain ⟨W,ρ,Q,px,q,k⟩:=h
 exact k v H _ _ (aE.refl _) (hr _) q
noncomputable def dL (X:Cx) (R:PV->Tg->PV->Tg->PK->Prop) (r:R2):Prop:=∀ (W:Addr->Prop) (Hs H:Hp) (u v:V) (x y:PV) (g g':Tg) (Q:PK) (Q':VK),aE Hs H->
 (∀ a,Hs a=none->¬ W a/\X.H₀ a=none)->aI X.K (Mg X.H₀ W Hs g) H u x->aI X.K (Mg X.H₀ W Hs g') H v y->R x g y g' Q->(∀ w H' z gz,aE H H'->aI X.K (Mg X.H₀ W Hs gz) H' w z->Q z gz->Q' w H')->r u v H Q'
noncomputable def q2 (R:PV->Tg->PV->Tg->PK->Prop) (ta tb:aF):aF:=fun ρ Q=>ta ρ fun x g=>tb ρ fun y g'=>R x g y g' Q
theorem pI {R:PV->Tg->PV->Tg->PK->Prop}{r:R2} (c:dL X R r) (h:LE X (q2 R ta tb) σ H Q'):mR r (LE X ta) (LE X tb) σ H Q':=by
 obtain ⟨W,ρ,Q,px,q,k⟩:=h
 refine⟨W,ρ,_,px,q,fun u H1 x g s1 r1 q1=>⟨W,ρ,_,px.mono s1,q1,fun v H2 y g' s2 r2 q2=>?_⟩⟩
 exact c W H H2 u v x y g g' Q Q' (s1.trans s2) (fun a z=>px.new z) (r1.same s2 fun _ z=>z) (r2.same (aE.refl _) fun _ z=>Mg.back s1 z) q2 fun w H' z gz s3 r3 q3=>k w H' z gz ((s1.trans s2).trans s3) r3 q3
noncomputable def RI (C:Int->Int->Prop) (f:Int->Int->PV):PV->Tg->PV->Tg->PK->Prop:=fun x _ y _ Q=>∃ i j,x = .int i/\y = .int j/\C i j/\Q (f i j) .fr
noncomputable def eY (f:Int->Int->PV):PV->Tg->PV->Tg->PK->Prop:=fun x _ y _ Q=>∃ i j,x = .int i/\y = .int j/\Q (f i j) .fr
theorem pJ {C:Int->Int->Prop}{f:Int->Int->Int}:dL X (RI C fun i j=>.int (f i j)) (rI C fun i j=>.int (f i j)):=by
 rintro W Hs H u v x y g g' Q Q' s n r1 r2 ⟨i,j,rfl,rfl,c,q⟩ k
 cases r1; cases r2
 exact⟨i,j,rfl,rfl,c,k _ _ _ _ (aE.refl _) (.int _) q⟩
theorem A7 {f:Int->Int->Int}:dL X (eY fun i j=>.int (f i j)) (iY fun i j=>.int (f i j)):=by
 rintro W Hs H u v x y g g' Q Q' s n r1 r2 ⟨i,j,rfl,rfl,q⟩ k
 cases r1; cases r2
 exact⟨i,j,rfl,rfl,k _ _ _ _ (aE.refl _) (.int _) q⟩
theorem lP {f:Int->Int->Bool}:dL X (eY fun i j=>.bl (f i j)) (iY fun i j=>.bl (f i j)):=by
 rintro W Hs H u v x y g g' Q Q' s n r1 r2 ⟨i,j,rfl,rfl,q⟩ k
 cases r1; cases r2
 exact⟨i,j,rfl,rfl,k _ _ _ _ (aE.refl _) (.bl _) q⟩
noncomputable def lQ (neg:Bool):PV->Tg->PV->Tg->PK->Prop:=fun x _ y _ Q=>(∃ i j,x = .int i/\y = .int j/\Q (.bl (if neg=true then !decide (i=j) else decide (i=j))) .fr) ∨ (∃ i j,x = .bl i/\y = .bl j/\Q (.bl (if neg=true then !decide (i=j) else decide (i=j))) .fr)
theorem A8 (i j:Int):decide (V.int i=V.int j)=decide (i=j):=by
 rw [bb8,bf4,bf4]; exact⟨fun z=>V.int.inj z,fun z=>congrArg V.int z⟩
theorem A9 (i j:Bool):decide (V.bl i=V.bl j)=decide (i=j):=by
 rw [bb8,bf4,bf4]; exact⟨fun z=>V.bl.inj z,fun z=>congrArg V.bl z⟩
theorem am8:dL X (lQ false) xC:=by
 rintro W Hs H u v x y g g' Q Q' s n r1 r2 (⟨i,j,rfl,rfl,q⟩ | ⟨i,j,rfl,rfl,q⟩) k
 ·cases r1; cases r2
  exact⟨rfl,by rw [A8]; exact k _ _ _ _ (aE.refl _) (.bl _) q⟩
 ·cases r1; cases r2
  exact⟨rfl,by rw [A9]; exact k _ _ _ _ (aE.refl _) (.bl _) q⟩
theorem am9:dL X (lQ true) xD:=by
 rintro W Hs H u v x y g g' Q Q' s n r1 r2 (⟨i,j,rfl,rfl,q⟩ | ⟨i,j,rfl,rfl,q⟩) k
 ·cases r1; cases r2
  exact⟨rfl,by rw [A8]; exact k _ _ _ _ (aE.refl _) (.bl _) q⟩
 ·cases r1; cases r2
  exact⟨rfl,by rw [A9]; exact k _ _ _ _ (aE.refl _) (.bl _) q⟩
noncomputable def aM (t:aF):cH:=fun ρ Q=>t ρ fun x _=>∃ b,x = .bl b/\Q b
theorem B0 {t:aF}{Q':Bool->Hp->Prop} (h:LT X (aM t) σ H Q'):LE X t σ H fun x H'=>∃ k,x = .bl k/\Q' k H':=by
 obtain ⟨W,ρ,Q,px,q,k⟩:=h
 refine⟨W,ρ,_,px,q,?_⟩
 rintro v H1 x g s r ⟨b,rfl,q⟩
 cases r
 exact⟨b,rfl,k _ _ s q⟩
noncomputable def gQ (t u:cH):cH:=fun ρ Q=>t ρ fun c=>if c=true then u ρ Q else Q false
noncomputable def iL (t u:cH):cH:=fun ρ Q=>t ρ fun c=>if c=true then Q true else u ρ Q
noncomputable def jB (t:cH):cH:=fun ρ Q=>t ρ fun c=>Q (!c)
variable {t u : cH} {Qb : Bool → Hp → Prop}
theorem an0 (h:LT X (gQ t u) σ H Qb):wN (LT X t) (LT X u) σ H Qb:=by
 obtain ⟨W,ρ,Q,px,q,k⟩:=h
 refine⟨W,ρ,_,px,q,fun b H1 s1 q1=>?_⟩
 cases b with
 | true=>exact aO ⟨W,ρ,Q,px.mono s1,by simpa using q1,fun b H2 s2 q2=>k _ _ (s1.trans s2) q2⟩
 | false=>exact aN (k _ _ s1 (by simpa using q1))
theorem an1 (h:LT X (iL t u) σ H Qb):wO (LT X t) (LT X u) σ H Qb:=by
 obtain ⟨W,ρ,Q,px,q,k⟩:=h
 refine⟨W,ρ,_,px,q,fun b H1 s1 q1=>?_⟩
 cases b with
 | false=>exact aN ⟨W,ρ,Q,px.mono s1,by simpa using q1,fun b H2 s2 q2=>k _ _ (s1.trans s2) q2⟩
 | true=>exact aO (k _ _ s1 (by simpa using q1))
theorem an2 (h:LT X (jB t) σ H Qb):wP (LT X t) σ H Qb:=by
 obtain ⟨W,ρ,Q,px,q,k⟩:=h
 exact⟨W,ρ,_,px,q,fun b H1 s1 q1=>k _ _ s1 q1⟩
noncomputable def i5 (ta tb:aF):aF:=fun ρ Q=>ta ρ fun x _=>∃ c,x = .bl c/\if c=true then tb ρ Q else Q (.bl false) .fr
noncomputable def tV (ta:aF):aF:=fun ρ Q=>ta ρ fun x _=>∃ c,x = .bl c/\Q (.bl (!c)) .fr
theorem pH.back {K:PySem.W.Frag}{H0:Hp}{W:Addr->Prop}{H H1:Hp}{Q:PK} (k:pH K H0 W H Q Q') (s:aE H H1):pH K H0 W H1 Q Q':=fun v H' x g s' r q=>k v H' x g (s.trans s') (r.same (aE.refl _) fun _ z=>Mg.back s z) q
theorem an3 (h:LE X (i5 ta tb) σ H Q'):wQ (LE X ta) (LE X tb) σ H Q':=by
 obtain ⟨W,ρ,Q,px,q,k⟩:=h
 refine⟨W,ρ,_,px,q,?_⟩
 rintro v H1 x g s1 r ⟨c,rfl,q⟩
 cases r
 refine⟨c,rfl,?_⟩
 cases c with
 | true=>exact aO ⟨W,ρ,Q,px.mono s1,by simpa using q,k.back s1⟩
 | false=>exact aN (k _ _ _ _ s1 (.bl _) (by simpa using q))
theorem an4 (h:LE X (tV ta) σ H Q'):wR (LE X ta) σ H Q':=by
 obtain ⟨W,ρ,Q,px,q,k⟩:=h
 refine⟨W,ρ,_,px,q,?_⟩
 rintro v H1 x g s1 r ⟨c,rfl,q⟩
 cases r
 exact⟨c,rfl,k _ _ _ _ s1 (.bl _) q⟩
noncomputable def a9:cS:=fun _ Q=>Q []
noncomputable def a6 (te:aF) (tr:cS):cS:=fun ρ Q=>te ρ fun x g=>tr ρ fun xs=>Q ((x,g) :: xs)
variable {Qa : List V → Hp → Prop} {tr : cS}
theorem an5 (h:LA X a9 σ H Qa):iI σ H Qa:=by
 obtain ⟨W,ρ,Q,px,q,k⟩:=h
 exact k _ _ _ (aE.refl _) .nil q
theorem an6 (h:LA X (a6 ta tr) σ H Qa):gZ (LE X ta) (LA X tr) σ H Qa:=by
 obtain ⟨W,ρ,Q,px,q,k⟩:=h
 refine⟨W,ρ,_,px,q,fun v H1 x g s1 r1 q1=>⟨W,ρ,_,px.mono s1,q1,fun vs H2 xs s2 r2 q2=>?_⟩⟩
 exact k _ _ _ (s1.trans s2) (.cons (r1.same s2 fun _ z=>z) (r2.same (aE.refl _) s1)) q2
noncomputable def bB (t:cS):aF:=fun ρ Q=>t ρ fun xs=>xs.length<=1000/\flats (xs.map (·.1))=true/\Q (.tup (xs.map (·.1))) .fr
noncomputable def cI (t:cS):aF:=fun ρ Q=>t ρ fun xs=>xs.length<=1000/\flats (xs.map (·.1))=true/\Q (.lst (xs.map (·.1))) .fr
theorem i3.length {K:PySem.W.Frag}{H0:Hp}{W:Addr->Prop}{Hs H:Hp}:∀ {vs:List V}{xs:List (PV × Tg)},i3 K H0 W Hs H vs xs->vs.length=xs.length
 | _,_,.nil=>rfl
 | _,_,.cons _ t=>congrArg (· + 1) t.length
theorem tW {n:Nat} (h:n<=1000):n<=sizeLine:=ba3 (nI h)
theorem an7 (h:LE X (bB tr) σ H Q'):xM (LA X tr) σ H Q':=by
 obtain ⟨W,ρ,Q,px,q,k⟩:=h
 refine⟨W,ρ,_,px,q,?_⟩
 rintro vs H1 xs s1 r ⟨hl,n,q⟩
 refine⟨by rw [r.length]; exact tW hl,fun p hp=>k _ _ _ .fr (s1.trans (bE hp _)) (.tup bI ?_) q⟩
 exact (r.any.flat n).same (bE hp _) fun _ z=>z
theorem an8 (h:LE X (cI tr) σ H Q'):xN (LA X tr) σ H Q':=by
 obtain ⟨W,ρ,Q,px,q,k⟩:=h
 refine⟨W,ρ,_,px,q,?_⟩
 rintro vs H1 xs s1 r ⟨hl,n,q⟩
 refine⟨by rw [r.length]; exact tW hl,fun p hp=>k _ _ _ .fr (s1.trans (bE hp _)) (.lst (s1.free hp) bI ?_) q⟩
 exact (r.any.flat n).same (bE hp _) fun _ z=>z
noncomputable def fX (X:Cx) (R:List PV->(PV->Prop)->Prop) (r:List V->Hp->VK->Prop):Prop:=∀ (H:Hp) (vs:List V) (xs:List PV) (Q:PV->Prop) (Q':VK),Reps X.K (fun _=>True) H vs xs->R xs Q->
 (∀ w H' z,aE H H'->aI X.K (fun a=>H a=none) H' w z->Q z->Q' w H')->r vs H Q'
noncomputable def aC (R:List PV->(PV->Prop)->Prop) (t:cS):aF:=fun ρ Q=>t ρ fun xs=>R (xs.map (·.1)) fun z=>Q z .fr
theorem B1 {R:List PV->(PV->Prop)->Prop}{r:List V->Hp->VK->Prop} (c:fX X R r) (h:LE X (aC R tr) σ H Q'):sK r (LA X tr) σ H Q':=by
 obtain ⟨W,ρ,Q,px,q,k⟩:=h
 refine⟨W,ρ,_,px,q,fun vs H1 xs s1 r1 q1=>c H1 vs _ _ Q' r1.any q1 fun w H' z s2 r2 q2=>k w H' z .fr (s1.trans s2) (r2.same (aE.refl _) fun _ z=>s1.free z) q2⟩
end
structure fY where
 nx:bM->Prop
 rt:PV->Prop
 bk:bM->Prop:=fun _=>False
 ct:bM->Prop:=fun _=>False
noncomputable abbrev aU:=fY->bM->Prop
noncomputable def Ev (W:Addr->Prop) (H:Hp) (W':Addr->Prop) (H':Hp):Prop:=∀ b o,H b=some o->¬ W b->H' b=some o/\¬ W' b
theorem Ev.trans {W W1 W2:Addr->Prop}{H H1 H2:Hp} (a:Ev W H W1 H1) (b:Ev W1 H1 W2 H2):Ev W H W2 H2:=fun c o h n=>let ⟨h1,n1⟩:=a c o h n; b c o h1 n1
theorem Ev.same {W:Addr->Prop}{H H':Hp} (s:aE H H'):Ev W H W H':=fun c o h n=>⟨s _ _ h,n⟩
theorem Ev.refl (W:Addr->Prop) (H:Hp):Ev W H W H:=Ev.same (aE.refl _)
structure nN (X:Cx) (W:Addr->Prop) (H:Hp) (D':fY) (D:cK):Prop where
 nx:∀ W' σ' H' ρ',Ev W H W' H'->PX X.K X.H₀ W' σ' ρ' H'->D'.nx ρ'->D.nx σ' H'
 rt:∀ v H' x,aE X.H₀ H'->aI X.K (fun a=>X.H₀ a=none) H' v x->D'.rt x->D.rt v H'
 bk:∀ W' σ' H' ρ',Ev W H W' H'->PX X.K X.H₀ W' σ' ρ' H'->D'.bk ρ'->D.bk σ' H'
 ct:∀ W' σ' H' ρ',Ev W H W' H'->PX X.K X.H₀ W' σ' ρ' H'->D'.ct ρ'->D.ct σ' H'
theorem nN.step {X:Cx}{W W1:Addr->Prop}{H H1:Hp}{D':fY}{D:cK} (k:nN X W H D' D) (e:Ev W H W1 H1):nN X W1 H1 D' D:=
 ⟨fun W' σ' H' ρ' e'=>k.nx W' σ' H' ρ' (e.trans e'),k.rt,fun W' σ' H' ρ' e'=>k.bk W' σ' H' ρ' (e.trans e'),fun W' σ' H' ρ' e'=>k.ct W' σ' H' ρ' (e.trans e')⟩
noncomputable def LS (X:Cx) (t:aU):TS:=fun D σ H=>∃ (W:Addr->Prop) (ρ:bM) (D':fY),PX X.K X.H₀ W σ ρ H/\t D' ρ/\nN X W H D' D
theorem fZ {α:Type}{l:List α}{i j:Nat}{a b:α} (h:(l.set i a)[j]? = some b):(j=i/\i < l.length/\b=a) ∨ (j ≠ i/\l[j]? = some b):=by
 by_cases e:j=i
 ·subst e
  have hl:j < (l.set j a).length:=(aV0.mp h).1
  rw [aZ1] at hl
  rw [bc3 hl] at h
  exact .inl ⟨rfl,hl,(aW4 h).symm⟩
 ·rw [aW3 (Ne.symm e)] at h
  exact .inr ⟨e,h⟩
section
variable {K : PySem.W.Frag} {H0 : Hp} {W W' : Addr → Prop} {σ : St} {ρ : bM} {H H' Hs : Hp}
theorem PX.setSh {i:Nat}{v:V}{g:Bool}{x:PV} (p:PX K H0 W σ ρ H) (r:aI K (Ms H0 W g) H v x):PX K H0 W (σ.set i (some v)) (ρ.set i (some (.sh g x))) H:=by
 refine⟨by rw [aZ1,aZ1]; exact p.len,p.same,p.wm,fun j m h=>?_,fun j k y z a h1 h2 h3 h4=>?_⟩
 ·rcases fZ h with ⟨rfl,hl,e⟩ | ⟨hne,h⟩
  ·cases e
   rw [p.len] at hl
   exact⟨v,bc3 hl,r⟩
  ·obtain ⟨u,e,q⟩:=p.sl j m h
   exact⟨u,by rw [aW3 (Ne.symm hne)]; exact e,q⟩
 ·rcases fZ h1 with ⟨_,_,e⟩ | ⟨n1,h1⟩
  ·cases e
  ·rcases fZ h2 with ⟨_,_,e⟩ | ⟨n2,h2⟩
   ·cases e
   ·rw [aW3 (Ne.symm n1)] at h3
    rw [aW3 (Ne.symm n2)] at h4
    exact p.dis j k y z a h1 h2 h3 h4
theorem PX.setNone {i:Nat}{o:Option V} (p:PX K H0 W σ ρ H):PX K H0 W (σ.set i o) (ρ.set i none) H:=by
 refine⟨by rw [aZ1,aZ1]; exact p.len,p.same,p.wm,fun j m h=>?_,fun j k y z a h1 h2 h3 h4=>?_⟩
 ·rcases fZ h with ⟨rfl,hl,e⟩ | ⟨hne,h⟩
  ·cases e
  ·obtain ⟨u,e,q⟩:=p.sl j m h
   exact⟨u,by rw [aW3 (Ne.symm hne)]; exact e,q⟩
 ·rcases fZ h1 with ⟨_,_,e⟩ | ⟨n1,h1⟩
  ·cases e
  ·rcases fZ h2 with ⟨_,_,e⟩ | ⟨n2,h2⟩
   ·cases e
   ·rw [aW3 (Ne.symm n1)] at h3
    rw [aW3 (Ne.symm n2)] at h4
    exact p.dis j k y z a h1 h2 h3 h4
noncomputable def lR (W:Addr->Prop) (a:Addr):Addr->Prop:=fun b=>W b ∨ b=a
theorem tX {g:Bool}{a b:Addr} (n:b ≠ a) (h:Ms H0 W g b):Ms H0 (lR W a) g b:=by
 cases g with
 | true=>exact⟨fun z=>z.elim h.1 n,h.2⟩
 | false=>exact fun z=>z.elim h n
theorem PX.setOwn {i:Nat}{a:Addr}{x:PV} (p:PX K H0 W σ ρ Hs) (s:aE Hs H) (ha:Hs a=none) (r:hZ K (Ms H0 (lR W a) true) H a x):PX K H0 (lR W a) (σ.set i (some (.ref a))) (ρ.set i (some (.own x))) H:=by
 have old:∀ b o,Hs b=some o->b ≠ a:=fun b o e z=>by rw [z,ha] at e; cases e
 have kp:∀ g,gP (Ms H0 W g) (Ms H0 (lR W a) g) Hs H:=fun g=>⟨fun b _ m e=>⟨tX (old _ _ e) m,s _ _ e⟩,fun b _ m e=>⟨tX (old _ _ e) m,s _ _ e⟩,fun b _ m e=>⟨tX (old _ _ e) m,s _ _ e⟩,fun _ _ e=>s _ _ e,fun _ _ _ e=>s _ _ e⟩
 have wa : ¬ W a:=(p.new ha).1
 refine⟨by rw [aZ1,aZ1]; exact p.len,p.same.trans s,fun b z=>?_,fun j m h=>?_,fun j k y z b h1 h2 h3 h4=>?_⟩
 ·rcases z with z | rfl
  ·obtain ⟨h1,o,h2,h3⟩:=p.wm b z
   exact⟨h1,o,s _ _ h2,h3⟩
  ·exact⟨(p.new ha).2,r.at⟩
 ·rcases fZ h with ⟨rfl,hl,e⟩ | ⟨hne,h⟩
  ·cases e
   rw [p.len] at hl
   exact⟨_,bc3 hl,a,rfl,.inr rfl,r⟩
  ·obtain ⟨u,e,q⟩:=p.sl j m h
   refine⟨u,by rw [aW3 (Ne.symm hne)]; exact e,?_⟩
   cases m with
   | sh g y=>exact aI.keep (kp g) q
   | own y=>
    obtain ⟨b,e1,e2,q⟩:=q
    exact⟨b,e1,.inl e2,q.keep (kp true) fun o z=>s _ _ z⟩
 ·have ne:∀ {j:Nat}{y:PV},ρ[j]? = some (some (.own y))->σ[j]? ≠ some (some (.ref a)):=fun {j y} h1 h2=>by
   obtain ⟨u,e,c,e1,e2,_⟩:=p.sl j _ h1
   rw [h2] at e
   cases e
   cases e1
   exact wa e2
  rcases fZ h1 with ⟨e1,l1,_⟩ | ⟨n1,h1⟩
  ·rcases fZ h2 with ⟨e2,_,_⟩ | ⟨n2,h2⟩
   ·rw [e1,e2]
   ·rw [e1,bc3 (by rw [<- p.len]; exact l1)] at h3
    rw [aW3 (Ne.symm n2)] at h4
    cases h3
    exact absurd h4 (ne h2)
  ·rw [aW3 (Ne.symm n1)] at h3
   rcases fZ h2 with ⟨e2,l2,_⟩ | ⟨n2,h2⟩
   ·rw [e2,bc3 (by rw [<- p.len]; exact l2)] at h4
    cases h4
    exact absurd h3 (ne h1)
   ·rw [aW3 (Ne.symm n2)] at h4
    exact p.dis j k y z b h1 h2 h3 h4
theorem Ev.own {a:Addr} (s:aE Hs H) (ha:Hs a=none):Ev W Hs (lR W a) H:=fun b o e n=>⟨s _ _ e,fun z=>z.elim n fun z=>by rw [z,ha] at e; cases e⟩
theorem jT {g:Bool}{a b:Addr} (wa:W a) (h:Ms H0 W g b):b ≠ a:=by
 cases g with
 | true=>exact fun z=>h.1 (by rw [z]; exact wa)
 | false=>exact fun z=>h (by rw [z]; exact wa)
theorem PX.updOwn {i:Nat}{a:Addr}{x y:PV}{o:HO} (p:PX K H0 W σ ρ H) (hi:ρ[i]? = some (some (.own x))) (ha:σ[i]? = some (some (.ref a))) (wa:W a) (mu:hV o=true) (r:hZ K (Ms H0 W true) (upd H a o) a y) :
  PX K H0 W σ (ρ.set i (some (.own y))) (upd H a o):=by
 obtain ⟨w0,o',e',mu'⟩:=p.wm a wa
 have kp:∀ g,gP (Ms H0 W g) (Ms H0 W g) H (upd H a o):=fun g=>.upd e' mu' fun b m=>⟨jT wa m,m⟩
 refine⟨by rw [aZ1]; exact p.len,fun b u e=>by rw [aQ (fun z=>by rw [z,w0] at e; cases e)]; exact p.same _ _ e,fun b z=>?_,fun j m h=>?_,fun j k y' z b h1 h2 h3 h4=>?_⟩
 ·by_cases e:b=a
  ·subst e; exact⟨w0,o,bI,mu⟩
  ·obtain ⟨h1,o2,h2,h3⟩:=p.wm b z
   exact⟨h1,o2,by rw [aQ e]; exact h2,h3⟩
 ·rcases fZ h with ⟨rfl,hl,e⟩ | ⟨hne,h⟩
  ·cases e
   exact⟨_,ha,a,rfl,wa,r⟩
  ·obtain ⟨u,e,q⟩:=p.sl j m h
   refine⟨u,e,?_⟩
   cases m with
   | sh g y=>exact aI.keep (kp g) q
   | own y=>
    obtain ⟨b,e1,e2,q⟩:=q
    have hb:b ≠ a:=fun z=>by
     subst e1
     rw [z] at e
     exact hne (p.dis j i _ _ a h hi e ha)
    exact⟨b,e1,e2,q.keep (kp true) fun o z=>by rw [aQ hb]; exact z⟩
 ·have g1:∃ y,ρ[j]? = some (some (.own y)):=by
   rcases fZ h1 with ⟨e,_,_⟩ | ⟨_,h⟩
   ·exact⟨x,by rw [e]; exact hi⟩
   ·exact⟨_,h⟩
  have g2:∃ y,ρ[k]? = some (some (.own y)):=by
   rcases fZ h2 with ⟨e,_,_⟩ | ⟨_,h⟩
   ·exact⟨x,by rw [e]; exact hi⟩
   ·exact⟨_,h⟩
  obtain ⟨y1,g1⟩:=g1
  obtain ⟨y2,g2⟩:=g2
  exact p.dis j k y1 y2 b g1 g2 h3 h4
theorem Ev.upd {a:Addr}{o:HO} (wa:W a):Ev W H W (upd H a o):=fun b u e n=>⟨by rw [aQ (fun z=>n (by rw [z]; exact wa))]; exact e,n⟩
end
section
variable {X : Cx} {σ : St} {H : Hp} {D : cK} {te : aF} {t u : aU}
noncomputable def bC:aU:=fun D ρ=>D.nx ρ
noncomputable def aD (t u:aU):aU:=fun D ρ=>t { D with nx:=u D } ρ
theorem an9 (h:LS X bC D σ H):wS D σ H:=by
 obtain ⟨W,ρ,D',px,q,k⟩:=h
 exact k.nx W σ H ρ (Ev.refl _ _) px q
theorem ao0 (h:LS X (aD t u) D σ H):wT (LS X t) (LS X u) D σ H:=by
 obtain ⟨W,ρ,D',px,q,k⟩:=h
 exact⟨W,ρ,_,px,q,fun W' σ' H' ρ' e px' q'=>⟨W',ρ',D',px',q',k.step e⟩,k.rt,k.bk,k.ct⟩
noncomputable def tY:Tg->PV->Bool
 | .fr,_=>true
 | .nw,_=>true
 | _,x=>flat x
noncomputable def lT:Tg->PV->Prop
 | .rd,x=>flat x=true
 | _,_=>True
theorem B2 {K:PySem.W.Frag}{H0 Hs H:Hp}{W:Addr->Prop}{σ:St}{ρ:bM}{g:Tg}{x:PV}{v:V} (px:PX K H0 W σ ρ Hs) (n:lT g x) (r:aI K (Mg H0 W Hs g) H v x):aI K (Ms H0 W (tY g x)) H v x:=by
 cases g with
 | fr=>exact Nw.rep (g:=.fr) px trivial r
 | nw=>exact Nw.rep (g:=.nw) px trivial r
 | sh=>
  show aI K (Ms H0 W (flat x)) H v x
  cases e:flat x with
  | true=>exact r.flat e
  | false=>exact r.same (aE.refl _) fun _ z=>z
 | rd=>exact r.flat n
noncomputable def b6 (i:Nat) (te:aF):aU:=fun D ρ=>te ρ fun x g=>lT g x/\D.nx (ρ.set i (some (.sh (tY g x) x)))
theorem B3 {i:Nat} (h:LS X (b6 i te) D σ H):jO (LE X te) (cT i) D σ H:=by
 obtain ⟨W,ρ,D',px,q,k⟩:=h
 refine⟨W,ρ,_,px,q,?_⟩
 rintro v H1 x g s r ⟨n,q⟩
 exact k.nx W _ H1 _ (Ev.same s) ((px.mono s).setSh (B2 px n r)) q
noncomputable def B4:PV->Bool
 | .lst xs=>flats xs
 | .dK ps=>flats (ps.map (·.2))
 | .dT ps=>flats (ps.map (·.2))
 | _=>false
theorem ao1 {K:PySem.W.Frag}{M:Addr->Prop}{H:Hp}{v:V}{x:PV} (r:aI K M H v x) (o:B4 x=true):∃ a,v = .ref a/\M a/\∀ M',hZ K M' H a x:=by
 cases r with
 | lst m e r=>exact⟨_,rfl,m,fun _=>⟨_,e,r.flat o⟩⟩
 | dK m e q r=>exact⟨_,rfl,m,fun _=>⟨_,e,q,r.flat o⟩⟩
 | dT m e q r=>exact⟨_,rfl,m,fun _=>⟨_,e,q,r.flat o⟩⟩
 | _=>cases o
noncomputable def dX (i:Nat) (te:aF):aU:=fun D ρ=>te ρ fun x g=>g = .fr/\B4 x=true/\D.nx (ρ.set i (some (.own x)))
theorem ao2 {i:Nat} (h:LS X (dX i te) D σ H):jO (LE X te) (cT i) D σ H:=by
 obtain ⟨W,ρ,D',px,q,k⟩:=h
 refine⟨W,ρ,_,px,q,?_⟩
 rintro v H1 x g s r ⟨rfl,o,q⟩
 obtain ⟨a,rfl,m,w⟩:=ao1 r o
 exact k.nx _ _ H1 _ (Ev.own s m) (px.setOwn s m (w _)) q
noncomputable def aX (te:aF):aU:=fun D ρ=>te ρ fun x g=>Nw g x/\D.rt x
theorem ao3 (h:LS X (aX te) D σ H):rW (LE X te) D σ H:=by
 obtain ⟨W,ρ,D',px,q,k⟩:=h
 refine⟨W,ρ,_,px,q,?_⟩
 rintro v H1 x g s r ⟨n,q⟩
 exact k.rt v H1 x (px.same.trans s) ((Nw.rep px n r).same (aE.refl _) fun _ z=>z.2) q
noncomputable def Slot.nw:Slot->Prop
 | .own _=>True
 | .sh true _=>True
 | .sh false x=>flat x=true
noncomputable def tZ (i:Nat):aU:=fun D ρ=>∃ m,ρ[i]? = some (some m)/\m.nw/\D.rt m.val
theorem ao4 {i:Nat} (h:LS X (tZ i) D σ H):rW (gX i) D σ H:=by
 obtain ⟨W,ρ,D',px,⟨m,hi,n,q⟩,k⟩:=h
 obtain ⟨v,ev,r⟩:=px.sl i _ hi
 refine⟨v,ev,k.rt v H _ px.same ?_ q⟩
 cases m with
 | own x=>
  obtain ⟨a,rfl,wa,r⟩:=r
  exact r.rep (fun _ z=>z.2) (px.wm a wa).1
 | sh g x=>
  cases g with
  | true=>exact aI.same r (aE.refl _) fun _ z=>z.2
  | false=>exact aI.flat n r
noncomputable def bD (c:cH) (t u:aU):aU:=fun D ρ=>c ρ fun b=>if b=true then t D ρ else u D ρ
theorem ao5 {c:cH} (h:LS X (bD c t u) D σ H):wU (LT X c) (LS X t) (LS X u) D σ H:=by
 obtain ⟨W,ρ,D',px,q,k⟩:=h
 refine⟨W,ρ,_,px,q,fun b H1 s q1=>?_⟩
 cases b with
 | true=>exact aO ⟨W,ρ,D',px.mono s,by simpa using q1,k.step (Ev.same s)⟩
 | false=>exact aN ⟨W,ρ,D',px.mono s,by simpa using q1,k.step (Ev.same s)⟩
noncomputable def pK (c:cH) (tb:aU):aU:=fun D ρ=>∃ I:Nat->bM->Prop,(∃ m,I m ρ)/\∀ m ρ',I m ρ'->c ρ' fun b=>if b=true then tb { D with nx:=fun ρ2=>∃ m',m' < m/\I m' ρ2,ct:=fun ρ2=>∃ m',m' < m/\I m' ρ2,bk:=D.nx } ρ' else D.nx ρ'
theorem ao6 {c:cH}{tb:aU} (h:LS X (pK c tb) D σ H):wY (LT X c) (LS X tb) D σ H:=by
 obtain ⟨W,ρ,D',px,⟨I,⟨m0,i0⟩,turn⟩,k⟩:=h
 refine⟨fun m σ2 H2=>∃ W2 ρ2,PX X.K X.H₀ W2 σ2 ρ2 H2/\Ev W H W2 H2/\I m ρ2,⟨m0,W,ρ,px,Ev.refl _ _,i0⟩,?_⟩
 rintro m σ2 H2 ⟨W2,ρ2,px2,e2,i2⟩
 refine⟨W2,ρ2,_,px2,turn m ρ2 i2,fun b H3 s3 q3=>?_⟩
 cases b with
 | true=>
  refine aO ⟨fun σ4 H4=>∃ W4 ρ4,PX X.K X.H₀ W4 σ4 ρ4 H4/\Ev W H W4 H4/\∃ m',m' < m/\I m' ρ4,fun σ4 H4 ⟨W4,ρ4,a,b,m',c,d⟩=>⟨m',c,W4,ρ4,a,b,d⟩,W2,ρ2,_,px2.mono s3,by simpa using q3,?_⟩
  have e3:Ev W H W2 H3:=e2.trans (Ev.same s3)
  exact⟨fun W' σ' H' ρ' e p q=>⟨W',ρ',p,e3.trans e,q⟩,k.rt,fun W' σ' H' ρ' e p q=>k.nx W' σ' H' ρ' (e3.trans e) p q,fun W' σ' H' ρ' e p q=>⟨W',ρ',p,e3.trans e,q⟩⟩
 | false=>exact aN (k.nx W2 σ2 H3 ρ2 (e2.trans (Ev.same s3)) (px2.mono s3) (by simpa using q3))
end
theorem lim {n:Nat} (h:n<=16000000):n<=sizeLine:=ba3 (j8 h)
theorem aI.sqT {K:PySem.W.Frag}{M:Addr->Prop}{H:Hp}{v:V}{xs:List PV} (r:aI K M H v (.tup xs)):∃ a us,v = .ref a/\H a=some (.tup us)/\Reps K M H us xs:=by
 cases r with
 | tup e r=>exact⟨_,_,rfl,e,r⟩
theorem aI.sqL {K:PySem.W.Frag}{M:Addr->Prop}{H:Hp}{v:V}{xs:List PV} (r:aI K M H v (.lst xs)):∃ a us,v = .ref a/\M a/\H a=some (.lst us)/\Reps K M H us xs:=by
 cases r with
 | lst m e r=>exact⟨_,_,rfl,m,e,r⟩
theorem j9.sqL {K:PySem.W.Frag}{H:Hp}{a:Addr}{ns:List Int} (h:j9 K H a ns):aK K H a (ns.map V.int):=h.elim (fun z=>.inl (.inr z)) .inr
noncomputable def jC:PV->Option (List PV)
 | .tup xs=>some xs
 | .lst xs=>some xs
 | .scr ns=>some (intz ns)
 | .kt xs=>some xs
 | _=>none
theorem aI.seq {K:PySem.W.Frag}{M:Addr->Prop}{H:Hp}{v:V}{x:PV}{xs:List PV} (r:aI K M H v x) (e:jC x=some xs):∃ a us,v = .ref a/\(aK K H a us ∨ aH K H a us)/\Reps K M H us xs:=by
 cases r with
 | tup h r=>cases e; exact⟨_,_,rfl,.inr (aH.of h),r⟩
 | lst m h r=>cases e; exact⟨_,_,rfl,.inl (aK.of h),r⟩
 | scr h=>cases e; exact⟨_,_,rfl,.inl h.sqL,Reps.intz _⟩
 | kt h r=>cases e; exact⟨_,_,rfl,.inr (.inr h),r⟩
 | _=>cases e
section
variable {X : Cx} {σ : St} {H : Hp} {D : cK} {te ti to : aF} {t u : aU} {Q' : VK}
theorem _root_.PP.PX.updL {K:PySem.W.Frag}{H0:Hp}{W:Addr->Prop}{σ:St}{ρ:bM}{H:Hp}{i:Nat}{a:Addr}{x:PV}{us:List V}{ys:List PV} (p:PX K H0 W σ ρ H) (hi:ρ[i]? = some (some (.own x))) (ha:σ[i]? = some (some (.ref a))) (wa:W a) (r:Reps K (Ms H0 W true) (upd H a (.lst us)) us ys) :
  PX K H0 W σ (ρ.set i (some (.own (.lst ys)))) (upd H a (.lst us)):=p.updOwn hi ha wa rfl (y:=.lst ys) ⟨us,bI,r⟩
noncomputable def fM (i:Nat) (te:aF):aU:=fun D ρ=>∃ xs,ρ[i]? = some (some (.own (.lst xs)))/\te ρ fun x g=>Nw g x/\xs.length < 16000000/\D.nx (ρ.set i (some (.own (.lst (xs ++ [x])))))
theorem ao7 {i:Nat} (h:LS X (fM i te) D σ H):mM (lK X.K "list" sX (gX i) (gZ (LE X te) iI)) D σ H:=by
 obtain ⟨W,ρ,D',px,⟨xs,hi,q⟩,k⟩:=h
 obtain ⟨v,ev,a,rfl,wa,us,ea,r⟩:=px.sl i _ hi
 refine⟨_,ev,kI (aK.of ea),W,ρ,_,px,q,?_⟩
 rintro w H1 x g s rx ⟨n,hl,q⟩
 have ea1:=s _ _ ea
 refine⟨a,us,w,rfl,rfl,ea1,j8 (by rw [r.length]; omega),?_⟩
 refine k.nx W σ _ _ ((Ev.same s).trans (Ev.upd wa)) ((px.mono s).updL hi ev wa ?_) q
 exact ((r.same s fun _ z=>z).append (.cons (Nw.rep px n rx) .nil)).keep (.upd ea1 rfl fun b m=>⟨jT wa m,m⟩)
noncomputable def B5 (K:PySem.W.Frag):V->List V->Hp->VK->Prop:=fun x vs H Q=>yL x vs H Q ∨ A4 K x vs H Q
noncomputable def u3 (i:Nat) (te:aF):aU:=fun D ρ=>∃ xs,ρ[i]? = some (some (.own (.lst xs)))/\te ρ fun y g=>∃ ys,(y = .tup ys ∨ y = .lst ys)/\(Nw g y ∨ flats ys=true)/\xs.length+ys.length<=16000000/\D.nx (ρ.set i (some (.own (.lst (xs ++ ys)))))
theorem ao8 {i:Nat} (h:LS X (u3 i te) D σ H):mM (lK X.K "list" (B5 X.K) (gX i) (gZ (LE X te) iI)) D σ H:=by
 obtain ⟨W,ρ,D',px,⟨xs,hi,q⟩,k⟩:=h
 obtain ⟨v,ev,a,rfl,wa,us,ea,r⟩:=px.sl i _ hi
 refine⟨_,ev,kI (aK.of ea),W,ρ,_,px,q,?_⟩
 rintro w H1 y g s ry ⟨ys,hy,n,hl,q⟩
 have ea1:=s _ _ ea
 have key:∀ (zs:List V),Reps X.K (Ms X.H₀ W true) H1 zs ys->D.nx σ (upd H1 a (.lst (us ++ zs))):=fun zs rz=>by
  refine k.nx W σ _ _ ((Ev.same s).trans (Ev.upd wa)) ((px.mono s).updL hi ev wa ?_) q
  exact ((r.same s fun _ z=>z).append rz).keep (.upd ea1 rfl fun b m=>⟨jT wa m,m⟩)
 have lr:=r.length
 rcases hy with rfl | rfl
 ·obtain ⟨b,zs,rfl,eb,rz⟩:=ry.sqT
  have lz:=rz.length
  refine .inr ⟨a,b,us,zs,rfl,rfl,ea1,aH.of eb,lim (by omega),key zs ?_⟩
  rcases n with n | n
  ·obtain ⟨b',zs',e1,e2,rz'⟩:=(Nw.rep px n ry).sqT
   cases e1; rw [eb] at e2; cases e2; exact rz'
  ·exact rz.flat n
 ·obtain ⟨b,zs,rfl,_,eb,rz⟩:=ry.sqL
  have lz:=rz.length
  refine .inl ⟨a,b,us,zs,rfl,rfl,ea1,eb,lim (by omega),key zs ?_⟩
  rcases n with n | n
  ·obtain ⟨b',zs',e1,_,e2,rz'⟩:=(Nw.rep px n ry).sqL
   cases e1; rw [eb] at e2; cases e2; exact rz'
  ·exact rz.flat n
noncomputable def lU (i:Nat) (tk te:aF):aU:=fun D ρ=>te ρ fun x g=>∃ xs,ρ[i]? = some (some (.own (.lst xs)))/\tk ρ fun y _=>∃ n j,y = .int n/\hG xs.length n=some j/\Nw g x/\D.nx (ρ.set i (some (.own (.lst (xs.set j x)))))
theorem ao9 {i:Nat}{tk:aF} (h:LS X (lU i tk te) D σ H):jO (LE X te) (rY (gX i) (LE X tk) sS) D σ H:=by
 obtain ⟨W,ρ,D',px,q,k⟩:=h
 refine⟨W,ρ,_,px,q,?_⟩
 rintro w H1 x g s rx ⟨xs,hi,q1⟩
 obtain ⟨v,ev,a,rfl,wa,us,ea,r⟩:=(px.mono s).sl i _ hi
 refine⟨_,ev,W,ρ,_,px.mono s,q1,?_⟩
 rintro kv H2 y gy s2 ry ⟨n,j,rfl,hj,nw,q2⟩
 cases ry
 have ea2:=s2 _ _ ea
 refine⟨a,us,n,j,rfl,rfl,ea2,by rw [r.length]; exact hj,?_⟩
 refine k.nx W σ _ _ ((Ev.same (s.trans s2)).trans (Ev.upd wa)) ((px.mono (s.trans s2)).updL hi ev wa ?_) q2
 exact (Reps.set ((Nw.rep px nw rx).same s2 fun _ z=>z) j (r.same s2 fun _ z=>z)).keep (.upd ea2 rfl fun b m=>⟨jT wa m,m⟩)
theorem B6 {m n:Nat} (h:m < n):seqIndex? (m:Int) n=some m:=by
 have:=seqIndex_of (k:=(m:Int)) (n:=n) (by omega) (by omega)
 rw [this]; rfl
noncomputable def u4 (i j:Nat) (tk:aF):aU:=fun D ρ=>∃ ys xs,i ≠ j/\ρ[i]? = some (some (.own (.lst ys)))/\ρ[j]? = some (some (.own (.lst xs)))/\tk ρ fun n _=>∃ (m:Nat) (y:PV),n = .int m/\xs.length<=16000000/\ys.length < 16000000/\xs[m]? = some y/\
 D.nx ((ρ.set j (some (.own (.lst (xs.eraseIdx m))))).set i (some (.own (.lst (ys ++ [y])))))
theorem ap0 {i j:Nat}{tk:aF} (h:LS X (u4 i j tk) D σ H):mM (lK X.K "list" sX (gX i) (gZ (lK X.K "list" sY (gX j) (gZ (LE X tk) iI)) iI)) D σ H:=by
 obtain ⟨W,ρ,D',px,⟨ys,xs,hij,hi,hj,q⟩,k⟩:=h
 obtain ⟨v,ev,a,rfl,wa,us,ea,r⟩:=px.sl i _ hi
 obtain ⟨v2,ev2,b,rfl,wb,vs,eb,rb⟩:=px.sl j _ hj
 have hab:a ≠ b:=fun z=>by subst z; exact hij (px.dis i j _ _ a hi hj ev ev2)
 refine⟨_,ev,kI (aK.of ea),_,ev2,kI (aK.of eb),W,ρ,_,px,q,?_⟩
 rintro w H1 n g s rn ⟨m,y,rfl,hl,hl2,hm,q⟩
 cases rn
 have ea1:=s _ _ ea
 have eb1:=s _ _ eb
 have r1:=rb.same (M':=Ms X.H₀ W true) s fun _ z=>z
 have r0:=r.same (M':=Ms X.H₀ W true) s fun _ z=>z
 obtain ⟨w,hw,ry⟩:=r1.at hm
 have lm:m < vs.length:=(aV0.mp hw).1
 have lr:=rb.length
 refine⟨b,vs,m,m,w,rfl,rfl,eb1,by omega,by omega,B6 lm,hw,?_⟩
 have kp:gP (Ms X.H₀ W true) (Ms X.H₀ W true) H1 (upd H1 b (.lst (vs.eraseIdx m))):=.upd eb1 rfl fun b m=>⟨jT wb m,m⟩
 have ea2:upd H1 b (.lst (vs.eraseIdx m)) a=some (.lst us):=by rw [aQ hab]; exact ea1
 refine⟨a,us,w,rfl,rfl,ea2,j8 (by rw [r.length]; omega),?_⟩
 have px2:=(px.mono s).updL hj ev2 wb ((r1.eraseIdx m).keep kp)
 have hi2:(ρ.set j (some (Slot.own (.lst (xs.eraseIdx m)))))[i]? = some (some (.own (.lst ys))):=by rw [aW3 (Ne.symm hij)]; exact hi
 have kp2:gP (Ms X.H₀ W true) (Ms X.H₀ W true) (upd H1 b (.lst (vs.eraseIdx m))) (upd (upd H1 b (.lst (vs.eraseIdx m))) a (.lst (us ++ [w]))):=.upd ea2 rfl fun b m=>⟨jT wa m,m⟩
 exact k.nx W _ _ _ (((Ev.same s).trans (Ev.upd wb)).trans (Ev.upd wa)) (px2.updL hi2 ev wa (((r0.keep kp).append (.cons (ry.keep kp) .nil)).keep kp2)) q
end
theorem Reps.atI {K:PySem.W.Frag}{M:Addr->Prop}{H:Hp}{us:List V}{xs:List PV}{i:Int}{z:PV} (r:Reps K M H us xs) (h:L2.atI xs i=some z):∃ v,L2.atI us i=some v/\aI K M H v z:=by
 unfold L2.atI at h ⊢
 rw [r.length]
 cases e:hG xs.length i with
 | none=>rw [e] at h; cases h
 | some j=>rw [e] at h; exact r.at h
section
variable {X : Cx} {σ : St} {H : Hp} {Q' : VK} {ta tb te : aF} {tr : cS}
noncomputable def u5:PV->Tg->PV->Tg->PK->Prop:=fun x g y _ Q=>∃ xs i z,jC x=some xs/\y = .int i/\L2.atI xs i=some z/\Q z g
theorem ap1:dL X u5 (yF X.K):=by
 rintro W Hs H u v x y g g' Q Q' s n r1 r2 ⟨xs,i,z,e,rfl,hz,q⟩ k
 cases r2
 obtain ⟨a,us,rfl,hs,r⟩:=r1.seq e
 obtain ⟨v,hv,rv⟩:=r.atI hz
 rcases hs with hs | hs
 ·exact .inl ⟨a,us,i,v,rfl,rfl,hs,hv,k v H z g (aE.refl _) rv q⟩
 ·exact .inr (.inl ⟨a,us,i,v,rfl,rfl,hs,hv,k v H z g (aE.refl _) rv q⟩)
noncomputable def u6:PV->Option Nat
 | .tup xs=>some xs.length
 | .lst xs=>some xs.length
 | .scr ns=>some ns.length
 | .dK ps=>some ps.length
 | .kt xs=>some xs.length
 | _=>none
noncomputable def bU:List PV->(PV->Prop)->Prop:=fun xs Q=>∃ x n,xs = [x]/\u6 x=some n/\Q (.int n)
theorem Reps.one {K:PySem.W.Frag}{M:Addr->Prop}{H:Hp}{vs:List V}{x:PV} (r:Reps K M H vs [x]):∃ v,vs = [v]/\aI K M H v x:=by
 cases r with
 | cons r t=>cases t; exact⟨_,rfl,r⟩
theorem Reps.two {K:PySem.W.Frag}{M:Addr->Prop}{H:Hp}{vs:List V}{x y:PV} (r:Reps K M H vs [x,y]):∃ v w,vs = [v,w]/\aI K M H v x/\aI K M H w y:=by
 cases r with
 | cons r t=>
  obtain ⟨w,rfl,q⟩:=t.one
  exact⟨_,_,rfl,r,q⟩
theorem ap2:fX X bU (fun xs H Q=>(∃ p ys,xs = [.ref p]/\(aK X.K H p ys ∨ aH X.K H p ys)/\Q (.int ys.length) H) ∨ ∃ a kvs,xs = [V.ref a]/\H a=some (.dK kvs)/\Q (.int kvs.length) H):=by
 rintro H vs xs Q Q' r ⟨x,n,rfl,e,q⟩ k
 obtain ⟨v,rfl,r1⟩:=r.one
 have fin:∀ {m:Nat},m=n->Q' (.int m) H:=fun {m} z=>by rw [z]; exact k _ _ _ (aE.refl _) (.int _) q
 cases r1 with
 | tup h r2=>cases e; exact .inl ⟨_,_,rfl,.inr (aH.of h),fin r2.length⟩
 | lst m h r2=>cases e; exact .inl ⟨_,_,rfl,.inl (aK.of h),fin r2.length⟩
 | scr h=>cases e; exact .inl ⟨_,_,rfl,.inl h.sqL,fin (by rw [aU7])⟩
 | kt h r2=>cases e; exact .inl ⟨_,_,rfl,.inr (.inr h),fin r2.length⟩
 | dK m h e' r=>
  cases e
  refine .inr ⟨_,_,rfl,h,fin ?_⟩
  have:=congrArg List.length e'
  rw [aU7,aU7] at this
  exact this
 | _=>cases e
noncomputable def seqT:PV->Option (List PV)
 | .kt _=>none
 | x=>jC x
noncomputable def B7:List PV->(PV->Prop)->Prop:=fun xs Q=>∃ x ys,xs = [x]/\seqT x=some ys/\flats ys=true/\Q (.tup ys)
noncomputable def nO:List PV->(PV->Prop)->Prop:=fun xs Q=>∃ x ys,xs = [x]/\jC x=some ys/\flats ys=true/\Q (.lst ys)
theorem ap3:fX X (fun xs Q=>B7 xs Q/\∀ ns,xs ≠ [.scr ns]) (fun xs H Q=>∃ p ys,xs = [.ref p]/\((aK X.K H p ys/\∀ l,H l=none->Q (.ref l) (upd H l (.tup ys))) ∨ (aH X.K H p ys/\Q (.ref p) H))):=by
 rintro H vs xs Q Q' r ⟨⟨x,ys,rfl,e,f,q⟩,nsc⟩ k
 obtain ⟨v,rfl,r1⟩:=r.one
 cases r1 with
 | tup h r2=>cases e; exact⟨_,_,rfl,.inr ⟨aH.of h,k _ _ _ (aE.refl _) (.tup h (r2.flat f)) q⟩⟩
 | lst m h r2=>cases e; exact⟨_,_,rfl,.inl ⟨aK.of h,fun l hl=>k _ _ _ (bE hl _) (.tup bI ((r2.flat f).same (bE hl _) fun _ z=>z)) q⟩⟩
 | scr h=>exact absurd rfl (nsc _)
 | _=>cases e
theorem ap4:fX X nO (fun xs H Q=>∃ p ys,xs = [.ref p]/\(aK X.K H p ys ∨ aH X.K H p ys)/\∀ l,H l=none->Q (.ref l) (upd H l (.lst ys))):=by
 rintro H vs xs Q Q' r ⟨x,ys,rfl,e,f,q⟩ k
 obtain ⟨v,rfl,r1⟩:=r.one
 obtain ⟨a,us,rfl,hs,r2⟩:=r1.seq e
 exact⟨_,_,rfl,hs,fun l hl=>k _ _ _ (bE hl _) (.lst hl bI ((r2.flat f).same (bE hl _) fun _ z=>z)) q⟩
noncomputable def nP:List PV->(PV->Prop)->Prop:=fun xs Q=>∃ ns,xs = [.lst (intz ns)]/\ns.length < 64/\∀ ms:List Int,ms.Perm ns->ms.Pairwise (· <= ·)->Q (.lst (intz ms))
theorem ap5:fX X nP (zP X.K):=by
 rintro H vs xs Q Q' r ⟨ns,rfl,hl,q⟩ k
 obtain ⟨v,rfl,r1⟩:=r.one
 obtain ⟨a,us,rfl,_,h,r2⟩:=r1.sqL
 obtain rfl:=r2.ofInts
 exact⟨a,ns,rfl,aK.of h,hl,fun l ms hl' p o=>k _ _ _ (bE hl' _) (.lst hl' bI (Reps.intz ms)) (q ms p o)⟩
noncomputable def pL:List PV->(PV->Prop)->Prop:=fun xs Q=>∃ bs:List Bool,xs = [.lst (bs.map PV.bl)]/\Q (.bl (bs.all id))
theorem Reps.ofBls {K:PySem.W.Frag}{M:Addr->Prop}{H:Hp}:∀ {ns:List Bool}{us:List V},Reps K M H us (ns.map PV.bl)->us=ns.map V.bl
 | [],_,.nil=>rfl
 | n :: r,_,.cons q t=>by
  cases q
  rw [Reps.ofBls t]; rfl
theorem ap6:fX X pL (fun xs H Q=>∃ (a:Addr) (bs:List Bool),xs = [.ref a]/\aK X.K H a (bs.map V.bl)/\Q (.bl (bs.all id)) H):=by
 rintro H vs xs Q Q' r ⟨bs,rfl,q⟩ k
 obtain ⟨v,rfl,r1⟩:=r.one
 obtain ⟨a,us,rfl,_,h,r2⟩:=r1.sqL
 obtain rfl:=r2.ofBls
 exact⟨a,bs,rfl,aK.of h,k _ _ _ (aE.refl _) (.bl _) q⟩
noncomputable def nQ:List PV->(PV->Prop)->Prop:=fun xs Q=>∃ i j,xs = [.int i,.int j]/\Q (.int (if j < i then j else i))
noncomputable def lV:List PV->(PV->Prop)->Prop:=fun xs Q=>∃ i j,xs = [.int i,.int j]/\Q (.int (if j > i then j else i))
theorem ap7:fX X nQ (fun xs H Q=>∃ i j,xs = [.int i,.int j]/\Q (.int (if j < i then j else i)) H):=by
 rintro H vs xs Q Q' r ⟨i,j,rfl,q⟩ k
 obtain ⟨v,w,rfl,r1,r2⟩:=r.two
 cases r1; cases r2
 exact⟨i,j,rfl,k _ _ _ (aE.refl _) (.int _) q⟩
theorem ap8:fX X lV (fun xs H Q=>∃ i j,xs = [.int i,.int j]/\Q (.int (if j > i then j else i)) H):=by
 rintro H vs xs Q Q' r ⟨i,j,rfl,q⟩ k
 obtain ⟨v,w,rfl,r1,r2⟩:=r.two
 cases r1; cases r2
 exact⟨i,j,rfl,k _ _ _ (aE.refl _) (.int _) q⟩
noncomputable abbrev bV:=List PV->(PV->Prop)->Prop
noncomputable def nR (K:PySem.W.Frag) (p:bV):Sp:=fun vs H Q _=>∃ xs Qp,Reps K (fun _=>True) H vs xs/\p xs Qp/\∀ v H' x,aE H H'->aI K (fun a=>H a=none) H' v x->Qp x->Q v H'
theorem ap9 {p:bV}{E:XK} (h:LE X (aC p tr) σ H Q'):sJ (nR X.K p) [] E (LA X tr) σ H Q':=by
 obtain ⟨W,ρ,Q,px,q,k⟩:=h
 refine⟨W,ρ,_,px,q,fun vs H1 xs s1 r1 q1=>⟨_,_,by rw [aX2]; exact r1.any,q1,fun v H' x s2 r2 q2=>k v H' x .fr (s1.trans s2) (r2.same (aE.refl _) fun _ z=>s1.free z) q2⟩⟩
noncomputable def aq0:PV->Option Bool
 | .non=>some false
 | .bl b=>some b
 | .int i=>some (i != 0)
 | .tup xs=>some (!xs.isEmpty)
 | .lst xs=>some (!xs.isEmpty)
 | .dK ps=>some (!ps.isEmpty)
 | _=>none
noncomputable def nS (t:aF):cH:=fun ρ Q=>t ρ fun x _=>∃ b,aq0 x=some b/\Q b
theorem u7 {α β:Type}:∀ {l:List α}{m:List β},l.length=m.length->l.isEmpty=m.isEmpty
 | [],[],_=>rfl
 | _ :: _,_ :: _,_=>rfl
theorem aq1 {t:aF}{Qb:Bool->Hp->Prop} (h:LT X (nS t) σ H Qb):LE X t σ H fun x H'=>∃ k,sG X.K x H' k/\Qb k H':=by
 obtain ⟨W,ρ,Q,px,q,k⟩:=h
 refine⟨W,ρ,_,px,q,?_⟩
 rintro v H1 x g s r ⟨b,e,q⟩
 refine⟨b,?_,k _ _ s q⟩
 cases r with
 | non=>cases e; rfl
 | bl b=>cases e; rfl
 | int i=>cases e; rfl
 | str x=>cases e
 | tup h r=>cases e; exact .inr (.inl ⟨_,aH.of h,by rw [u7 r.length]⟩)
 | lst m h r=>cases e; exact .inl ⟨_,aK.of h,by rw [u7 r.length]⟩
 | dK m h e' r=>
  cases e
  refine .inr (.inr ⟨_,h,?_⟩)
  have:=congrArg List.length e'
  rw [aU7,aU7] at this
  rw [u7 this]
 | dT m h e' r=>cases e
 | scr h=>cases e
 | kt h r=>cases e
 | exc h e' c=>cases e
 | fK h e' r=>cases e
 | fT h e' r=>cases e
noncomputable def gR:PV->Bool
 | .non=>true
 | _=>false
noncomputable def kJ (neg:Bool):PV->Tg->PV->Tg->PK->Prop:=fun x _ y _ Q=>y = .non/\Q (.bl (if neg=true then !gR x else gR x)) .fr
theorem B8 {K:PySem.W.Frag}{M:Addr->Prop}{H:Hp}{v:V}{x:PV} (r:aI K M H v x):decide (v = .non)=gR x:=by
 cases r <;> rfl
theorem aq2:dL X (kJ false) (fun x y H Q=>y = .non/\Q (.bl (decide (x = .non))) H):=by
 rintro W Hs H u v x y g g' Q Q' s n r1 r2 ⟨rfl,q⟩ k
 cases r2
 exact⟨rfl,by rw [B8 r1]; exact k _ _ _ _ (aE.refl _) (.bl _) q⟩
theorem B9:dL X (kJ true) (fun x y H Q=>y = .non/\Q (.bl (!decide (x = .non))) H):=by
 rintro W Hs H u v x y g g' Q Q' s n r1 r2 ⟨rfl,q⟩ k
 cases r2
 exact⟨rfl,by rw [B8 r1]; exact k _ _ _ _ (aE.refl _) (.bl _) q⟩
end
structure lW (K:PySem.W.Frag) (H0:Hp) (W:Addr->Prop) (g:Bool) (H1:Hp) (J:It) (xs:List PV):Prop where
 go:∀ W' H' i,Ev W H1 W' H'->i < xs.length->J.go i H'
 yld:∀ W' H' i v H2,Ev W H1 W' H'->J.yld i H' v H2->i < xs.length->aE H' H2/\∃ x,xs[i]? = some x/\aI K (Ms H0 W' g) H2 v x
 stop:∀ W' H',Ev W H1 W' H'->J.stop xs.length H'
noncomputable abbrev fA:=bM->(List PV->Bool->Prop)->Prop
noncomputable def LI (X:Cx) (t:fA):TI:=fun σ H R=>∃ (W:Addr->Prop) (ρ:bM) (Q:List PV->Bool->Prop),PX X.K X.H₀ W σ ρ H/\t ρ Q/\∀ J H1 xs g,aE H H1->lW X.K X.H₀ W g H1 J xs->Q xs g->R J H1
theorem Ev.keep {H0:Hp}{W W':Addr->Prop}{H H':Hp}{g:Bool} (e:Ev W H W' H') (tw:∀ a,W a->∃ o,H a=some o/\hV o=true):gP (Ms H0 W g) (Ms H0 W' g) H H':=by
 have m:∀ {a:Addr}{o:HO},Ms H0 W g a->H a=some o->Ms H0 W' g a/\H' a=some o:=fun {a o} z h=>by
  cases g with
  | true=>
   obtain ⟨h1,h2⟩:=e a _ h z.1
   exact⟨⟨h2,z.2⟩,h1⟩
  | false=>
   obtain ⟨h1,h2⟩:=e a _ h z
   exact⟨h2,h1⟩
 refine⟨fun a _ z h=>m z h,fun a _ z h=>m z h,fun a _ z h=>m z h,fun a _ h=>(e a _ h fun z=>?_).1,fun a _ _ h=>(e a _ h fun z=>?_).1⟩
 ·obtain ⟨o,h',mu⟩:=tw a z; rw [h] at h'; cases h'; cases mu
 ·obtain ⟨o,h',mu⟩:=tw a z; rw [h] at h'; cases h'; cases mu
section
variable {X : Cx} {σ : St} {H : Hp} {te : aF} {tr : cS} {R : It → Hp → Prop}
noncomputable def C0 (K:PySem.W.Frag) (tl:TE):TI:=fun σ H R=>tl σ H fun x H1=>∃ a,x = .ref a/\((∃ xs,aK K H1 a xs/\R (lG K a) H1) ∨ (∃ xs,aH K H1 a xs/\R (jP K a) H1))
noncomputable def nT:Tg->List PV->Bool
 | .fr,_=>true
 | .nw,_=>true
 | _,xs=>flats xs
noncomputable def fN (te:aF):fA:=fun ρ Q=>te ρ fun x g=>∃ xs,jC x=some xs/\(g = .rd->flat x=true)/\Q xs (nT g xs)
theorem C1 {K:PySem.W.Frag}{H0:Hp}{W:Addr->Prop}{g:Bool}{H1:Hp}{a:Addr}{us:List V}{xs:List PV} (tw:∀ a,W a->∃ o,H1 a=some o/\hV o=true) (ha:∀ W' H',Ev W H1 W' H'->aK K H' a us) (r:Reps K (Ms H0 W g) H1 us xs):lW K H0 W g H1 (lG K a) xs:=by
 have lr:=r.length
 refine⟨fun W' H' i e hi=>⟨us,us[i]'(by omega),ha W' H' e,by simp⟩,fun W' H' i v H2 e y hi=>?_,fun W' H' e=>⟨us,ha W' H' e,by omega⟩⟩
 obtain ⟨rfl,y⟩:=y
 obtain ⟨x,hx,rx⟩:=r.get (y us (ha W' _ e))
 exact⟨aE.refl _,x,hx,rx.keep (e.keep tw)⟩
theorem C2 {K:PySem.W.Frag}{H0:Hp}{W:Addr->Prop}{g:Bool}{H1:Hp}{a:Addr}{us:List V}{xs:List PV} (tw:∀ a,W a->∃ o,H1 a=some o/\hV o=true) (ha:∀ W' H',Ev W H1 W' H'->aH K H' a us) (r:Reps K (Ms H0 W g) H1 us xs):lW K H0 W g H1 (jP K a) xs:=by
 have lr:=r.length
 refine⟨fun W' H' i e hi=>⟨us,us[i]'(by omega),ha W' H' e,by simp⟩,fun W' H' i v H2 e y hi=>?_,fun W' H' e=>⟨us,ha W' H' e,by omega⟩⟩
 obtain ⟨rfl,y⟩:=y
 obtain ⟨x,hx,rx⟩:=r.get (y us (ha W' _ e))
 exact⟨aE.refl _,x,hx,rx.keep (e.keep tw)⟩
theorem lX {K:PySem.W.Frag}{H0 Hs H:Hp}{W:Addr->Prop}{σ:St}{ρ:bM}{g:Tg}{us:List V}{xs:List PV} (px:PX K H0 W σ ρ Hs) (hg:g = .rd->flats xs=true) (r:Reps K (Mg H0 W Hs g) H us xs):Reps K (Ms H0 W (nT g xs)) H us xs:=by
 cases g with
 | fr=>exact r.same (aE.refl _) fun _ z=>px.new z
 | nw=>exact r.same (aE.refl _) fun _ z=>z
 | sh=>
  show Reps K (Ms H0 W (flats xs)) H us xs
  cases e:flats xs with
  | true=>exact r.flat e
  | false=>exact r.same (aE.refl _) fun _ z=>z
 | rd=>exact r.flat (hg rfl)
theorem aq3 (h:LI X (fN te) σ H R):C0 X.K (LE X te) σ H R:=by
 obtain ⟨W,ρ,Q,px,q,k⟩:=h
 refine⟨W,ρ,_,px,q,?_⟩
 rintro v H1 x g s r ⟨xs,e,hg,q⟩
 have px1:=px.mono s
 have tw:∀ a,W a->∃ o,H1 a=some o/\hV o=true:=fun a z=>(px1.wm a z).2
 cases r with
 | tup h r=>
  cases e
  refine⟨_,rfl,.inr ⟨_,aH.of h,k _ _ _ _ s (C2 tw (fun W' H' e=>aH.of (e _ _ h fun z=>?_).1) (lX px (fun z=>by have:=hg z; unfold flat at this; exact this) r)) q⟩⟩
  obtain ⟨o,h',mu⟩:=tw _ z; rw [h] at h'; cases h'; cases mu
 | @lst a us xs' m h r=>
  cases e
  have wa : ¬ W a:=by
   cases g with
   | fr=>exact (px.new m).1
   | nw=>exact m.1
   | sh=>exact m
   | rd=>have:=hg rfl; unfold flat at this; cases this
  exact⟨_,rfl,.inl ⟨_,aK.of h,k _ _ _ _ s (C1 tw (fun W' H' e=>aK.of (e _ _ h wa).1) (lX px (fun z=>by have:=hg z; unfold flat at this; cases this) r)) q⟩⟩
 | scr h=>
  cases e
  refine⟨_,rfl,.inl ⟨_,h.sqL,k _ _ _ _ s (C1 tw (fun W' H' e=>(j9.keep (fun a o u hz=>(e _ _ hz fun z=>?_).1) h).sqL) (lX (g:=g) px (fun z=>bT _) (Reps.intz _))) q⟩⟩
  obtain ⟨o,h',mu⟩:=tw _ z; rw [hz] at h'; cases h'; cases mu
 | kt h r=>
  cases e
  exact⟨_,rfl,.inr ⟨_,.inr h,k _ _ _ _ s (C2 tw (fun W' H' e=>.inr h) (lX px (fun z=>by have:=hg z; unfold flat at this; exact this) r)) q⟩⟩
 | _=>cases e
noncomputable def fB (lo:Int) (n:Nat):List PV:=(List.range n).map fun (i:Nat)=>PV.int (lo+(i:Int))
theorem dM (lo:Int) (n:Nat):(fB lo n).length=n:=by unfold fB; rw [aU7,bf2]
theorem C3 {lo:Int}{n i:Nat} (h:i < n):(fB lo n)[i]? = some (.int (lo+i)):=by unfold fB; rw [aV5,List.getElem?_range h]; rfl
noncomputable def eJ (te:aF):fA:=fun ρ Q=>te ρ fun x _=>∃ j:Int,x = .int j/\-1000000<=j/\j<=1000000/\Q (fB 0 j.toNat) true
noncomputable def pM (ta tb:aF):fA:=fun ρ Q=>ta ρ fun x _=>tb ρ fun y _=>∃ i j:Int,x = .int i/\y = .int j/\(-1000000<=i/\i<=1000000/\-1000000<=j/\j<=1000000)/\Q (fB i (j - i).toNat) true
theorem C4 {K:PySem.W.Frag}{H0:Hp}{W:Addr->Prop}{H1:Hp} (lo:Int) (n:Nat):lW K H0 W true H1 (mP lo n) (fB lo n):=by
 refine⟨fun W' H' i e hi=>by rw [dM] at hi; exact hi,fun W' H' i v H2 e y hi=>?_,fun W' H' e=>by show n<=(fB lo n).length; rw [dM]; exact aT9 _⟩
 rw [dM] at hi
 obtain ⟨rfl,rfl⟩:=y
 exact⟨aE.refl _,_,C3 hi,.int _⟩
theorem aq4 (h:LI X (eJ te) σ H R):x5 (gZ (LE X te) iI) σ H R:=by
 obtain ⟨W,ρ,Q,px,q,k⟩:=h
 refine⟨W,ρ,_,px,q,?_⟩
 rintro v H1 x g s r ⟨j,rfl,h1,h2,q⟩
 cases r
 exact⟨j,rfl,by omega,by omega,k _ _ _ _ s (C4 0 j.toNat) q⟩
theorem aq5 {ta tb:aF} (h:LI X (pM ta tb) σ H R):x6 (gZ (LE X ta) (gZ (LE X tb) iI)) σ H R:=by
 obtain ⟨W,ρ,Q,px,q,k⟩:=h
 refine⟨W,ρ,_,px,q,fun v H1 x g s r q=>⟨W,ρ,_,px.mono s,q,?_⟩⟩
 rintro w H2 y g' s2 r2 ⟨i,j,rfl,rfl,h,q⟩
 cases r; cases r2
 exact⟨i,j,rfl,by omega,k _ _ _ _ (s.trans s2) (C4 i (j - i).toNat) q⟩
end
noncomputable abbrev iM:=PV->Bool->bM->(bM->Prop)->Prop
noncomputable def lY (K:PySem.W.Frag) (own:Nat->Prop) (p:iM) (t:TG):Prop:=∀ (H0:Hp) (W:Addr->Prop) (σ:St) (ρ:bM) (H:Hp) (v:V) (x:PV) (g:Bool) (Q:bM->Prop) (Q':St->Hp->Prop),
 PX K H0 W σ ρ H->aI K (Ms H0 W g) H v x->p x g ρ Q->(∀ σ' ρ',PX K H0 W σ' ρ' H->(∀ i,¬ own i->σ'[i]? = σ[i]?)->σ'.length=σ.length->Q ρ'->Q' σ' H)->t v σ H Q'
noncomputable def bZ (i:Nat):iM:=fun x g ρ Q=>Q (ρ.set i (some (.sh (g || flat x) x)))
theorem pN {K:PySem.W.Frag}{H0 H:Hp}{W:Addr->Prop}{v:V}{x:PV}{g:Bool} (r:aI K (Ms H0 W g) H v x):aI K (Ms H0 W (g || flat x)) H v x:=by
 cases g with
 | true=>exact r
 | false=>
  show aI K (Ms H0 W (flat x)) H v x
  cases e:flat x with
  | true=>exact r.flat e
  | false=>exact r
theorem pO (K:PySem.W.Frag) (i:Nat):lY K (· = i) (bZ i) (cT i):=by
 intro H0 W σ ρ H v x g Q Q' px r q k
 exact k _ _ (px.setSh (pN r)) (fun j hj=>by rw [aW3 (Ne.symm hj)]) (aZ1 ..) q
noncomputable def jU (i j:Nat):iM:=fun x g ρ Q=>∃ y z,x = .tup [y,z]/\Q ((ρ.set i (some (.sh (g || flat y) y))).set j (some (.sh (g || flat z) z)))
theorem u8 (K:PySem.W.Frag) (i j:Nat):lY K (fun k=>k=i ∨ k=j) (jU i j) (kE K 2 (fS (cT i) (fS (cT j) kD))):=by
 intro H0 W σ ρ H v x g Q Q' px r q k
 obtain ⟨y,z,rfl,q⟩:=q
 obtain ⟨a,us,rfl,h,r⟩:=r.sqT
 obtain ⟨u1,u2,rfl,r1,r2⟩:=r.two
 refine⟨a,_,rfl,aH.of h,rfl,u1,_,rfl,u2,_,rfl,rfl,k _ _ ((px.setSh (pN r1)).setSh (pN r2)) (fun k hk=>?_) (by rw [aZ1,aZ1]) q⟩
 rw [aW3 (fun e=>hk (.inr e.symm)),aW3 (fun e=>hk (.inl e.symm))]
section
variable {X : Cx} {σ : St} {H : Hp} {D : cK}
noncomputable def cQ (ti:fA) (p:iM) (tb:aU):aU:=fun D ρ=>ti ρ fun xs g=>∃ I:Nat->bM->Prop,I 0 ρ/\(∀ i x ρ',xs[i]? = some x->I i ρ'->p x g ρ' fun ρ2=>tb { D with nx:=I (i+1),ct:=I (i+1),bk:=D.nx } ρ2)/\∀ ρ',I xs.length ρ'->D.nx ρ'
theorem aq6 {ti:fA}{p:iM}{g:TG}{tb:aU}{own:Nat->Prop} (hg:lY X.K own p g) (h:LS X (cQ ti p tb) D σ H):x8 (LI X ti) g (LS X tb) D σ H:=by
 obtain ⟨W,ρ,D',px,q,k⟩:=h
 refine⟨W,ρ,_,px,q,?_⟩
 rintro J H1 xs gb s it ⟨I,i0,turn,fin⟩
 refine⟨fun i m σ2 H2=>m=xs.length - i/\i<=xs.length/\∃ W2 ρ2,PX X.K X.H₀ W2 σ2 ρ2 H2/\Ev W H1 W2 H2/\I i ρ2,⟨xs.length,by omega,aX0 _,W,ρ,px.mono s,Ev.refl _ _,i0⟩,?_⟩
 rintro i m σ2 H2 ⟨rfl,hi,W2,ρ2,px2,e2,i2⟩
 have e0:Ev W H W2 H2:=(Ev.same s).trans e2
 by_cases hlt:i < xs.length
 ·refine .inr ⟨it.go W2 H2 i e2 hlt,fun σ3 H3=>∃ W3 ρ3,PX X.K X.H₀ W3 σ3 ρ3 H3/\Ev W H1 W3 H3/\I (i+1) ρ3,fun σ3 H3 ⟨W3,ρ3,a,b,c⟩=>⟨xs.length - (i+1),by omega,rfl,hlt,W3,ρ3,a,b,c⟩,fun v H3 y=>?_⟩
  obtain ⟨s3,x,hx,rx⟩:=it.yld W2 H2 i v H3 e2 y hlt
  refine hg X.H₀ W2 σ2 ρ2 H3 v x gb _ _ (px2.mono s3) rx (turn i x ρ2 hx i2) fun σ4 ρ4 px4 _ _ q4=>?_
  have e3:Ev W H1 W2 H3:=e2.trans (Ev.same s3)
  have e3':Ev W H W2 H3:=e0.trans (Ev.same s3)
  exact⟨W2,ρ4,_,px4,q4,fun W' σ' H' ρ' e p q=>⟨W',ρ',p,e3.trans e,q⟩,k.rt,fun W' σ' H' ρ' e p q=>k.nx W' σ' H' ρ' (e3'.trans e) p q,fun W' σ' H' ρ' e p q=>⟨W',ρ',p,e3.trans e,q⟩⟩
 ·have e:i=xs.length:=by omega
  subst e
  exact .inl ⟨it.stop W2 H2 e2,k.nx W2 σ2 H2 ρ2 e0 px2 (fin ρ2 i2)⟩
end
noncomputable def m3 (fr:List (Option Nat)) (ρ:bM):bM:=fr.map fun o=>o.bind fun j=>(ρ[j]?).join.map fun m=>Slot.sh false m.val
noncomputable def kK (D:Addr):Addr->Prop:=fun a=>a=D
theorem aq7 {K:PySem.W.Frag}{H0:Hp}{W:Addr->Prop}{σ:St}{ρ:bM}{H1 H':Hp}{D:Addr}{acc:List V}{fr:List (Option Nat)} (px:PX K H0 W σ ρ H1) (hD:H1 D=none) (s:aE H1 H') (ha:H' D=some (.lst acc)) :
  PX K H1 (kK D) (fJ fr σ) (m3 fr ρ) H':=by
 have old:∀ {a:Addr}{o:HO},H1 a=some o->a ≠ D:=fun {a o} e z=>by rw [z,hD] at e; cases e
 refine⟨by unfold fJ m3; rw [aU7,aU7],s,fun a z=>by cases z; exact⟨hD,_,ha,rfl⟩,fun i m h=>?_,fun i j x y a h1=>?_⟩
 ·unfold m3 at h
  rw [aV5] at h
  cases ef:fr[i]? with
  | none=>rw [ef] at h; cases h
  | some o=>
   rw [ef] at h
   cases o with
   | none=>cases h
   | some j=>
    have h:some ((ρ[j]?).join.map fun m=>Slot.sh false m.val)=some (some m):=h
    cases er:ρ[j]? with
    | none=>rw [er] at h; cases h
    | some o=>
     rw [er] at h
     cases o with
     | none=>cases h
     | some m0=>
      cases h
      obtain ⟨v,ev,r⟩:=px.sl j m0 er
      refine⟨v,?_,?_⟩
      ·unfold fJ
       rw [aV5,ef]
       show some ((σ[j]?).join)=_
       rw [ev]; rfl
      ·have r':aI K (fun _=>True) H1 v m0.val:=(A6 (Hs:=H1) r).same (aE.refl _) fun _ _=>trivial
       exact r'.keep ⟨fun a _ _ e=>⟨old e,s _ _ e⟩,fun a _ _ e=>⟨old e,s _ _ e⟩,fun a _ _ e=>⟨old e,s _ _ e⟩,fun _ _ e=>s _ _ e,fun _ _ _ e=>s _ _ e⟩
 ·unfold m3 at h1
  rw [aV5] at h1
  cases ef:fr[i]? with
  | none=>rw [ef] at h1; cases h1
  | some o=>
   rw [ef] at h1
   cases o with
   | none=>cases h1
   | some j=>
    have h1:some ((ρ[j]?).join.map fun m=>Slot.sh false m.val)=some (some (Slot.own x)):=h1
    cases er:ρ[j]? with
    | none=>rw [er] at h1; cases h1
    | some o=>
     rw [er] at h1
     cases o with
     | none=>cases h1
     | some m0=>cases h1
section
variable {X : Cx} {σ : St} {H : Hp} {Q' : VK}
noncomputable abbrev _root_.L2.Cx.frm (X:Cx) (H1:Hp):Cx:={ X with H₀:=H1 }
noncomputable def g9 (ti:fA) (fr:List (Option Nat)) (p:iM) (tc:cH) (te:aF):aF:=fun ρ Q=>ti ρ fun xs g=>xs.length<=16000000/\∃ I:Nat->List PV->Prop,I 0 []/\
 (∀ i x acc,xs[i]? = some x->I i acc->p x false (m3 fr ρ) fun ρ2=>tc ρ2 fun b=>if b=true then te ρ2 fun y gy=>Nw gy y/\I (i+1) (acc ++ [y]) else I (i+1) acc)/\∀ acc,I xs.length acc->Q (.lst acc) .fr
theorem pP {ti:fA}{fr:List (Option Nat)}{p:iM}{g:TG}{tc:cH}{te:aF}{own:Nat->Prop} (hg:lY X.K own p g) (ho:∀ i,own i->fr[i]? = some none) (h:LE X (g9 ti fr p tc te) σ H Q') :
  t9 (LI X ti) fr (fun _=>g) (fun H1=>LT (X.frm H1) tc) (fun H1=>LE (X.frm H1) te) σ H Q':=by
 obtain ⟨W,ρ,Q,px,q,k⟩:=h
 refine⟨W,ρ,_,px,q,?_⟩
 rintro J H1 xs gb s it ⟨hl,I,i0,turn,fin⟩ D hD
 have px1:=px.mono s
 refine⟨fun i m acc H'=>m=xs.length - i/\i<=xs.length/\aE H1 H'/\H' D=some (.lst acc)/\∃ ys,Reps X.K (Ms H1 (kK D) true) H' acc ys/\ys.length<=i/\I i ys,⟨xs.length,by omega,aX0 _,bE hD _,bI,[],.nil,aT9 _,i0⟩,?_⟩
 rintro i m acc H' ⟨rfl,hi,sm,ha,ys,ry,hy,iy⟩
 refine⟨ha,?_⟩
 have ev:Ev W H1 (lR W D) H':=Ev.own sm hD
 by_cases hlt:i < xs.length
 ·refine .inr ⟨it.go _ H' i ev hlt,fun v H2 y=>?_⟩
  obtain ⟨s2,x,hx,rx⟩:=it.yld _ H' i v H2 ev y hlt
  have ha2:=s2 _ _ ha
  have pxb:PX X.K H1 (kK D) (fJ fr σ) (m3 fr ρ) H2:=aq7 px1 hD (sm.trans s2) ha2
  have rx':aI X.K (Ms H1 (kK D) false) H2 v x:=rx.same (aE.refl _) fun a z=>by
   cases gb with
   | true=>exact fun e=>z.1 (.inr e)
   | false=>exact fun e=>z (.inr e)
  refine hg H1 (kK D) _ _ H2 v x false _ _ pxb rx' (turn i x ys hx iy) fun σ2 ρ2 px2 hown hlen q2=>⟨⟨hlen.symm,fun j w e=>?_⟩,?_⟩
  ·by_cases oj:own j
   ·have:=ho j oj
    unfold fJ at e
    rw [aV5,this] at e
    cases e
   ·rw [hown j oj]; exact e
  ·refine⟨kK D,ρ2,_,px2,q2,fun b H4 s4 q4=>?_⟩
   have ha4:=s4 _ _ ha2
   have sm4:=(sm.trans s2).trans s4
   cases b with
   | false=>
    refine aN ⟨xs.length - (i+1),by omega,rfl,hlt,sm4,ha4,ys,ry.same (s2.trans s4) fun _ z=>z,by omega,by simpa using q4⟩
   | true=>
    refine aO ⟨kK D,ρ2,_,px2.mono s4,by simpa using q4,?_⟩
    rintro w H5 y gy s5 ryy ⟨nw,q5⟩
    have ha5:=s5 _ _ ha4
    have lr:=ry.length
    refine⟨ha5,j8 (by omega),xs.length - (i+1),by omega,rfl,hlt,fun b o e=>?_,bI,ys ++ [y],?_,by rw [aU6,aX7]; omega,q5⟩
    ·rw [aQ (fun z=>by rw [z,hD] at e; cases e)]
     exact s5 _ _ (sm4 _ _ e)
    ·exact ((ry.same ((s2.trans s4).trans s5) fun _ z=>z).append (.cons (Nw.rep (px2.mono s4) nw ryy) .nil)).keep (.upd ha5 rfl fun b m=>⟨m.1,m⟩)
 ·have e:i=xs.length:=by omega
  subst e
  refine .inl ⟨it.stop _ H' ev,k _ H' _ .fr (s.trans sm) (.lst (s.free hD) ha (ry.same (aE.refl _) fun _ z=>s.free z.2)) (fin ys iy)⟩
noncomputable def m5:cH:=fun _ Q=>Q true
theorem aq8 {Qb:Bool->Hp->Prop} (h:LT X m5 σ H Qb):t6 σ H Qb:=by
 obtain ⟨W,ρ,Q,px,q,k⟩:=h
 exact k _ _ (aE.refl _) q
end
section
variable {κ : Type} [DecidableEq κ]
noncomputable def u9 (ps:List (κ × PV)) (k:κ):Option PV:=(ps.find? fun p=>decide (p.1=k)).map (·.2)
noncomputable def fO (ps:List (κ × PV)) (k:κ) (x:PV):List (κ × PV):=if (ps.any fun p=>decide (p.1=k))=true then ps.map (fun p=>if p.1=k then (p.1,x) else p) else ps ++ [(k,x)]
variable {K : PySem.W.Frag} {M : Addr → Prop} {H : Hp}
theorem aq9 (k:κ):∀ {kvs:List (κ × V)}{ps:List (κ × PV)},kvs.map (·.1)=ps.map (·.1)->Reps K M H (kvs.map (·.2)) (ps.map (·.2))->(u9 ps k=none->iK kvs k=none)/\∀ x,u9 ps k=some x->∃ v,iK kvs k=some v/\aI K M H v x
 | [],[],_,_=>⟨fun _=>rfl,fun x h=>by cases h⟩
 | [],_ :: _,e,_=>by cases e
 | _ :: _,[],e,_=>by cases e
 | (k1,v) :: kvs,(k2,x) :: ps,e,r=>by
  injection e with e1 e2
  have e1:k1=k2:=e1
  subst e1
  cases r with
  | cons r t=>
   obtain ⟨h1,h2⟩:=aq9 k e2 t
   unfold u9 iK at h1 h2 ⊢
   by_cases e:k1=k
   ·simp only [List.find?_cons,e,decide_true,Option.map_some]
    exact⟨fun z=>(by cases z),fun y z=>(by cases z; exact⟨v,rfl,r⟩)⟩
   ·simp only [List.find?_cons,e,decide_false]
    exact⟨h1,h2⟩
theorem ar0 (k:κ) {kvs:List (κ × V)}{ps:List (κ × PV)} (e:kvs.map (·.1)=ps.map (·.1)):(kvs.any fun p=>decide (p.1=k))=ps.any fun p=>decide (p.1=k):=by
 have h1:(kvs.any fun p=>decide (p.1=k))=(kvs.map (·.1)).any fun z=>decide (z=k):=by rw [List.any_map]; rfl
 have h2:(ps.any fun p=>decide (p.1=k))=(ps.map (·.1)).any fun z=>decide (z=k):=by rw [List.any_map]; rfl
 rw [h1,h2,e]
theorem C5 (k:κ) {w:V}{y:PV} (q:aI K M H w y):∀ {kvs:List (κ × V)}{ps:List (κ × PV)},kvs.map (·.1)=ps.map (·.1)->Reps K M H (kvs.map (·.2)) (ps.map (·.2))->
  (kvs.map fun kv=>if kv.1=k then (kv.1,w) else kv).map (·.1)=(ps.map fun kv=>if kv.1=k then (kv.1,y) else kv).map (·.1)/\Reps K M H ((kvs.map fun kv=>if kv.1=k then (kv.1,w) else kv).map (·.2)) ((ps.map fun kv=>if kv.1=k then (kv.1,y) else kv).map (·.2))
 | [],[],_,_=>⟨rfl,.nil⟩
 | [],_ :: _,e,_=>by cases e
 | _ :: _,[],e,_=>by cases e
 | (k1,v) :: kvs,(k2,x) :: ps,e,r=>by
  injection e with e1 e2
  have e1:k1=k2:=e1
  subst e1
  cases r with
  | cons r t=>
   obtain ⟨h1,h2⟩:=C5 k q e2 t
   by_cases e:k1=k
   ·simp only [ba1,e,if_true]
    exact⟨by rw [h1],.cons q h2⟩
   ·simp only [ba1,e,bb6]
    exact⟨by rw [h1],.cons r h2⟩
theorem ar1 (k:κ) {w:V}{y:PV} (q:aI K M H w y) {kvs:List (κ × V)}{ps:List (κ × PV)} (e:kvs.map (·.1)=ps.map (·.1)) (r:Reps K M H (kvs.map (·.2)) (ps.map (·.2))) :
  (fI kvs k w).map (·.1)=(fO ps k y).map (·.1)/\Reps K M H ((fI kvs k w).map (·.2)) ((fO ps k y).map (·.2)):=by
 unfold fI fO
 rw [ar0 k e]
 split
 ·exact C5 k q e r
 ·rw [bd8,bd8,bd8,bd8,e]
  exact⟨rfl,r.append (.cons q .nil)⟩
end
noncomputable def kP:aS->PV
 | .inl i=>.int i
 | .inr x=>.str x
theorem ar2 {K:PySem.W.Frag}{M:Addr->Prop}{H:Hp}{v:V}{k:aS} (r:aI K M H v (kP k)):v=kV k:=by
 cases k with
 | inl i=>cases r; rfl
 | inr x=>cases r; rfl
theorem C6 {K:PySem.W.Frag}{M:Addr->Prop}{H:Hp}:∀ {ks:List aS}{us:List V},Reps K M H us (ks.map kP)->us=ks.map kV
 | [],_,.nil=>rfl
 | k :: r,_,.cons q t=>by rw [ar2 q,C6 t]; rfl
section
variable {X : Cx} {σ : St} {H : Hp} {D : cK} {tk td te : aF} {Q' : VK}
theorem PX.updT {K:PySem.W.Frag}{H0:Hp}{W:Addr->Prop}{σ:St}{ρ:bM}{H:Hp}{i:Nat}{a:Addr}{x:PV}{kvs:List (List aS × V)}{ps:List (List aS × PV)} (p:PX K H0 W σ ρ H) (hi:ρ[i]? = some (some (.own x))) (ha:σ[i]? = some (some (.ref a))) (wa:W a)
  (r:kvs.map (·.1)=ps.map (·.1)/\Reps K (Ms H0 W true) (upd H a (.dT kvs)) (kvs.map (·.2)) (ps.map (·.2))):PX K H0 W σ (ρ.set i (some (.own (.dT ps)))) (upd H a (.dT kvs)):=p.updOwn hi ha wa rfl (y:=.dT ps) ⟨kvs,bI,r⟩
theorem ar3 {κ α β:Type}{l:List (κ × α)}{m:List (κ × β)} (e:l.map (·.1)=m.map (·.1)):l.length=m.length:=by
 have:=congrArg List.length e
 rw [aU7,aU7] at this
 exact this
noncomputable def pQ (i:Nat) (tk te:aF):aU:=fun D ρ=>te ρ fun z g=>∃ ps,ρ[i]? = some (some (.own (.dT ps)))/\tk ρ fun y _=>∃ k,y = .tup (k.map kP)/\Nw g z/\ps.length < 16000000/\D.nx (ρ.set i (some (.own (.dT (fO ps k z)))))
theorem ar4 {i:Nat} (h:LS X (pQ i tk te) D σ H):z9 (gX i) (LE X tk) (LE X te) D σ H:=by
 obtain ⟨W,ρ,D',px,q,k⟩:=h
 refine⟨W,ρ,_,px,q,?_⟩
 rintro w H1 z g s rz ⟨ps,hi,q⟩
 obtain ⟨v,ev,a,rfl,wa,kvs,ea,e1,r⟩:=(px.mono s).sl i _ hi
 refine⟨_,ev,W,ρ,_,px.mono s,q,?_⟩
 rintro kv H2 y g' s2 ry ⟨kk,rfl,nw,hl,q⟩
 obtain ⟨b,us,rfl,hb,rb⟩:=ry.sqT
 obtain rfl:=C6 rb
 have ea2:=s2 _ _ ea
 refine⟨a,_,rfl,nG.t ea2 hb (j8 (by rw [ar3 e1]; omega)),?_⟩
 refine k.nx W σ _ _ ((Ev.same (s.trans s2)).trans (Ev.upd wa)) ((px.mono (s.trans s2)).updT hi ev wa ?_) q
 obtain ⟨h1,h2⟩:=ar1 kk ((Nw.rep px nw rz).same s2 fun _ z=>z) e1 (r.same s2 fun _ z=>z)
 exact⟨h1,h2.keep (.upd ea2 rfl fun b m=>⟨jT wa m,m⟩)⟩
theorem ar5 (h:LE X (qC (.dT [])) σ H Q'):zA σ H Q':=by
 obtain ⟨W,ρ,Q,px,q,k⟩:=h
 exact fun p hp=>k _ _ _ .fr (bE hp _) (.dT hp bI rfl .nil) q
end
noncomputable def bP:Nat->PV->PV->Bool
 | _,.non,.non=>true
 | _,.bl a,.bl b=>a == b
 | _,.int a,.int b=>a == b
 | _,.str a,.str b=>a == b
 | n+1,.tup xs,.tup ys=>(xs.zip ys).all (fun p=>bP n p.1 p.2) && xs.length == ys.length
 | n+1,.lst xs,.lst ys=>(xs.zip ys).all (fun p=>bP n p.1 p.2) && xs.length == ys.length
 | n+1,.kt xs,.kt ys=>(xs.zip ys).all (fun p=>bP n p.1 p.2) && xs.length == ys.length
 | _,_,_=>false
noncomputable def cX:Nat->PV->PV->Bool
 | _,.non,.non=>true
 | _,.bl _,.bl _=>true
 | _,.int _,.int _=>true
 | _,.str _,.str _=>true
 | _,.non,.int _=>true
 | _,.int _,.non=>true
 | n+1,.tup xs,.tup ys=>(xs.zip ys).all (fun p=>cX n p.1 p.2)
 | n+1,.lst xs,.lst ys=>(xs.zip ys).all (fun p=>cX n p.1 p.2)
 | n+1,.kt xs,.kt ys=>(xs.zip ys).all (fun p=>cX n p.1 p.2)
 | _+1,.non,.tup _=>true
 | _+1,.tup _,.non=>true
 | _,_,_=>false
theorem uA (n:Nat) (a b:Int):bP n (.int a) (.int b)=(a == b):=by cases n <;> rfl
theorem uB (n:Nat):∀ (a b:List Int),((((intz a).zip (intz b)).all fun p=>bP n p.1 p.2) && (intz a).length == (intz b).length)=decide (a=b)
 | [],[]=>rfl
 | [],_ :: _=>by simp
 | _ :: _,[]=>by simp
 | x :: a,y :: b=>by
  have ih:=uB n a b
  simp only [ba1,List.zip_cons_cons,bi1,aZ6,uA] at ih ⊢
  by_cases e:x=y
  ·subst e
   have:((intz a).length+1 == (intz b).length+1)=((intz a).length == (intz b).length):=by simp
   rw [this,bb9,Bool.true_and,ih]
   simp
  ·have:(x == y)=false:=bh7.mpr e
   rw [this,Bool.false_and,Bool.false_and]
   simp [e]
theorem uC (n:Nat) (a b:List Int):bP (n+1) (.tup (intz a)) (.tup (intz b))=decide (a=b):=uB n a b
theorem C7 (n:Nat) (a b:List Int):bP (n+1) (.lst (intz a)) (.lst (intz b))=decide (a=b):=uB n a b
theorem uD (n:Nat):∀ (a b:List Int),(((intz a).zip (intz b)).all fun p=>cX n p.1 p.2)=true
 | [],_=>by simp
 | _ :: _,[]=>by simp
 | x :: a,y :: b=>by
  simp only [ba1,List.zip_cons_cons,bi1,uD n a b,bk3]
  cases n <;> rfl
theorem uE (n:Nat) (a b:List Int):cX (n+1) (.tup (intz a)) (.tup (intz b))=true:=uD n a b
theorem C8 (n:Nat) (a b:List Int):cX (n+1) (.lst (intz a)) (.lst (intz b))=true:=uD n a b
noncomputable def jV (ta:aF):aF:=fun ρ Q=>ta ρ fun x _=>∃ i,x = .int i/\Q (.int (-i)) .fr
noncomputable def gS (neg:Bool):PV->Tg->PV->Tg->PK->Prop:=fun x _ y _ Q=>∃ i ns,x = .int i/\jC y=some (intz ns)/\Q (.bl (if neg=true then !decide (i ∈ ns) else decide (i ∈ ns))) .fr
noncomputable def C9:PV->Option String
 | .non=>some "NoneType"
 | .bl _=>some "bool"
 | .int _=>some "int"
 | .str _=>some "str"
 | .tup _=>some "tuple"
 | .kt _=>some "tuple"
 | .lst _=>some "list"
 | _=>none
noncomputable def kL (K:PySem.W.Frag) (n:String) (te:aF):aF:=fun ρ Q=>te ρ fun x _=>∃ T b,C9 x=some T/\PySem.W.kitOne K (.type T) (.type n)=some b/\Q (.bl b) .fr
noncomputable def i6 (n:Nat) (neg:Bool):PV->Tg->PV->Tg->PK->Prop:=fun x _ y _ Q=>((∃ xs ys,x = .tup xs/\y = .tup ys) ∨ (∃ xs ys,x = .lst xs/\y = .lst ys))/\cX (n+1) x y=true/\Q (.bl (if neg=true then !bP (n+1) x y else bP (n+1) x y)) .fr
noncomputable abbrev m6:=bM->(Option Int->Prop)->Prop
noncomputable def fC (xs:List PV) (lo hi:Option Int):List PV:=(xs.drop (HT.aV xs.length 0 lo)).take (HT.aV xs.length xs.length hi - HT.aV xs.length 0 lo)
noncomputable def ar6:PV->List PV->PV
 | .tup _,ys=>.tup ys
 | .kt _,ys=>.tup ys
 | _,ys=>.lst ys
noncomputable def gA:m6:=fun _ Q=>Q none
noncomputable def gB (te:aF):m6:=fun ρ Q=>te ρ fun x _=>∃ i,x = .int i/\Q (some i)
noncomputable def gC (te:aF) (tl th:m6):aF:=fun ρ Q=>te ρ fun x _=>tl ρ fun lo=>th ρ fun hi=>∃ xs,seqT x=some xs/\flats xs=true/\Q (ar6 x (fC xs lo hi)) .fr
noncomputable def dY (N:List Str) (xs:List PV):bM:=xs.map (fun x=>some (.sh (flat x) x)) ++ List.replicate (N.length - xs.length) none
noncomputable abbrev dE (ta tb:aF):aF:=q2 (eY fun i j=>.int (i+j)) ta tb
noncomputable abbrev nU (ta tb:aF):aF:=q2 (eY fun i j=>.int (i - j)) ta tb
noncomputable abbrev eL (ta tb:aF):aF:=q2 (RI mS fun i j=>.int (i * j)) ta tb
noncomputable abbrev bR (ta tb:aF):aF:=q2 (RI sD fun i j=>.int (i / j)) ta tb
noncomputable abbrev aR (ta tb:aF):aF:=q2 (RI (fun _ j=>0 < j) fun i j=>.int (i % j)) ta tb
noncomputable abbrev pR (ta tb:aF):aF:=q2 (RI sE fun i j=>.int (i ^ j.toNat)) ta tb
noncomputable abbrev iN (ta tb:aF):aF:=q2 (eY fun i j=>.bl (decide (i < j))) ta tb
noncomputable abbrev jD (ta tb:aF):aF:=q2 (eY fun i j=>.bl (decide (j < i))) ta tb
noncomputable abbrev pS (ta tb:aF):aF:=q2 (eY fun i j=>.bl (decide (j<=i))) ta tb
noncomputable abbrev cY (ta tb:aF):aF:=q2 (lQ false) ta tb
noncomputable abbrev jW (ta tb:aF):aF:=q2 (lQ true) ta tb
noncomputable abbrev nV (ta tb:aF):aF:=q2 (kJ false) ta tb
noncomputable abbrev m7 (ta tb:aF):aF:=q2 (kJ true) ta tb
noncomputable abbrev b4 (ta tb:aF):aF:=q2 u5 ta tb
noncomputable def dN:List PV->(PV->Prop)->Prop:=fun xs Q=>B7 xs Q/\∀ ns,xs ≠ [.scr ns]
noncomputable def QE (X:Cx) (e:Expr) (t:aF):Prop:=PE X e (LE X t)
noncomputable def QT (X:Cx) (e:Expr) (t:cH):Prop:=PT X e (LT X t)
noncomputable def QW (X:Cx) (e:Expr) (t:cH):Prop:=PW X e (LT X t)
noncomputable def QA (X:Cx) (es:List Expr) (t:cS):Prop:=PA X es (LA X t)
noncomputable def QS (X:Cx) (st:Stmt) (t:aU):Prop:=PS X st (LS X t)
noncomputable def eN (X:Cx) (st:List Stmt) (t:aU):Prop:=dJ X st (LS X t)
noncomputable def QI (X:Cx) (tg iter:Expr) (t:fA):Prop:=PI X tg iter (LI X t)
section
variable {X : Cx}
theorem cJ {e:Expr}{t t':TE} (h:PE X e t) (m:∀ σ H Q,t' σ H Q->t σ H Q):PE X e t':=fun pins s σ H Q I q=>h pins s σ H Q I (m σ H Q q)
theorem pT {e:Expr}{t t':TT} (h:PT X e t) (m:∀ σ H Q,t' σ H Q->t σ H Q):PT X e t':=fun pins s σ H Q I q=>h pins s σ H Q I (m σ H Q q)
theorem E1 {e:Expr}{t t':TT} (h:PW X e t) (m:∀ σ H Q,t' σ H Q->t σ H Q):PW X e t':=fun wh pins s σ H Q I q=>h wh pins s σ H Q I (m σ H Q q)
theorem E2 {e:List Expr}{t t':TA} (h:PA X e t) (m:∀ σ H Q,t' σ H Q->t σ H Q):PA X e t':=fun pos pins s σ H Q I q=>h pos pins s σ H Q I (m σ H Q q)
theorem eF {e:Stmt}{t t':TS} (h:PS X e t) (m:∀ D σ H,t' D σ H->t D σ H):PS X e t':=fun pins s σ H D I q=>h pins s σ H D I (m D σ H q)
theorem uF {e:List Stmt}{t t':TS} (h:dJ X e t) (m:∀ D σ H,t' D σ H->t D σ H):dJ X e t':=fun pins s σ H D I q=>h pins s σ H D I (m D σ H q)
theorem pU {tg e:Expr}{t t':TI} (h:PI X tg e t) (m:∀ σ H R,t' σ H R->t σ H R):PI X tg e t':=fun pins s σ H R I q=>h pins s σ H R I (m σ H R q)
variable {a b c e o : Expr} {es dA : List Expr} {ta tb te to tk : aF} {tr : cS} {tA tB' tc : cH} {pos p2 px : Pos} {st : Stmt} {sts : List Stmt} {t u : aU}
theorem qv (i:Nat) {x:Str}{pos:Pos} (hN:X.N[i]? = some x:=by rfl) (hv:fR X.env.scope x:=by first | exact Or.inl rfl | exact Or.inr (Or.inl rfl) | exact Or.inr (Or.inr rfl)) (hd:(x == ("__debug__" : Str))=false:=by decide)
  (hcd:(x == ("__classdict__" : Str))=false:=by decide):QE X (.Name x pos) (a5 i):=cJ (iG hN hv hd hcd) fun _ _ _=>am7
theorem aA {i j}:QE X (.Constant (.int i) j pos) (qC (.int i)):=cJ mJ fun _ _ _=>nM fun _=>.int i
theorem dO {i j}:QE X (.Constant (.bool i) j pos) (qC (.bl i)):=cJ Z0 fun _ _ _=>nM fun _=>.bl i
theorem eO {j}:QE X (.Constant .none j pos) (qC .non):=cJ Z1 fun _ _ _=>nM fun _=>.non
theorem uG {i j}:QE X (.Constant (.str i) j pos) (qC (.str i)):=cJ Z2 fun _ _ _=>nM fun _=>.str i
theorem iO {op:Operator}{R:PV->Tg->PV->Tg->PK->Prop}{r:R2} (ho:c9 X (binaryOp op) r) (cv:dL X R r) (ha:QE X a ta) (hb:QE X b tb):QE X (.BinOp a op b pos) (q2 R ta tb):=cJ (ab5 ho ha hb) fun _ _ _=>pI cv
theorem dP (ha:QE X a ta) (hb:QE X b tb):QE X (.BinOp a .Add b pos) (q2 (eY fun i j=>.int (i+j)) ta tb):=iO ab7 A7 ha hb
theorem nW (ha:QE X a ta) (hb:QE X b tb):QE X (.BinOp a .Sub b pos) (q2 (eY fun i j=>.int (i - j)) ta tb):=iO ab8 A7 ha hb
theorem fD (ha:QE X a ta) (hb:QE X b tb):QE X (.BinOp a .Mult b pos) (q2 (RI mS fun i j=>.int (i * j)) ta tb):=iO ab9 pJ ha hb
theorem cN (ha:QE X a ta) (hb:QE X b tb):QE X (.BinOp a .FloorDiv b pos) (q2 (RI sD fun i j=>.int (i / j)) ta tb):=iO ac0 pJ ha hb
theorem b5 (ha:QE X a ta) (hb:QE X b tb):QE X (.BinOp a .Mod b pos) (q2 (RI (fun _ j=>0 < j) fun i j=>.int (i % j)) ta tb):=iO ac1 pJ ha hb
theorem E3 (ha:QE X a ta) (hb:QE X b tb):QE X (.BinOp a .Pow b pos) (q2 (RI sE fun i j=>.int (i ^ j.toNat)) ta tb):=iO ac2 pJ ha hb
theorem jX {op:CmpOp}{R:PV->Tg->PV->Tg->PK->Prop}{r:R2} (ho:c9 X (compareOp op) r) (cv:dL X R r) (ha:QE X a ta) (hb:QE X b tb) (hm:behindInMarks op b=false):QE X (.Compare a [op] [b] pos) (q2 R ta tb):=cJ (sF ho ha hb hm) fun _ _ _=>pI cv
theorem i7 {op:CmpOp}{R:PV->Tg->PV->Tg->PK->Prop}{r:R2} (ho:c9 X (compareOp op) r) (cv:dL X R r) (ha:QE X a ta) (hb:QE X b tb) (hm:behindInMarks op b=false):QT X (.Compare a [op] [b] pos) (aM (q2 R ta tb)):=pT (ac8 ho ha hb hm) fun _ _ _ h=>pI cv (B0 h)
theorem pV (ha:QE X a ta) (hb:QE X b tb):QE X (.Compare a [.Lt] [b] pos) (q2 (eY fun i j=>.bl (decide (i < j))) ta tb):=jX oS lP ha hb (e9 _)
theorem ar7 (ha:QE X a ta) (hb:QE X b tb):QE X (.Compare a [.Gt] [b] pos) (q2 (eY fun i j=>.bl (decide (j < i))) ta tb):=jX xI lP ha hb (e9 _)
theorem ar8 (ha:QE X a ta) (hb:QE X b tb):QE X (.Compare a [.GtE] [b] pos) (q2 (eY fun i j=>.bl (decide (j<=i))) ta tb):=jX xJ lP ha hb (e9 _)
theorem ar9 (ha:QE X a ta) (hb:QE X b tb):QE X (.Compare a [.IsNot] [b] pos) (q2 (kJ true) ta tb):=jX xK B9 ha hb (e9 _)
theorem nX (ha:QE X a ta) (hb:QE X b tb):QT X (.Compare a [.Lt] [b] pos) (aM (q2 (eY fun i j=>.bl (decide (i < j))) ta tb)):=i7 oS lP ha hb (e9 _)
theorem nY (ha:QE X a ta) (hb:QE X b tb):QT X (.Compare a [.Gt] [b] pos) (aM (q2 (eY fun i j=>.bl (decide (j < i))) ta tb)):=i7 xI lP ha hb (e9 _)
theorem uH (ha:QE X a ta) (hb:QE X b tb):QT X (.Compare a [.GtE] [b] pos) (aM (q2 (eY fun i j=>.bl (decide (j<=i))) ta tb)):=i7 xJ lP ha hb (e9 _)
theorem eG (ha:QE X a ta) (hb:QE X b tb):QT X (.Compare a [.Eq] [b] pos) (aM (q2 (lQ false) ta tb)):=i7 ac4 am8 ha hb (e9 _)
theorem kM (ha:QE X a ta) (hb:QE X b tb):QT X (.Compare a [.NotEq] [b] pos) (aM (q2 (lQ true) ta tb)):=i7 ac5 am9 ha hb (e9 _)
theorem nZ (ha:QE X a ta) (hb:QE X b tb):QT X (.Compare a [.Is] [b] pos) (aM (q2 (kJ false) ta tb)):=i7 ac6 aq2 ha hb (e9 _)
theorem o4 (ha:QE X a ta) (hb:QE X b tb):QT X (.Compare a [.IsNot] [b] pos) (aM (q2 (kJ true) ta tb)):=i7 xK B9 ha hb (e9 _)
theorem kN (h:QE X e te) (he:∀ whole,isTrue e X.env whole=(do let v <- whole; standAt e.pos; holding [v] (truthy v)):=by intro _; rfl):QT X e (aM te):=pT (Z3 h he) fun _ _ _ h=>B0 h
theorem uI (h:QE X e te) (he:∀ whole,isTrue e X.env whole=(do let v <- whole; standAt e.pos; holding [v] (truthy v)):=by intro _; rfl):QT X e (nS te):=pT (ad1 h he) fun _ _ _ h=>aq1 h
theorem kO (ha:QT X a tA):QW X (.BoolOp .And [a] pos) tA:=Z4 ha
theorem o7 (ha:QT X a tA):QW X (.BoolOp .Or [a] pos) tA:=Z5 ha
theorem kQ (ha:QT X a tA) (hb:QW X (.BoolOp .And (b :: dA) pos) tB'):QW X (.BoolOp .And (a :: b :: dA) pos) (gQ tA tB'):=E1 (Z6 ha hb) fun _ _ _=>an0
theorem jY (ha:QT X a tA) (hb:QW X (.BoolOp .Or (b :: dA) pos) tB'):QW X (.BoolOp .Or (a :: b :: dA) pos) (iL tA tB'):=E1 (Z7 ha hb) fun _ _ _=>an1
theorem gT (h:QW X e tA):QT X e tA:=PW.pt h
theorem kR (ha:QT X a tA):QT X (.UnaryOp .Not a pos) (jB tA):=pT (Z8 ha) fun _ _ _=>an2
theorem jZ {op} (h:QE X a ta):QE X (.BoolOp op [a] pos) ta:=Z9 h
theorem jE (ha:QE X a ta) (hb:QE X (.BoolOp .And (b :: dA) pos) tb):QE X (.BoolOp .And (a :: b :: dA) pos) (i5 ta tb):=cJ (aa0 ha hb) fun _ _ _=>an3
theorem as0 (ha:QE X a ta):QE X (.UnaryOp .Not a pos) (tV ta):=cJ (aa1 ha) fun _ _ _=>an4
theorem aB:QA X [] a9:=E2 dB fun _ _ _=>an5
theorem a8 (ha:QE X e te) (hr:QA X es tr) (hs:starEach (e :: es) X.env=(false,eval e X.env) :: starEach es X.env:=by rfl):QA X (e :: es) (a6 te tr):=E2 (cP ha hr hs) fun _ _ _=>an6
theorem c8 {x1} (h:QA X es tr):QE X (.Tuple es x1 pos) (bB tr):=cJ (ad7 h) fun _ _ _=>an7
theorem dG (h:QA X es tr):QE X (.List es pos) (cI tr):=cJ (xO h) fun _ _ _=>an8
theorem bF (ha:QE X a ta) (hb:QE X b tb) (hs:yB b:=by exact fun _ _=>rfl):QE X (.Subscript a b pos) (q2 u5 ta tb):=cJ (mY af4 ha hb hs) fun _ _ _=>pI ap1
theorem as1:QE X (.Dict [] [] pos) (qC (.dT [])):=cJ ah6 fun _ _ _=>ar5
theorem kS {x:Str}{id:String}{R:List PV->(PV->Prop)->Prop}{r:List V->Hp->VK->Prop} (hc:cO X (.builtin id) r) (cv:fX X R r) (hg:Gl X x) (hm:X.mg x=none) (hv:bootBuiltins x=some (.builtin id)) (ha:QA X (e :: es) tr) (hn:x ≠ "__name__":=by decide) (hdb:(x == ("__debug__" : Str))=false:=by decide)
  (he:starEach (e :: es) X.env=(false,eval e X.env) :: starEach es X.env:=by rfl) (hpl:(backTo pos (starEach es X.env)).any (·.1)=false:=by rfl):QE X (.Call (.Name x p2) (e :: es) [] pos) (aC R tr):=cJ (lJ hc hg hm hv ha hn hdb he hpl) fun _ _ _=>B1 cv
theorem uJ {x:Str}{T:String}{R:List PV->(PV->Prop)->Prop}{r:List V->Hp->VK->Prop} (hc:cO X (.type T) r) (cv:fX X R r) (hg:Gl X x) (hm:X.mg x=none) (hv:bootBuiltins x=some (.type T)) (ha:QA X (e :: es) tr) (hn:x ≠ "__name__":=by decide) (hdb:(x == ("__debug__" : Str))=false:=by decide)
  (he:starEach (e :: es) X.env=(false,eval e X.env) :: starEach es X.env:=by rfl) (hpl:(backTo pos (starEach es X.env)).any (·.1)=false:=by rfl):QE X (.Call (.Name x p2) (e :: es) [] pos) (aC R tr):=cJ (sL hc hg hm hv ha hn hdb he hpl) fun _ _ _=>B1 cv
theorem bK:eN X [] bC:=uF aa3 fun _ _ _=>an9
theorem aG (h1:QS X st t) (h2:eN X sts u):eN X (st :: sts) (aD t u):=uF (oO h1 h2) fun _ _ _=>ao0
theorem aL (h1:QS X st t):eN X [st] t:=mL h1
theorem bJ {i:Nat}{x:Str} (hN:X.N.Nodup) (he:QE X e te) (hi:X.N[i]? = some x:=by rfl) (hx:gW X.env.scope x:=by first | exact Or.inl rfl | exact Or.inr rfl) (hs:swapsWith e (some (.Name x p2)) pos.line X.env=pure false:=by rfl) (hf:X.fn x=true ∨ X.env.scope.names.lookup x=some .local:=by first | exact .inl rfl | exact .inr rfl) :
  QS X (.Assign [.Name x p2] e pos) (b6 i te):=eF (wX hN hi hx he hs hf) fun _ _ _=>B3
theorem fP {i:Nat}{x:Str} (hN:X.N.Nodup) (he:QE X e te) (hi:X.N[i]? = some x:=by rfl) (hx:gW X.env.scope x:=by first | exact Or.inl rfl | exact Or.inr rfl) (hs:swapsWith e (some (.Name x p2)) pos.line X.env=pure false:=by rfl) (hf:X.fn x=true ∨ X.env.scope.names.lookup x=some .local:=by first | exact .inl rfl | exact .inr rfl) :
  QS X (.Assign [.Name x p2] e pos) (dX i te):=eF (wX hN hi hx he hs hf) fun _ _ _=>ao2
theorem bG (he:QE X e te):QS X (.Return (some e) pos) (aX te):=eF (mO he) fun _ _ _=>ao3
theorem as2 (i:Nat) {x:Str} (hN:X.N[i]? = some x:=by rfl) (hv:fR X.env.scope x:=by first | exact Or.inl rfl | exact Or.inr (Or.inl rfl) | exact Or.inr (Or.inr rfl)) (hd:(x == ("__debug__" : Str))=false:=by decide) (hcd:(x == ("__classdict__" : Str))=false:=by decide) :
  QS X (.Return (some (.Name x p2)) pos) (tZ i):=eF (mO (iG hN hv hd hcd)) fun _ _ _=>ao4
theorem bL {sa sb:List Stmt} (hc:QT X c tc) (ha:eN X sa t) (hb:eN X sb u):QS X (.If c sa sb pos) (bD tc t u):=eF (aa4 hc ha hb) fun _ _ _=>ao5
theorem E4 {body:List Stmt} (hp:PassesOwn (model X.prog X.w) X.A X.env X.xe) (hc:QT X c tc) (hb:eN X body t):QS X (.While c body [] pos) (pK tc t):=eF (aa6 hp hc hb) fun _ _ _=>ao6
theorem iP (i:Nat) {x:Str}{apos cpos xpos:Pos} (he:QE X e te) (hN:X.N[i]? = some x:=by rfl) (hv:fR X.env.scope x:=by first | exact Or.inl rfl | exact Or.inr (Or.inl rfl) | exact Or.inr (Or.inr rfl)) (hd:(x == ("__debug__" : Str))=false:=by decide) (hcd:(x == ("__classdict__" : Str))=false:=by decide)
  (hbase:attributeBase (.Name x xpos) "append" X.env (eval (.Name x xpos) X.env)=eval (.Name x xpos) X.env:=by rfl)
  (hfew:((backTo cpos (starEach [e] X.env)).all (fun x=>!x.1) && (backToKw cpos (keywordEach [] X.env)).all (fun x=>x.1.isSome) && decide (([e]:List Expr).length+([]:List Keyword).length+(if ([]:List Keyword).isEmpty then 0 else 1) < 30))=true:=by rfl)
  (hline:(apos.endLine == cpos.line)=true:=by rfl) (hs:starEach [e] X.env=(false,eval e X.env) :: starEach [] X.env:=by rfl) (hplain:(backTo cpos (starEach [] X.env)).any (·.1)=false:=by rfl)
  (hsw:swapsWith (.Call (.Attribute (.Name x xpos) "append" apos) [e] [] cpos) none pos.line X.env=pure false:=by rfl) :
  QS X (.Expr (.Call (.Attribute (.Name x xpos) "append" apos) [e] [] cpos) pos) (fM i te):=
 eF (lD (kF bd5 PySem.F.slot_list_append PySem.F.type_list_append nF (iG hN hv hd hcd) (cP he dB hs) hbase hfew hline hs hplain) hsw) fun _ _ _=>ao7
theorem as3 {i:Nat}{x:Str}{xpos tpos:Pos} (hu:X.A.units+1 < cLine) (hk:QE X a tk) (he:QE X e te) (hN:X.N[i]? = some x:=by rfl) (hv:fR X.env.scope x:=by first | exact Or.inl rfl | exact Or.inr (Or.inl rfl) | exact Or.inr (Or.inr rfl)) (hd:(x == ("__debug__" : Str))=false:=by decide) (hcd:(x == ("__classdict__" : Str))=false:=by decide)
  (hs:swapsWith e (some (.Subscript (.Name x xpos) a tpos)) pos.line X.env=pure false:=by rfl):QS X (.Assign [.Subscript (.Name x xpos) a tpos] e pos) (pQ i tk te):=eF (ah4 hu (iG hN hv hd hcd) hk he hs) fun _ _ _=>ar4
theorem as4 {tg l:Expr}{tl:TE} (hl:PE X l tl):PI X tg l (C0 X.K tl):=by
 intro pins s σ H R I h
 refine aP (hl pins s σ H _ I h) fun v s1 ⟨x,H1,I1,r1,q1⟩=>?_
 obtain ⟨a,e,q⟩:=q1
 subst e
 cases r1
 rcases q with ⟨xs,hq,q⟩ | ⟨xs,hq,q⟩
 ·obtain ⟨its,rv,p,hz⟩:=I1.list hq
  refine wpAny_pyIter_list p.isList ?_
  refine⟨s1.heap.objs.size,[s1.heap.objs.size],_,_,H1,rfl,I1.kept (t':=s1.toks) fun b o e=>aT5 _ e,aa7 a _,⟨_,aU0 _ rfl,rfl,rfl⟩,fun b hb=>?_,q⟩
  have e:b=s1.heap.objs.size:=by simpa using hb
  subst e
  exact I1.fpOk (aT9 _) (I1.hok.fresh (aT9 _))
 ·obtain ⟨its,rv,p,hz⟩:=I1.tuple hq
  refine bf9 (show s1.heap.IsTuple a its.toArray from p) ?_
  refine⟨s1.heap.objs.size,[s1.heap.objs.size],_,_,H1,rfl,I1.kept (t':=s1.toks) fun b o e=>aT5 _ e,x0 a _,⟨_,aU0 _ rfl,rfl,rfl⟩,fun b hb=>?_,q⟩
  have e:b=s1.heap.objs.size:=by simpa using hb
  subst e
  exact I1.fpOk (aT9 _) (I1.hok.fresh (aT9 _))
theorem i8 {tg l:Expr} (hl:QE X l te):QI X tg l (fN te):=pU (as4 hl) fun _ _ _=>aq3
theorem gD {tg:Expr} (hg:Gl X "range") (hm:X.mg "range" = none) (ha:QE X a ta) (hs:starEach [a] X.env = [(false,eval a X.env)]:=by rfl):QI X tg (.Call (.Name "range" p2) [a] [] pos) (eJ ta):=pU (ab0 hg hm (cP ha dB hs) hs) fun _ _ _=>aq4
theorem E5 {tg:Expr} (hg:Gl X "range") (hm:X.mg "range" = none) (ha:QE X a ta) (hb:QE X b tb) (hs:starEach [a,b] X.env = [(false,eval a X.env),(false,eval b X.env)]:=by rfl) (hs2:starEach [b] X.env = [(false,eval b X.env)]:=by rfl) :
  QI X tg (.Call (.Name "range" p2) [a,b] [] pos) (pM ta tb):=pU (ab1 hg hm (cP ha (cP hb dB hs2) (by rw [hs,hs2])) hs hs2) fun _ _ _=>aq5
theorem E6 {tg:Expr}{body:List Stmt}{ti:fA}{p:iM}{g:TG}{own:Nat->Prop} (hp:PassesOwn (model X.prog X.w) X.A X.env X.xe) (hc:X.calm=true) (hi:QI X tg e ti) (hg:PG X tg g) (ht:lY X.K own p g) (hb:eN X body t)
  (hs:∀ x,foldedSetIterable e X.env x=pure x:=by intro _; rfl):QS X (.For tg e body [] pos) (cQ ti p t):=eF (x9 hp hc hi hg hb hs) fun _ _ _=>aq6 ht
end
section
variable {X : Cx} {pins : List (Addr × Obj)} {σ : St} {H : Hp} {s : Shared} {K : PySem.W.Frag} {M M' : Addr → Prop}
theorem jA.inj {a:Addr}{us ws:List V} (h:jA K a us) (h':jA K a ws):us=ws:=by
 obtain ⟨o,its,n,e1,_,e2,_,v⟩:=h
 obtain ⟨o',its',n',e1',_,e2',_,v'⟩:=h'
 rw [e1] at e1'; cases e1'
 rw [e2] at e2'; cases e2'
 exact v.inj v'
theorem Reps.self_of {n:Nat} (ih:∀ {v:V}{x y:PV},aI K M H v x->aI K M' H v y->cX n x y=true->bP n x y=true):∀ {vs:List V}{xs ys:List PV},Reps K M H vs xs->Reps K M' H vs ys->((xs.zip ys).all fun p=>cX n p.1 p.2)=true->(((xs.zip ys).all fun p=>bP n p.1 p.2) && xs.length == ys.length)=true
 | _,_,_,.nil,.nil,_=>rfl
 | _,_,_,.cons r t,.cons r' t',o=>by
  simp only [List.zip_cons_cons,bi1,aX3] at o
  have h1:=ih r r' o.1
  have h2:=Reps.self_of ih t t' o.2
  simp only [List.zip_cons_cons,bi1,h1,Bool.true_and,aZ6] at h2 ⊢
  rw [<- h2]
  congr 1
  simp
theorem aI.self:∀ (n:Nat) {v:V}{x y:PV},aI K M H v x->aI K M' H v y->cX n x y=true->bP n x y=true:=by
 intro n
 induction n with
 | zero=>
  intro v x y r r' o
  cases r with
  | non=>cases r'; rfl
  | bl b=>cases r'; exact bb9 b
  | int i=>cases r'; exact bb9 i
  | str z=>cases r'; exact bb9 z
  | _=>cases o
 | succ n ih=>
  intro v x y r r' o
  cases r with
  | non=>cases r'; rfl
  | bl b=>cases r'; exact bb9 b
  | int i=>cases r'; exact bb9 i
  | str z=>cases r'; exact bb9 z
  | tup h rr=>
   cases r' with
   | tup h' rr'=>rw [h] at h'; cases h'; exact Reps.self_of ih rr rr' o
   | _=>cases o
  | lst _ h rr=>
   cases r' with
   | lst _ h' rr'=>rw [h] at h'; cases h'; exact Reps.self_of ih rr rr' o
   | _=>cases o
  | kt h rr=>
   cases r' with
   | kt h' rr'=>cases jA.inj h h'; exact Reps.self_of ih rr rr' o
   | _=>cases o
  | _=>cases o
theorem Reps.self (n:Nat) {vs:List V}{xs ys:List PV} (r:Reps K M H vs xs) (r':Reps K M' H vs ys) (o:((xs.zip ys).all fun p=>cX n p.1 p.2)=true):(((xs.zip ys).all fun p=>bP n p.1 p.2) && xs.length == ys.length)=true:=Reps.self_of (aI.self n) r r' o
theorem jF (n:Nat) (xs ys:List PV):(List.range (min xs.length ys.length)).all (fun j=>bP n (xs.getD j .non) (ys.getD j .non))=(xs.zip ys).all fun p=>bP n p.1 p.2:=by
 rw [bb8]
 simp only [aY3,bg7]
 constructor
 ·intro h p hp
  obtain ⟨j,hj,e⟩:=List.getElem_of_mem hp
  have hj':j < min xs.length ys.length:=by simpa using hj
  have:=h j hj'
  rw [List.getElem_zip] at e
  subst e
  have h1:j < xs.length:=by omega
  have h2:j < ys.length:=by omega
  simpa [aU4,h1,h2] using this
 ·intro h j hj
  have h1:j < xs.length:=by omega
  have h2:j < ys.length:=by omega
  have hz:j < (xs.zip ys).length:=by simp; omega
  have:=h _ (bc8 hz)
  rw [List.getElem_zip] at this
  simpa [aU4,h1,h2] using this
theorem as5 (I:a7 X pins σ H s):∀ (n:Nat) {A:Around}{v w:V}{x y:PV}{a b:Value},A.units+n < cLine->aI X.K M H v x->aI X.K M' H w y->aW v a->aW w b->cX n x y=true->SeqAt.EqAt A s a b (bP n x y):=by
 intro n
 induction n with
 | zero=>
  intro A v w x y a b hu rx ry ra rb o
  cases rx with
  | non=>
   cases ra
   cases ry with
   | non=>cases rb; exact bj1 _
   | int i=>obtain ⟨t',rfl⟩:=rb; exact SeqAt.EqAt.none_int _ _
   | _=>cases o
  | bl i=>
   cases ra
   cases ry with
   | bl j=>cases rb; exact SeqAt.EqAt.bool_bool _ _
   | _=>cases o
  | int i=>
   obtain ⟨t,rfl⟩:=ra
   cases ry with
   | int j=>obtain ⟨t',rfl⟩:=rb; exact SeqAt.EqAt.int_int _ _ _ _
   | non=>cases rb; exact SeqAt.EqAt.int_none _ _
   | _=>cases o
  | str i=>
   obtain ⟨t,rfl⟩:=ra
   cases ry with
   | str j=>obtain ⟨t',rfl⟩:=rb; exact SeqAt.EqAt.str_str _ _ _ _
   | _=>cases o
  | _=>cases o
 | succ n ih=>
  intro A v w x y a b hu rx ry ra rb o
  have items:∀ {us ws:List V}{xs ys:List PV}{its its2:List Value},Reps X.K M H us xs->Reps X.K M' H ws ys->aJ us its->aJ ws its2->((xs.zip ys).all fun p=>cX n p.1 p.2)=true->
    ∀ j (h1:j < its.toArray.size) (h2:j < its2.toArray.size),SeqAt.EqAt A.in1 s its.toArray[j] its2.toArray[j] (bP n (xs.getD j .non) (ys.getD j .non)):=fun {us ws xs ys its its2} r1 r2 v1 v2 ok j h1 h2=>by
   have l1:=v1.length
   have l2:=v2.length
   have m1:=r1.length
   have m2:=r2.length
   have k1:j < its.length:=by simpa using h1
   have k2:j < its2.length:=by simpa using h2
   have j1:j < us.length:=by omega
   have j2:j < ws.length:=by omega
   have i1:j < xs.length:=by omega
   have i2:j < ys.length:=by omega
   obtain ⟨u,hu',ru⟩:=v1.get (aT7 j1)
   obtain ⟨u2,hu2',ru2⟩:=v2.get (aT7 j2)
   obtain ⟨x,hx,rx⟩:=r1.get (aT7 j1)
   obtain ⟨y,hy,ry⟩:=r2.get (aT7 j2)
   have e1:its.toArray[j]=u:=by
    rw [aT7 k1] at hu'
    simpa using hu'
   have e2:its2.toArray[j]=u2:=by
    rw [aT7 k2] at hu2'
    simpa using hu2'
   have ok':cX n x y=true:=by
    rw [aY3] at ok
    have hz:j < (xs.zip ys).length:=by simp; omega
    have:=ok _ (bc8 hz)
    rw [List.getElem_zip] at this
    rw [aT7 i1] at hx
    rw [aT7 i2] at hy
    cases hx; cases hy
    exact this
   rw [e1,e2]
   have g1:xs.getD j .non=x:=by rw [aU4,hx]; rfl
   have g2:ys.getD j .non=y:=by rw [aU4,hy]; rfl
   rw [g1,g2]
   exact ih (by show A.units+1+n < cLine; omega) rx ry ru ru2 ok'
  have huA:A.units < cLine:=by omega
  cases rx with
  | @kt p us xs h1 r1=>
   obtain ⟨its,v1,p1,_⟩:=I.tuple (.inr h1)
   cases (show a=Value.ref p from ra)
   cases ry with
   | @kt p2 ws ys h2 r2=>
    obtain ⟨its2,v2,p2',_⟩:=I.tuple (.inr h2)
    cases (show b=Value.ref p2 from rb)
    by_cases e:p=p2
    ·subst e
     have:=aI.self (K:=X.K) (M:=M) (M':=M') (n+1) (.kt h1 r1) (.kt h2 r2) o
     rw [this]
     exact bj1 _
    ·have:=bj8 p1 p2' huA (items r1 r2 v1 v2 o)
     refine .of_refs e ?_
     have l1:=v1.length
     have l2:=v2.length
     have m1:=r1.length
     have m2:=r2.length
     rw [aT8,aT8,<- l1,<- l2,m1,m2,jF] at this
     exact this
   | _=>cases o
  | @tup p us xs h1 r1=>
   obtain ⟨its,v1,p1,_⟩:=I.tuple (aH.of (K:=X.K) h1)
   cases (show a=Value.ref p from ra)
   cases ry with
   | @tup p2 ws ys h2 r2=>
    obtain ⟨its2,v2,p2',_⟩:=I.tuple (aH.of (K:=X.K) h2)
    cases (show b=Value.ref p2 from rb)
    by_cases e:p=p2
    ·subst e
     have:=aI.self (K:=X.K) (M:=M) (M':=M') (n+1) (.tup h1 r1) (.tup h2 r2) o
     rw [this]
     exact bj1 _
    ·have:=bj8 p1 p2' huA (items r1 r2 v1 v2 o)
     refine .of_refs e ?_
     have l1:=v1.length
     have l2:=v2.length
     have m1:=r1.length
     have m2:=r2.length
     rw [aT8,aT8,<- l1,<- l2,m1,m2,jF] at this
     exact this
   | non=>cases rb; exact SeqAt.EqAt.tuple_none p1 huA
   | _=>cases o
  | @lst p us xs _ h1 r1=>
   obtain ⟨its,v1,p1,_⟩:=I.list (aK.of (K:=X.K) h1)
   cases (show a=Value.ref p from ra)
   cases ry with
   | @lst p2 ws ys _ h2 r2=>
    obtain ⟨its2,v2,p2',_⟩:=I.list (aK.of (K:=X.K) h2)
    cases (show b=Value.ref p2 from rb)
    have l1:=v1.length
    have l2:=v2.length
    have m1:=r1.length
    have m2:=r2.length
    by_cases e:p=p2
    ·subst e
     rw [h1] at h2; cases h2
     have:=Reps.self n r1 r2 o
     show SeqAt.EqAt A s _ _ ((xs.zip ys).all (fun p=>bP n p.1 p.2) && xs.length == ys.length)
     rw [this]
     exact bj1 _
    ·refine .of_refs e ?_
     by_cases hl:xs.length=ys.length
     ·have:=SeqAt.RcAt.lists p1.isList p2'.isList (by rw [aT8,aT8]; omega) huA (items r1 r2 v1 v2 o)
      have hm:min xs.length ys.length=its.length:=by omega
      rw [aT8,<- hm,jF] at this
      show SeqAt.RcAt A s _ _ ((xs.zip ys).all (fun p=>bP n p.1 p.2) && xs.length == ys.length)
      rw [show (xs.length == ys.length)=true by simpa using hl,bk3]
      exact this
     ·have:=SeqAt.RcAt.lists_lengths (A:=A) p1.isList p2'.isList (by rw [aT8,aT8]; simp; omega) huA
      show SeqAt.RcAt A s _ _ ((xs.zip ys).all (fun p=>bP n p.1 p.2) && xs.length == ys.length)
      rw [show (xs.length == ys.length)=false by simpa using hl,bi7]
      exact this
   | _=>cases o
  | non=>
   cases ra
   cases ry with
   | non=>cases rb; exact bj1 _
   | int i=>obtain ⟨t',rfl⟩:=rb; exact SeqAt.EqAt.none_int _ _
   | @tup p2 ws ys h2 r2=>
    obtain ⟨its2,v2,p2',_⟩:=I.tuple (aH.of (K:=X.K) h2)
    cases (show b=Value.ref p2 from rb)
    exact SeqAt.EqAt.none_tuple p2' huA
   | _=>cases o
  | bl i=>
   cases ra
   cases ry with
   | bl j=>cases rb; exact SeqAt.EqAt.bool_bool _ _
   | _=>cases o
  | int i=>
   obtain ⟨t,rfl⟩:=ra
   cases ry with
   | int j=>obtain ⟨t',rfl⟩:=rb; exact SeqAt.EqAt.int_int _ _ _ _
   | non=>cases rb; exact SeqAt.EqAt.int_none _ _
   | _=>cases o
  | str i=>
   obtain ⟨t,rfl⟩:=ra
   cases ry with
   | str j=>obtain ⟨t',rfl⟩:=rb; exact SeqAt.EqAt.str_str _ _ _ _
   | _=>cases o
  | _=>cases o
end
structure Bt (mg:Str->Option Value):Prop where
 len:mg "len" = none
 range:mg "range" = none
 tuple:mg "tuple" = none
 list:mg "list" = none
 sorted:mg "sorted" = none
 all:mg "all" = none
 any:mg "any" = none
 zip:mg "zip" = none
 min:mg "min" = none
 max:mg "max" = none
 sum:mg "sum" = none
 isinst:mg "isinstance" = none
 int:mg "int" = none
 bool:mg "bool" = none
 enum:mg "enumerate" = none
section
variable {X : Cx} {a b c e o : Expr} {es dA : List Expr} {ta tb te to tk : aF} {tr : cS} {tA tB' tc : cH} {pos p2 px : Pos} {st : Stmt} {sts : List Stmt} {t u : aU}
theorem cE (B:Bt X.mg) (ha:QA X [e] tr) (hg:Gl X "len":=by rfl) (he:starEach [e] X.env=(false,eval e X.env) :: starEach [] X.env:=by rfl) (hpl:(backTo pos (starEach [] X.env)).any (·.1)=false:=by rfl):QE X (.Call (.Name "len" p2) [e] [] pos) (aC bU tr):=
 kS (ag1.or ai4) ap2 hg B.len PySem.boot_len ha (he:=he) (hpl:=hpl)
theorem gU (B:Bt X.mg) (ha:QA X [e] tr) (hg:Gl X "tuple":=by rfl) (he:starEach [e] X.env=(false,eval e X.env) :: starEach [] X.env:=by rfl) (hpl:(backTo pos (starEach [] X.env)).any (·.1)=false:=by rfl):QE X (.Call (.Name "tuple" p2) [e] [] pos) (aC dN tr):=
 uJ ag3 ap3 hg B.tuple PyProof.Rows.boot_tuple ha (he:=he) (hpl:=hpl)
theorem uK (B:Bt X.mg) (ha:QA X [e] tr) (hg:Gl X "list":=by rfl) (he:starEach [e] X.env=(false,eval e X.env) :: starEach [] X.env:=by rfl) (hpl:(backTo pos (starEach [] X.env)).any (·.1)=false:=by rfl):QE X (.Call (.Name "list" p2) [e] [] pos) (aC nO tr):=
 uJ ag2 ap4 hg B.list PyProof.Rows.boot_list ha (he:=he) (hpl:=hpl)
theorem uL (B:Bt X.mg) (ha:QA X [e] tr) (hg:Gl X "sorted":=by rfl) (he:starEach [e] X.env=(false,eval e X.env) :: starEach [] X.env:=by rfl) (hpl:(backTo pos (starEach [] X.env)).any (·.1)=false:=by rfl):QE X (.Call (.Name "sorted" p2) [e] [] pos) (aC nP tr):=
 kS zQ ap5 hg B.sorted PyProof.Rows.boot_sorted ha (he:=he) (hpl:=hpl)
theorem E7 (B:Bt X.mg) (hc:X.calm=true) (ha:QA X [e] tr) (hg:Gl X "all":=by rfl) (he:starEach [e] X.env=(false,eval e X.env) :: starEach [] X.env:=by rfl) (hpl:(backTo pos (starEach [] X.env)).any (·.1)=false:=by rfl):QE X (.Call (.Name "all" p2) [e] [] pos) (aC pL tr):=
 kS (tQ hc) ap6 hg B.all PyProof.Rows.boot_all ha (he:=he) (hpl:=hpl)
theorem E8 (B:Bt X.mg) (hc:X.calm=true) (ha:QA X [a,b] tr) (hg:Gl X "min":=by rfl) (he:starEach [a,b] X.env=(false,eval a X.env) :: starEach [b] X.env:=by rfl) (hpl:(backTo pos (starEach [b] X.env)).any (·.1)=false:=by rfl):QE X (.Call (.Name "min" p2) [a,b] [] pos) (aC nQ tr):=
 kS (ad3 hc) ap7 hg B.min PyProof.Rows.boot_min ha (he:=he) (hpl:=hpl)
theorem uM (B:Bt X.mg) (hc:X.calm=true) (ha:QA X [a,b] tr) (hg:Gl X "max":=by rfl) (he:starEach [a,b] X.env=(false,eval a X.env) :: starEach [b] X.env:=by rfl) (hpl:(backTo pos (starEach [b] X.env)).any (·.1)=false:=by rfl):QE X (.Call (.Name "max" p2) [a,b] [] pos) (aC lV tr):=
 kS (ad2 hc) ap8 hg B.max PyProof.Rows.boot_max ha (he:=he) (hpl:=hpl)
theorem uN (ha:QE X a ta):QE X (.UnaryOp .USub a pos) (jV ta):=cJ (ab6 ac3 ha) fun σ H Q' h=>by
 obtain ⟨W,ρ,Q,px,q,k⟩:=h
 refine⟨W,ρ,_,px,q,?_⟩
 rintro v H1 x g s r ⟨i,rfl,q⟩
 cases r
 exact⟨i,rfl,k _ _ _ .fr s (.int _) q⟩
theorem E9 (x:Int):∀ (xs:List Int),nD (.int x) (xs.map V.int)=decide (x ∈ xs)
 | []=>by simp [nD]
 | y :: r=>by
  have ih:=E9 x r
  unfold nD at ih ⊢
  rw [ba1,List.any_cons,ih]
  by_cases e:y=x
  ·subst e; simp [hJ]
  ·have:hJ (.int y) (.int x)=false:=by simpa [hJ] using e
   rw [this,Bool.false_or,bb8]
   simp [Ne.symm e]
theorem F0:∀ (xs:List Int),(xs.map V.int).all j3=true
 | []=>rfl
 | _ :: r=>by rw [ba1,bi1,F0 r]; rfl
theorem pW (neg:Bool):dL X (gS neg) (sU X.K neg):=by
 rintro W Hs H u v x y g g' Q Q' s n r1 r2 ⟨i,ns,rfl,e,q⟩ k
 cases r1
 obtain ⟨a,us,rfl,hs,r⟩:=r2.seq e
 obtain rfl:=r.ofInts
 refine⟨a,_,rfl,hs,rfl,F0 ns,?_⟩
 have:=k _ _ _ .fr (aE.refl _) (.bl _) q
 rw [E9]
 cases neg <;> exact this
theorem F1 (ha:QE X a ta) (hb:QE X b tb) (hm:behindInMarks .In b=false:=by rfl):QE X (.Compare a [.In] [b] pos) (q2 (gS false) ta tb):=jX yI (pW false) ha hb hm
theorem as6 (ha:QE X a ta) (hb:QE X b tb) (hm:behindInMarks .NotIn b=false:=by rfl):QE X (.Compare a [.NotIn] [b] pos) (q2 (gS true) ta tb):=jX yJ (pW true) ha hb hm
theorem F3 (ha:QE X a ta) (hb:QE X b tb) (hm:behindInMarks .In b=false:=by rfl):QT X (.Compare a [.In] [b] pos) (aM (q2 (gS false) ta tb)):=i7 yI (pW false) ha hb hm
theorem F4 (ha:QE X a ta) (hb:QE X b tb) (hm:behindInMarks .NotIn b=false:=by rfl):QT X (.Compare a [.NotIn] [b] pos) (aM (q2 (gS true) ta tb)):=i7 yJ (pW true) ha hb hm
theorem aI.kt_ {K:PySem.W.Frag}{M:Addr->Prop}{H:Hp}{v:V}{xs:List PV} (r:aI K M H v (.kt xs)):∃ a us,v = .ref a/\jA K a us/\Reps K M H us xs:=by
 cases r with
 | kt h r=>exact⟨_,_,rfl,h,r⟩
noncomputable def F5 (K:PySem.W.Frag) (H:Hp) (x:V) (t:Value):Prop:=fG K H x t ∨ ∃ a us,x = .ref a/\aH K H a us/\t = .type "tuple"
theorem as7:cO X (.builtin "isinstance") (fun xs H Q=>∃ x t n b,xs = [x,.ty n]/\F5 X.K H x t/\PySem.W.kitOne X.K t (.type n)=some b/\Q (.bl b) H):=by
 intro pins s σ H xs us Q I r h
 obtain ⟨x,t,n,b,rfl,ty,e,q⟩:=h
 rcases ty with ty | ⟨a,ws,rfl,hs,rfl⟩
 ·exact ak8 pins s σ H _ us Q I r ⟨x,t,n,b,rfl,ty,e,q⟩
 obtain ⟨u,u',rfl,ru,ru'⟩:=mT r
 cases ru'
 cases (show u=Value.ref a from ru)
 obtain ⟨its,_,⟨o,h1,h2,_⟩,_⟩:=I.tuple hs
 exact ba7 PySem.W.kitx_tuple I.kIn ⟨o,h1,h2⟩ e (fun z=>nomatch z) fun tk=>⟨.bl b,H,I.tok tk,rfl,q⟩
theorem as8 {K:PySem.W.Frag}{M:Addr->Prop}{H:Hp}{v:V}{x:PV}{T:String} (r:aI K M H v x) (e:C9 x=some T):F5 K H v (.type T):=by
 cases r with
 | non=>cases e; exact .inl .non
 | bl b=>cases e; exact .inl (.bl b)
 | int i=>cases e; exact .inl (.int i)
 | str i=>cases e; exact .inl (.str i)
 | tup h _=>cases e; exact .inl (.tup h)
 | lst _ h _=>cases e; exact .inl (.lst h)
 | kt h _=>cases e; exact .inr ⟨_,_,rfl,.inr h,rfl⟩
 | _=>cases e
theorem uO {x:Str}{n:String} (B:Bt X.mg) (hn:bootBuiltins x=some (.type n)) (hm:X.mg x=none) (ha:QE X a ta) (hg:Gl X "isinstance":=by rfl) (hgx:Gl X x:=by rfl) (hx:x ≠ "__name__":=by decide) (hdx:(x == ("__debug__" : Str))=false:=by decide)
  (he:starEach [a,.Name x px] X.env=(false,eval a X.env) :: starEach [.Name x px] X.env:=by rfl) (he2:starEach [.Name x px] X.env=(false,eval (.Name x px) X.env) :: starEach [] X.env:=by rfl) (hpl:(backTo pos (starEach [.Name x px] X.env)).any (·.1)=false:=by rfl):QE X (.Call (.Name "isinstance" p2) [a,.Name x px] [] pos) (kL X.K n ta):=
 cJ (lJ as7 hg B.isinst PyProof.Rows.boot_isinstance (cP ha (cP (wM (v:=.ty n) hgx hm hn rfl hx hdx) dB he2) he) (he:=he) (hpl:=hpl)) fun σ H Q' h=>by
  obtain ⟨W,ρ,Q,px,q,k⟩:=h
  refine⟨W,ρ,_,px,q,?_⟩
  rintro v H1 x g s r ⟨T,b,e,kt,q⟩
  exact⟨v,_,n,b,rfl,as8 r e,kt,k _ _ _ .fr s (.bl _) q⟩
theorem as9 (B:Bt X.mg) (ha:QE X a ta) (hg:Gl X "isinstance":=by rfl) (hgx:Gl X "int":=by rfl)
  (he:starEach [a,.Name "int" px] X.env=(false,eval a X.env) :: starEach [.Name "int" px] X.env:=by rfl) (he2:starEach [.Name "int" px] X.env=(false,eval (.Name "int" px) X.env) :: starEach [] X.env:=by rfl) (hpl:(backTo pos (starEach [.Name "int" px] X.env)).any (·.1)=false:=by rfl):QE X (.Call (.Name "isinstance" p2) [a,.Name "int" px] [] pos) (kL X.K "int" ta):=uO B PyProof.Rows.boot_int B.int ha (hg:=hg) (hgx:=hgx) (he:=he) (he2:=he2) (hpl:=hpl)
theorem at0 (B:Bt X.mg) (ha:QE X a ta) (hg:Gl X "isinstance":=by rfl) (hgx:Gl X "bool":=by rfl)
  (he:starEach [a,.Name "bool" px] X.env=(false,eval a X.env) :: starEach [.Name "bool" px] X.env:=by rfl) (he2:starEach [.Name "bool" px] X.env=(false,eval (.Name "bool" px) X.env) :: starEach [] X.env:=by rfl) (hpl:(backTo pos (starEach [.Name "bool" px] X.env)).any (·.1)=false:=by rfl):QE X (.Call (.Name "isinstance" p2) [a,.Name "bool" px] [] pos) (kL X.K "bool" ta):=uO B PyProof.Rows.boot_bool B.bool ha (hg:=hg) (hgx:=hgx) (he:=he) (he2:=he2) (hpl:=hpl)
theorem at2 (B:Bt X.mg) (ha:QE X a ta) (hg:Gl X "isinstance":=by rfl) (hgx:Gl X "tuple":=by rfl)
  (he:starEach [a,.Name "tuple" px] X.env=(false,eval a X.env) :: starEach [.Name "tuple" px] X.env:=by rfl) (he2:starEach [.Name "tuple" px] X.env=(false,eval (.Name "tuple" px) X.env) :: starEach [] X.env:=by rfl) (hpl:(backTo pos (starEach [.Name "tuple" px] X.env)).any (·.1)=false:=by rfl):QE X (.Call (.Name "isinstance" p2) [a,.Name "tuple" px] [] pos) (kL X.K "tuple" ta):=uO B PyProof.Rows.boot_tuple B.tuple ha (hg:=hg) (hgx:=hgx) (he:=he) (he2:=he2) (hpl:=hpl)
noncomputable def uP (K:PySem.W.Frag) (n:Nat) (neg:Bool):R2:=fun v w H Q=>∃ x y,aI K (fun _=>True) H v x/\aI K (fun _=>True) H w y/\((∃ xs ys,x = .tup xs/\y = .tup ys) ∨ (∃ xs ys,x = .lst xs/\y = .lst ys) ∨ (∃ xs ys,x = .kt xs/\y = .kt ys))/\cX (n+1) x y=true/\Q (.bl (if neg=true then !bP (n+1) x y else bP (n+1) x y)) H
theorem m8 {pins:List (Addr × Obj)}{σ:St}{H:Hp}{s:Shared}{M M':Addr->Prop} (I:a7 X pins σ H s) {n:Nat}{A:Around} (hu:A.units+(n+1) < cLine) {us ws:List V}{xs ys:List PV}{its its2:List Value} (r1:Reps X.K M H us xs) (r2:Reps X.K M' H ws ys) (v1:aJ us its) (v2:aJ ws its2)
  (ok:((xs.zip ys).all fun p=>cX n p.1 p.2)=true):∀ j (h1:j < its.toArray.size) (h2:j < its2.toArray.size),SeqAt.EqAt A.in1 s its.toArray[j] its2.toArray[j] (bP n (xs.getD j .non) (ys.getD j .non)):=by
 intro j h1 h2
 have l1:=v1.length
 have l2:=v2.length
 have m1:=r1.length
 have m2:=r2.length
 have k1:j < its.length:=by simpa using h1
 have k2:j < its2.length:=by simpa using h2
 have j1:j < us.length:=by omega
 have j2:j < ws.length:=by omega
 have i1:j < xs.length:=by omega
 have i2:j < ys.length:=by omega
 obtain ⟨u,hu',ru⟩:=v1.get (aT7 j1)
 obtain ⟨u2,hu2',ru2⟩:=v2.get (aT7 j2)
 obtain ⟨x,hx,rx⟩:=r1.get (aT7 j1)
 obtain ⟨y,hy,ry⟩:=r2.get (aT7 j2)
 have e1:its.toArray[j]=u:=by
  rw [aT7 k1] at hu'
  simpa using hu'
 have e2:its2.toArray[j]=u2:=by
  rw [aT7 k2] at hu2'
  simpa using hu2'
 have ok':cX n x y=true:=by
  rw [aY3] at ok
  have hz:j < (xs.zip ys).length:=by simp; omega
  have:=ok _ (bc8 hz)
  rw [List.getElem_zip] at this
  rw [aT7 i1] at hx
  rw [aT7 i2] at hy
  cases hx; cases hy
  exact this
 rw [e1,e2]
 have g1:xs.getD j .non=x:=by rw [aU4,hx]; rfl
 have g2:ys.getD j .non=y:=by rw [aU4,hy]; rfl
 rw [g1,g2]
 exact as5 I n (by show A.units+1+n < cLine; omega) rx ry ru ru2 ok'
theorem F6 (n:Nat) (hu:X.A.units+(n+1) < cLine):c9 X (compareOp .Eq) (uP X.K n false):=by
 intro pins s σ H v w a b Q I ra rb h
 obtain ⟨x,y,rx,ry,kd,o,q⟩:=h
 have hu0:X.A.units < cLine:=by omega
 rcases kd with ⟨xs,ys,rfl,rfl⟩ | ⟨xs,ys,rfl,rfl⟩ | ⟨xs,ys,rfl,rfl⟩
 ·obtain ⟨p,us,rfl,h1,r1⟩:=rx.sqT
  obtain ⟨p2,ws,rfl,h2,r2⟩:=ry.sqT
  cases ra; cases rb
  obtain ⟨its,v1,p1,_⟩:=I.tuple (aH.of (K:=X.K) h1)
  obtain ⟨its2,v2,p2',_⟩:=I.tuple (aH.of (K:=X.K) h2)
  have l1:=v1.length
  have l2:=v2.length
  have m1:=r1.length
  have m2:=r2.length
  have:=bj8 p1 p2' hu0 (m8 I hu r1 r2 v1 v2 o)
  rw [aT8,aT8,<- l1,<- l2,m1,m2,jF] at this
  exact this _ _ _ _ ⟨.bl _,H,I,rfl,q⟩
 ·obtain ⟨p,us,rfl,_,h1,r1⟩:=rx.sqL
  obtain ⟨p2,ws,rfl,_,h2,r2⟩:=ry.sqL
  cases ra; cases rb
  obtain ⟨its,v1,p1,_⟩:=I.list (aK.of (K:=X.K) h1)
  obtain ⟨its2,v2,p2',_⟩:=I.list (aK.of (K:=X.K) h2)
  have l1:=v1.length
  have l2:=v2.length
  have m1:=r1.length
  have m2:=r2.length
  have q:Q (.bl ((xs.zip ys).all (fun p=>bP n p.1 p.2) && xs.length == ys.length)) H:=q
  by_cases hl:xs.length=ys.length
  ·have:=SeqAt.RcAt.lists p1.isList p2'.isList (by rw [aT8,aT8]; omega) hu0 (m8 I hu r1 r2 v1 v2 o)
   have hm:min xs.length ys.length=its.length:=by omega
   rw [aT8,<- hm,jF] at this
   rw [show (xs.length == ys.length)=true by simpa using hl,bk3] at q
   exact this _ _ _ _ ⟨.bl _,H,I,rfl,q⟩
  ·have:=SeqAt.RcAt.lists_lengths (A:=X.A) p1.isList p2'.isList (by rw [aT8,aT8]; simp; omega) hu0
   rw [show (xs.length == ys.length)=false by simpa using hl,bi7] at q
   exact this _ _ _ _ ⟨.bl _,H,I,rfl,q⟩
 ·obtain ⟨p,us,rfl,h1,r1⟩:=rx.kt_
  obtain ⟨p2,ws,rfl,h2,r2⟩:=ry.kt_
  cases ra; cases rb
  obtain ⟨its,v1,p1,_⟩:=I.tuple (.inr h1)
  obtain ⟨its2,v2,p2',_⟩:=I.tuple (.inr h2)
  have l1:=v1.length
  have l2:=v2.length
  have m1:=r1.length
  have m2:=r2.length
  have:=bj8 p1 p2' hu0 (m8 I hu r1 r2 v1 v2 o)
  rw [aT8,aT8,<- l1,<- l2,m1,m2,jF] at this
  exact this _ _ _ _ ⟨.bl _,H,I,rfl,q⟩
theorem at3 (n:Nat) (hu:X.A.units+(n+1) < cLine):c9 X (compareOp .NotEq) (uP X.K n true):=by
 intro pins s σ H v w a b Q I ra rb h
 obtain ⟨x,y,rx,ry,kd,o,q⟩:=h
 have hu0:X.A.units < cLine:=by omega
 rcases kd with ⟨xs,ys,rfl,rfl⟩ | ⟨xs,ys,rfl,rfl⟩ | ⟨xs,ys,rfl,rfl⟩
 ·obtain ⟨p,us,rfl,h1,r1⟩:=rx.sqT
  obtain ⟨p2,ws,rfl,h2,r2⟩:=ry.sqT
  cases ra; cases rb
  obtain ⟨its,v1,p1,_⟩:=I.tuple (aH.of (K:=X.K) h1)
  obtain ⟨its2,v2,p2',_⟩:=I.tuple (aH.of (K:=X.K) h2)
  have l1:=v1.length
  have l2:=v2.length
  have m1:=r1.length
  have m2:=r2.length
  have:=SeqAt.RcNeAt.tuples p1 p2' hu0 (m8 I hu r1 r2 v1 v2 o)
  rw [aT8,aT8,<- l1,<- l2,m1,m2,jF] at this
  exact this _ _ _ _ ⟨.bl _,H,I,rfl,q⟩
 ·obtain ⟨p,us,rfl,_,h1,r1⟩:=rx.sqL
  obtain ⟨p2,ws,rfl,_,h2,r2⟩:=ry.sqL
  cases ra; cases rb
  obtain ⟨its,v1,p1,_⟩:=I.list (aK.of (K:=X.K) h1)
  obtain ⟨its2,v2,p2',_⟩:=I.list (aK.of (K:=X.K) h2)
  have l1:=v1.length
  have l2:=v2.length
  have m1:=r1.length
  have m2:=r2.length
  have q:Q (.bl (!((xs.zip ys).all (fun p=>bP n p.1 p.2) && xs.length == ys.length))) H:=q
  by_cases hl:xs.length=ys.length
  ·have:=SeqAt.RcNeAt.lists p1.isList p2'.isList (by rw [aT8,aT8]; omega) hu0 (m8 I hu r1 r2 v1 v2 o)
   have hm:min xs.length ys.length=its.length:=by omega
   rw [aT8,<- hm,jF] at this
   rw [show (xs.length == ys.length)=true by simpa using hl,bk3] at q
   exact this _ _ _ _ ⟨.bl _,H,I,rfl,q⟩
  ·have:=SeqAt.RcNeAt.lists_lengths (A:=X.A) p1.isList p2'.isList (by rw [aT8,aT8]; simp; omega) hu0
   rw [show (xs.length == ys.length)=false by simpa using hl,bi7] at q
   exact this _ _ _ _ ⟨.bl _,H,I,rfl,q⟩
 ·obtain ⟨p,us,rfl,h1,r1⟩:=rx.kt_
  obtain ⟨p2,ws,rfl,h2,r2⟩:=ry.kt_
  cases ra; cases rb
  obtain ⟨its,v1,p1,_⟩:=I.tuple (.inr h1)
  obtain ⟨its2,v2,p2',_⟩:=I.tuple (.inr h2)
  have l1:=v1.length
  have l2:=v2.length
  have m1:=r1.length
  have m2:=r2.length
  have:=SeqAt.RcNeAt.tuples p1 p2' hu0 (m8 I hu r1 r2 v1 v2 o)
  rw [aT8,aT8,<- l1,<- l2,m1,m2,jF] at this
  exact this _ _ _ _ ⟨.bl _,H,I,rfl,q⟩
theorem uQ {n:Nat}{neg:Bool}:dL X (i6 n neg) (uP X.K n neg):=by
 rintro W Hs H u v x y g g' Q Q' s n r1 r2 ⟨kd,o,q⟩ k
 exact⟨x,y,r1.same (aE.refl _) fun _ _=>trivial,r2.same (aE.refl _) fun _ _=>trivial,kd.elim .inl fun z=>.inr (.inl z),o,k _ _ _ .fr (aE.refl _) (.bl _) q⟩
theorem at4 (hu:X.A.units+3 < cLine) (ha:QE X a ta) (hb:QE X b tb):QT X (.Compare a [.Eq] [b] pos) (aM (q2 (i6 2 false) ta tb)):=i7 (F6 2 hu) uQ ha hb (e9 _)
theorem F7 (hu:X.A.units+3 < cLine) (ha:QE X a ta) (hb:QE X b tb):QT X (.Compare a [.NotEq] [b] pos) (aM (q2 (i6 2 true) ta tb)):=i7 (at3 2 hu) uQ ha hb (e9 _)
theorem pX (hu:X.A.units+3 < cLine) (ha:QE X a ta) (hb:QE X b tb):QE X (.Compare a [.Eq] [b] pos) (q2 (i6 2 false) ta tb):=jX (F6 2 hu) uQ ha hb (e9 _)
end
end PP
namespace PP
open PySem L2 PyProof.Rows
noncomputable def LO (X:Cx) (t:m6):TO:=fun σ H Q'=>∃ (W:Addr->Prop) (ρ:bM) (Q:Option Int->Prop),PX X.K X.H₀ W σ ρ H/\t ρ Q/\∀ o H',aE H H'->Q o->Q' o H'
noncomputable def QO (X:Cx) (e:Option Expr) (t:m6):Prop:=PO X e (LO X t)
theorem Reps.cut {K:PySem.W.Frag}{M:Addr->Prop}{H:Hp}{us:List V}{xs:List PV} (r:Reps K M H us xs) (lo hi:Option Int):Reps K M H (eC us lo hi) (fC xs lo hi):=by
 unfold eC fC
 rw [r.length]
 exact (r.drop _).take _
section
variable {X : Cx} {a b c e o : Expr} {es dA : List Expr} {ta tb te to tk : aF} {tr : cS} {tA tB' tc : cH} {pos p2 px : Pos} {st : Stmt} {sts : List Stmt} {t u : aU}
theorem jG:QO X none gA:=fun pins s σ H Q I h=>sM pins s σ H Q I (by
 obtain ⟨W,ρ,Q1,px,q,k⟩:=h
 exact k _ _ (aE.refl _) q)
theorem jH (h:QE X e te):QO X (some e) (gB te):=fun pins s σ H Q I hq=>sN h pins s σ H Q I (by
 obtain ⟨W,ρ,Q1,px,q,k⟩:=hq
 refine⟨W,ρ,_,px,q,?_⟩
 rintro v H1 x g s r ⟨i,rfl,q⟩
 cases r
 exact⟨i,rfl,k _ _ s q⟩)
theorem jI {lo hi:Option Expr}{tl th:m6}{sp:Pos} (he:QE X e te) (hl:QO X lo tl) (hh:QO X hi th):QE X (.Subscript e (.Slice lo hi none sp) pos) (gC te tl th):=cJ (sO (yG.or A3) he hl hh) fun σ H Q' h=>by
 obtain ⟨W,ρ,Q,px,q,k⟩:=h
 refine⟨W,ρ,_,px,q,fun v H1 x g s1 r1 q1=>⟨W,ρ,_,px.mono s1,q1,fun lo H2 s2 q2=>⟨W,ρ,_,px.mono (s1.trans s2),q2,?_⟩⟩⟩
 rintro hi H3 s3 ⟨xs,e,f,q3⟩
 have S:=(s1.trans s2).trans s3
 have r3:=r1.same (M':=Mg X.H₀ W H g) (s2.trans s3) fun _ z=>z
 cases r3 with
 | tup h r=>
  cases e
  refine .inr ⟨_,_,rfl,aH.of h,fun p hp=>k _ _ _ .fr (S.trans (bE hp _)) (.tup bI (((r.flat f).cut lo hi).same (bE hp _) fun _ z=>z)) q3,fun ec=>k _ _ _ .fr S (.tup h ?_) q3⟩
  have:=(r.flat (M':=Mg X.H₀ W H .fr) f).cut lo hi
  rw [ec] at this
  exact this
 | lst m h r=>
  cases e
  exact .inl ⟨_,_,rfl,aK.of h,fun p hp=>k _ _ _ .fr (S.trans (bE hp _)) (.lst (S.free hp) bI (((r.flat f).cut lo hi).same (bE hp _) fun _ z=>z)) q3⟩
 | scr h=>
  cases e
  exact .inl ⟨_,_,rfl,h.sqL,fun p hp=>k _ _ _ .fr (S.trans (bE hp _)) (.lst (S.free hp) bI (((Reps.intz _).cut lo hi).same (bE hp _) fun _ z=>z)) q3⟩
 | _=>cases e
structure Df (P:Program) (w:World) (K:PySem.W.Frag) (mg:Str->Option Value) (base:Heap) (k:Nat) (x:Str) (ps:List Str) (p:bV):Prop where
 ex:∃ f fd,cU P w K mg base dW k f fd ps (nR K p)/\iJ K fd ps []/\PySem.W.keepIn K (.ref f)=true/\mg x=some (.ref f)
theorem bW {k j:Nat}{x:Str}{ps:List Str}{p:bV} (d:Df X.prog X.w X.K X.mg X.base k x ps p) (hr:cG j X.A) (ha:QA X (e :: es) tr) (hkj:k<=j:=by decide) (hg:Gl X x:=by rfl) (hdb:(x == ("__debug__" : Str))=false:=by decide)
  (he:starEach (e :: es) X.env=(false,eval e X.env) :: starEach es X.env:=by rfl) (hpl:(backTo pos (starEach es X.env)).any (·.1)=false:=by rfl):QE X (.Call (.Name x p2) (e :: es) [] pos) (aC p tr):=by
 obtain ⟨f,fd,F,b,kp,m⟩:=d.ex
 exact cJ (xP F (hr.mono hkj) hg m kp b .nil ai1 ha hdb he hpl) fun _ _ _=>ap9
theorem uR {K:PySem.W.Frag}{H:Hp}{N:List Str}{vs:List V}{xs:List PV} (r:Reps K (fun _=>True) H vs xs):PX K H (fun _=>False) (L2.gM N vs) (dY N xs) H:=by
 have lr:=r.length
 have own:∀ {i:Nat}{m:Slot},(dY N xs)[i]? = some (some m)->∃ x,xs[i]? = some x/\m = .sh (flat x) x:=fun {i m} h=>by
  unfold dY at h
  by_cases hi:i < xs.length
  ·rw [List.getElem?_append_left (by simpa using hi),aV5] at h
   rw [aT7 hi] at h ⊢
   cases h
   exact⟨_,rfl,rfl⟩
  ·rw [List.getElem?_append_right (by simpa using hi),List.getElem?_replicate] at h
   split at h <;> cases h
 refine⟨by unfold L2.gM dY; simp [lr],aE.refl _,fun a z=>z.elim,fun i m h=>?_,fun i j x y a h1=>?_⟩
 ·obtain ⟨x,hx,rfl⟩:=own h
  obtain ⟨v,hv,rx⟩:=r.at hx
  refine⟨v,?_,pN (g:=false) (rx.same (aE.refl _) fun _ _ z=>z)⟩
  have hi:i < vs.length:=(aV0.mp hv).1
  unfold L2.gM
  rw [List.getElem?_append_left (by simpa using hi),aV5,hv]; rfl
 ·obtain ⟨x,_,e⟩:=own h1
  cases e
theorem Df.of {P:Program}{w:World}{K:PySem.W.Frag}{mg:Str->Option Value}{base:Heap}{k:Nat}{x:Str}{ps N:List Str}{p:bV}{st:Stmt}{f:Addr}{fd:FuncData} (F:eW K x x st f fd) (m:mg x=some (.ref f)) (S:FnScope N ps (aZ st))
  (hb:∀ (kV doc pm:Value) (an:Option Addr) (cdv ct:Value) (us:List Value),us.length=ps.length->bindArgs (PySem.W.fnOf x x (j4 st) (eI st) (aZ st) .none kV doc pm an cdv ct) ⟨us,[]⟩=pure (ps.zip us))
  (len:∀ xs Q,p xs Q->xs.length=ps.length)
  (body:∀ (cdv:Value) (A:Around) (outer:List Env) (s:Shared) (H:Hp) (E:XK),cG k (A.deeper (envOfC x (aZ st) s.heap.objs.size f cdv))->
   ∃ t,eN (dC dW P w K mg base N x (aZ st) f cdv A outer s H E).nox (eI st) t/\∀ xs Q,p xs Q->t { nx:=fun _=>Q .non,rt:=Q } (dY N xs)):Df P w K mg base (k+1) x ps p:=by
 refine⟨f,fd,F.ok S (fun vs H Q E h=>?_) (fun cdv A outer s H vs Q E hr h=>?_),F.binds hb,F.kp,m⟩
 ·obtain ⟨xs,Qp,r,q,_⟩:=h
  rw [r.length]; exact len xs Qp q
 ·obtain ⟨xs,Qp,r,q,k⟩:=h
  obtain ⟨t,ht,hq⟩:=body cdv A outer s H E hr
  refine⟨_,ht,fun _=>False,dY N xs,_,uR r,hq xs Qp q,?_,?_,?_,?_⟩
  ·exact fun W' σ' H' ρ' e px q=>k _ _ _ px.same .non q
  ·exact fun v H' x s r q=>k _ _ _ s r q
  ·exact fun W' σ' H' ρ' e px q=>q
  ·exact fun W' σ' H' ρ' e px q=>q
theorem dZ (i:Nat) {x:Str}{tp:Pos}{body:List Stmt}{ti:fA} (hN:X.N.Nodup) (hi:QI X (.Name x tp) e ti) (hb:eN X body t) (hx:X.N[i]? = some x:=by rfl) (hl:gW X.env.scope x:=by first | exact Or.inl rfl | exact Or.inr rfl) (hf:X.fn x=true ∨ X.env.scope.names.lookup x=some .local:=by first | exact .inl rfl | exact .inr rfl)
  (hp:PassesOwn (model X.prog X.w) X.A X.env X.xe:=by exact PassesOwn.never) (hc:X.calm=true:=by rfl) (hs:∀ x,foldedSetIterable e X.env x=pure x:=by intro _; rfl):QS X (.For (.Name x tp) e body [] pos) (cQ ti (bZ i) t):=
 E6 hp hc hi (eU hN hx hl hf) (pO _ i) hb hs
theorem at5 (i j:Nat) {x y:Str}{tp xp yp:Pos}{kt:Nat}{body:List Stmt}{ti:fA} (hN:X.N.Nodup) (hi:QI X (.Tuple [.Name x xp,.Name y yp] kt tp) e ti) (hb:eN X body t) (hx:X.N[i]? = some x:=by rfl) (hy:X.N[j]? = some y:=by rfl) (hlx:gW X.env.scope x:=by first | exact Or.inl rfl | exact Or.inr rfl) (hly:gW X.env.scope y:=by first | exact Or.inl rfl | exact Or.inr rfl)
  (hfx:X.fn x=true ∨ X.env.scope.names.lookup x=some .local:=by first | exact .inl rfl | exact .inr rfl) (hfy:X.fn y=true ∨ X.env.scope.names.lookup y=some .local:=by first | exact .inl rfl | exact .inr rfl)
  (hp:PassesOwn (model X.prog X.w) X.A X.env X.xe:=by exact PassesOwn.never) (hc:X.calm=true:=by rfl) (hs:∀ x,foldedSetIterable e X.env x=pure x:=by intro _; rfl):QS X (.For (.Tuple [.Name x xp,.Name y yp] kt tp) e body [] pos) (cQ ti (jU i j) t):=
 E6 hp hc hi (lF hc (gJ (eU hN hx hlx hfx) (gJ (eU hN hy hly hfy) lE))) (u8 _ i j) hb hs
noncomputable abbrev cV:Value->Shared->Prop:=fun _ _=>False
section
variable {scope : Scope} {N : List Str} {fr : List (Option Nat)} {x y : Str} {tp xp yp : Pos} {kt : Nat} {iter elt : Expr} {ti : fA}
theorem uS {ifs:List Expr}{tcs:cH} (he:∀ (s:Shared) (H:Hp) (C:Addr) (fp:List Addr),QE (bY X scope N s H C fp cV) elt te) (hi:∀ (s:Shared) (H:Hp) (C:Addr) (fp:List Addr),jR (bY X scope N s H C fp cV) ifs (LT (bY X scope N s H C fp cV) tcs))
  (hN:N.Nodup) (h0:N[0]? = some x) (hl:∀ (s:Shared) (H:Hp) (C:Addr) (fp:List Addr),(bY X scope N s H C fp cV).env.scope.names.lookup x=some .local) (s:Shared) (H:Hp) :
  lM X scope N (.Name x tp) ifs elt s H (cT 0) (LT (X.frm H) tcs) (LE (X.frm H) te):=
 ⟨fun C fp=>eU (X:=bY X scope N s H C fp cV) hN h0 (.inl (hl s H C fp)) (.inr (hl s H C fp)),fun C fp=>hi s H C fp,fun C fp=>he s H C fp⟩
theorem at6 {Y:Cx}:jR Y [] (LT Y m5):=fun pins s σ H Q I h=>p5 pins s σ H Q I (aq8 h)
theorem F8 (hi:QI X (.Name x tp) iter ti) (he:∀ (s:Shared) (H:Hp) (C:Addr) (fp:List Addr),QE (bY X scope N s H C fp cV) elt te)
  (hc:X.calm=true:=by rfl) (S:dD X scope N fr:=by exact dD.of rfl rfl) (hN:N.Nodup:=by decide +kernel) (h0:N[0]? = some x:=by rfl) (hl:∀ (s:Shared) (H:Hp) (C:Addr) (fp:List Addr),(bY X scope N s H C fp cV).env.scope.names.lookup x=some .local:=by intro _ _ _ _; rfl) (hf:fr[0]? = some none:=by rfl)
  (hs:∀ x,foldedSetIterable iter X.env x=pure x:=by intro _; rfl):QE X (.ListComp elt [⟨.Name x tp,iter,[],0⟩] scope pos) (g9 ti fr (bZ 0) m5 te):=
 cJ (tD (gh:=fun _=>cT 0) (tch:=fun H=>LT (X.frm H) m5) (teh:=fun H=>LE (X.frm H) te) hc S hi (uS he (fun _ _ _ _=>at6) hN h0 hl) hs) fun _ _ _=>pP (pO _ 0) (fun i e=>by subst e; exact hf)
theorem at7 {c:Expr}{tcs:cH} (hi:QI X (.Name x tp) iter ti) (ht:∀ (s:Shared) (H:Hp) (C:Addr) (fp:List Addr),QT (bY X scope N s H C fp cV) c tcs) (he:∀ (s:Shared) (H:Hp) (C:Addr) (fp:List Addr),QE (bY X scope N s H C fp cV) elt te)
  (hc:X.calm=true:=by rfl) (S:dD X scope N fr:=by exact dD.of rfl rfl) (hN:N.Nodup:=by decide +kernel) (h0:N[0]? = some x:=by rfl) (hl:∀ (s:Shared) (H:Hp) (C:Addr) (fp:List Addr),(bY X scope N s H C fp cV).env.scope.names.lookup x=some .local:=by intro _ _ _ _; rfl) (hf:fr[0]? = some none:=by rfl)
  (hs:∀ x,foldedSetIterable iter X.env x=pure x:=by intro _; rfl):QE X (.ListComp elt [⟨.Name x tp,iter,[c],0⟩] scope pos) (g9 ti fr (bZ 0) tcs te):=
 cJ (tD (gh:=fun _=>cT 0) (tch:=fun H=>LT (X.frm H) tcs) (teh:=fun H=>LE (X.frm H) te) hc S hi (uS he (fun s H C fp=>t7 (ht s H C fp)) hN h0 hl) hs) fun _ _ _=>pP (pO _ 0) (fun i e=>by subst e; exact hf)
theorem pY {c:Expr}{tcs:cH}{i:Nat}{z:Str}{zp:Pos} (nd:X.N.Nodup) (hi:QI X (.Name x tp) iter ti) (ht:∀ (s:Shared) (H:Hp) (C:Addr) (fp:List Addr),QT (bY X scope N s H C fp cV) c tcs) (he:∀ (s:Shared) (H:Hp) (C:Addr) (fp:List Addr),QE (bY X scope N s H C fp cV) elt te)
  (hz:X.N[i]? = some z:=by rfl) (hzl:X.env.scope.names.lookup z=some .local:=by rfl) (hsw:swapsWith (.ListComp elt [⟨.Name x tp,iter,[c],0⟩] scope p2) (some (.Name z zp)) pos.line X.env=pure true:=by rfl)
  (hc:X.calm=true:=by rfl) (S:dD X scope N fr:=by exact dD.of rfl rfl) (hN:N.Nodup:=by decide +kernel) (h0:N[0]? = some x:=by rfl) (hl:∀ (s:Shared) (H:Hp) (C:Addr) (fp:List Addr),(bY X scope N s H C fp cV).env.scope.names.lookup x=some .local:=by intro _ _ _ _; rfl) (hf:fr[0]? = some none:=by rfl)
  (hs:∀ x,foldedSetIterable iter X.env x=pure x:=by intro _; rfl):QS X (.Assign [.Name z zp] (.ListComp elt [⟨.Name x tp,iter,[c],0⟩] scope p2) pos) (b6 i (g9 ti fr (bZ 0) tcs te)):=
 eF (aj1 (gh:=fun _=>cT 0) (tch:=fun H=>LT (X.frm H) tcs) (teh:=fun H=>LE (X.frm H) te) hc S hi (uS he (fun s H C fp=>t7 (ht s H C fp)) hN h0 hl) nd hz hzl hsw hs) fun D σ H h=>pP (pO _ 0) (fun i e=>by subst e; exact hf) (B3 h)
end
theorem at8:nE X "list.extend" (B5 X.K):=fun pins s σ H x xs v us Q I rx rs h=>h.elim (ag5 pins s σ H x xs v us Q I rx rs) (am6 pins s σ H x xs v us Q I rx rs)
theorem at9 (i:Nat) {x:Str}{apos cpos xpos:Pos} (he:QE X e te) (hN:X.N[i]? = some x:=by rfl) (hv:fR X.env.scope x:=by first | exact Or.inl rfl | exact Or.inr (Or.inl rfl) | exact Or.inr (Or.inr rfl)) (hd:(x == ("__debug__" : Str))=false:=by decide) (hcd:(x == ("__classdict__" : Str))=false:=by decide)
  (hbase:attributeBase (.Name x xpos) "extend" X.env (eval (.Name x xpos) X.env)=eval (.Name x xpos) X.env:=by rfl)
  (hfew:((backTo cpos (starEach [e] X.env)).all (fun x=>!x.1) && (backToKw cpos (keywordEach [] X.env)).all (fun x=>x.1.isSome) && decide (([e]:List Expr).length+([]:List Keyword).length+(if ([]:List Keyword).isEmpty then 0 else 1) < 30))=true:=by rfl)
  (hline:(apos.endLine == cpos.line)=true:=by rfl) (hs:starEach [e] X.env=(false,eval e X.env) :: starEach [] X.env:=by rfl) (hplain:(backTo cpos (starEach [] X.env)).any (·.1)=false:=by rfl)
  (hsw:swapsWith (.Call (.Attribute (.Name x xpos) "extend" apos) [e] [] cpos) none pos.line X.env=pure false:=by rfl) :
  QS X (.Expr (.Call (.Attribute (.Name x xpos) "extend" apos) [e] [] cpos) pos) (u3 i te):=
 eF (lD (kF bd5 PySem.F.slot_list_extend PySem.F.type_list_extend at8 (iG hN hv hd hcd) (cP he dB hs) hbase hfew hline hs hplain) hsw) fun _ _ _=>ao8
theorem pZ {i:Nat}{x:Str}{xpos tpos:Pos} (hk:QE X a tk) (he:QE X e te) (hN:X.N[i]? = some x:=by rfl) (hv:fR X.env.scope x:=by first | exact Or.inl rfl | exact Or.inr (Or.inl rfl) | exact Or.inr (Or.inr rfl)) (hd:(x == ("__debug__" : Str))=false:=by decide) (hcd:(x == ("__classdict__" : Str))=false:=by decide)
  (hp:∀ (tx:TE) (tg:TE),PE X (.Name x xpos) tx->PE X a tg->PG X (.Subscript (.Name x xpos) a tpos) (rY tx tg sS):=by intro _ _ h1 h2; exact aa5 h1 h2 af6)
  (hs:swapsWithSole [.Subscript (.Name x xpos) a tpos] e pos.line X.env=pure false:=by rfl) (hw:swappedStores [.Subscript (.Name x xpos) a tpos] e X.env=pure none:=by rfl) :
  QS X (.Assign [.Subscript (.Name x xpos) a tpos] e pos) (lU i tk te):=eF (wW he (hp _ _ (iG hN hv hd hcd) hk) hs hw) fun _ _ _=>ao9
end
end PP
namespace SO
open PySem PyProof.Rows
variable {rk : Keyed → Int}
noncomputable def F9:Bool->Keyed->Array Keyed->Nat->Nat->Nat->StateT SortSt Sem (Option Nat):=sortPriv% PySem.Builtin.gallop
noncomputable def au0:Nat->StateT SortSt Sem Unit:=sortPriv% PySem.Builtin.setMinGallop
noncomputable abbrev LS:=Option (Array Keyed) × Array Keyed × Nat × Nat × Nat × Nat × Nat
noncomputable abbrev LO:=Option (Array Keyed) × Array Keyed × Nat × Nat × Nat
variable {rk : Keyed → Int} {xs ys o : List Keyed} {i j : Nat}
noncomputable abbrev LH:=Option (Array Keyed) × Nat × Nat × Array Keyed × Nat × Nat × Nat
noncomputable abbrev G0:=Option (Array Keyed) × Nat × Nat × Array Keyed × Nat × Nat
noncomputable def G1 (x y o:Array Keyed) (i j mg p q:Nat):StateT SortSt Sem (ForInStep LH):=do
 let v <- elem' x (i - 1)
 if (i - 1 == 0)=true then pure (.done (some (x.extract 0 (i - 1) ++ y.extract 0 j ++ (o.push v).reverse),i - 1,j,o.push v,mg,p,q))
 else if (decide (p < 7) && decide (q < 7))=true then pure (.done (none,i - 1,j,o.push v,mg,p,q)) else pure (.yield (none,i - 1,j,o.push v,mg,p,q))
noncomputable def G2 (x y o:Array Keyed) (i j mg p q:Nat):StateT SortSt Sem (ForInStep LH):=do
 let v <- elem' y (j - 1)
 if (j - 1 == 1)=true then pure (.done (some (y.extract 0 (j - 1) ++ x.extract 0 i ++ (o.push v).reverse),i,j - 1,o.push v,mg,p,q)) else do
  let u <- elem' x (i - 1)
  match <- F9 true u y 0 (j - 1) (j - 1 - 1) with
  | some z=>
   if j - 1 - z > 0 then
    if (z == 1)=true then pure (.done (some (y.extract 0 z ++ x.extract 0 i ++ (o.push v ++ (y.extract z (j - 1)).reverse).reverse),i,z,o.push v ++ (y.extract z (j - 1)).reverse,mg,p,j - 1 - z))
    else if (z == 0)=true then pure (.done (some (x.extract 0 i ++ y.extract 0 z ++ (o.push v ++ (y.extract z (j - 1)).reverse).reverse),i,z,o.push v ++ (y.extract z (j - 1)).reverse,mg,p,j - 1 - z))
    else G1 x y (o.push v ++ (y.extract z (j - 1)).reverse) i z mg p (j - 1 - z)
   else G1 x y (o.push v) i (j - 1) mg p (j - 1 - z)
  | _=>pure (.done (some (x.extract 0 i ++ y.extract 0 (j - 1) ++ (o.push v).reverse),i,j - 1,o.push v,mg,p,q))
noncomputable def G3 (x y o:Array Keyed) (i j mg p q:Nat):StateT SortSt Sem (ForInStep LH):=do
 au0 mg
 let v <- elem' y (j - 1)
 match <- F9 false v x 0 i (i - 1) with
 | some z=>
  if i - z > 0 then
   if (z == 0)=true then pure (.done (some (x.extract 0 z ++ y.extract 0 j ++ (o ++ (x.extract z i).reverse).reverse),z,j,o ++ (x.extract z i).reverse,mg,i - z,q))
   else G2 x y (o ++ (x.extract z i).reverse) z j mg (i - z) q
  else G2 x y o i j mg (i - z) q
 | _=>pure (.done (some (x.extract 0 i ++ y.extract 0 j ++ o.reverse),i,j,o,mg,p,q))
noncomputable def uT (x y o:Array Keyed) (i j mg p q:Nat):StateT SortSt Sem LH:=forIn [0:x.size+y.size] ((none,i,j,o,mg,p,q):LH) fun _ r=>
 if r.2.2.2.2.1 > 1 then G3 x y r.2.2.2.1 r.2.1 r.2.2.1 (r.2.2.2.2.1 - 1) r.2.2.2.2.2.1 r.2.2.2.2.2.2 else G3 x y r.2.2.2.1 r.2.1 r.2.2.1 r.2.2.2.2.1 r.2.2.2.2.2.1 r.2.2.2.2.2.2
noncomputable def uU (x y o:Array Keyed) (i j mg:Nat):StateT SortSt Sem G0:=forIn [0:x.size+y.size] ((none,i,j,o,0,0):G0) fun _ r=>do
 let v <- elem' y (r.2.2.1 - 1)
 let u <- elem' x (r.2.1 - 1)
 match <- lt' v u with
 | some q=>
  if q=true then do
   let u <- elem' x (r.2.1 - 1)
   if (r.2.1 - 1 == 0)=true then pure (.done (some (x.extract 0 (r.2.1 - 1) ++ y.extract 0 r.2.2.1 ++ (r.2.2.2.1.push u).reverse),r.2.1 - 1,r.2.2.1,r.2.2.2.1.push u,r.2.2.2.2.1+1,0))
   else if r.2.2.2.2.1+1 >= mg then pure (.done (none,r.2.1 - 1,r.2.2.1,r.2.2.2.1.push u,r.2.2.2.2.1+1,0)) else pure (.yield (none,r.2.1 - 1,r.2.2.1,r.2.2.2.1.push u,r.2.2.2.2.1+1,0))
  else do
   let v <- elem' y (r.2.2.1 - 1)
   if (r.2.2.1 - 1 == 1)=true then pure (.done (some (y.extract 0 (r.2.2.1 - 1) ++ x.extract 0 r.2.1 ++ (r.2.2.2.1.push v).reverse),r.2.1,r.2.2.1 - 1,r.2.2.2.1.push v,0,r.2.2.2.2.2+1))
   else if r.2.2.2.2.2+1 >= mg then pure (.done (none,r.2.1,r.2.2.1 - 1,r.2.2.2.1.push v,0,r.2.2.2.2.2+1)) else pure (.yield (none,r.2.1,r.2.2.1 - 1,r.2.2.2.1.push v,0,r.2.2.2.2.2+1))
 | _=>pure (.done (some (x.extract 0 r.2.1 ++ y.extract 0 r.2.2.1 ++ r.2.2.2.1.reverse),r.2.1,r.2.2.1,r.2.2.2.1,r.2.2.2.2.1,r.2.2.2.2.2))
variable {rk : Keyed → Int} {xs ys o : List Keyed} {i j : Nat}
variable {rk : Keyed → Int}
noncomputable def Ch:Nat->List (Nat × Nat)->Nat->Prop
 | a,[],b=>a=b
 | a,(p,n) :: r,b=>p=a/\0 < n/\Ch (a+n) r b
variable {rk : Keyed → Int} {κ : SortKind} {a0 : Array Keyed} {pd : Array (Nat × Nat × Nat)} {st : SortSt} {prog : Program} {w : World} {A : Around} {E : Value → Shared → Prop} {s : Shared} {Ok : Keyed → Prop}
end SO
namespace L2
open PySem PySem.Spec PyProof.Rows
theorem bO.at {P:Program}{w:World}{H:Hp}{h:Heap}{a:Addr}{o:HO} (x:bO P w H h a o):∃ ob,h.get? a=some ob:=by
 cases o with
 | lst xs=>obtain ⟨_,_,_,_,e⟩:=x; exact⟨_,e⟩
 | tup xs=>obtain ⟨_,_,_,⟨_,e,_⟩,_⟩:=x; exact⟨_,e⟩
 | dK kvs=>obtain ⟨_,_,_,_,_,_,_,e,_⟩:=x; exact⟨_,e⟩
 | dT kvs=>obtain ⟨_,_,_,_,_,_,_,e,_⟩:=x; exact⟨_,e⟩
 | set S n=>obtain ⟨_,_,_,_,e,_⟩:=x; exact⟨_,e⟩
 | ins C dx fs=>obtain ⟨_,_,_,e,_⟩:=x; exact⟨_,e⟩
 | own y=>exact x
 | xd fs=>obtain ⟨_,⟨_,_,_,e,_⟩,_⟩:=x; exact⟨_,e⟩
 | rng lo hi=>obtain ⟨_,_,_,e⟩:=x; exact⟨_,e⟩
 | frz ob u=>obtain ⟨e,_⟩:=x; exact⟨_,e⟩
 | tbl ps=>exact⟨_,x⟩
 | met f y=>exact⟨_,x⟩
 | ext φ=>exact x.2.1
structure kT (P:Program) (w:World) (outer:List Env) (H:Hp) (s:Shared) (H':Hp) (B:Heap) (a C:Addr) (s':Shared):Prop where
 os:s'.os=s.os
 bare:AllBare s'.gens
 un:Un (bS outer) [] H H' s.heap s'.heap
 hok:bX P w H' s'.heap
 fly:∃ a0,Heap.FlyingW B outer a (.ref C) a0 s'.heap
 b0:∀ b o,s.heap.get? b=some o->b ∉ bS outer->∃ o',B.get? b=some o'
 b1:∀ b o,s.heap.get? b=some o->H b=none->b ∉ bS outer->B.get? b=some o
 b2:∀ b u o,H' b=some u->s'.heap.get? b=some o->B.get? b=some o
noncomputable def e8 (P:Program) (w:World):gL:=fun outer H s E e s'=>∃ (H':Hp) (B:Heap) (a C:Addr),e = .ref a/\kT P w outer H s H' B a C s'/\E (.ref C) none H'
section
variable {P : Program} {w : World} {outer : List Env} {H H' : Hp} {s s' : Shared} {B h2 : Heap} {a C : Addr}
theorem kT.fresh (f:kT P w outer H s H' B a C s'):H' a=none:=by
 cases q:H' a with
 | none=>rfl
 | some u=>
  obtain ⟨ob,e⟩:=(f.hok a u q).at
  have z:=f.b2 a u ob q e
  obtain ⟨_,_,n,_⟩:=f.fly
  rw [n] at z; cases z
theorem kT.hok2 (f:kT P w outer H s H' B a C s') (k:B.StaysIn h2):bX P w H' h2:=fun b u e=>
 (f.hok b u e).stay (fun c v hc q=>by
  rcases hc with z | z
  ·subst z; exact k _ _ (f.b2 _ _ _ e q)
  ·exact k _ _ (f.b2 _ _ _ z q)) (fun _ q=>q) fun _ _ q=>q
end
section
variable {P : Program} {w : World} {K : PySem.W.Frag} {mg : Str → Option Value} {base : Heap} {N : List Str} {qual : Str} {scope : Scope} {f : Addr} {cd : Value} {A : Around} {outer : List Env} {s₀ : Shared} {H₀ : Hp} {E₀ E₁ : XK}
theorem qA {pins:List (Addr × Obj)}{σ:St}{H:Hp}{s:Shared} (I:a7 (dC (e8 P w) P w K mg base N qual scope f cd A outer s₀ H₀ E₀) pins σ H s) {b:Addr}{o:Obj} (e:s₀.heap.get? b=some o) (n:b ∉ bS outer) :
  b ∉ bS (envOfC qual scope s₀.heap.objs.size f cd :: outer):=fun z=>by
 rcases aU2.mp (I.stkSub b z) with y | y
 ·have l:=aU8 e
  have y:b=s₀.heap.objs.size:=y
  exact absurd l (by rw [y]; exact aZ4 _)
 ·exact n y
theorem au1 (hE:∀ c d H',E₁ c d H'->E₀ c d H'):mU (e8 P w) (dC (e8 P w) P w K mg base N qual scope f cd A outer s₀ H₀ E₀) E₁:=by
 intro pins σ H s e s' I hx
 obtain ⟨H',B,a,C,e1,fl,q⟩:=hx
 subst e1
 have I':=I.call' fl.os fl.un fl.hok fl.bare (ch:=[]) (fun b z=>absurd z (by simp))
 obtain ⟨a0,fly⟩:=fl.fly
 refine wpAny_leaves_onW I.ok.frames rfl fly fun h' fly' up=>?_
 have slot:∀ b o,s₀.heap.get? b=some o->b ∈ bS outer->∃ sl,h'.get? b=some { o with slots:=sl }:=fun b o e hb=>by
  obtain ⟨sl,e1⟩:=I'.base.slot b o e (I.ok.frf b hb) hb (fun z=>nomatch z)
  obtain ⟨_,o2,e2,nf⟩:=I.ok.funs.mem hb
  rw [show (dC (e8 P w) P w K mg base N qual scope f cd A outer s₀ H₀ E₀).s₀=s₀ from rfl,e] at e2
  cases e2
  obtain ⟨sl',e3⟩:=up b _ e1 nf
  exact⟨sl',e3⟩
 have old:∀ b o,s₀.heap.get? b=some o->H₀ b=none->b ∉ bS outer->B.get? b=some o:=fun b o e n hb=>
  fl.b1 b o (I.base.keep b o e n hb (fun z=>nomatch z)) (I.base.free b o e n (fun z=>nomatch z)) (qA I e hb)
 have old0:∀ b o,s₀.heap.get? b=some o->b ∉ bS outer->∃ o',B.get? b=some o':=fun b o e hb=>by
  obtain ⟨o1,e1⟩:=I.base.there b o e (fun z=>nomatch z)
  exact fl.b0 b o1 e1 (qA I e hb)
 refine⟨H',B,a,C,rfl,⟨I'.os,I'.bare,⟨fun b o e n hb _=>fly'.1 _ _ (old b o e n hb),fun b o e n hb _=>slot b o e hb,fun b o e n hx=>I'.base.free b o e n hx,fun b o e _=>?_,I'.base.tups,I'.base.frzs,I'.base.tbls⟩,fl.hok2 fly'.1,⟨a0,fly'⟩,old0,old,fun b u o e h=>?_⟩,hE _ _ _ q⟩
 ·by_cases hb:b ∈ bS outer
  ·obtain ⟨sl,e1⟩:=slot b o e hb
   exact⟨_,e1⟩
  ·obtain ⟨o',e1⟩:=old0 b o e hb
   exact⟨o',fly'.1 _ _ e1⟩
 ·obtain ⟨ob,e1⟩:=(fl.hok b u e).at
  have e2:=fl.b2 b u ob e e1
  have e3:=fly'.1 _ _ e2
  have h:h'.get? b=some o:=h
  rw [h] at e3; cases e3; exact e2
theorem au2 {pins:List (Addr × Obj)}{σ:St}{H:Hp}{s:Shared}{h':Heap}{e C:Addr}{args:List Value} (I:a7 (dC (e8 P w) P w K mg base N qual scope f cd A outer s₀ H₀ E₀) pins σ H s) (mx:Heap.MadeExcOf s.heap h' e (.ref C) args) (q:E₀ (.ref C) none H) :
  (dC (e8 P w) P w K mg base N qual scope f cd A outer s₀ H₀ E₀).xe (.ref e) { s with heap:=h' }:=by
 have tr:∀ b u,H b=some u->b ∉ bS (envOfC qual scope s₀.heap.objs.size f cd :: outer):=fun b u z n=>by
  rw [I.stkFree b n] at z; cases z
 have inB:∀ b o,s.heap.get? b=some o->b ∉ bS (envOfC qual scope s₀.heap.objs.size f cd :: outer)->(PySem.W.hideAll s.heap (bS (envOfC qual scope s₀.heap.objs.size f cd :: outer))).get? b=some o:=fun b o z n=>PySem.W.hideAll_get _ z n
 refine wpAny_leaves_madeW (base:=PySem.W.hideAll s.heap (bS (envOfC qual scope s₀.heap.objs.size f cd :: outer))) I.ok.frames rfl (fun b o z=>PySem.W.of_hideAll _ z) (PySem.W.funFrames_hide I.stack fun env he b hb=>List.mem_filterMap.mpr ⟨env,he,hb⟩) mx fun h'' t fly _ _ up=>?_
 have slot:∀ b o,s₀.heap.get? b=some o->b ∈ bS outer->∃ sl,h''.get? b=some { o with slots:=sl }:=fun b o e hb=>by
  obtain ⟨sl,e1⟩:=I.base.slot b o e (I.ok.frf b hb) hb (fun z=>nomatch z)
  obtain ⟨_,o2,e2,nf⟩:=I.ok.funs.mem hb
  rw [show (dC (e8 P w) P w K mg base N qual scope f cd A outer s₀ H₀ E₀).s₀=s₀ from rfl,e] at e2
  cases e2
  obtain ⟨sl',e3⟩:=up b _ (mx.keeps _ _ e1) nf
  exact⟨sl',e3⟩
 have old:∀ b o,s₀.heap.get? b=some o->H₀ b=none->b ∉ bS outer->(PySem.W.hideAll s.heap (bS (envOfC qual scope s₀.heap.objs.size f cd :: outer))).get? b=some o:=fun b o e n hb=>
  inB b o (I.base.keep b o e n hb (fun z=>nomatch z)) (qA I e hb)
 have old0:∀ b o,s₀.heap.get? b=some o->b ∉ bS outer->∃ o',(PySem.W.hideAll s.heap (bS (envOfC qual scope s₀.heap.objs.size f cd :: outer))).get? b=some o':=fun b o e hb=>by
  obtain ⟨o1,e1⟩:=I.base.there b o e (fun z=>nomatch z)
  exact⟨o1,inB b o1 e1 (qA I e hb)⟩
 refine⟨H,_,e,C,rfl,⟨I.os,I.bare,⟨fun b o e n hb _=>fly.1 _ _ (old b o e n hb),fun b o e n hb _=>slot b o e hb,fun b o e n hx=>I.base.free b o e n hx,fun b o e _=>?_,I.base.tups,I.base.frzs,I.base.tbls⟩,fun b u z=>?_,⟨_,fly⟩,old0,old,fun b u o z h=>?_⟩,q⟩
 ·by_cases hb:b ∈ bS outer
  ·obtain ⟨sl,e1⟩:=slot b o e hb
   exact⟨_,e1⟩
  ·obtain ⟨o',e1⟩:=old0 b o e hb
   exact⟨o',fly.1 _ _ e1⟩
 ·refine (I.hok b u z).stay (fun c v hc y=>?_) (fun _ y=>y) fun _ _ y=>y
  rcases hc with z' | z'
  ·subst z'; exact fly.1 _ _ (inB _ _ y (tr _ _ z))
  ·exact fly.1 _ _ (inB _ _ y (tr _ _ z'))
 ·obtain ⟨ob,e1⟩:=(I.hok b u z).at
  have e2:=inB b ob e1 (tr b u z)
  have e3:=fly.1 _ _ e2
  have h:h''.get? b=some o:=h
  rw [h] at e3; cases e3; exact e2
end
structure m9 (X:Cx) (E:XK):Prop where
 pass:mU (e8 X.prog X.w) X E
 made:∀ (pins:List (Addr × Obj)) (σ:St) (H:Hp) (s:Shared) (h':Heap) (e C:Addr) (args:List Value),a7 X pins σ H s->Heap.MadeExcOf s.heap h' e (.ref C) args->E (.ref C) none H->X.xe (.ref e) { s with heap:=h' }
 own:PassesOwn (model X.prog X.w) X.A X.env X.xe
theorem au3 {P:Program}{w:World}{K:PySem.W.Frag}{mg:Str->Option Value}{base:Heap}{N:List Str}{qual:Str}{scope:Scope}{f:Addr}{cd:Value}{A:Around}{outer:List Env}{s₀:Shared}{H₀:Hp}{E₀ E₁:XK} (hE:∀ c d H',E₁ c d H'->E₀ c d H') :
  m9 (dC (e8 P w) P w K mg base N qual scope f cd A outer s₀ H₀ E₀) E₁:=
 ⟨au1 hE,fun _ _ _ _ _ _ _ _ I mx q=>au2 I mx (hE _ _ _ q),PassesOwn.leaving⟩
noncomputable def G4 (E:XK) (C:Addr) (t:TA):TS:=fun _ σ H=>t σ H fun vs H1=>vs.length<=sizeLine/\E (.ref C) none H1
theorem au4 {X:Cx}{E:XK}{x:Str}{C:Addr}{bm:List Value}{B newId initId:String}{np cpos pos:Pos}{e:Expr}{es:List Expr}{t:TA} (hX:m9 X E) (hc:X.calm=true) (O:OwnCls x C bm newId X.mg X.base) (FB:ExcBaseFacts B newId initId bm) (ha:PA X (e :: es) t) (hg:Gl X x)
  (hd:(x == ("__debug__" : Str))=false:=by decide) (he:starEach (e :: es) X.env=(false,eval e X.env) :: starEach es X.env:=by rfl) (hpl:(backTo cpos (starEach es X.env)).any (·.1)=false:=by rfl) :
  PS X (.Raise (some (.Call (.Name x np) (e :: es) [] cpos)) none pos) (G4 E C t):=by
 intro pins s σ H D I h
 obtain ⟨tl,Na,nm,qn,bs,hx,sn,sub,ab,col,dd,k0,k1,k2,k3,k5,mN,hC,hN,hni,T⟩:=O.obj
 refine wpAny_Raise_call_subT (nm:=nm) (q:=qn) (N:=Na) (bs:=bs) (bm:=tl) (hdct:=hx) (sn:=sn) (sub:=sub) (ab:=ab) (col:=col) (dd:=dd) (k0:=k0) (k1:=k1) (k2:=k2) (k3:=k3) (k5:=k5) FB (C:=C) (mN:=mN) (T.hasType FB.hasBase) (I.ok.hd hc) (by rw [he]; show (false || (backTo cpos (starEach es X.env)).any (·.1))=false; rw [hpl]; rfl) hni (mK I hg O.bound ⟨rfl,?_⟩ hd)
 have h1:=ha cpos pins s σ H _ I h
 rw [he] at h1 ⊢
 refine Calls.evalArgs_plain (bc4 h1 (fun us s2 h2=>?_) fun _ _ y=>y)
 obtain ⟨vs,H2,I2,r,hl,q⟩:=h2
 have r:aJ vs us:=r
 exact⟨rfl,by show us.length<=sizeLine; rw [<- r.length]; exact hl,I2.bk _ _ hC,hN.keeps I2.bk,T.keeps I2.bk,fun h' e' mx=>hX.made pins σ H2 s2 h' e' C _ I2 mx q⟩
theorem eW.okX {P:Program}{w:World}{K:PySem.W.Frag}{mg:Str->Option Value}{base:Heap}{x qual:Str}{st:Stmt}{f:Addr}{fd:FuncData}{N ps:List Str}{k:Nat}{sp:Sp} (F:eW K x qual st f fd) (S:FnScope N ps (aZ st)) (len:∀ vs H Q E,sp vs H Q E->vs.length=ps.length)
  (hbody:∀ (cdv:Value) (A:Around) (outer:List Env) (s:Shared) (H:Hp) (vs:List V) (Q:VK) (E:XK),cG k (A.deeper (envOfC qual (aZ st) s.heap.objs.size f cdv))->sp vs H Q E->
   ∃ t,dJ (dC (e8 P w) P w K mg base N qual (aZ st) f cdv A outer s H E) (eI st) t/\t { nx:=fun _ H'=>Q .non H',rt:=Q } (gM N vs) H):cU P w K mg base (e8 P w) (k+1) f fd ps sp:=by
 obtain ⟨oc,od,kV,doc,pm,an,cdv,ct,osl,rfl,lk,hcd⟩:=F.ex
 exact xV lk hcd S len fun A outer s H vs Q E hr hsp=>hbody cdv A outer s H vs Q E hr hsp
section
variable {X : Cx} {pins : List (Addr × Obj)} {σ : St} {H H1 H' : Hp} {s s1 s' : Shared} {B h2 : Heap} {a C : Addr}
theorem G5 {oe:Obj} (I:a7 X pins σ H1 s1) (fl:kT X.prog X.w X.stack H1 s1 H' B a C s') (st:B.StaysIn h2) (up:s'.heap.UpToSlots h2) (he:h2.get? a=some oe) :
  a7 X pins σ (upd H' a (.frz oe (.own a))) { s' with heap:=h2 }:=by
 obtain ⟨a0,fly⟩:=fl.fly
 have na:B.get? a=none:=fly.2.1
 have nf:a ∉ bS X.stack:=fun z=>by
  obtain ⟨_,o,e,d⟩:=fly.2.2.1.mem z
  obtain ⟨o2,vs,e2,_,d2,_⟩:=fly.first
  rw [e] at e2; cases e2
  exact d vs d2
 have nb:∀ b o,s1.heap.get? b=some o->b ≠ a:=fun b o e z=>by
  subst z
  obtain ⟨o',e'⟩:=fl.b0 _ o e nf
  rw [na] at e'; cases e'
 have nt:∀ b u,H' b=some u->b ≠ a:=fun b u e z=>by
  subst z; rw [fl.fresh] at e; cases e
 have off:∀ b,b ≠ X.env.locals->b ∉ X.fs->b ∉ bS X.stack:=fun b n1 n2 z=>(aU2.mp (I.stkSub b z)).elim n1 n2
 have slot:∀ b o,s1.heap.get? b=some o->b ∈ bS X.stack->∃ sl,h2.get? b=some { o with slots:=sl }:=fun b o e hb=>by
  obtain ⟨sl,e1⟩:=fl.un.any e (I.stkFree b hb) (fun z=>nomatch z)
  obtain ⟨_,o2,e2,d⟩:=I.stack.mem hb
  rw [e] at e2; cases e2
  obtain ⟨sl',e3⟩:=up b _ e1 d
  exact⟨sl',e3⟩
 have ns:∀ m,s1.heap.Ns X.env.locals m->h2.Ns X.env.locals m:=fun m hm=>by
  obtain ⟨o,es,ep,e,r⟩:=hm
  obtain ⟨sl,e1⟩:=fl.un.any e I.free (fun z=>nomatch z)
  exact up.ns ⟨_,es,ep,e1,r⟩
 have hok:bX X.prog X.w (upd H' a (.frz oe (.own a))) h2:=fun b u e=>by
  by_cases hb:b=a
  ·subst hb; rw [bI] at e; cases e; exact⟨he,_,he⟩
  ·rw [aQ hb] at e
   exact (fl.hok2 st b u e).stay (fun _ _ _ q=>q) (fun c q=>by rw [aQ (nt c _ q)]; exact q) fun c xs q=>by rw [aQ (nt c _ q)]; exact q
 have bare:=fl.bare
 have un:=fl.un
 have b0:=fl.b0
 have b1:=fl.b1
 have os:=fl.os
 clear fl fly up
 obtain ⟨hh,g,d,t,os'⟩:=s'
 obtain rfl:os'=s1.os:=os
 show a7 X pins σ _ { s1 with heap:=h2,gens:=g,drawn:=d,toks:=t }
 refine I.step (h':=h2) (g':=g) (d':=d) (t':=t) (ch:=[]) (fun _ z=>nomatch z) (fun b o n1 n2 _ e n=>st _ _ (b1 b o e n (off b n1 n2))) (fun b o n1 hb _ e n=>?_) (fun b o _ e n=>by rw [aQ (nb b o e)]; exact un.free b o e n (fun z=>nomatch z)) (fun b o _ e=>?_)
  (fun b xs q=>by rw [aQ (nt b _ (un.tups b xs q))]; exact un.tups b xs q) (fun b o u q=>by rw [aQ (nt b _ (un.frzs b o u q))]; exact un.frzs b o u q) (fun b ps q=>by
   obtain ⟨more,q'⟩:=un.tbls b ps q
   exact⟨more,by rw [aQ (nt b _ q')]; exact q'⟩) ns hok bare
 ·by_cases hs:b ∈ bS X.stack
  ·exact slot b o e hs
  ·exact⟨o.slots,st _ _ (b1 b o e n hs)⟩
 ·by_cases hb:b ∈ bS X.stack
  ·obtain ⟨sl,e1⟩:=slot b o e hb
   exact⟨_,e1⟩
  ·obtain ⟨o',e1⟩:=b0 b o e hb
   exact⟨o',st _ _ e1⟩
noncomputable abbrev Cx.suite (X:Cx) (a:Addr):Cx:={ X with A:=X.A.mark (some (.ref a)),calm:=false,xe:=fun _ _=>False }
theorem Cx.Ok.suite {X:Cx} (ok:X.Ok) (a:Addr):(X.suite a).Ok:=
 ⟨ok.mod,ok.kind,ok.glob,ok.blt,ok.above,ok.inj,ok.has,ok.cab,fun z=>Bool.noConfusion z,ok.frames,ok.stk,ok.exf,ok.bs,ok.bsz,ok.noex,ok.exfs,ok.funs,ok.frf⟩
theorem a7.suite (I:a7 X pins σ H s) (a:Addr):a7 (X.suite a) pins σ H s:=⟨I.ok.suite a,I.os,I.bare,I.base,I.loc,I.cell,I.free,I.freeC,I.pin,I.hok,I.len⟩
theorem a7.unsuite (I:a7 (X.suite a) pins σ H s) (ok:X.Ok):a7 X pins σ H s:=⟨ok,I.os,I.bare,I.base,I.loc,I.cell,I.free,I.freeC,I.pin,I.hok,I.len⟩
theorem qB {M:Model}{A:Around}{E:Value->Shared->Prop}{i:Nat}{x:Str}{pos:Pos}{Q:Unit->Shared->Prop} (I:a7 X pins σ H s) (hN:X.N.Nodup) (hi:X.N[i]? = some x) (hk:X.env.scope.names.lookup x=some .local)
  (h:∀ s',a7 X pins (σ.set i none) H s'->Q () s'):wpAny M A (do bindName X.env x .none; unbindBehindTheSuite X.env x pos) Q E s:=by
 obtain ⟨m,hn,hl⟩:=id I.loc
 obtain ⟨oL,_,_,hoL,_⟩:=id hn
 have ab:∀ b o,X.s₀.heap.get? b=some o->b ≠ X.env.locals:=fun b o e=>aW6 (aU9 (aU8 e) I.ok.above)
 refine wpAny_nameGoes_keeps hk hn (by rw [I.ok.kind]; rfl) fun h' v hn' hs=>?_
 refine h _ ⟨I.ok,I.os,I.bare,⟨fun b o e n hb hx=>(hs.2 b (ab b o e)).trans (I.base.keep b o e n hb hx),fun b o e n hb hx=>?_,I.base.free,fun b o e hx=>?_,I.base.tups,I.base.frzs,I.base.tbls⟩,⟨_,hn',fun j y v' e1 e2 e3=>?_⟩,fun y c e=>?_,I.free,I.freeC,fun p hp=>?_,fun b u e=>?_,by simpa using I.len⟩
 ·obtain ⟨sl,e1⟩:=I.base.slot b o e n hb hx
  exact⟨sl,(hs.2 b (ab b o e)).trans e1⟩
 ·obtain ⟨o',e1⟩:=I.base.there b o e hx
  exact⟨o',(hs.2 b (ab b o e)).trans e1⟩
 ·by_cases hj:j=i
  ·subst hj
   have hjl:j < σ.length:=by rw [I.len]; exact (aV0.mp hi).1
   rw [bc3 hjl] at e2
   cases e2
  ·rw [aW3 (Ne.symm hj)] at e2
   obtain ⟨u',r',q⟩:=hl j y v' e1 e2 e3
   refine⟨u',r',?_⟩
   rcases q with ⟨k,e⟩ | ⟨k,c,e,z⟩
   ·have ny:y ≠ x:=fun z=>hj (rT hN e1 (z ▸ hi))
    exact .inl ⟨k,by simp [ny,e]⟩
   ·exact .inr ⟨k,c,e,z.sameBut hs (I.cne y c e)⟩
 ·obtain ⟨w',z⟩:=I.cell y c e
  exact⟨w',z.sameBut hs (I.cne y c e)⟩
 ·obtain ⟨e,n,ne,nf,d⟩:=I.pin p hp
  exact⟨(hs.2 p.1 ne).trans e,n,ne,nf,d⟩
 ·refine (I.hok b u e).stay (fun c v hc q=>(hs.2 c fun z=>?_).trans q) (fun _ q=>q) fun _ _ q=>q
  subst z
  rcases hc with z | z
  ·subst z; rw [I.free] at e; cases e
  ·rw [I.free] at z; cases z
theorem au5 {M:Model}{A:Around}{E:Value->Shared->Prop}{K:PySem.W.Frag}{e C D:Addr}{oe:Obj}{Q:Bool->Shared->Prop} (k:K.In s.heap) (he:s.heap.get? e=some oe) (hc:oe.cls = .ref C) (h1:(PySem.W.clsIn K D).isSome=true) (h2:PySem.W.typeIn K (.ref D)=some (.type "type"))
  (h3:PySem.W.subIn K (.ref D) (.type "BaseException")=some true) (h4:PySem.W.subIn K (.ref C) (.ref D)=some true) (hq:Q true s):wpAny M A (excMatches (.ref e) (.ref D)) Q E s:=by
 obtain ⟨h,g,d,t,os⟩:=s
 have k:K.In h:=k
 have he:h.get? e=some oe:=he
 have l1:PySem.W.Looks M h (isType (.ref D)) true:=by
  unfold PySem.W.clsIn at h1
  split at h1
  ·rename_i c' d' cd' sl' ho
   intro A' Q' E' s' kk q
   unfold isType loadHead
   exact aT3 (wpAny_loadPart (kk _ _ (k _ _ ho)) (aT6 q))
  ·cases h1
 have l2:PySem.W.Looks M h (typeOf (.ref D)) (.type "type"):=PySem.W.looks_typeIn k h2
 have l3:PySem.W.Looks M h (isSubtype (.ref D) (.type "BaseException")) true:=PySem.W.looks_subIn k h3
 have l4:PySem.W.Looks M h (isSubtype (.ref C) (.ref D)) true:=PySem.W.looks_subIn k h4
 have l5:PySem.W.Looks M h (typeOf (.ref e)) (.ref C):=hc ▸ (PySem.W.Looks.ld he).andThen .now
 have l6:PySem.W.Looks M h (isInstance (.ref D) (.type "tuple")) false:=l2.andThen (PySem.W.Looks.of_pure tc_notTuple)
 have l7:PySem.W.Looks M h (isExcClass (.ref D)) true:=by
  unfold isExcClass
  exact l1.andThen (by simpa using l3)
 have f:=tc_notTuple
 unfold excMatches
 repeat (first | exact hq | (with_reducible refine l2.at ?_) | (with_reducible refine l7.at ?_) | (with_reducible refine l1.at ?_) | (with_reducible refine l3.at ?_) | (with_reducible refine l5.at ?_) | (with_reducible refine l4.at ?_) | wp_step)
end
noncomputable def uV (D:cK) (i:Nat):cK:={ nx:=fun σ H=>D.nx (σ.set i none) H,rt:=D.rt,bk:=fun σ H=>D.bk (σ.set i none) H,ct:=fun σ H=>D.ct (σ.set i none) H }
section
variable {X : Cx} {pins : List (Addr × Obj)} {σ : St} {H H1 H' : Hp} {s s1 s' : Shared} {B : Heap} {a C Ch : Addr} {i : Nat} {x n : Str} {np pos hpos : Pos} {b₀ : Stmt} {suite : List Stmt} {ts : TS} {D : cK} {dA : List ExceptHandler}
structure uW (K:PySem.W.Frag) (Ch:Addr):Prop where
 c1:(PySem.W.clsIn K Ch).isSome=true
 c2:PySem.W.typeIn K (.ref Ch)=some (.type "type")
 c3:PySem.W.subIn K (.ref Ch) (.type "BaseException")=some true
theorem au6 (I:a7 X pins σ H1 s1) (fl:kT X.prog X.w X.stack H1 s1 H' B a C s') (hstk:X.stack=X.env :: X.outer/\X.env.frame=some X.env.locals) (hg:Gl X x) (hm:X.mg x=some (.ref Ch)) (ct:uW X.K Ch) (sub:PySem.W.subIn X.K (.ref C) (.ref Ch)=some true)
  (hN:X.N.Nodup) (hi:X.N[i]? = some n) (hl:X.env.scope.names.lookup n=some .local) (hs:dJ (X.suite a) (b₀ :: suite) ts) (q:∀ oe:Obj,oe.cls = .ref C->ts (uV D i) (σ.set i (some (.ref a))) (upd H' a (.frz oe (.own a)))) (hd:(x == ("__debug__" : Str))=false) :
  wpAny (model X.prog X.w) X.A (noteFrame (.ref a) X.env) (fun _ s₂=>wpAny (model X.prog X.w) X.A (setFlight (.ref a) none) (fun _ s₃=>wpAny (model X.prog X.w) X.A (handleBy (.ref a) X.env (.ExceptHandler (some (.Name x np)) (some n) (b₀ :: suite) hpos :: dA)) (SP X pins D) X.xe s₃) X.xe s₂) X.xe s':=by
 obtain ⟨a0,fly⟩:=fl.fly
 rw [hstk.1] at fly
 refine wpAny_looks_onW (outer:=X.outer) (L:=X.env.locals) (by rw [I.ok.frames,hstk.1]) hstk.2 fly fun h4 held up4=>wpAny_landsW held fun h5 fly5 up5=>?_
 obtain ⟨o5,v5,e5,c5,_⟩:=fly5.first
 have I5:=G5 I fl fly5.1 (up4.trans up5) e5
 refine wpAny_handleBy_cons (codeAny_handlers_test (mK (I5.suite a) hg hm ?_ hd)) (by intro z; cases z)
 refine au5 I5.kIn e5 c5 ct.c1 ct.c2 ct.c3 sub ?_
 show codeAny (model X.prog X.w) (X.A.mark (some (.ref a))) (.handlers (.ref a) [.ExceptHandler none (some n) (b₀ :: suite) hpos] X.env) _ _
 refine codeAny_handlers_suite_as (lands_againW fly5 fun h6 fly6 up6=>?_)
 obtain ⟨o6,v6,e6,c6,_⟩:=fly6.first
 have I6:=G5 I fl fly6.1 ((up4.trans up5).trans up6) e6
 refine oN I6 hN hi (.inl hl) (v:=.ref a) rfl (fun s7 I7=>?_) (.inr hl)
 refine bc4 (hs pins s7 _ _ (uV D i) (I7.suite a) (q o6 c6)) (fun f s8 h8=>?_) fun _ _ z=>z.elim
 show wpAny (model X.prog X.w) X.A (do bindName X.env n .none; unbindBehindTheSuite X.env n hpos) (fun _ s9=>SP X pins D f s9) X.xe s8
 cases f with
 | next=>obtain ⟨σ',H',J,q⟩:=h8; exact qB (J.unsuite I.ok) hN hi hl fun s9 J9=>⟨_,_,J9,q⟩
 | brk=>obtain ⟨σ',H',J,q⟩:=h8; exact qB (J.unsuite I.ok) hN hi hl fun s9 J9=>⟨_,_,J9,q⟩
 | cont=>obtain ⟨σ',H',J,q⟩:=h8; exact qB (J.unsuite I.ok) hN hi hl fun s9 J9=>⟨_,_,J9,q⟩
 | ret u=>obtain ⟨v,σ',H',J,r,q⟩:=h8; exact qB (J.unsuite I.ok) hN hi hl fun s9 J9=>⟨v,_,_,J9,r,q⟩
end
noncomputable abbrev TB:=cK->XK->St->Hp->Prop
noncomputable def XB (X:Cx) (pins:List (Addr × Obj)) (σ:St) (Ex:XK):Value->Shared->Prop:=fun e s'=>∃ H1 s1,a7 X pins σ H1 s1/\e8 X.prog X.w X.stack H1 s1 Ex e s'
noncomputable def PB (X:Cx) (sts:List Stmt) (t:TB):Prop:=
 ∀ (pins:List (Addr × Obj)) (s:Shared) (σ:St) (H:Hp) (D:cK) (Ex:XK),a7 X pins σ H s->t D Ex σ H->wpAny (model X.prog X.w) X.A (execs sts X.env) (SP X pins D) (XB X pins σ Ex) s
section
variable {X : Cx} {k : Nat} {f Ch : Addr} {fd : FuncData} {ps : List Str} {sp : Sp} {x n : Str} {p cp pos np hpos : Pos} {e c : Expr} {es : List Expr} {t : TA} {tb ub : TB} {tc : TT} {sa sb body : List Stmt} {i : Nat} {b₀ : Stmt} {suite : List Stmt} {ts : TS}
noncomputable def G6 (K:PySem.W.Frag) (Ch:Addr) (i:Nat) (tb:TB) (ts:TS):TS:=fun D σ H=>
 tb D (fun c _ H'=>∀ (a C:Addr) (oe:Obj),c = .ref C->H' a=none->oe.cls = .ref C->PySem.W.subIn K (.ref C) (.ref Ch)=some true/\ts (uV D i) (σ.set i (some (.ref a))) (upd H' a (.frz oe (.own a)))) σ H
theorem au7 (hstk:X.stack=X.env :: X.outer/\X.env.frame=some X.env.locals) (hb:PB X body tb) (hg:Gl X x) (hm:X.mg x=some (.ref Ch)) (ct:uW X.K Ch) (hN:X.N.Nodup) (hi:X.N[i]? = some n) (hl:X.env.scope.names.lookup n=some .local) (hs:∀ a,dJ (X.suite a) (b₀ :: suite) ts)
  (hd:(x == ("__debug__" : Str))=false:=by decide):PS X (.Try body [.ExceptHandler (some (.Name x np)) (some n) (b₀ :: suite) hpos] [] [] pos) (G6 X.K Ch i tb ts):=by
 intro pins s σ H D I h
 refine wpAny_Try_except (bc4 (hb pins s σ H D _ I h) (fun fl s1 q=>?_) (fun ev s1 q=>?_))
 ·cases fl with
  | next=>exact wpAny_execs_nil q
  | _=>exact q
 ·obtain ⟨H1,s2,I1,H',B,a,C,e1,fl,q⟩:=q
  subst e1
  obtain ⟨a0,fly⟩:=fl.fly
  obtain ⟨o5,_,_,c5,_⟩:=fly.first
  exact au6 I1 fl hstk hg hm ct (q a C o5 rfl fl.fresh c5).1 hN hi hl (hs a) (fun oe hc=>(q a C oe rfl fl.fresh hc).2) hd
end
end L2
namespace L2
open PySem PySem.Spec PyProof.Rows PySem.Calls Builtin Builtin.ObjectAttr Builtin.Getset_descriptor
structure iQ (K:PySem.W.Frag) (D:Addr):Prop where
 cls:(PySem.W.clsIn K D).isSome=true
 ga:PySem.W.findIn K (.ref D) "__getattribute__" = some (some (.builtin "BaseException.__getattribute__"))
 gt:PySem.W.findIn K (.ref D) "__getattr__" = some none
 fc:PySem.W.findIn K (.ref D) "__class__" = some (some (.builtin "object.__class__"))
 fg:PySem.W.specialIn K (.builtin "object.__class__") "__get__" = some (some (.builtin "getset_descriptor.__get__"))
 ft:PySem.W.takesIn K (.builtin "object.__class__")=some true
 ob:PySem.W.mroIn K D (.type "object")=some true
 be:PySem.W.mroIn K D (.type "BaseException")=some true
noncomputable def k6 (h:Heap) (x D:Addr):Prop:=∃ ox:Obj,h.get? x=some ox/\ox.cls = .ref D
theorem k6.type {h:Heap}{x D:Addr}{M:Model} (I:k6 h x D):PySem.W.Looks M h (typeOf (.ref x)) (.ref D):=by
 obtain ⟨ox,e,c⟩:=I
 exact c ▸ (PySem.W.Looks.ld e).andThen .now
section
variable {prog : Program} {w : World} {A : Around} {E : Value → Shared → Prop} {K : PySem.W.Frag} {x D : Addr} {h : Heap} {g : Array GenState} {d : Drawn} {t : Nat} {os : OsState}
theorem au8 {M:Model} (F:iQ K D) (k:K.In h):PySem.W.Looks M h (find (.ref x) (.ref D) "__class__") (.bind (.builtin "getset_descriptor.__get__") (.builtin "object.__class__")):=by
 have L1:=PySem.W.looks_findIn (M:=M) k F.fc
 have L2:=PySem.W.looks_specialIn (M:=M) k F.fg
 have L3:=PySem.W.looks_takesIn (M:=M) k F.ft
 unfold find
 refine L1.andThen (PySem.W.Looks.andThen (a:=some (Value.builtin "getset_descriptor.__get__")) L2 ?_)
 refine PySem.W.Looks.andThen (a:=some (Value.builtin "getset_descriptor.__get__",Value.builtin "object.__class__")) ?_ (PySem.W.Looks.tag .now)
 unfold dataDescriptor?
 exact L3.andThen .now
theorem au9 {tp:Value}{R:Result->Shared->Prop} (F:iQ K D) (k:K.In h) (I:k6 h x D) (hq:R (.ok (.ret (.ref D))) ⟨h,g,d,t,os⟩):codeAny (model prog w) A (.call (.builtin "getset_descriptor.__get__") ⟨[.builtin "object.__class__",.ref x,tp],[]⟩) R ⟨h,g,d,t,os⟩:=by
 have L0:=I.type (M:=model prog w)
 have L1:=PySem.W.looks_mroIn (M:=model prog w) k F.ob
 refine codeAny_call_builtin PySem.W.KF.slot_gs.plain PySem.W.KF.entry_gs (PySem.W.KF.slot_gs.check _ _ _ _ _ _ _ _ PySem.W.KF.type_class (PySem.W.KF.args_gs _ _ _) ?_)
 unfold Builtin.«getset_descriptor.__get__» descrGet; rw [PySem.W.dga_obj]
 refine aT3 (aT6 ?_); unfold descrGetter descrCheckInstance descrNameAndClass isInstance
 simp only [PySem.W.KF.owner_class]
 repeat lk
 refine⟨Code.quiet_builtin _ (by decide +kernel),bd9 PySem.W.KF.entry_class ?_⟩; unfold Builtin.«object.__class__» shownTypeOf
 repeat lk
 exact hq
theorem av0 {M:Model}{nameV:Value}{Q:Unit->Shared->Prop} (F:iQ K D) (k:K.In h) (I:k6 h x D) (hq:Q () ⟨h,g,d,t,os⟩):wpAny M A (checkBuiltinCall "BaseException.__getattribute__" ⟨[.ref x,nameV],[]⟩) Q E ⟨h,g,d,t,os⟩:=by
 have kd:builtinKind "BaseException.__getattribute__" = some .slot:=by decide +kernel
 have sp:splitId "BaseException.__getattribute__" = some ("BaseException","__getattribute__"):=by decide +kernel
 have L:PySem.W.Looks M h (isInstance (.ref x) (.type "BaseException")) true:=(I.type (M:=M)).andThen (PySem.W.looks_mroIn k F.be)
 have ha:=PySem.F.args_bexc_ga (.ref x) nameV
 simp only [checkBuiltinCall,kd,sp]
 refine aT3 (L.at ?_)
 repeat (any_goals (first | assumption | wp_step))
theorem av1 {tk:Tok}{Q:Fin->Shared->Prop} (F:iQ K D) (k:K.In h) (I:k6 h x D) (hq:Q (.done (.ret (.ref D))) ⟨h,g,d,t,os⟩):wpAny (model prog w) A (Builtin.«object.__getattribute__» ⟨[.ref x,.str "__class__" tk],[]⟩) Q E ⟨h,g,d,t,os⟩:=by
 have L0:=I.type (M:=model prog w)
 have L1:=au8 (M:=model prog w) F k (x:=x)
 refine aT3 (aT6 (aT3 (aT6 (aT3 (L0.at (aT3 (L1.at ?_)))))))
 show wpAny _ _ (holding [_] (call _ _) >>= ret) _ _ _
 exact aT3 (ba5 (wpAny_call (au9 F k I (aT6 hq))))
theorem av2 {tk:Tok}{R:Result->Shared->Prop} (F:iQ K D) (k:K.In h) (I:k6 h x D) (hq:R (.ok (.ret (.ref D))) ⟨h,g,d,t,os⟩):codeAny (model prog w) A (.call (.builtin "BaseException.__getattribute__") ⟨[.ref x,.str "__class__" tk],[]⟩) R ⟨h,g,d,t,os⟩:=
 codeAny_call_builtin PySem.F.excAttr_ValueError.ga.plain PySem.F.entry_bexc_ga (av0 F k I (av1 F k I hq))
theorem av3 {Q:Option Value->Shared->Prop} (F:iQ K D) (k:K.In h) (I:k6 h x D) (hq:Q (some (.ref D)) ⟨h,g,d,t+1,os⟩):wpAny (model prog w) A (getAttr? (.ref x) "__class__") Q E ⟨h,g,d,t,os⟩:=by
 have L0:=I.type (M:=model prog w)
 have L1:=PySem.W.looks_findIn (M:=model prog w) k F.ga
 have L2:=PySem.W.looks_findIn (M:=model prog w) k F.gt
 have f3:=PySem.F.excAttr_ValueError.ga.bind (.ref x)
 unfold getAttr? getAttrBy? getAttrBy
 refine aT3 (wpAny_mkText (aT3 (bc9 (ba5 (aT3 (L0.at (aT3 (L1.at ?_))))))))
 have nx:(onTheHeap (Value.ref D) && Value.builtin "BaseException.__getattribute__" == Value.builtin "object.__getattribute__")=false:=by
  rw [show (Value.builtin "BaseException.__getattribute__" == Value.builtin "object.__getattribute__")=false by decide +kernel,bi7]
 dsimp only
 rw [if_neg (by rw [nx]; decide)]
 unfold getAttrByItsOwn hookBefore
 repeat (any_goals (first | assumption | (with_reducible refine L2.at ?_) | wp_step))
 exact av2 F k I (PySem.W.handed_on rfl (aT6 hq))
end
theorem av4 {K:PySem.W.Frag}{x D:Addr} (F:iQ K D):PySem.W.KitX K (.ref x) (.ref D) (fun h=>k6 h x D) where
 ty:=fun _ _ _ I=>I.type
 it:=fun M h k _=>by
  have z:=F.cls
  unfold PySem.W.clsIn at z
  split at z
  ·rename_i c' d' cd' sl' ho
   intro A' Q' E' s' kk q
   unfold isType loadHead
   exact aT3 (wpAny_loadPart (kk _ _ (k _ _ ho)) (aT6 q))
  ·cases z
 ne:=fun h tp dd its n sl k htp=>by
  have z:=F.cls
  refine bc0.mpr fun q=>?_
  obtain rfl:D=tp:=Value.ref.inj (beq_iff_eq.mp q)
  unfold PySem.W.clsIn at z
  split at z
  ·rename_i ho
   have y:=(k _ _ ho).symm.trans htp
   cases y
  ·cases z
 ca:=fun {_ _ _ _ _ s} k I q=>by
  obtain ⟨h,g,d,t,os⟩:=s
  exact av3 F k I q
end L2
namespace Raw
open PySem PySem.W PySem.Calls PyProof.Rows
theorem av5:isSubtype (.type "tuple") (.type "set")=pure false:=by rw [be3]; kernel_rfl
theorem av6:isSubtype (.type "tuple") (.type "frozenset")=pure false:=by rw [be3]; kernel_rfl
section
variable {prog : Program} {w : World} {A : Around} {E : Value → Shared → Prop} {s : Shared} {l : Addr} {items : Array Value} {ns : List Int}
noncomputable abbrev i9 (led:Bool):Obj:={ cls:=.type "set",dict:=none,data:=.set #[] 0 (.fresh 0 0 led) }
end
end Raw
namespace Core
open PySem L2 PP
noncomputable def dQ (ns:List Int):Bool:=((ns.zip (ns.drop 1)).map fun p=>decide (p.1 < p.2)).all id
theorem qD {α β:Type}{l:List α}{f:α->β}{i:Nat}{x:α} (h:l[i]? = some x):(l.take (i+1)).map f=(l.take i).map f ++ [f x]:=by
 rw [bh3,h]; simp
theorem kU:∀ {ns:List Int},dQ ns=true->ns.Pairwise (· < ·)
 | [],_=>.nil
 | [x],_=>aY0 _ _
 | x :: y :: r,h=>by
  have e:dQ (x :: y :: r)=(decide (x < y) && dQ (y :: r)):=rfl
  rw [e,aX3] at h
  have ih:=kU h.2
  refine List.pairwise_cons.mpr ⟨fun z hz=>?_,ih⟩
  rcases aU2.mp hz with rfl | hz
  ·exact bb3 h.1
  ·exact Int.lt_trans (bb3 h.1) (List.rel_of_pairwise_cons ih hz)
theorem uX:∀ {ns:List Int},ns.Pairwise (· < ·)->dQ ns=true
 | [],_=>rfl
 | [x],_=>rfl
 | x :: y :: r,h=>by
  have e:dQ (x :: y :: r)=(decide (x < y) && dQ (y :: r)):=rfl
  have h':=List.pairwise_cons.mp h
  rw [e,uX h'.2,bk3]
  exact aU5 (h'.1 y aV2)
noncomputable def kin (ws:List Int) (ls:List (Int × Int)) (S:List Int) (h:Int):Bool:=!decide (h ∈ S) && decide (ws.getD h.toNat 0<=(((b8 ls h).filter fun x=>decide (x ∈ S)).length:Int))
noncomputable def nextOf (ws:List Int) (ls:List (Int × Int)) (S:List Int):List Int:=((List.range ws.length).map fun (i:Nat)=>(i:Int)).filter (kin ws ls S)
noncomputable def aT (ws:List Int) (ls:List (Int × Int)) (S:List Int):Nat->List Int
 | 0=>S
 | k+1=>aT ws ls S k ++ nextOf ws ls (aT ws ls S k)
noncomputable def gE (ws:List Int) (S:List Int):Nat:=(((List.range ws.length).map fun (i:Nat)=>(i:Int)).filter fun x=>!decide (x ∈ S)).length
theorem uY {α:Type} (p q:α->Bool) (h:∀ x,q x=true->p x=false):∀ L:List α,(L.filter fun x=>!p x && !q x).length+(L.filter q).length=(L.filter fun x=>!p x).length
 | []=>rfl
 | x :: r=>by
  have ih:=uY p q h r
  cases e1:p x with
  | true=>
   have e2:q x=false:=by
    cases e:q x with
    | false=>rfl
    | true=>have:=h x e; rw [e1] at this; cases this
   simp only [List.filter_cons,e1,e2,Bool.not_true,Bool.false_and,aW1,bb6]
   exact ih
  | false=>
   cases e2:q x with
   | true=>
    simp only [List.filter_cons,e1,e2,Bool.not_true,Bool.not_false,bi7,aW1,bb6,if_true,aZ6]
    omega
   | false=>
    simp only [List.filter_cons,e1,e2,Bool.not_false,bk3,aW1,bb6,if_true,aZ6]
    omega
theorem uZ {ws:List Int}{ls:List (Int × Int)}{S:List Int}{x:Int} (h:kin ws ls S x=true):decide (x ∈ S)=false:=by
 unfold kin at h
 cases e:decide (x ∈ S) with
 | false=>rfl
 | true=>rw [e] at h; cases h
theorem G7 (ws:List Int) (ls:List (Int × Int)) (S:List Int):gE ws (S ++ nextOf ws ls S)+(nextOf ws ls S).length=gE ws S:=by
 have e:=uY (fun x=>decide (x ∈ S)) (kin ws ls S) (fun x h=>uZ h) ((List.range ws.length).map fun (i:Nat)=>(i:Int))
 unfold gE
 rw [<- e]
 congr 2
 refine List.filter_congr fun x hx=>?_
 have:decide (x ∈ S ++ nextOf ws ls S)=(decide (x ∈ S) || kin ws ls S x):=by
  rw [bb8]
  unfold nextOf
  simp only [bf4,aW8,aZ0,Bool.or_eq_true]
  exact⟨fun z=>z.elim .inl fun z=>.inr z.2,fun z=>z.elim .inl fun z=>.inr ⟨hx,z⟩⟩
 rw [this]
 cases decide (x ∈ S) <;> cases kin ws ls S x <;> rfl
theorem av7 (ws:List Int) (S:List Int):gE ws S<=ws.length:=by
 unfold gE
 refine aX8 (bf8 _ _) ?_
 rw [aU7,bf2]; exact aT9 _
noncomputable def after (ws:List Int) (ls:List (Int × Int)) (S:List Int) (m:Nat):List (List Int):=(List.range m).map fun k=>nextOf ws ls (aT ws ls S k)
theorem G8 (ws:List Int) (ls:List (Int × Int)) (ns:List Int):∀ k,(aT ws ls ns k).length+gE ws (aT ws ls ns k)=ns.length+gE ws ns
 | 0=>rfl
 | k+1=>by
  have ih:=G8 ws ls ns k
  have cs:=G7 ws ls (aT ws ls ns k)
  show (aT ws ls ns k ++ nextOf ws ls (aT ws ls ns k)).length+gE ws (aT ws ls ns k ++ nextOf ws ls (aT ws ls ns k))=_
  rw [aU6]; omega
theorem G9 {ws ns:List Int} (hu:ns.Pairwise (· < ·)) (hin:∀ x ∈ ns,0<=x/\x < (ws.length:Int)):ns.length+gE ws ns<=ws.length:=by
 have nd:ns.Nodup:=hu.imp fun h=>Int.ne_of_lt h
 have sub:ns ⊆ ((List.range ws.length).map fun (i:Nat)=>(i:Int)).filter fun x=>decide (x ∈ ns):=fun x hx=>by
  refine aZ0.mpr ⟨bd3.mpr ⟨x.toNat,bg7.mpr ?_,?_⟩,aU5 hx⟩
  ·have:=hin x hx; omega
  ·have:=hin x hx; omega
 have h1:=nd.length_le_of_subset sub
 have h2:=uY (fun _=>false) (fun x=>decide (x ∈ ns)) (fun _ _=>rfl) ((List.range ws.length).map fun (i:Nat)=>(i:Int))
 have h3:(((List.range ws.length).map fun (i:Nat)=>(i:Int)).filter fun x=>!false && !decide (x ∈ ns)).length=gE ws ns:=rfl
 have h4:(((List.range ws.length).map fun (i:Nat)=>(i:Int)).filter fun x=>!false).length<=ws.length:=by
  refine aX8 (bf8 _ _) ?_
  rw [aU7,bf2]; exact aT9 _
 rw [h3] at h2
 omega
noncomputable def cK (ws:List Int) (ls:List (Int × Int)) (ns:List Int) (m:Nat):Prop:=(∀ k < m,nextOf ws ls (aT ws ls ns k) ≠ [])/\nextOf ws ls (aT ws ls ns m) = []
theorem v4 (k:Int):∀ ls:List (Int × Int),(∀ l ∈ ls,l.1 ≠ l.2)->(b8 ls k).length<=ls.length
 | [],_=>aT9 _
 | l :: r,h=>by
  have e:b8 (l :: r) k=((if l.1=k then [l.2] else []) ++ (if l.2=k then [l.1] else [])) ++ b8 r k:=rfl
  have ih:=v4 k r fun m hm=>h m (aV3 _ hm)
  have h0:=h l aV2
  rw [e,aU6,aU6,aZ6]
  by_cases h1:l.1=k
  ·rw [if_pos h1,if_neg (fun z=>h0 (h1.trans z.symm))]; simp; omega
  ·rw [if_neg h1]
   by_cases h2:l.2=k
   ·rw [if_pos h2]; simp; omega
   ·rw [if_neg h2]; simp; omega
theorem v7 {ws:List Int}{ls:List (Int × Int)}{ns:List Int}:∀ (m:Nat),(∀ k < m,nextOf ws ls (aT ws ls ns k) ≠ [])->m+gE ws (aT ws ls ns m)<=ws.length
 | 0,_=>by have:=av7 ws ns; show 0+gE ws ns<=_; omega
 | m+1,h=>by
  have ih:=v7 m fun k hk=>h k (by omega)
  have cs:=G7 ws ls (aT ws ls ns m)
  have:1<=(nextOf ws ls (aT ws ls ns m)).length:=by
   cases e:nextOf ws ls (aT ws ls ns m) with
   | nil=>exact absurd e (h m (by omega))
   | cons _ _=>exact Nat.succ_le_succ (aX0 _)
  show m+1+gE ws (aT ws ls ns m ++ nextOf ws ls (aT ws ls ns m))<=_
  omega
theorem iR {ns:List Int}{i:Nat}{x:PV} (h:(intz ns)[i]? = some x):∃ n,x = .int n/\ns[i]? = some n:=by
 rw [aV5] at h
 cases e:ns[i]? with
 | none=>rw [e] at h; cases h
 | some n=>rw [e] at h; exact⟨n,(aW4 h).symm,rfl⟩
theorem fE {lo:Int}{n i:Nat}{x:PV} (h:(fB lo n)[i]? = some x):x = .int (lo+i)/\i < n:=by
 have hi:i < n:=by
  have:=(aV0.mp h).1
  rwa [dM] at this
 rw [C3 hi] at h
 exact⟨(aW4 h).symm,hi⟩
noncomputable def rng (n:Nat):List Int:=(List.range n).map fun (i:Nat)=>(i:Int)
theorem jJ (n:Nat):(rng n).length=n:=by unfold rng; rw [aU7,bf2]
theorem v8 {n i:Nat} (h:i < n):(rng n)[i]? = some (i:Int):=by unfold rng; rw [aV5,List.getElem?_range h]; rfl
theorem iA {n:Nat}{x:Int}:x ∈ rng n ↔ 0<=x/\x < (n:Int):=by
 unfold rng
 rw [bd3]
 constructor
 ·rintro ⟨i,hi,rfl⟩
  have:=bg7.mp hi
  omega
 ·intro h
  exact⟨x.toNat,bg7.mpr (by omega),by omega⟩
theorem v9 {α:Type}{l:List α}{p:α->Bool}{i:Nat}{x:α} (h:l[i]? = some x):(l.take (i+1)).filter p=(l.take i).filter p ++ (if p x=true then [x] else []):=by
 rw [bh3,h,List.filter_append]
 congr 1
 cases e:p x <;> simp [e]
theorem eQ (a b:List Int):intz (a ++ b)=intz a ++ intz b:=bd8
theorem aY (a:List Int):(intz a).length=a.length:=aU7 _
noncomputable def b9 (ws:List Int) (ls:List (Int × Int)):PV:=.tup [.tup (intz ws),.tup (ls.map fun l=>.tup [.int l.1,.int l.2])]
structure Wb (ws:List Int) (ls:List (Int × Int)):Prop where
 few:ws.length<=40
 most:ls.length<=1700
 links:∀ l ∈ ls,(0<=l.1/\l.1 < ws.length)/\0<=l.2/\l.2 < ws.length
noncomputable def fQ (x:PV) (ns:List Int):Prop:=x = .tup (intz ns) ∨ x = .lst (intz ns)
theorem fQ.seq {x:PV}{ns:List Int} (h:fQ x ns):jC x=some (intz ns):=by rcases h with rfl | rfl <;> rfl
theorem fQ.seqT {x:PV}{ns:List Int} (h:fQ x ns):seqT x=some (intz ns):=by rcases h with rfl | rfl <;> rfl
theorem kW:∀ (ls:List (Int × Int)),flats (ls.map fun l=>PV.tup [.int l.1,.int l.2])=true
 | []=>rfl
 | l :: r=>by
  show (flat (.tup [.int l.1,.int l.2]) && flats (r.map fun l=>PV.tup [.int l.1,.int l.2]))=true
  rw [kW r]; rfl
theorem J0 (ws:List Int) (ls:List (Int × Int)):flat (b9 ws ls)=true:=by
 show flats [.tup (intz ws),.tup (ls.map fun l=>PV.tup [.int l.1,.int l.2])]=true
 show (flat (.tup (intz ws)) && (flat (.tup (ls.map fun l=>PV.tup [.int l.1,.int l.2])) && true))=true
 show (flats (intz ws) && (flats (ls.map fun l=>PV.tup [.int l.1,.int l.2]) && true))=true
 rw [bT,kW]; rfl
theorem iS (ns:List Int):flat (.tup (intz ns))=true:=bT ns
noncomputable def kX:bV:=fun xs Q=>∃ ws ls,xs = [b9 ws ls]/\Q (.int ws.length)
noncomputable def J1:aU:=(aX (aC bU (a6 (b4 (a5 0) (qC (.int 0))) a9)))
noncomputable abbrev dF (t:aU) (N:List Str) (p:bV):Prop:=∀ xs Q,p xs Q->t { nx:=fun _=>Q .non,rt:=Q } (dY N xs)
theorem av8:dF J1 ["web"] kX:=by
 rintro xs Q ⟨ws,ls,rfl,q⟩
 refine⟨_,rfl,_,_,_,rfl,rfl,rfl,_,_,rfl,rfl,trivial,?_⟩
 rw [aY]; exact q
noncomputable def o8:bV:=fun xs Q=>∃ x ns,xs = [x]/\fQ x ns/\ns.length<=1000/\Q (.bl (dQ ns))
noncomputable def inB (n:Nat) (x:Int):Bool:=decide (0<=x) && decide (x < (n:Int))
noncomputable def qE:bV:=fun xs Q=>∃ ws ls n,xs = [b9 ws ls,.int n]/\Q (.bl (inB ws.length n))
noncomputable def J2:aU:=(aX (i5 (pS (a5 1) (qC (.int 0))) (iN (a5 1) (aC kX (a6 (a5 0) a9)))))
theorem av9:dF J2 ["web","number"] qE:=by
 rintro xs Q ⟨ws,ls,n,rfl,q⟩
 refine⟨_,rfl,_,_,rfl,rfl,_,rfl,?_⟩
 unfold inB at q
 by_cases h:(0:Int)<=n
 ·rw [aU5 h] at q ⊢
  refine aO ⟨_,rfl,_,rfl,ws,ls,rfl,_,_,rfl,rfl,trivial,?_⟩
  simpa using q
 ·rw [aU1 h] at q ⊢
  exact aN ⟨trivial,by simpa using q⟩
noncomputable def dR (n:Nat) (ns:List Int):Bool:=dQ ns && (ns.map (inB n)).all id
noncomputable def qF:bV:=fun xs Q=>∃ ws ls x ns,xs = [b9 ws ls,x]/\fQ x ns/\ns.length<=1000/\Q (.bl (dR ws.length ns))
noncomputable def J3:aU:=(aX (i5 (aC o8 (a6 (a5 1) a9)) (aC pL (a6 (g9 (fN (a5 1)) [none,some 0] (bZ 0) m5 (aC qE (a6 (a5 1) (a6 (a5 0) a9)))) a9))))
theorem aw0 {x:PV}{ns:List Int} (h:fQ x ns):(Slot.sh (flat x) x).tag = .rd->flat x=true:=by
 cases flat x <;> intro z <;> cases z
theorem aw1:dF J3 ["web","numbers"] qF:=by
 rintro xs Q ⟨ws,ls,x,ns,rfl,hx,hl,q⟩
 refine⟨_,rfl,x,ns,rfl,hx,hl,_,rfl,?_⟩
 unfold dR at q
 cases h:dQ ns with
 | false=>rw [h] at q; exact aN ⟨trivial,q⟩
 | true=>
  rw [h] at q
  refine aO ⟨_,rfl,_,hx.seq,aw0 hx,by rw [aY]; omega,fun i acc=>acc=(((ns.take i).map (inB ws.length)).map PV.bl),rfl,?_,?_⟩
  ·rintro i y acc hy rfl
   obtain ⟨n,rfl,hn⟩:=iR hy
   have tk:((ns.take (i+1)).map (inB ws.length)).map PV.bl=((ns.take i).map (inB ws.length)).map PV.bl ++ [PV.bl (inB ws.length n)]:=by rw [qD hn,bd8]; rfl
   exact⟨_,rfl,_,rfl,ws,ls,n,rfl,trivial,tk.symm⟩
  ·rintro acc rfl
   rw [aY,bb1]
   exact⟨_,rfl,trivial,by simpa using q⟩
theorem fQ.noscr {x:PV}{ns:List Int} (h:fQ x ns):∀ ms,([x]:List PV) ≠ [.scr ms]:=by
 rcases h with rfl | rfl <;> intro ms z <;> cases z
section
variable {κ : Type} [DecidableEq κ]
theorem aw2 (kvs:List (κ × PV)) (k:κ) (v:PV):(fO kvs k v).length<=kvs.length+1:=by
 unfold fO
 split
 ·rw [aU7]; omega
 ·rw [aU6,aZ6,List.length_nil]; omega
end
theorem J4:∀ (xs:List PV),flats xs=true ↔ ∀ x ∈ xs,flat x=true
 | []=>by simp [flats]
 | x :: r=>by
  unfold flats
  rw [aX3,J4 r]; simp
theorem aw3 {κ:Type} [DecidableEq κ] {ps:List (κ × PV)}{k:κ}{v:PV}{p:κ × PV} (h:p ∈ fO ps k v):p.2=v ∨ p ∈ ps:=by
 unfold fO at h
 split at h
 ·obtain ⟨q,hq,e⟩:=bd3.mp h
  split at e
  ·subst e; exact .inl rfl
  ·subst e; exact .inr hq
 ·rcases aW8.mp h with h | h
  ·exact .inr h
  ·rw [aU3.mp h]; exact .inl rfl
theorem aw4 {κ:Type} [DecidableEq κ] {ps:List (κ × PV)}{k:κ}{v:PV} (h:flats (ps.map (·.2))=true) (hv:flat v=true):flats ((fO ps k v).map (·.2))=true:=by
 rw [J4] at h ⊢
 intro x hx
 obtain ⟨p,hp,rfl⟩:=bd3.mp hx
 rcases aw3 hp with e | e
 ·rw [e]; exact hv
 ·exact h _ (bd3.mpr ⟨p,e,rfl⟩)
noncomputable def qG (n:Nat) (ls:List (Int × Int)):List PV:=(List.range n).map fun (k:Nat)=>PV.lst (intz (b8 ls k))
noncomputable def vA:bV:=fun xs Q=>∃ ws ls,xs = [b9 ws ls]/\Wb ws ls/\Q (.lst (qG ws.length ls))
theorem aw5 {n:Nat}{ls:List (Int × Int)}{h:Int} (h0:0<=h) (h1:h < (n:Int)):atI (qG n ls) h=some (.lst (intz (b8 ls h))):=by
 refine lN h0 ?_
 unfold qG
 rw [aV5,List.getElem?_range (by omega)]
 show some (PV.lst (intz (b8 ls ((h.toNat:Nat):Int))))=_
 rw [show ((h.toNat:Nat):Int)=h by omega]
theorem k7 {ws:List Int}{h:Int} (h0:0<=h) (h1:h < (ws.length:Int)):atI (intz ws) h=some (.int (ws.getD h.toNat 0)):=by
 refine lN h0 ?_
 have:h.toNat < ws.length:=by omega
 rw [aV5,aU4,aT7 this]; rfl
noncomputable def tups (rs:List (List Int)):List PV:=rs.map fun r=>PV.tup (intz r)
theorem jK {n:Nat}{ns:List Int} (h:dR n ns=true):dQ ns=true/\∀ x ∈ ns,0<=x/\x < (n:Int):=by
 unfold dR at h
 rw [aX3,aY3] at h
 refine⟨h.1,fun x hx=>?_⟩
 have:=h.2 _ (bd3.mpr ⟨x,hx,rfl⟩)
 unfold inB at this
 simpa using this
theorem qH {n:Nat}{ns:List Int} (h:dR n ns=true):ns.length<=n:=by
 obtain ⟨h1,h2⟩:=jK h
 have:=G9 (ws:=List.replicate n (0:Int)) (kU h1) (by rw [bf7]; exact h2)
 rw [bf7] at this
 omega
theorem J5 {ws:List Int}{ls:List (Int × Int)}{ns:List Int} (h:dR ws.length ns=true) (k:Nat):(aT ws ls ns k).length<=ws.length:=by
 have h1:=G8 ws ls ns k
 have h2:=G9 (kU (jK h).1) (jK h).2
 omega
end Core
namespace PP
open PySem L2
noncomputable def J6 (te:aF):aF:=fun ρ Q=>te ρ fun x _=>∃ n:Int,x = .int n/\0<=n/\n<=1000000/\Q (.lst (fB 0 n.toNat)) .fr
noncomputable def vB:PV->Tg->PV->Tg->PK->Prop:=fun x _ y _ Q=>∃ xs n,x = .tup xs/\y = .int n/\flats xs=true/\xs ≠ []/\2<=n/\n<=1000000/\xs.length<=10/\Q (.tup (List.replicate n.toNat xs).flatten) .fr
noncomputable abbrev aw6 (ta tb:aF):aF:=q2 vB ta tb
noncomputable def o9:List PV->(PV->Prop)->Prop:=fun xs Q=>∃ ys:List (List Int),xs = [.lst (ys.map fun r=>PV.tup (intz r))]/\ys.length < 64/\(∀ y ∈ ys,y ≠ [])/\∀ zs:List (List Int),zs.Perm ys->zs.Pairwise (fun u v=>HT.fH v u=false)->Q (.lst (zs.map fun r=>PV.tup (intz r)))
noncomputable def qI:List PV->(PV->Prop)->Prop:=fun xs Q=>∃ ps:List (List aS × PV),xs = [.dT ps]/\Q (.lst (ps.map fun p=>PV.tup (p.1.map kP)))
end PP
namespace Core
open PySem L2 PP
theorem iB (g:Tg) (n:Int):Nw g (.int n):=by cases g <;> first | exact trivial | rfl
noncomputable def iT (x:PV) (ns:List Int):Prop:=x = .scr ns ∨ x = .lst (intz ns)
theorem iT.seq {x:PV}{ns:List Int} (h:iT x ns):jC x=some (intz ns):=by rcases h with rfl | rfl <;> rfl
theorem iT.len {x:PV}{ns:List Int} (h:iT x ns):u6 x=some ns.length:=by
 rcases h with rfl | rfl
 ·rfl
 ·show some (intz ns).length=_
  rw [aY]
noncomputable def eR:bV:=fun xs Q=>∃ x ns k,xs = [x,.int k]/\iT x ns/\0<=k/\Q (.int (ns.getD k.toNat 0))
noncomputable def J7:aU:=(aD (bD (aM (iN (a5 1) (aC bU (a6 (a5 0) a9)))) (aX (b4 (a5 0) (a5 1))) bC)
 (aX (qC (.int 0))))
theorem aw7:dF J7 ["script","k"] eR:=by
 rintro xs Q ⟨x,ns,k,rfl,hx,h0,q⟩
 refine⟨_,rfl,_,rfl,_,_,rfl,hx.len,_,_,rfl,rfl,_,rfl,?_⟩
 by_cases h:k < (ns.length:Int)
 ·rw [aU5 h]
  exact aO ⟨_,rfl,_,rfl,_,_,_,hx.seq,rfl,k7 h0 h,iB _ _,q⟩
 ·rw [aU1 h]
  rw [aU4,List.getElem?_eq_none (by omega)] at q
  exact aN ⟨trivial,q⟩
noncomputable def dS (ls:List (Int × Int)):List PV:=ls.map fun l=>PV.tup [.int l.1,.int l.2]
theorem vC (ls:List (Int × Int)):(dS ls).length=ls.length:=aU7 _
noncomputable def iU (l m:Int × Int):Prop:=l.1 < m.1 ∨ (l.1=m.1/\l.2 < m.2)
structure iV (n:Int) (ls:List (Int × Int)) (a b:Int):Prop where
 inn:∀ l ∈ ls,0<=l.1/\l.1 < l.2/\l.2 < n
 ord:ls.Pairwise iU
 low:∀ l ∈ ls,iU l (a,b)
theorem iV.mono {n a b a' b':Int}{ls:List (Int × Int)} (h:iV n ls a b) (m:a < a' ∨ (a=a'/\b<=b')):iV n ls a' b':=
 ⟨h.inn,h.ord,fun l hl=>by have:=h.low l hl; unfold iU at *; dsimp only at *; omega⟩
theorem iV.add {n a b:Int}{ls:List (Int × Int)} (h:iV n ls a b) (h0:0<=a/\a < b/\b < n):iV n (ls ++ [(a,b)]) a (b+1):=by
 refine⟨fun l hl=>?_,?_,fun l hl=>?_⟩
 ·rcases aW8.mp hl with hl | hl
  ·exact h.inn l hl
  ·rw [aU3.mp hl]; exact h0
 ·exact List.pairwise_append.mpr ⟨h.ord,aY0 _ _,fun l hl m hm=>by rw [aU3.mp hm]; exact h.low l hl⟩
 ·rcases aW8.mp hl with hl | hl
  ·have:=h.low l hl; unfold iU at *; dsimp only at *; omega
  ·rw [aU3.mp hl]; unfold iU; dsimp only; omega
structure cL (n:Int) (ws:List Int) (ls:List (Int × Int)):Prop where
 many:(ws.length:Int)=n
 inn:∀ l ∈ ls,0<=l.1/\l.1 < l.2/\l.2 < n
 most:ls.length<=63
 ord:ls.Pairwise iU
 pos:∀ w ∈ ws,0<=w
noncomputable def oA:bV:=fun xs Q=>∃ c d n m:Int,xs = [.int c,.int d,.int n,.int m]/\0<=n/\n<=8/\0 < m/\m < 1000/\∀ ws ls,cL n ws ls->Q (b9 ws ls)
noncomputable def J8:aU:=(aD (dX 4 (cI a9))
 (aD (cQ (eJ (a5 2)) (bZ 5)
  (aD (fM 4 (aR (a5 0) (a5 3)))
  (b6 0 (bR (a5 0) (a5 3)))))
 (aD (dX 6 (cI a9))
 (aD (cQ (eJ (a5 2)) (bZ 7)
  (cQ (pM (dE (a5 7) (qC (.int 1))) (a5 2)) (bZ 8)
   (aD (bD (aM (cY (aR (a5 1) (qC (.int 2))) (qC (.int 1)))) (fM 6 (bB (a6 (a5 7) (a6 (a5 8) a9)))) bC)
   (b6 1 (bR (a5 1) (qC (.int 2)))))))
 (aX (bB (a6 (aC dN (a6 (a5 4) a9)) (a6 (aC dN (a6 (a5 6) a9)) a9))))))))
noncomputable abbrev si (n:Int):Option Slot:=some (.sh true (.int n))
theorem aw8 : dF J8 ["wants_cell", "links_cell", "many", "most", "wants", "k", "links", "one", "other"] oA := by
  rintro xs Q ⟨c, d, n, m, rfl, n0, n1, m0, m1, q⟩
  refine ⟨by decide, rfl, rfl, rfl, ?_⟩
  refine ⟨_, rfl, n, rfl, by omega, by omega, fun i ρ => ∃ (c' : Int) (y : Option Slot) (ws : List Int), ρ = [si c', si d, si n, si m, some (.own (.lst (intz ws))), y, none, none, none] /\ ws.length = i /\ ∀ w ∈ ws, 0 <= w, ⟨c, none, [], rfl, rfl, fun _ h => nomatch h⟩, ?_, ?_⟩
  · rintro i y ρ hy ⟨c', y0, ws, rfl, hl, hp⟩
    obtain ⟨rfl, hi⟩ := fE hy
    refine ⟨_, rfl, _, rfl, _, rfl, _, _, rfl, rfl, m0, trivial, by rw [aY]; omega, ?_⟩
    refine ⟨_, rfl, _, rfl, _, _, rfl, rfl, ⟨m0, by omega⟩, trivial, ?_⟩
    refine ⟨c' / m, si (0 + (i : Int)), ws ++ [c' % m], ?_, by rw [aU6, hl]; rfl, fun w hw => ?_⟩
    · rw [eQ]; rfl
    · rcases aW8.mp hw with hw | hw
      · exact hp w hw
      · rw [aU3.mp hw]; exact aX5 _ (by omega)
  rintro ρ ⟨c', y0, ws, rfl, hl, hp⟩
  rw [dM] at hl
  refine ⟨by decide, rfl, rfl, rfl, ?_⟩
  refine ⟨_, rfl, n, rfl, by omega, by omega, fun i ρ => ∃ (d' : Int) (y z : Option Slot) (ls : List (Int × Int)), ρ = [si c', si d', si n, si m, some (.own (.lst (intz ws))), y0, some (.own (.lst (dS ls))), y, z] /\ iV n ls i 0 /\ ls.length <= i * 7, ⟨d, none, none, [], rfl, ⟨(fun _ h => nomatch h), .nil, (fun _ h => nomatch h)⟩, aX0 _⟩, ?_, ?_⟩
  · rintro i y ρ hy ⟨d', y1, z, ls, rfl, hin, hll⟩
    obtain ⟨rfl, hi⟩ := fE hy
    refine ⟨_, rfl, _, _, rfl, rfl, _, rfl, _, _, rfl, rfl, by omega, fun j ρ => ∃ (d' : Int) (z : Option Slot) (ls : List (Int × Int)), ρ = [si c', si d', si n, si m, some (.own (.lst (intz ws))), y0, some (.own (.lst (dS ls))), si (0 + (i : Int)), z] /\ iV n ls i (i + 1 + j) /\ ls.length <= i * 7 + j, ⟨d', z, ls, rfl, hin.mono (.inr ⟨rfl, by omega⟩), by omega⟩, ?_, ?_⟩
    · rintro j y ρ hy ⟨d2, z2, ls2, rfl, hin2, hl2⟩
      obtain ⟨rfl, hj⟩ := fE hy
      refine ⟨_, rfl, _, _, rfl, rfl, (by show (0 : Int) < 2; decide), .inl ⟨_, _, rfl, rfl, _, rfl, ?_⟩⟩
      have tail : ∀ ls3 : List (Int × Int), iV n ls3 i (i + 1 + (j + 1 : Nat)) -> ls3.length <= i * 7 + (j + 1) -> (b6 1 (bR (a5 1) (qC (.int 2)))) { nx := fun ρ => ∃ (d' : Int) (z : Option Slot) (ls : List (Int × Int)), ρ = [si c', si d', si n, si m, some (.own (.lst (intz ws))), y0, some (.own (.lst (dS ls))), si (0 + (i : Int)), z] /\ iV n ls i (i + 1 + (j + 1 : Nat)) /\ ls.length <= i * 7 + (j + 1), rt := Q }
          [si c', si d2, si n, si m, some (.own (.lst (intz ws))), y0, some (.own (.lst (dS ls3))), si (0 + (i : Int)), si (0 + (i : Int) + 1 + (j : Int))] := fun ls3 h3 h4 =>
        ⟨_, rfl, _, _, rfl, rfl, ⟨by decide, by decide⟩, trivial, _, _, ls3, rfl, h3, h4⟩
      by_cases h : d2 % 2 = 1
      · show if decide (d2 % 2 = 1) = true then _ else _
        rw [aU5 h]
        refine aO ⟨_, rfl, _, rfl, _, rfl, by show 2 <= 1000; decide, rfl, trivial, by rw [vC]; omega, ?_⟩
        have ad := hin2.add (by omega)
        have := tail (ls2 ++ [((i : Int), (i : Int) + 1 + (j : Int))]) (by have e : (i : Int) + 1 + ((j + 1 : Nat) : Int) = (i : Int) + 1 + (j : Int) + 1 := by omega
                                                                           rw [e]; exact ad) (by rw [aU6, aX7]; omega)
        unfold dS at this
        rw [bd8] at this
        rw [show (0 : Int) + (i : Int) = (i : Int) by omega] at this ⊢
        exact this
      · show if decide (d2 % 2 = 1) = true then _ else _
        rw [aU1 h]
        exact aN (tail ls2 (hin2.mono (.inr ⟨rfl, by omega⟩)) (by omega))
    · rintro ρ ⟨d2, z2, ls2, rfl, hin2, hl2⟩
      rw [dM] at hl2
      exact ⟨d2, _, z2, ls2, rfl, hin2.mono (.inl (by omega)), by omega⟩
  rintro ρ ⟨d', y1, z, ls, rfl, hin, hll⟩
  rw [dM] at hll
  refine ⟨_, rfl, ⟨_, _, rfl, rfl, bT _, _, rfl, ⟨_, _, rfl, rfl, kW _, by show 2 <= 1000; decide, ?_, trivial, q ws ls ⟨by omega, hin.inn, by omega, hin.ord, hp⟩⟩, fun ns z => by cases z⟩, fun ns z => by cases z⟩
  show (flat (.tup (intz ws)) && (flat (.tup (dS ls)) && true)) = true
  rw [iS]
  show (true && (flats (dS ls) && true)) = true
  rw [show flats (dS ls) = true from kW ls]; rfl
noncomputable def qJ:bV:=fun xs Q=>∃ i,xs = [.int i]/\Q (.bl true)
noncomputable def K0 (K:PySem.W.Frag):aU:=(aX (i5 (kL K "int" (a5 0)) (tV (kL K "bool" (a5 0)))))
noncomputable def qK:bV:=fun xs Q=>∃ y ns ms,xs = [.tup (intz ns),y]/\fQ y ms/\ns.length<=1000/\ms.length<=1000/\Q (.bl (decide (ns=ms)))
noncomputable def K1 (K:PySem.W.Frag):aU:=(aD (bD (iL (jB (aM (kL K "tuple" (a5 0)))) (aM (jW (aC bU (a6 (a5 0) a9)) (aC bU (a6 (a5 1) a9))))) (aX (qC (.bl false))) bC)
 (aD (cQ (eJ (aC bU (a6 (a5 1) a9))) (bZ 2)
  (bD (iL (jB (aM (aC qJ (a6 (b4 (a5 0) (a5 2)) a9)))) (aM (jW (b4 (a5 0) (a5 2)) (b4 (a5 1) (a5 2))))) (aX (qC (.bl false))) bC))
 (aX (qC (.bl true)))))
theorem fQ.len {x:PV}{ns:List Int} (h:fQ x ns):u6 x=some ns.length:=by
 rcases h with rfl | rfl <;> (show some (intz ns).length=_; rw [aY])
theorem aw9 {K:PySem.W.Frag} (kt:PySem.W.kitOne K (.type "tuple") (.type "tuple")=some true):dF (K1 K) ["found","due","k"] qK:=by
 rintro xs Q ⟨y,ns,ms,rfl,hy,hn,hm,q⟩
 refine⟨_,rfl,_,_,rfl,kt,_,rfl,aN ⟨_,rfl,_,_,rfl,rfl,_,rfl,_,_,rfl,hy.len,.inl ⟨_,_,rfl,rfl,_,rfl,?_⟩⟩⟩
 rw [aY]
 by_cases hl:ns.length=ms.length
 ·show if (!decide ((ns.length:Int)=(ms.length:Int)))=true then _ else _
  rw [aU5 (by omega)]
  refine aN ⟨_,rfl,_,_,rfl,hy.len,_,rfl,by omega,by omega,fun i ρ=>∃ z,ρ = [some (.sh true (.tup (intz ns))),some (.sh (flat y) y),z]/\ns.take i=ms.take i,⟨none,?_,rfl⟩,?_,?_⟩
  ·show dY _ _=_
   unfold dY
   show [some (Slot.sh (flat (.tup (intz ns))) (.tup (intz ns))),_,_]=_
   rw [iS]
  ·rintro i z ρ hz ⟨z0,rfl,e⟩
   obtain ⟨rfl,hi⟩:=fE hz
   have i1:i < ms.length:=by simpa using hi
   have i2:i < ns.length:=by omega
   have e0:(0:Int)+(i:Int)=(i:Int):=by omega
   have a1:atI (intz ns) ((0:Int)+(i:Int))=some (.int ns[i]):=by rw [e0]; exact mX (by rw [aV5,aT7 i2]; rfl)
   have a2:atI (intz ms) ((0:Int)+(i:Int))=some (.int ms[i]):=by rw [e0]; exact mX (by rw [aV5,aT7 i1]; rfl)
   refine⟨_,rfl,_,rfl,_,_,_,rfl,rfl,a1,_,rfl,_,rfl,aN ⟨_,rfl,_,rfl,_,_,_,rfl,rfl,a1,_,rfl,_,rfl,_,_,_,hy.seq,rfl,a2,.inl ⟨_,_,rfl,rfl,_,rfl,?_⟩⟩⟩
   by_cases h:ns[i]=ms[i]
   ·show if (!decide (ns[i]=ms[i]))=true then _ else _
    rw [aU5 h]
    refine aN ⟨_,rfl,?_⟩
    rw [bh3,bh3,e,aT7 i1,aT7 i2,h]
   ·show if (!decide (ns[i]=ms[i]))=true then _ else _
    rw [aU1 h]
    refine aO ⟨trivial,?_⟩
    rw [aU1 (fun z=>h (by subst z; rfl))] at q
    exact q
  ·rintro ρ ⟨z,rfl,e⟩
   rw [dM] at e
   have:ns=ms:=by
    have h1:ns.take ((ms.length:Int).toNat)=ns:=bc6 (by omega)
    have h2:ms.take ((ms.length:Int).toNat)=ms:=bc6 (by omega)
    rw [h1,h2] at e; exact e
   rw [aU5 this] at q
   exact⟨trivial,q⟩
 ·show if (!decide ((ns.length:Int)=(ms.length:Int)))=true then _ else _
  rw [aU1 (by omega)]
  refine aO ⟨trivial,?_⟩
  rw [aU1 (fun z=>hl (by rw [z]))] at q
  exact q
theorem ax0 {K:PySem.W.Frag} (k1:PySem.W.kitOne K (.type "int") (.type "int")=some true) (k2:PySem.W.kitOne K (.type "int") (.type "bool")=some false):dF (K0 K) ["found"] qJ:=by
 rintro xs Q ⟨i,rfl,q⟩
 exact⟨_,rfl,_,_,rfl,k1,_,rfl,aO ⟨_,rfl,_,_,rfl,k2,_,rfl,trivial,q⟩⟩
noncomputable def k8:bV:=fun xs Q=>∃ ws ls h,xs = [b9 ws ls,.int h]/\(∀ l ∈ ls,l.1 ≠ l.2)/\ls.length<=63/\∀ ms:List Int,ms.Perm (b8 ls h)->ms.Pairwise (· <= ·)->Q (.lst (intz ms))
noncomputable def K2:aU:=(aD (dX 2 (cI a9))
 (aD (cQ (fN (b4 (a5 0) (qC (.int 1)))) (jU 3 4)
  (aD (bD (aM (cY (a5 3) (a5 1))) (fM 2 (a5 4)) bC)
  (bD (aM (cY (a5 4) (a5 1))) (fM 2 (a5 3)) bC)))
 (aX (aC nP (a6 (a5 2) a9)))))
theorem ax1 {ls:List (Int × Int)}{i:Nat}{x:PV} (h:(dS ls)[i]? = some x):∃ l,x = .tup [.int l.1,.int l.2]/\ls[i]? = some l:=by
 unfold dS at h
 rw [aV5] at h
 cases e:ls[i]? with
 | none=>rw [e] at h; cases h
 | some n=>rw [e] at h; exact⟨n,(aW4 h).symm,rfl⟩
theorem ax2:dF K2 ["web","hearth","found","one","other"] k8:=by
 rintro xs Q ⟨ws,ls,h,rfl,hne,hl,q⟩
 refine⟨by decide,rfl,rfl,rfl,?_⟩
 refine⟨_,rfl,_,_,_,rfl,rfl,rfl,dS ls,rfl,?_,fun i ρ=>∃ y z,ρ = [some (.sh true (b9 ws ls)),si h,some (.own (.lst (intz (b8 (ls.take i) h)))),y,z],⟨none,none,?_⟩,?_,?_⟩
 ·intro z
  exact kW ls
 ·show List.set (dY _ _) _ _=_
  unfold dY
  show [some (Slot.sh (flat (b9 ws ls)) (b9 ws ls)),_,_,_,_]=_
  rw [J0]; rfl
 ·rintro i y ρ hy ⟨y0,z0,rfl⟩
  obtain ⟨l,rfl,hi⟩:=ax1 hy
  have nl:=tM (ls.take i) h
  have lt:(ls.take i).length<=63:=by rw [ba8]; omega
  have tk:=zX hi h
  refine⟨_,_,rfl,?_⟩
  generalize nT (Slot.sh (flat (b9 ws ls)) (b9 ws ls)).tag (dS ls)=gg
  refine⟨_,rfl,_,rfl,.inl ⟨_,_,rfl,rfl,_,rfl,?_⟩⟩
  by_cases h1:l.1=h
  ·show if decide (l.1=h)=true then _ else _
   rw [aU5 h1]
   rw [if_pos h1] at tk
   refine aO ⟨_,rfl,_,rfl,iB _ _,by rw [aY]; omega,?_⟩
   refine⟨_,rfl,_,rfl,.inl ⟨_,_,rfl,rfl,_,rfl,?_⟩⟩
   by_cases h2:l.2=h
   ·exact absurd (h1.trans h2.symm) (hne l (aY4 hi))
   ·show if decide (l.2=h)=true then _ else _
    rw [aU1 h2]
    rw [if_neg h2] at tk
    refine aN ⟨some (.sh (gg || true) (.int l.1)),some (.sh (gg || true) (.int l.2)),?_⟩
    rw [tk,eQ]; rfl
  ·show if decide (l.1=h)=true then _ else _
   rw [aU1 h1]
   rw [if_neg h1] at tk
   refine aN ⟨_,rfl,_,rfl,.inl ⟨_,_,rfl,rfl,_,rfl,?_⟩⟩
   by_cases h2:l.2=h
   ·show if decide (l.2=h)=true then _ else _
    rw [aU5 h2]
    rw [if_pos h2] at tk
    refine aO ⟨_,rfl,_,rfl,iB _ _,by rw [aY]; omega,some (.sh (gg || true) (.int l.1)),some (.sh (gg || true) (.int l.2)),?_⟩
    rw [tk,eQ]; rfl
   ·show if decide (l.2=h)=true then _ else _
    rw [aU1 h2]
    rw [if_neg h2] at tk
    refine aN ⟨some (.sh (gg || true) (.int l.1)),some (.sh (gg || true) (.int l.2)),?_⟩
    rw [tk,aX2,aX2]; rfl
 ·rintro ρ ⟨y,z,rfl⟩
  rw [vC,bb1]
  have:=v4 h ls hne
  exact⟨_,rfl,_,rfl,by omega,fun ms p o=>⟨trivial,q ms p o⟩⟩
end Core
namespace PySem
theorem ax3:fillsNumberSlot (.type "tuple") "mul" = pure false:=
 fillsNumberSlot_seq (id:="tuple.__mul__") (r:=some (.builtin "tuple.__rmul__")) F.slot_tuple_mul.lookup (by decide +kernel) F.slot_tuple_rmul.lookup (by decide +kernel)
theorem ax4:seqRepeat? (.type "tuple")=pure (some (.builtin "tuple.__mul__")):=by
 unfold seqRepeat?
 rw [seqSlot_of (T:="tuple") (name:="__mul__") (id:="tuple.__mul__") F.slot_tuple_mul.lookup (by decide +kernel),seqSlot_of (T:="tuple") (name:="__rmul__") (id:="tuple.__rmul__") F.slot_tuple_rmul.lookup (by decide +kernel)]
 rfl
theorem ax5 (a:Int) (t:Tok) (l:Addr) (items:Array Value) (n:Nat) (dd:Option Addr) (sl:Array (Option Value)) :
  Meets (Builtin.«int.__rmul__» ⟨[.int a t,.ref l],[]⟩) (fun _ R s=>s.heap.get? l=some { cls:=.type "tuple",dict:=dd,data:=.seq items n,slots:=sl }/\R (.ok (.ret Value.notImplemented)) s):=
 .of_wp fun prog w A R s h=>by obtain ⟨hp,g,d,tk,os⟩:=s; obtain ⟨hl,h⟩:=h; wp_walk; exact⟨_,rfl,h⟩
theorem ax6 (l:Addr) (items:Array Value) (n:Nat) (dd:Option Addr) (sl:Array (Option Value)) (x:Int) (u:Tok) (h0:items.isEmpty=false) (h1:2<=x) (h2:items.size * x.toNat<=sizeLine) (h3:x<=1000000) :
  Meets (Builtin.«tuple.__mul__» ⟨[.ref l,.int x u],[]⟩) (fun _ R s=>s.heap.get? l=some { cls:=.type "tuple",dict:=dd,data:=.seq items n,slots:=sl }/\R (.ok (.ret (Value.ref s.heap.objs.size))) { s with heap:=s.heap.push { cls:=Value.type "tuple",data:=Data.seq (List.foldl (fun x1 x2=>x1 ++ x2) #[] (List.replicate x.toNat items)) } }):=
 .of_wp fun prog w A R s h=>by
  obtain ⟨hp,g,d,tk,os⟩:=s; obtain ⟨hl,h⟩:=h
  have c1:(decide (x < -(2 ^ 63)) || decide (x >= 2 ^ 63))=false:=by
   rw [Bool.or_eq_false_iff]; exact⟨aU1 (by omega),aU1 (by omega)⟩
  have c2:(items.isEmpty || x == 1)=false:=by rw [h0,Bool.false_or]; exact bh7.mpr (by omega)
  have c3:(decide (x<=0) || items.isEmpty)=false:=by rw [h0,Bool.or_false]; exact aU1 (by omega)
  have hsz:((items.size:Nat):Int) * x=((items.size * x.toNat:Nat):Int):=by rw [Int.natCast_mul]; congr 1; omega
  have hl63:(sizeLine:Nat)<=(2 ^ 63 - 1) / 8:=by decide
  have c4:decide (((items.size:Nat):Int) * x > (2 ^ 63 - 1) / 8)=false:=aU1 (by rw [hsz]; omega)
  have c5:Builtin.Tuple.tupleTooMany (((items.size:Nat):Int) * x)=false:=by
   rw [hsz]
   unfold Builtin.Tuple.tupleTooMany
   exact aU1 (by omega)
  wp_walk
  refine wpAny_ite_false (by rw [c1]; rfl) ?_
  wp_walk
  refine wpAny_ite_false (by rw [c2]; rfl) ?_
  wp_walk
  refine wpAny_ite_false (by rw [c3]; rfl) ?_
  wp_walk
  refine wpAny_ite_false c4 ?_
  wp_walk
  refine wpAny_ite_false (by rw [c5]; rfl) ?_
  wp_walk
  have f0:∀ (m:Nat) (acc:Array Value),(List.foldl (fun x1 x2=>x1 ++ x2) acc (List.replicate m items)).size=acc.size+m * items.size:=fun m=>by
   induction m with
   | zero=>intro acc; simp
   | succ m ih=>intro acc; rw [aZ2,List.foldl_cons,ih,Array.size_append,Nat.succ_mul]; omega
  have c6:decide ((List.foldl (fun x1 x2=>x1 ++ x2) #[] (List.replicate x.toNat items)).size > sizeLine)=false:=aU1 (by
   rw [f0 x.toNat #[]]
   have:x.toNat * items.size=items.size * x.toNat:=Nat.mul_comm _ _
   simp only [Array.size_empty]
   omega)
  refine wpAny_ite_false c6 ?_
  wp_walk
  exact⟨_,rfl,h⟩
end PySem
namespace PP
open PySem L2 PyProof.Rows
noncomputable def K3 (K:PySem.W.Frag):R2:=fun x y H Q=>∃ l k xs,x = .ref l/\y = .int k/\aH K H l xs/\xs ≠ []/\2<=k/\k<=1000000/\xs.length * k.toNat<=sizeLine/\∀ p,H p=none->Q (.ref p) (upd H p (.tup (List.replicate k.toNat xs).flatten))
theorem ax7 {X:Cx}:c9 X (binaryOp .Mult) (K3 X.K):=by
 intro pins s σ H x y v u Q I rx ry h
 obtain ⟨l,k,xs,rfl,rfl,hH,hne,h1,h2,hz,q⟩:=h
 cases rx
 obtain ⟨t,rfl⟩:=ry
 obtain ⟨its,r,p,_⟩:=I.tuple hH
 obtain ⟨⟨cls,dd,data,sl⟩,ho,hc,n,hd⟩:=id p
 simp only at hc hd
 subst hc hd
 have hl:=r.length
 have hemp:its.toArray.isEmpty=false:=by
  cases its with
  | nil=>exact absurd (r.nil_iff.mp rfl) hne
  | cons a b=>rfl
 refine wpAny_binaryOp_repeat_ref (T:="tuple") (U:="int") (by decide) ⟨_,ho,rfl⟩ (fun s'=>typeIs_int s' k t) ax3 F.fills_int_mul F.slot_int_rmul ax4 F.slot_int_index.lookup
  (call_meets F.slot_int_rmul (typeIs_int s k t) F.entry_int_rmul (F.args_int_rmul_2 _ _) (ax5 k t l its.toArray n dd sl)
   ⟨ho,rfl,⟨_,ho,rfl⟩,call_meets F.slot_tuple_mul ⟨_,ho,rfl⟩ F.entry_tuple_mul (F.args_tuple_mul_2 _ _) (ax6 l its.toArray n dd sl k t hemp h1 (by rw [aT8,<- hl]; exact hz) h2) ⟨ho,?_⟩⟩)
 have f0:List.foldl (fun x1 x2=>x1 ++ x2) #[] (List.replicate k.toNat its.toArray)=(List.replicate k.toNat its).flatten.toArray:=by
  have:=sV its k.toNat []
  rw [List.nil_append] at this
  exact this
 rw [f0]
 refine⟨.ref s.heap.objs.size,_,I.laid (t':=s.toks) (o:=.tup (List.replicate k.toNat xs).flatten) (fun b ob q=>aT5 _ q) (aT9 _) ?_,rfl,q _ (I.hok.fresh (aT9 _))⟩
 exact⟨by rw [yP,Nat.mul_comm]; exact hz,_,r.rep k.toNat,IsTup.new _ _,gI.new _ _ rfl⟩
theorem Reps.rep {K:PySem.W.Frag}{M:Addr->Prop}{H:Hp}{us:List V}{xs:List PV} (r:Reps K M H us xs):∀ k:Nat,Reps K M H (List.replicate k us).flatten (List.replicate k xs).flatten
 | 0=>.nil
 | k+1=>by rw [aZ2,aZ2,be1,be1]; exact r.append (Reps.rep r k)
section
variable {X : Cx} {a b e : Expr} {ta tb te : aF} {tr : cS} {pos p2 p3 pos2 : Pos}
theorem ax8:dL X vB (K3 X.K):=by
 rintro W Hs H u v x y g g' Q Q' s n r1 r2 ⟨xs,m,rfl,rfl,f,ne,h1,h2,hl,q⟩ k
 cases r2
 obtain ⟨a,us,rfl,h,r⟩:=r1.sqT
 have lr:=r.length
 refine⟨a,m,us,rfl,rfl,aH.of h,fun z=>ne (by cases xs with | nil=>rfl | cons _ _=>rw [z] at lr; cases lr),h1,h2,lim ?_,fun p hp=>k _ _ _ .fr (bE hp _) (.tup bI (((r.flat f).rep m.toNat).same (bE hp _) fun _ z=>z)) q⟩
 have h3:us.length<=10:=by omega
 have h4:m.toNat<=1000000:=by omega
 calc us.length * m.toNat<=10 * 1000000:=Nat.mul_le_mul h3 h4
  _<=16000000:=by decide
theorem ax9 (ha:QE X a ta) (hb:QE X b tb):QE X (.BinOp a .Mult b pos) (q2 vB ta tb):=iO ax7 ax8 ha hb
theorem ay0 {tA:TA} (hg:Gl X "range") (hm:X.mg "range" = none) (ha:PA X [a] tA) (hs:starEach [a] X.env = [(false,eval a X.env)]:=by rfl) :
  PE X (.Call (.Name "range" p2) [a] [] pos) (fun σ H Q=>tA σ H fun vs H1=>∃ j:Int,vs = [.int j]/\∀ r,H1 r=none->Q (.ref r) (upd H1 r (.rng 0 j))):=by
 intro pins s σ H Q I h
 refine Call_ (gY I hg hm boot_range (aY7 (aP (ha pos pins s σ H _ I h) fun us s1 ⟨vs,H1,I1,r1,q1⟩=>?_) hs rfl))
 obtain ⟨j,e,q⟩:=q1
 subst e
 cases r1 with
 | cons r rr=>
  cases rr
  obtain ⟨t,rfl⟩:=r
  refine call_range_1 ?_
  exact⟨.ref s1.heap.objs.size,_,I1.laid (o:=.rng 0 j) (fun b ob q=>aT5 _ q) (aT9 _) ⟨_,_,_,aU0 _ rfl⟩,rfl,q _ (I1.hok.fresh (aT9 _))⟩
theorem K4:∀ {xs:List V}{us:List Value},xs.length=us.length->(∀ (i:Nat) x u,xs[i]? = some x->us[i]? = some u->aW x u)->aJ xs us
 | [],[],_,_=>.nil
 | x :: xs,u :: us,hl,h=>.cons (h 0 x u rfl rfl) (K4 (by simpa using hl) fun i y w h1 h2=>h (i+1) y w (by rw [bd4]; exact h1) (by rw [bd4]; exact h2))
theorem ay1 {n:Nat}{acc:Array Value} (h:ItemsOf (fun i v=>∃ t,v = .int (0+(i:Int) * 1) t) acc n):aJ (j6 0 n) acc.toList:=by
 obtain ⟨h1,h2⟩:=h
 refine K4 (by rw [tE]; simp [h1]) fun i x u hx hu=>?_
 have hi:i < n:=by
  have:=(aV0.mp hx).1
  rwa [tE] at this
 unfold j6 at hx
 rw [aV5,List.getElem?_range hi] at hx
 cases hx
 obtain ⟨t,rfl⟩:=h2 i u (by rw [<- ba4]; exact hu)
 exact⟨t,by congr 1; omega⟩
theorem ay2 (hc:X.calm=true):cO X (.type "list") (fun xs H Q=>∃ r j,xs = [.ref r]/\H r=some (.rng 0 j)/\0<=j/\j<=1000000/\∀ l,H l=none->Q (.ref l) (upd H l (.lst (j6 0 j.toNat)))):=by
 intro pins s σ H xs us Q I r h
 obtain ⟨p,j,rfl,hq,h0,h1,q⟩:=h
 obtain ⟨u,rfl,rx⟩:=fU r
 cases rx
 obtain ⟨t,u,v,ho⟩:=(show bO X.prog X.w H s.heap p (.rng 0 j) from I.hok p _ hq)
 refine PySem.call_list_range (a:=0) (b:=j) (c:=1) (n:=j.toNat) (I.ok.hd hc) ho (small_one (by decide) (by decide) (by omega) (by omega)) (by rw [rangeSize_one]; split <;> omega) (by omega) fun h' tk acc' c' kp e it=>?_
 have vv:=ay1 it
 have eq:acc'.toList.toArray=acc':=by simp
 exact⟨.ref s.heap.objs.size,_,I.laid (t':=tk) (o:=.lst (j6 0 j.toNat)) kp (aT9 _) ⟨by rw [tE]; exact lim (by omega),acc'.toList,c',vv,by rw [eq]; exact e⟩,rfl,q _ (I.hok.fresh (aT9 _))⟩
theorem ay3 {K:PySem.W.Frag}{M:Addr->Prop}{H:Hp} (lo:Int) (n:Nat):Reps K M H (j6 lo n) (fB lo n):=by
 unfold j6 fB
 generalize List.range n=l
 induction l with
 | nil=>exact .nil
 | cons a r ih=>exact .cons (.int _) ih
theorem ay4 (B:Bt X.mg) (ha:QE X a ta) (hc:X.calm=true:=by rfl) (hg:Gl X "list":=by rfl) (hgr:Gl X "range":=by rfl) (hs:starEach [a] X.env = [(false,eval a X.env)]:=by rfl)
  (he:starEach [.Call (.Name "range" p3) [a] [] pos2] X.env=(false,eval (.Call (.Name "range" p3) [a] [] pos2) X.env) :: starEach [] X.env:=by rfl) (hpl:(backTo pos (starEach [] X.env)).any (·.1)=false:=by rfl) :
  QE X (.Call (.Name "list" p2) [.Call (.Name "range" p3) [a] [] pos2] [] pos) (J6 ta):=
 cJ (sL (ay2 hc) hg B.list PyProof.Rows.boot_list (cP (ay0 hgr B.range (cP ha dB hs) hs) dB he) (he:=he) (hpl:=hpl)) fun σ H Q' h=>by
  obtain ⟨W,ρ,Q,px,q,k⟩:=h
  refine⟨W,ρ,_,px,q,?_⟩
  rintro v H1 x g s r ⟨n,rfl,h0,h1,q⟩
  cases r
  refine⟨n,rfl,fun r hr=>⟨r,n,rfl,bI,h0,h1,fun l hl=>?_⟩⟩
  have S:aE H (upd (upd H1 r (.rng 0 n)) l (.lst (j6 0 n.toNat))):=(s.trans (bE hr _)).trans (bE hl _)
  exact k _ _ _ .fr S (.lst (((s.trans (bE hr _))).free hl) bI (ay3 0 n.toNat)) q
theorem ay5:fX X qI (fun xs H Q=>∃ a kvs,xs = [.ref a]/\H a=some (.dT kvs)/\∀ l ys,H l=none->Paired (pE H) ys (kvs.map (·.1))->Q (.ref l) (upd H l (.lst ys))):=by
 rintro H vs xs Q Q' r ⟨ps,rfl,q⟩ k
 obtain ⟨v,rfl,r1⟩:=r.one
 cases r1 with
 | @dT a kvs _ m h e r2=>
  refine⟨a,kvs,rfl,h,fun l ys hl pr=>k _ _ _ (bE hl _) (.lst hl bI ?_) q⟩
  have kv:∀ (k:List aS),Reps X.K (fun a=>H a=none) H (k.map kV) (k.map kP):=fun k=>by
   induction k with
   | nil=>exact .nil
   | cons a r ih=>exact .cons (by cases a <;> constructor) ih
  have go:∀ {ys:List V}{ks:List (List aS)},Paired (pE H) ys ks->Reps X.K (fun a=>H a=none) H ys (ks.map fun k=>PV.tup (k.map kP)):=fun {ys ks} pr=>by
   induction pr with
   | nil=>exact .nil
   | cons h t ih=>
    obtain ⟨q,rfl,hq⟩:=h
    exact .cons (.tup hq (kv _)) ih
  have e2:(ps.map fun p=>PV.tup (p.1.map kP))=(kvs.map (·.1)).map fun k=>PV.tup (k.map kP):=by rw [e,bh9]; rfl
  rw [e2]
  exact (go pr).same (bE hl _) fun _ z=>z
theorem ay6 (B:Bt X.mg) (hc:X.calm=true) (ha:QA X [e] tr) (hg:Gl X "list":=by rfl) (he:starEach [e] X.env=(false,eval e X.env) :: starEach [] X.env:=by rfl) (hpl:(backTo pos (starEach [] X.env)).any (·.1)=false:=by rfl):QE X (.Call (.Name "list" p2) [e] [] pos) (aC qI tr):=
 uJ (ak7 hc) ay5 hg B.list PyProof.Rows.boot_list ha (he:=he) (hpl:=hpl)
noncomputable def vD:V->Int
 | .int i=>i
 | _=>0
noncomputable def kY (H:Hp):V->List Int
 | .ref a=>match H a with
  | some (.tup us)=>us.map vD
  | _=>[]
 | _=>[]
theorem ay7 {H:Hp}{a:Addr}{ns:List Int} (h:H a=some (.tup (ns.map V.int))):kY H (.ref a)=ns:=by
 show (match H a with | some (.tup us)=>us.map vD | _=>[])=ns
 rw [h]
 show (ns.map V.int).map vD=ns
 rw [bh9]
 exact List.map_id _
theorem K5 {K:PySem.W.Frag}{M:Addr->Prop}{H:Hp}:∀ {us:List V}{ys:List (List Int)},Reps K M H us (ys.map fun r=>PV.tup (intz r))->us.map (kY H)=ys/\∀ u ∈ us,∃ b,u = .ref b/\H b=some (.tup ((kY H u).map V.int))
 | _,[],.nil=>⟨rfl,fun u h=>nomatch h⟩
 | _,y :: ys,.cons r t=>by
  obtain ⟨a,us,rfl,h,r1⟩:=r.sqT
  obtain rfl:=r1.ofInts
  obtain ⟨h1,h2⟩:=K5 t
  have hk:=ay7 h
  refine⟨by rw [ba1,h1,hk],fun u hu=>?_⟩
  rcases aU2.mp hu with rfl | hu
  ·exact⟨a,rfl,by rw [hk]; exact h⟩
  ·exact h2 u hu
theorem K6 {K:PySem.W.Frag}{M:Addr->Prop}{H:Hp}:∀ {us:List V},(∀ u ∈ us,∃ b,u = .ref b/\H b=some (.tup ((kY H u).map V.int)))->Reps K M H us ((us.map (kY H)).map fun r=>PV.tup (intz r))
 | [],_=>.nil
 | u :: us,h=>by
  obtain ⟨b,rfl,hb⟩:=h u aV2
  exact .cons (.tup hb (Reps.intz _)) (K6 fun v hv=>h v (aV3 _ hv))
theorem ay8:fX X o9 (zU X.K):=by
 rintro H vs xs Q Q' r ⟨ys,rfl,hl,hne,q⟩ k
 obtain ⟨v,rfl,r1⟩:=r.one
 obtain ⟨a,us,rfl,_,h,r2⟩:=r1.sqL
 obtain ⟨h1,h2⟩:=K5 r2
 have lr:=r2.length
 rw [aU7] at lr
 refine⟨a,us,kY H,rfl,aK.of h,by omega,fun y hy=>?_,fun l zs hl' pm so=>?_⟩
 ·obtain ⟨b,rfl,hb⟩:=h2 y hy
  refine⟨b,rfl,aH.of hb,hne _ ?_⟩
  rw [<- h1]; exact bd3.mpr ⟨_,hy,rfl⟩
 ·have hz:∀ u ∈ zs,∃ b,u = .ref b/\H b=some (.tup ((kY H u).map V.int)):=fun u hu=>h2 u (pm.mem_iff.mp hu)
  refine k _ _ _ (bE hl' _) (.lst hl' bI ((K6 hz).same (bE hl' _) fun _ z=>z)) (q _ ?_ ?_)
  ·rw [<- h1]; exact pm.map _
  ·rw [bh2]; exact so
theorem K7 (B:Bt X.mg) (ha:QA X [e] tr) (hg:Gl X "sorted":=by rfl) (he:starEach [e] X.env=(false,eval e X.env) :: starEach [] X.env:=by rfl) (hpl:(backTo pos (starEach [] X.env)).any (·.1)=false:=by rfl):QE X (.Call (.Name "sorted" p2) [e] [] pos) (aC o9 tr):=
 kS ak2 ay8 hg B.sorted PyProof.Rows.boot_sorted ha (he:=he) (hpl:=hpl)
end
noncomputable def K8 (K:PySem.W.Frag):Sp:=fun vs H Q _=>∃ (a:Addr) (ns:List Int),vs = [.ref a]/\(aH K H a (ns.map V.int) ∨ aK K H a (ns.map V.int))/\ns.length<=1000/\∀ H',aE H H'->Q (.bl (Core.dQ ns)) H'
noncomputable def K9:Sp:=fun vs H Q _=>∃ v ws ls,vs = [v]/\zW H v ws ls/\ws.length<=1000/\ls.length<=2000/\(∀ l ∈ ls,(0<=l.1/\l.1 < ws.length)/\0<=l.2/\l.2 < ws.length)/\
 ∀ (r:Addr) (bs:List Addr) (H':Hp),bs.length=ws.length->j7 H H' r bs (fun k=>b8 ls k)->Q (.ref r) H'
section
variable {P : Program} {w : World} {K : PySem.W.Frag} {mg : Str → Option Value} {base : Heap} {f : Addr} {fd : FuncData} {k : Nat}
theorem ay9 (F:cU P w K mg base dW k f fd ["things"] (K8 K)) (b:iJ K fd ["things"] []) (kp:PySem.W.keepIn K (.ref f)=true) (m:mg "rises" = some (.ref f)):Df P w K mg base k "rises" ["things"] Core.o8:=by
 refine⟨f,fd,F.imp fun vs H Q E h=>?_,b,kp,m⟩
 obtain ⟨xs,Qp,r,⟨x,ns,rfl,hx,hl,q⟩,k⟩:=h
 obtain ⟨v,rfl,r1⟩:=r.one
 rcases hx with rfl | rfl
 ·obtain ⟨a,us,rfl,h,r2⟩:=r1.sqT
  obtain rfl:=r2.ofInts
  exact⟨a,ns,rfl,.inl (aH.of h),hl,fun H' s=>k _ H' _ s (.bl _) q⟩
 ·obtain ⟨a,us,rfl,_,h,r2⟩:=r1.sqL
  obtain rfl:=r2.ofInts
  exact⟨a,ns,rfl,.inr (aK.of h),hl,fun H' s=>k _ H' _ s (.bl _) q⟩
theorem L4 {M:Addr->Prop}{H:Hp}:∀ {us:List V}{ls:List (Int × Int)},Reps K M H us (ls.map fun l=>PV.tup [.int l.1,.int l.2])->nL H us ls
 | _,[],.nil=>.nil
 | _,l :: ls,.cons r t=>by
  obtain ⟨a,us,rfl,h,r1⟩:=r.sqT
  obtain ⟨u1,u2,rfl,q1,q2⟩:=r1.two
  cases q1; cases q2
  exact .cons ⟨a,rfl,h⟩ (L4 t)
theorem az0 {M:Addr->Prop}{H:Hp}{v:V}{ws:List Int}{ls:List (Int × Int)} (r:aI K M H v (Core.b9 ws ls)):zW H v ws ls:=by
 obtain ⟨a,us,rfl,h,r1⟩:=aI.sqT r
 obtain ⟨u1,u2,rfl,q1,q2⟩:=r1.two
 obtain ⟨p,up,rfl,hp,rp⟩:=q1.sqT
 obtain ⟨q,uq,rfl,hq,rq⟩:=q2.sqT
 obtain rfl:=rp.ofInts
 exact⟨a,p,q,uq,rfl,h,hp,hq,L4 rq⟩
theorem L5 {M:Addr->Prop}{H:Hp}:∀ {bs:List Addr}{ls:List (Int × Int)} (off:Nat),(∀ b ∈ bs,M b)->(∀ (k:Nat) b,bs[k]? = some b->H b=some (.lst ((b8 ls ((off+k:Nat):Int)).map V.int)))->Reps K M H (bs.map V.ref) ((List.range' off bs.length).map fun (k:Nat)=>PV.lst (intz (b8 ls k)))
 | [],_,_,_,_=>.nil
 | b :: bs,ls,off,hm,h=>by
  refine .cons (.lst (hm b aV2) (h 0 b rfl) (Reps.intz _)) (L5 (off+1) (fun c hc=>hm c (aV3 _ hc)) fun k c hk=>?_)
  have:=h (k+1) c (by rw [bd4]; exact hk)
  rw [show off+1+k=off+(k+1) by omega]; exact this
theorem az1 (F:cU P w K mg base dW k f fd ["web"] K9) (b:iJ K fd ["web"] []) (kp:PySem.W.keepIn K (.ref f)=true) (m:mg "near_lists" = some (.ref f)):Df P w K mg base k "near_lists" ["web"] Core.vA:=by
 refine⟨f,fd,F.imp fun vs H Q E h=>?_,b,kp,m⟩
 obtain ⟨xs,Qp,r,⟨ws,ls,rfl,wb,q⟩,k⟩:=h
 obtain ⟨v,rfl,r1⟩:=r.one
 have:=wb.few
 have:=wb.most
 refine⟨v,ws,ls,rfl,az0 r1,by omega,by omega,wb.links,fun t bs H' hb R=>k _ H' _ R.same (.lst R.new R.row ?_) q⟩
 have:=L5 (K:=K) (M:=fun a=>H a=none) (H:=H') (bs:=bs) (ls:=ls) 0 (fun b hb=>(R.news b hb).1) fun k b hk=>by rw [Nat.zero_add]; exact R.rows k b hk
 rw [hb,<- List.range_eq_range'] at this
 exact this
end
end PP
namespace Core
open PySem L2 PP
theorem L6 (n:Nat):fB 0 n=intz (rng n):=by
 unfold fB rng
 show _=List.map PV.int (List.map (fun (i:Nat)=>(i:Int)) (List.range n))
 rw [bh9]
 refine List.map_congr_left fun i _=>?_
 show PV.int (0+(i:Int))=PV.int (i:Int)
 rw [Int.zero_add]
theorem L7 (n:Nat):(rng n).Nodup:=by
 unfold rng
 rw [List.nodup_iff_pairwise_ne,bh2]
 exact (List.nodup_range (n:=n)).imp fun h e=>h (by omega)
noncomputable def two (l:Int × Int):List Int:=[l.1,l.2]
noncomputable def oB (r:List Int):Int × Int:=(r.getD 0 0,r.getD 1 0)
theorem qL (ls:List (Int × Int)):dS ls=(ls.map two).map fun r=>PV.tup (intz r):=by
 unfold dS
 rw [bh9]; rfl
theorem L8 {zs:List (List Int)}{ls:List (Int × Int)} (h:zs.Perm (ls.map two)):∃ ls':List (Int × Int),zs=ls'.map two/\ls'.Perm ls:=by
 refine⟨zs.map oB,?_,?_⟩
 ·rw [bh9]
  have:∀ z ∈ zs,(two ∘ oB) z=z:=fun z hz=>by
   obtain ⟨l,_,rfl⟩:=bd3.mp (h.mem_iff.mp hz)
   rfl
  rw [List.map_congr_left this,List.map_id']
 ·have:=h.map oB
  rw [bh9] at this
  have e:ls.map (oB ∘ two)=ls:=by
   have:∀ l ∈ ls,(oB ∘ two) l=id l:=fun l _=>rfl
   rw [List.map_congr_left this,List.map_id]
  rw [e] at this
  exact this
theorem az2 (n:Nat):(List.replicate n [PV.int 1]).flatten=intz (List.replicate n 1):=by
 induction n with
 | zero=>rfl
 | succ n ih=>rw [aZ2,be1,ih,aZ2]; rfl
noncomputable def qM:bV:=fun xs Q=>∃ c n:Int,xs = [.int c,.int n]/\9<=n/\n<=40/\∀ ws ls,cL n ws ls->Q (b9 ws ls)
noncomputable def L9:aU:=(aD (dX 2 (J6 (a5 1)))
 (aD (dX 3 (cI a9))
 (aD (cQ (eJ (a5 1)) (bZ 4)
  (aD (b6 5 (aR (eL (dE (dE (aR (a5 0) (qC (.int 1000000007))) (eL (a5 4) (a5 4))) (qC (.int 1))) (qC (.int 48271))) (qC (.int 2147483647))))
  (u4 3 2 (aR (bR (aR (eL (a5 5) (a5 5)) (qC (.int 1000003))) (qC (.int 8))) (aC bU (a6 (a5 2) a9))))))
 (aD (dX 6 (cI a9))
 (aD (cQ (pM (qC (.int 1)) (a5 1)) (bZ 4)
  (fM 6 (bB (a6 (aC nQ (a6 (b4 (a5 3) (nU (a5 4) (qC (.int 1)))) (a6 (b4 (a5 3) (a5 4)) a9))) (a6 (aC lV (a6 (b4 (a5 3) (nU (a5 4) (qC (.int 1)))) (a6 (b4 (a5 3) (a5 4)) a9))) a9)))))
 (aX (bB (a6 (aw6 (bB (a6 (qC (.int 1)) a9)) (a5 1)) (a6 (aC dN (a6 (aC o9 (a6 (a5 6) a9)) a9)) a9)))))))))
theorem M0 (f:Int->PV):∀ (l:List Int) (i:Nat),(l.map f).eraseIdx i=(l.eraseIdx i).map f
 | [],_=>rfl
 | _ :: _,0=>rfl
 | a :: r,i+1=>by
  show f a :: (r.map f).eraseIdx i=f a :: (r.eraseIdx i).map f
  rw [M0 f r i]
theorem az3 {left row:List Int}{m:Nat}{y:Int} (h:left[m]? = some y):(left.eraseIdx m ++ (row ++ [y])).Perm (left ++ row):=by
 have hm:m < left.length:=(aV0.mp h).1
 have e:left=left.take m ++ y :: left.drop (m+1):=by
  have h1:=(List.take_append_drop m left).symm
  rw [List.drop_eq_getElem_cons hm] at h1
  rw [aT7 hm] at h
  cases h
  exact h1
 rw [List.eraseIdx_eq_take_drop_succ]
 conv=>rhs; rw [e]
 rw [bj4,bj4]
 refine List.Perm.append_left _ ?_
 rw [List.cons_append,<- bj4]
 exact List.perm_append_singleton y _
theorem az4 {ls:List (Int × Int)} (so:(ls.map two).Pairwise fun u v=>HT.fH v u=false) (nd:ls.Nodup):ls.Pairwise iU:=by
 rw [bh2] at so
 refine (List.pairwise_and_iff.mpr ⟨so,nd⟩).imp fun {a b} h=>?_
 obtain ⟨h1,h2⟩:=h
 unfold two at h1
 rw [HT.mV] at h1
 unfold iU
 by_cases e:b.1=a.1
 ·rw [if_pos e,HT.mV] at h1
  by_cases e2:b.2=a.2
  ·exact absurd (Prod.ext e.symm e2.symm) h2
  ·rw [if_neg e2] at h1
   have:=bg1 h1
   omega
 ·rw [if_neg e] at h1
  have:=bg1 h1
  omega
theorem cL.perm {n:Int}{ws:List Int}{ls ls':List (Int × Int)} (h1:(ws.length:Int)=n) (h2:∀ l ∈ ls,0<=l.1/\l.1 < l.2/\l.2 < n) (h3:ls.length<=63) (nd:ls.Nodup) (h4:∀ w ∈ ws,0<=w) (p:ls'.Perm ls) (so:(ls'.map two).Pairwise fun u v=>HT.fH v u=false):cL n ws ls':=
 ⟨h1,fun l hl=>h2 l (p.mem_iff.mp hl),by rw [p.length_eq]; exact h3,az4 so (p.nodup_iff.mpr nd),h4⟩
structure qN (row:List Int) (ls:List (Int × Int)) (j:Nat):Prop where
 nd:ls.Nodup
 src:∀ l ∈ ls,∃ i,i < j/\∃ a b,row[i]? = some a/\row[i+1]? = some b/\((l.1=a/\l.2=b) ∨ (l.1=b/\l.2=a))
theorem qN.add {row:List Int}{ls:List (Int × Int)}{j:Nat}{p r:Int}{l:Int × Int} (h:qN row ls j) (nd:row.Nodup) (hp:row[j]? = some p) (hr:row[j+1]? = some r) (hl:(l.1=p/\l.2=r) ∨ (l.1=r/\l.2=p)):qN row (ls ++ [l]) (j+1):=by
 have same:∀ {i k:Nat}{a:Int},row[i]? = some a->row[k]? = some a->i=k:=fun {i k a} h1 h2=>by
  obtain ⟨i1,e1⟩:=aV0.mp h1
  obtain ⟨k1,e2⟩:=aV0.mp h2
  have pw:=bc1.mp nd
  rcases Nat.lt_trichotomy i k with h | h | h
  ·exact absurd (e1.trans e2.symm) (pw i k i1 k1 h)
  ·exact h
  ·exact absurd (e2.trans e1.symm) (pw k i k1 i1 h)
 refine⟨bh4.mpr ⟨h.nd,aY0 _ _,fun x hx y hy e=>?_⟩,fun m hm=>?_⟩
 ·rw [aU3.mp hy] at e
  obtain ⟨i,hi,a,b,ha,hb,c⟩:=h.src x hx
  rw [e] at c
  rcases hl with ⟨l1,l2⟩ | ⟨l1,l2⟩ <;> rcases c with ⟨c1,c2⟩ | ⟨c1,c2⟩
  ·have:=same (a:=r) hr (by rw [<- l2,c2]; exact hb); omega
  ·have:=same (a:=r) hr (by rw [<- l2,c2]; exact ha); omega
  ·have:=same (a:=r) hr (by rw [<- l1,c1]; exact ha); omega
  ·have:=same (a:=r) hr (by rw [<- l1,c1]; exact hb); omega
 ·rcases aW8.mp hm with hm | hm
  ·obtain ⟨i,hi,r⟩:=h.src m hm
   exact⟨i,by omega,r⟩
  ·rw [aU3.mp hm]
   exact⟨j,by omega,p,r,hp,hr,hl⟩
theorem M1 (ws:List Int) (ls:List (Int × Int)):flats [.tup (intz ws),.tup (dS ls)]=true:=J0 ws ls
theorem az5:dF L9 ["cell","many","left","row","k","number","links"] qM:=by
 rintro xs Q ⟨c,n,rfl,n0,n1,q⟩
 refine⟨_,rfl,n,rfl,by omega,by omega,rfl,?_,?_⟩
 ·show flats (fB 0 n.toNat)=true
  rw [L6]; exact bT _
 rw [L6]
 refine⟨by decide,rfl,rfl,rfl,?_⟩
 refine⟨_,rfl,n,rfl,by omega,by omega,fun i ρ=>∃ (y z:Option Slot) (left row:List Int),ρ = [si c,si n,some (.own (.lst (intz left))),some (.own (.lst (intz row))),y,z,none]/\(left ++ row).Perm (rng n.toNat)/\row.length=i,
  ⟨none,none,rng n.toNat,[],rfl,by rw [aX2],rfl⟩,?_,?_⟩
 ·rintro i y ρ hy ⟨y0,z0,left,row,rfl,pm,hr⟩
  obtain ⟨rfl,hi⟩:=fE hy
  have hll:left.length+row.length=n.toNat:=by
   have:=pm.length_eq
   rw [aU6,jJ] at this
   exact this
  refine⟨_,rfl,_,_,rfl,rfl,(by show (0:Int) < 1000000007; decide),_,rfl,_,rfl,_,_,rfl,rfl,.inl ⟨by omega,by omega⟩,_,_,rfl,rfl,_,_,rfl,rfl,_,_,rfl,rfl,.inr ⟨by decide,by decide⟩,_,_,rfl,rfl,(by show (0:Int) < 2147483647; decide),trivial,?_⟩
  dsimp only
  generalize hnum:((c % 1000000007+(0+(i:Int)) * (0+(i:Int))+1) * 48271) % 2147483647=num
  have b1:0<=num:=by rw [<- hnum]; exact aX5 _ (by decide)
  have b2:num < 2147483647:=by rw [<- hnum]; exact aX1 _ (by decide)
  have uT:(0:Int) < ((intz left).length:Nat):=by rw [aY]; omega
  refine⟨_,_,by decide,rfl,rfl,_,rfl,_,rfl,_,_,rfl,rfl,.inl ⟨by omega,by omega⟩,_,_,rfl,rfl,(by show (0:Int) < 1000003; decide),_,_,rfl,rfl,⟨by decide,by decide⟩,_,rfl,_,_,rfl,rfl,_,_,rfl,rfl,uT,?_⟩
  dsimp only
  generalize hv:(num * num % 1000003 / 8) % (((intz left).length:Nat):Int)=v
  have v1:0<=v:=by rw [<- hv]; exact aX5 _ (by omega)
  have v2:v < ((intz left).length:Nat):=by rw [<- hv]; exact aX1 _ uT
  have v3:v.toNat < left.length:=by rw [aY] at v2; omega
  refine⟨v.toNat,.int left[v.toNat],congrArg PV.int (by omega),by rw [aY]; omega,by rw [aY]; omega,by rw [aV5,aT7 v3]; rfl,?_⟩
  refine⟨si (0+(i:Int)),si num,left.eraseIdx v.toNat,row ++ [left[v.toNat]],?_,(az3 (aT7 v3)).trans pm,by rw [aU6,hr]; rfl⟩
  have e1:(intz left).eraseIdx v.toNat=intz (left.eraseIdx v.toNat):=M0 _ _ _
  rw [eQ,<- e1]; rfl
 rintro ρ ⟨y0,z0,left,row,rfl,pm,hr⟩
 rw [dM] at hr
 have hll:left.length+row.length=n.toNat:=by
  have:=pm.length_eq
  rw [aU6,jJ] at this
  exact this
 have hl0:left = []:=List.length_eq_zero_iff.mp (by omega)
 subst hl0
 rw [List.nil_append] at pm
 have nd:row.Nodup:=pm.nodup_iff.mpr (L7 _)
 have inn:∀ x ∈ row,0<=x/\x < n:=fun x hx=>by
  have:=iA.mp (pm.mem_iff.mp hx); omega
 refine⟨by decide,rfl,rfl,rfl,?_⟩
 refine⟨_,rfl,1,n,rfl,rfl,by omega,fun j ρ=>∃ (y:Option Slot) (ls:List (Int × Int)),ρ = [si c,si n,some (.own (.lst (intz []))),some (.own (.lst (intz row))),y,z0,some (.own (.lst (dS ls)))]/\(∀ l ∈ ls,0<=l.1/\l.1 < l.2/\l.2 < n)/\ls.length=j/\qN row ls j,
  ⟨y0,[],rfl,(fun _ h=>nomatch h),rfl,⟨.nil,fun _ h=>nomatch h⟩⟩,?_,?_⟩
 ·rintro j y ρ hy ⟨y1,ls,rfl,hin,hjl,lp⟩
  obtain ⟨rfl,hj⟩:=fE hy
  have j1:j < row.length:=by omega
  have j2:j+1 < row.length:=by omega
  have a1:atI (intz row) ((1:Int)+(j:Int) - 1)=some (.int row[j]):=by
   rw [show (1:Int)+(j:Int) - 1=(j:Int) by omega]; exact mX (by rw [aV5,aT7 j1]; rfl)
  have a2:atI (intz row) ((1:Int)+(j:Int))=some (.int row[j+1]):=by
   rw [show (1:Int)+(j:Int)=((j+1:Nat):Int) by omega]; exact mX (by rw [aV5,aT7 j2]; rfl)
  have hne:row[j] ≠ row[j+1]:=fun e=>by
   exact (bc1.mp nd) j (j+1) j1 j2 (by omega) e
  have m1:=inn _ (bc8 j1)
  have m2:=inn _ (bc8 j2)
  have g1:=aT7 j1
  have g2:=aT7 j2
  generalize row[j]=p at *
  generalize row[j+1]=r at *
  refine⟨_,rfl,_,rfl,_,rfl,_,_,rfl,rfl,_,_,_,rfl,rfl,a1,_,rfl,_,rfl,_,_,_,rfl,rfl,a2,_,_,rfl,_,rfl,_,rfl,_,_,rfl,rfl,_,_,_,rfl,rfl,a1,_,rfl,_,rfl,_,_,_,rfl,rfl,a2,_,_,rfl,by show 2<=1000; decide,rfl,trivial,by rw [vC]; omega,?_⟩
  refine⟨si (1+(j:Int)),ls ++ [(if r < p then r else p,if r > p then r else p)],?_,fun l hl=>?_,by rw [aU6,hjl]; rfl,lp.add nd g1 g2 ?_⟩
  ·unfold dS; rw [bd8]; rfl
  ·rcases aW8.mp hl with hl | hl
   ·exact hin l hl
   ·rw [aU3.mp hl]
    dsimp only
    split <;> split <;> omega
  ·dsimp only
   split <;> split <;> omega
 rintro ρ ⟨y1,ls,rfl,hin,hjl,lp⟩
 rw [dM] at hjl
 refine⟨by decide,rfl,_,rfl,_,_,rfl,rfl,rfl,(fun z=>nomatch z),by omega,by omega,by decide,_,rfl,ls.map two,congrArg (fun z=>[PV.lst z]) (qL ls),by rw [aU7]; omega,?_,fun zs pz so=>?_⟩
 ·intro y hy z
  obtain ⟨l,_,rfl⟩:=bd3.mp hy
  cases z
 obtain ⟨ls',rfl,pl⟩:=L8 pz
 have e1:(List.replicate n.toNat (List.map (fun (x:PV × Tg)=>x.fst) [(PV.int 1,Tg.fr)])).flatten=intz (List.replicate n.toNat 1):=az2 _
 rw [<- qL,e1]
 refine⟨⟨_,_,rfl,rfl,kW _,by show 2<=1000; decide,M1 _ _,trivial,q _ ls' (cL.perm ?_ hin (by omega) lp.nd (fun w hw=>by rw [(List.mem_replicate.mp hw).2]; decide) pl so)⟩,fun ns z=>by cases z⟩
 rw [bf7]; omega
noncomputable def oC:bV:=fun xs Q=>∃ x ns n wy,xs = [x,.int n,.int wy]/\iT x ns/\ns.length<=63/\0<=n/\n<=40/\∀ ws ls,cL n ws ls->Q (b9 ws ls)
noncomputable def M2:aU:=(aD (bD (gQ (aM (cY (aR (bR (a5 2) (qC (.int 8))) (qC (.int 4))) (qC (.int 1)))) (aM (jD (a5 1) (qC (.int 8))))) (aX (aC qM (a6 (aC eR (a6 (a5 0) (a6 (qC (.int 0)) a9))) (a6 (a5 1) a9)))) bC)
 (aD (bD (gQ (aM (cY (aR (bR (a5 2) (qC (.int 4))) (qC (.int 2))) (qC (.int 1)))) (aM (iN (a5 1) (qC (.int 9))))) (aX (aC oA (a6 (aC eR (a6 (a5 0) (a6 (qC (.int 0)) a9))) (a6 (aC eR (a6 (a5 0) (a6 (qC (.int 1)) a9))) (a6 (a5 1) (a6 (b4 (cI (a6 (qC (.int 4)) (a6 (qC (.int 3)) (a6 (qC (.int 6)) (a6 (qC (.int 61)) a9))))) (aR (a5 2) (qC (.int 4)))) a9)))))) bC)
 (aD (dX 3 (cI a9))
 (aD (cQ (eJ (a5 1)) (bZ 4)
  (aD (b6 5 (aC eR (a6 (a5 0) (a6 (a5 4) a9))))
  (fM 3 (b4 (cI (a6 (aR (bR (a5 5) (qC (.int 5))) (qC (.int 4))) (a6 (aR (bR (a5 5) (qC (.int 5))) (qC (.int 3))) (a6 (aR (bR (a5 5) (qC (.int 5))) (qC (.int 6))) (a6 (aR (bR (a5 5) (qC (.int 5))) (qC (.int 61))) a9))))) (aR (a5 2) (qC (.int 4)))))))
 (aD (dX 6 (qC (.dT [])))
 (aD (cQ (fN (a5 0)) (bZ 5)
  (bD (aM (jD (a5 1) (qC (.int 1)))) (aD (b6 7 (aR (a5 5) (a5 1)))
   (aD (b6 8 (aR (bR (aR (eL (aR (a5 5) (qC (.int 1000000007))) (qC (.int 48271))) (qC (.int 2147483647))) (qC (.int 89))) (a5 1)))
   (bD (aM (jW (a5 7) (a5 8))) (pQ 6 (bB (a6 (aC nQ (a6 (a5 7) (a6 (a5 8) a9))) (a6 (aC lV (a6 (a5 7) (a6 (a5 8) a9))) a9))) (qC (.bl true))) bC))) bC))
 (aX (bB (a6 (aC dN (a6 (a5 3) a9)) (a6 (aC dN (a6 (aC o9 (a6 (aC qI (a6 (a5 6) a9)) a9)) a9)) a9))))))))))
noncomputable def M3:aU:=(aD (dX 3 (cI a9))
 (aD (cQ (eJ (a5 1)) (bZ 4)
  (aD (b6 5 (aC eR (a6 (a5 0) (a6 (a5 4) a9))))
  (fM 3 (b4 (cI (a6 (aR (bR (a5 5) (qC (.int 5))) (qC (.int 4))) (a6 (aR (bR (a5 5) (qC (.int 5))) (qC (.int 3))) (a6 (aR (bR (a5 5) (qC (.int 5))) (qC (.int 6))) (a6 (aR (bR (a5 5) (qC (.int 5))) (qC (.int 61))) a9))))) (aR (a5 2) (qC (.int 4)))))))
 (aD (dX 6 (qC (.dT [])))
 (aD (cQ (fN (a5 0)) (bZ 5)
  (bD (aM (jD (a5 1) (qC (.int 1)))) (aD (b6 7 (aR (a5 5) (a5 1)))
   (aD (b6 8 (aR (bR (aR (eL (aR (a5 5) (qC (.int 1000000007))) (qC (.int 48271))) (qC (.int 2147483647))) (qC (.int 89))) (a5 1)))
   (bD (aM (jW (a5 7) (a5 8))) (pQ 6 (bB (a6 (aC nQ (a6 (a5 7) (a6 (a5 8) a9))) (a6 (aC lV (a6 (a5 7) (a6 (a5 8) a9))) a9))) (qC (.bl true))) bC))) bC))
 (aX (bB (a6 (aC dN (a6 (a5 3) a9)) (a6 (aC dN (a6 (aC o9 (a6 (aC qI (a6 (a5 6) a9)) a9)) a9)) a9))))))))
noncomputable def M4:aU:=(aD (bD (gQ (aM (cY (aR (bR (a5 2) (qC (.int 4))) (qC (.int 2))) (qC (.int 1)))) (aM (iN (a5 1) (qC (.int 9))))) (aX (aC oA (a6 (aC eR (a6 (a5 0) (a6 (qC (.int 0)) a9))) (a6 (aC eR (a6 (a5 0) (a6 (qC (.int 1)) a9))) (a6 (a5 1) (a6 (b4 (cI (a6 (qC (.int 4)) (a6 (qC (.int 3)) (a6 (qC (.int 6)) (a6 (qC (.int 61)) a9))))) (aR (a5 2) (qC (.int 4)))) a9)))))) bC)
 M3)
theorem az6 {a b c d:PV}{i:Int} (h0:0<=i) (h1:i < 4):∃ z,atI [a,b,c,d] i=some z/\(z=a ∨ z=b ∨ z=c ∨ z=d):=by
 have:i=0 ∨ i=1 ∨ i=2 ∨ i=3:=by omega
 rcases this with rfl | rfl | rfl | rfl
 ·exact⟨a,rfl,.inl rfl⟩
 ·exact⟨b,rfl,.inr (.inl rfl)⟩
 ·exact⟨c,rfl,.inr (.inr (.inl rfl))⟩
 ·exact⟨d,rfl,.inr (.inr (.inr rfl))⟩
theorem M5 {a b c d:Int}{i:Int} (h0:0<=i) (h1:i < 4):∃ z:Int,atI [PV.int a,PV.int b,PV.int c,PV.int d] i=some (.int z)/\(z=a ∨ z=b ∨ z=c ∨ z=d):=by
 obtain ⟨z,h,e⟩:=az6 (a:=PV.int a) (b:=PV.int b) (c:=PV.int c) (d:=PV.int d) h0 h1
 rcases e with rfl | rfl | rfl | rfl
 ·exact⟨a,h,.inl rfl⟩
 ·exact⟨b,h,.inr (.inl rfl)⟩
 ·exact⟨c,h,.inr (.inr (.inl rfl))⟩
 ·exact⟨d,h,.inr (.inr (.inr rfl))⟩
noncomputable def kZ (l:Int × Int):List aS:=[Sum.inl l.1,Sum.inl l.2]
structure DL (n:Int) (ps:List (List aS × PV)) (i:Nat):Prop where
 key:∀ p ∈ ps,∃ l:Int × Int,p.1=kZ l/\0<=l.1/\l.1 < l.2/\l.2 < n
 len:ps.length<=i
 fl:flats (ps.map (·.2))=true
 nd:(ps.map (·.1)).Nodup
theorem az7 {κ:Type} [DecidableEq κ] {ps:List (κ × PV)} (k:κ) (v:PV) (h:(ps.map (·.1)).Nodup):((fO ps k v).map (·.1)).Nodup:=by
 unfold fO
 split
 ·rw [bh9]
  have:((fun x:κ × PV=>x.1) ∘ fun kv:κ × PV=>if kv.1=k then (kv.1,v) else kv)=fun x=>x.1:=by
   funext x
   show (if x.1=k then (x.1,v) else x).1=x.1
   split <;> rfl
  rw [this]; exact h
 ·rename_i hn
  rw [bd8]
  refine bh4.mpr ⟨h,aY0 _ _,fun x hx y hy e=>hn ?_⟩
  obtain ⟨p,hp,rfl⟩:=bd3.mp hx
  rw [aU3.mp hy] at e
  exact List.any_eq_true.mpr ⟨p,hp,aU5 e⟩
theorem az8 {κ:Type} [DecidableEq κ] {ps:List (κ × PV)}{k:κ}{v:PV}{p:κ × PV} (h:p ∈ fO ps k v):p.1=k ∨ ∃ q ∈ ps,q.1=p.1:=by
 unfold fO at h
 split at h
 ·obtain ⟨q,hq,e⟩:=bd3.mp h
  split at e
  ·subst e; exact .inr ⟨q,hq,rfl⟩
  ·subst e; exact .inr ⟨q,hq,rfl⟩
 ·rcases aW8.mp h with h | h
  ·exact .inr ⟨p,h,rfl⟩
  ·rw [aU3.mp h]; exact .inl rfl
theorem DL.put {n:Int}{ps:List (List aS × PV)}{i:Nat} (h:DL n ps i) (l:Int × Int) (hl:0<=l.1/\l.1 < l.2/\l.2 < n):DL n (fO ps (kZ l) (.bl true)) (i+1):=by
 refine⟨fun p hp=>?_,?_,aw4 h.fl rfl,az7 _ _ h.nd⟩
 ·rcases az8 hp with e | ⟨q,hq,e⟩
  ·exact⟨l,e,hl⟩
  ·obtain ⟨l',e',h'⟩:=h.key q hq
   exact⟨l',e ▸ e',h'⟩
 ·have:=aw2 ps (kZ l) (.bl true)
  have:=h.len
  omega
theorem DL.links {n:Int}:∀ {ps:List (List aS × PV)},(∀ p ∈ ps,∃ l:Int × Int,p.1=kZ l/\0<=l.1/\l.1 < l.2/\l.2 < n)->∃ ls:List (Int × Int),(ps.map fun p=>PV.tup (p.1.map kP))=dS ls/\(∀ l ∈ ls,0<=l.1/\l.1 < l.2/\l.2 < n)/\ls.length=ps.length/\ps.map (·.1)=ls.map kZ
 | [],_=>⟨[],rfl,(fun _ h=>nomatch h),rfl,rfl⟩
 | p :: ps,h=>by
  obtain ⟨l,e,hl⟩:=h p aV2
  obtain ⟨ls,h1,h2,h3,h4⟩:=DL.links (ps:=ps) fun q hq=>h q (aV3 _ hq)
  refine⟨l :: ls,?_,fun m hm=>?_,by rw [aZ6,aZ6,h3],by rw [ba1,ba1,h4,e]⟩
  ·rw [ba1,h1,e]; rfl
  ·rcases aU2.mp hm with rfl | hm
   ·exact hl
   ·exact h2 m hm
theorem az9 {x:PV}{ns:List Int} (h:iT x ns):(Slot.sh (flat x) x).tag = .rd->flat x=true:=by
 cases flat x <;> intro z <;> cases z
theorem aA0 {x:PV}{ns:List Int}{n wy:Int}{Q:PV->Prop} (hx:iT x ns) (hns:ns.length<=63) (n0:0<=n) (n1:n<=40) (q:∀ ws ls,cL n ws ls->Q (b9 ws ls)):M4 { nx:=fun _=>Q .non,rt:=Q } [some (.sh (flat x) x),si n,si wy,none,none,none,none,none,none]:=by
 have d4:(0:Int) < 4:=by decide
 have last:M3 { nx:=fun _=>Q .non,rt:=Q } [some (.sh (flat x) x),si n,si wy,none,none,none,none,none,none]:=by
  refine⟨by decide,rfl,rfl,rfl,?_⟩
  refine⟨_,rfl,n,rfl,by omega,by omega,fun i ρ=>∃ (y z:Option Slot) (ws:List Int),ρ = [some (.sh (flat x) x),si n,si wy,some (.own (.lst (intz ws))),y,z,none,none,none]/\ws.length=i/\∀ w ∈ ws,0<=w,⟨none,none,[],rfl,rfl,fun _ h=>nomatch h⟩,?_,?_⟩
  ·rintro i y ρ hy ⟨y0,z0,ws,rfl,hl,hp⟩
   obtain ⟨rfl,hi⟩:=fE hy
   refine⟨_,rfl,_,rfl,x,ns,_,rfl,hx,by omega,trivial,?_⟩
   generalize ns.getD ((0:Int)+(i:Int)).toNat 0=cell
   obtain ⟨z,hz,hzz⟩:=M5 (a:=cell / 5 % 4) (b:=cell / 5 % 3) (c:=cell / 5 % 6) (d:=cell / 5 % 61) (i:=wy % 4) (aX5 _ (by decide)) (aX1 _ d4)
   refine⟨_,rfl,_,rfl,_,_,rfl,rfl,⟨by decide,by decide⟩,_,_,rfl,rfl,d4,_,rfl,_,_,rfl,rfl,⟨by decide,by decide⟩,_,_,rfl,rfl,(by show (0:Int) < 3; decide),_,rfl,_,_,rfl,rfl,⟨by decide,by decide⟩,_,_,rfl,rfl,(by show (0:Int) < 6; decide),_,rfl,_,_,rfl,rfl,⟨by decide,by decide⟩,_,_,rfl,rfl,(by show (0:Int) < 61; decide),by show 4<=1000; decide,rfl,_,rfl,_,_,rfl,rfl,d4,_,_,_,rfl,rfl,hz,iB _ _,by rw [aY]; omega,?_⟩
   refine⟨si (0+(i:Int)),si cell,ws ++ [z],?_,by rw [aU6,hl]; rfl,fun w hw=>?_⟩
   ·rw [eQ]; rfl
   ·rcases aW8.mp hw with hw | hw
    ·exact hp w hw
    ·rw [aU3.mp hw]
     rcases hzz with e | e | e | e <;> rw [e] <;> exact aX5 _ (by decide)
  rintro ρ ⟨y0,z0,ws,rfl,hl,hp⟩
  rw [dM] at hl
  refine⟨rfl,rfl,?_⟩
  refine⟨_,rfl,_,hx.seq,az9 hx,fun i ρ=>∃ (y z u:Option Slot) (ps:List (List aS × PV)),ρ = [some (.sh (flat x) x),si n,si wy,some (.own (.lst (intz ws))),y0,y,some (.own (.dT ps)),z,u]/\DL n ps i,⟨z0,none,none,[],rfl,⟨(fun _ h=>nomatch h),aT9 _,rfl,.nil⟩⟩,?_,?_⟩
  ·rintro i y ρ hy ⟨y1,z1,u1,ps,rfl,dl⟩
   obtain ⟨cell,rfl,hc⟩:=iR hy
   have hi:i < ns.length:=(aV0.mp hc).1
   generalize nT _ _=gg
   have dl1:DL n ps (i+1):=⟨dl.key,Nat.le_succ_of_le dl.len,dl.fl,dl.nd⟩
   refine⟨_,rfl,_,_,rfl,rfl,_,rfl,?_⟩
   by_cases h1:(1:Int) < n
   ·dsimp only
    rw [aU5 h1]
    have np:(0:Int) < n:=by omega
    refine aO ⟨_,rfl,_,rfl,_,_,rfl,rfl,np,trivial,?_⟩
    refine⟨_,rfl,_,_,rfl,rfl,(by show (0:Int) < 1000000007; decide),_,_,rfl,rfl,.inr ⟨by decide,by decide⟩,_,_,rfl,rfl,(by show (0:Int) < 2147483647; decide),_,_,rfl,rfl,⟨by decide,by decide⟩,_,rfl,_,_,rfl,rfl,np,trivial,?_⟩
    dsimp only
    generalize hone:cell % n=one
    generalize hoth:cell % 1000000007 * 48271 % 2147483647 / 89 % n=oth
    have o1:0<=one/\one < n:=by rw [<- hone]; exact⟨aX5 _ (by omega),aX1 _ np⟩
    have o2:0<=oth/\oth < n:=by rw [<- hoth]; exact⟨aX5 _ (by omega),aX1 _ np⟩
    refine⟨_,rfl,_,rfl,.inl ⟨_,_,rfl,rfl,_,rfl,?_⟩⟩
    by_cases h2:one=oth
    ·show if (!decide (one=oth))=true then _ else _
     rw [aU5 h2]
     exact aN ⟨some (.sh (gg || true) (.int cell)),si one,si oth,ps,rfl,dl1⟩
    ·show if (!decide (one=oth))=true then _ else _
     rw [aU1 h2]
     refine aO ⟨_,rfl,_,rfl,_,rfl,_,_,rfl,_,rfl,_,rfl,_,_,rfl,by show 2<=1000; decide,rfl,kZ (if oth < one then oth else one,if oth > one then oth else one),rfl,trivial,by have:=dl.len; omega,?_⟩
     refine⟨some (.sh (gg || true) (.int cell)),si one,si oth,_,rfl,dl.put _ ?_⟩
     dsimp only
     split <;> split <;> omega
   ·dsimp only
    rw [aU1 h1]
    exact aN ⟨some (.sh (gg || true) (.int cell)),z1,u1,ps,rfl,dl1⟩
  rintro ρ ⟨y1,z1,u1,ps,rfl,dl⟩
  rw [aY] at dl
  obtain ⟨ls,e1,e2,e3,e4⟩:=DL.links dl.key
  have lnd:ls.Nodup:=by
   have:=dl.nd
   rw [e4] at this
   exact (bh2.mp this).imp fun h e=>h (congrArg kZ e)
  have hlen:=dl.len
  refine⟨_,rfl,⟨_,_,rfl,rfl,bT _,_,rfl,ps,rfl,ls.map two,?_,by rw [aU7]; omega,?_,fun zs pz so=>?_⟩,fun ns z=>by cases z⟩
  ·show [PV.lst (ps.map fun p=>PV.tup (p.1.map kP))]=_
   rw [e1,qL]
  ·intro y hy z
   obtain ⟨l,_,rfl⟩:=bd3.mp hy
   cases z
  obtain ⟨ls',rfl,pl⟩:=L8 pz
  rw [<- qL]
  exact⟨⟨_,_,rfl,rfl,kW _,by show 2<=1000; decide,M1 _ _,trivial,q ws ls' (cL.perm (by omega) e2 (by omega) lnd hp pl so)⟩,fun ns z=>by cases z⟩
 refine⟨_,rfl,_,_,rfl,rfl,⟨by decide,by decide⟩,_,_,rfl,rfl,(by show (0:Int) < 2; decide),.inl ⟨_,_,rfl,rfl,_,rfl,?_⟩⟩
 cases hc:(decide (wy / 4 % 2=1)) with
 | false=>exact aN (aN last)
 | true=>
  refine aO ⟨_,rfl,_,_,rfl,rfl,_,rfl,?_⟩
  by_cases h:n < 9
  ·dsimp only
   rw [aU5 h]
   obtain ⟨z,hz,e⟩:=M5 (a:=4) (b:=3) (c:=6) (d:=61) (i:=wy % 4) (aX5 _ (by decide)) (aX1 _ d4)
   refine aO ⟨_,rfl,x,ns,0,rfl,hx,by decide,_,rfl,x,ns,1,rfl,hx,by decide,_,rfl,by show 4<=1000; decide,rfl,_,rfl,_,_,rfl,rfl,d4,_,_,_,rfl,rfl,hz,_,_,n,z,rfl,n0,by omega,by omega,by omega,fun ws ls w=>⟨trivial,q ws ls w⟩⟩
  ·dsimp only
   rw [aU1 h]; exact aN last
theorem aA1:dF M2 ["flow","many","way","wants","k","cell","pairs","one","other"] oC:=by
 rintro xs Q ⟨x,ns,n,wy,rfl,hx,hns,n0,n1,q⟩
 have d4:(0:Int) < 4:=by decide
 have mid:M4 { nx:=fun _=>Q .non,rt:=Q } [some (.sh (flat x) x),si n,si wy,none,none,none,none,none,none]:=aA0 hx hns n0 n1 q
 refine⟨_,rfl,_,_,rfl,rfl,⟨by decide,by decide⟩,_,_,rfl,rfl,d4,.inl ⟨_,_,rfl,rfl,_,rfl,?_⟩⟩
 cases hc:(decide (wy / 8 % 4=1)) with
 | false=>exact aN (aN mid)
 | true=>
  refine aO ⟨_,rfl,_,_,rfl,rfl,_,rfl,?_⟩
  by_cases h:(8:Int) < n
  ·dsimp only
   rw [aU5 h]
   exact aO ⟨_,rfl,x,ns,0,rfl,hx,by decide,_,rfl,_,n,rfl,by omega,by omega,fun ws ls w=>⟨trivial,q ws ls w⟩⟩
  ·dsimp only
   rw [aU1 h]; exact aN mid
noncomputable def qO:bV:=fun xs Q=>∃ ns k,xs = [.scr ns,.int k]/\ns.length<=63/\0<=k/\∀ n ws ls,0<=n->n<=40->cL n ws ls->Q (b9 ws ls)
noncomputable def M6:aU:=(aD (b6 2 (aC eR (a6 (a5 0) (a6 (qC (.int 0)) a9))))
 (aD (b6 3 (aR (a5 2) (qC (.int 9))))
 (aD (bD (aM (cY (aR (bR (a5 2) (qC (.int 9))) (qC (.int 4))) (qC (.int 1)))) (b6 3 (aR (bR (a5 2) (qC (.int 36))) (qC (.int 41)))) bC)
 (aX (aC oC (a6 (gC (a5 0) (gB (a5 1)) gA) (a6 (a5 3) (a6 (bR (a5 2) (qC (.int 1476))) a9))))))))
theorem vE (ns:List Int) {k:Int} (h:0<=k):fC (intz ns) (some k) none=intz (ns.drop k.toNat):=by
 unfold fC
 have e1:HT.aV (intz ns).length 0 (some k)=min k.toNat (intz ns).length:=by
  have:=HT.xW (intz ns).length 0 k.toNat
  rw [show ((k.toNat:Nat):Int)=k by omega] at this
  exact this
 have e2:HT.aV (intz ns).length (intz ns).length none=(intz ns).length:=rfl
 rw [e1,e2,aY]
 rw [bc6 (by rw [aY9,aY]; omega)]
 show _=List.map PV.int _
 rw [List.map_drop]
 by_cases hk:k.toNat<=ns.length
 ·rw [Nat.min_eq_left hk]
 ·rw [Nat.min_eq_right (by omega),List.drop_of_length_le (by rw [aY]; omega),List.drop_of_length_le (by rw [aY]; omega)]
theorem aA2:dF M6 ["script","at","head","many"] qO:=by
 rintro xs Q ⟨ns,k,rfl,hl,k0,q⟩
 refine⟨_,rfl,_,ns,0,rfl,.inl rfl,by decide,trivial,?_⟩
 generalize ns.getD (0:Int).toNat 0=head
 refine⟨_,rfl,_,_,rfl,rfl,(by show (0:Int) < 9; decide),trivial,?_⟩
 have fin:∀ many:Int,0<=many->many<=40->(aX (aC oC (a6 (gC (a5 0) (gB (a5 1)) gA) (a6 (a5 3) (a6 (bR (a5 2) (qC (.int 1476))) a9))))) { nx:=fun _=>Q .non,rt:=Q } [some (.sh true (.scr ns)),si k,si head,si many]:=fun many h0 h1=>by
  refine⟨_,rfl,_,rfl,_,rfl,_,rfl,bT _,_,rfl,_,rfl,_,_,rfl,rfl,⟨by decide,by decide⟩,_,ns.drop k.toNat,many,_,rfl,?_,by rw [aY9]; omega,h0,h1,fun ws ls w=>⟨trivial,q many ws ls h0 h1 w⟩⟩
  show iT (.lst (fC (intz ns) (some k) none)) _
  rw [vE ns k0]
  exact .inr rfl
 refine⟨_,rfl,_,_,rfl,rfl,⟨by decide,by decide⟩,_,_,rfl,rfl,(by show (0:Int) < 4; decide),.inl ⟨_,_,rfl,rfl,_,rfl,?_⟩⟩
 cases hc:(decide (head / 9 % 4=1)) with
 | false=>
  have a1:=aX5 head (show (9:Int) ≠ 0 by decide)
  have a2:=aX1 head (show (0:Int) < 9 by decide)
  exact aN (fin (head % 9) a1 (by omega))
 | true=>
  have a1:=aX5 (head / 36) (show (41:Int) ≠ 0 by decide)
  have a2:=aX1 (head / 36) (show (0:Int) < 41 by decide)
  exact aO ⟨_,rfl,_,_,rfl,rfl,⟨by decide,by decide⟩,_,_,rfl,rfl,(by show (0:Int) < 41; decide),trivial,fin (head / 36 % 41) a1 (by omega)⟩
structure eS (i:Int) (ms:List Int):Prop where
 up:ms.Pairwise (· < ·)
 inn:∀ x ∈ ms,0<=x/\x < i
 len:(ms.length:Int)<=i
theorem eS.nil:eS 0 []:=⟨.nil,(fun _ h=>nomatch h),Int.le_refl _⟩
theorem eS.skip {i:Nat}{ms:List Int} (h:eS (i:Int) ms):eS ((i+1:Nat):Int) ms:=⟨h.up,fun x hx=>by have:=h.inn x hx; omega,by have:=h.len; omega⟩
theorem eS.take {i:Nat}{ms:List Int} (h:eS (i:Int) ms):eS ((i+1:Nat):Int) (ms ++ [(0:Int)+(i:Int)]):=by
 refine⟨List.pairwise_append.mpr ⟨h.up,aY0 _ _,fun x hx y hy=>?_⟩,fun x hx=>?_,?_⟩
 ·rw [aU3.mp hy]; have:=h.inn x hx; omega
 ·rcases aW8.mp hx with hx | hx
  ·have:=h.inn x hx; omega
  ·rw [aU3.mp hx]; omega
 ·rw [aU6,aX7]; have:=h.len; omega
noncomputable def qP:bV:=fun xs Q=>∃ x ns k n,xs = [x,.int k,.int n]/\iT x ns/\0<=k/\0<=n/\n<=1000/\∀ ms,eS n ms->Q (.tup (intz ms))
noncomputable def M7:aU:=(aD (b6 3 (aC eR (a6 (a5 0) (a6 (a5 1) a9))))
 (aD (dX 4 (cI a9))
 (aD (bD (aM (cY (aR (a5 3) (qC (.int 2))) (qC (.int 1)))) (aD (cQ (eJ (a5 2)) (bZ 5)
   (aD (b6 3 (bR (a5 3) (qC (.int 2))))
   (bD (aM (cY (aR (a5 3) (qC (.int 2))) (qC (.int 1)))) (fM 4 (a5 5)) bC)))
  (aX (aC dN (a6 (a5 4) a9)))) bC)
 (aD (b6 3 (aR (eL (dE (aR (a5 3) (qC (.int 1000000007))) (qC (.int 1))) (qC (.int 48271))) (qC (.int 2147483647))))
 (aD (cQ (eJ (a5 2)) (bZ 5)
  (aD (b6 6 (aR (eL (dE (dE (a5 3) (eL (eL (qC (.int 977)) (a5 5)) (a5 5))) (a5 5)) (qC (.int 40692))) (qC (.int 2147483399))))
  (bD (aM (iN (aR (bR (aR (eL (a5 6) (a5 6)) (qC (.int 2147483399))) (qC (.int 8))) (qC (.int 7))) (dE (qC (.int 1)) (aR (bR (a5 3) (qC (.int 8))) (qC (.int 4)))))) (fM 4 (a5 5)) bC)))
 (aX (aC dN (a6 (a5 4) a9))))))))
theorem aA3:dF M7 ["script","at","many","cell","some","hearth","number"] qP:=by
 rintro xs Q ⟨x,ns,k,n,rfl,hx,k0,n0,n1,q⟩
 refine⟨_,rfl,_,rfl,x,ns,k,rfl,hx,k0,trivial,?_⟩
 generalize ns.getD k.toNat 0=cell
 refine⟨by decide,rfl,rfl,rfl,?_⟩
 refine⟨_,rfl,_,_,rfl,rfl,(by show (0:Int) < 2; decide),.inl ⟨_,_,rfl,rfl,_,rfl,?_⟩⟩
 have ret:∀ {ρ:bM}{ms:List Int},ρ[4]? = some (some (.own (.lst (intz ms))))->eS n ms->(aX (aC dN (a6 (a5 4) a9))) { nx:=fun _=>Q .non,rt:=Q } ρ:=fun {ρ ms} h u=>
  ⟨_,h,⟨_,_,rfl,rfl,bT _,trivial,q ms u⟩,fun ns z=>by cases z⟩
 cases hc:(decide (cell % 2=1)) with
 | true=>
  refine aO ⟨_,rfl,n,rfl,by omega,by omega,fun i ρ=>∃ (c:Int) (y:Option Slot) (ms:List Int),ρ = [some (.sh (flat x) x),si k,si n,si c,some (.own (.lst (intz ms))),y,none]/\eS (i:Int) ms,⟨cell,none,[],rfl,eS.nil⟩,?_,?_⟩
  ·rintro i y ρ hy ⟨c,y0,ms,rfl,u⟩
   obtain ⟨rfl,hi⟩:=fE hy
   have ul:=u.len
   refine⟨_,rfl,_,_,rfl,rfl,⟨by decide,by decide⟩,trivial,?_⟩
   refine⟨_,rfl,_,_,rfl,rfl,(by show (0:Int) < 2; decide),.inl ⟨_,_,rfl,rfl,_,rfl,?_⟩⟩
   cases hc2:(decide (c / 2 % 2=1)) with
   | true=>
    refine aO ⟨_,rfl,_,rfl,trivial,by rw [aY]; omega,c / 2,si (0+(i:Int)),ms ++ [(0:Int)+(i:Int)],?_,u.take⟩
    rw [eQ]; rfl
   | false=>exact aN ⟨c / 2,si (0+(i:Int)),ms,rfl,u.skip⟩
  ·rintro ρ ⟨c,y0,ms,rfl,u⟩
   rw [dM,show ((n.toNat:Nat):Int)=n by omega] at u
   exact ret rfl u
 | false=>
  refine aN ⟨_,rfl,_,_,rfl,rfl,(by show (0:Int) < 1000000007; decide),_,_,rfl,rfl,_,_,rfl,rfl,.inr ⟨by decide,by decide⟩,_,_,rfl,rfl,(by show (0:Int) < 2147483647; decide),trivial,?_⟩
  dsimp only
  generalize hcl:(cell % 1000000007+1) * 48271 % 2147483647=cl
  refine⟨_,rfl,n,rfl,by omega,by omega,fun i ρ=>∃ (y z:Option Slot) (ms:List Int),ρ = [some (.sh (flat x) x),si k,si n,si cl,some (.own (.lst (intz ms))),y,z]/\eS (i:Int) ms,⟨none,none,[],rfl,eS.nil⟩,?_,?_⟩
  ·rintro i y ρ hy ⟨y0,z0,ms,rfl,u⟩
   obtain ⟨rfl,hi⟩:=fE hy
   have ul:=u.len
   refine⟨_,rfl,_,rfl,_,_,rfl,rfl,.inl ⟨by decide,by decide⟩,_,rfl,_,_,rfl,rfl,.inr ⟨by omega,by omega⟩,_,_,rfl,rfl,_,rfl,_,_,rfl,rfl,_,_,rfl,rfl,.inr ⟨by decide,by decide⟩,_,_,rfl,rfl,(by show (0:Int) < 2147483399; decide),trivial,?_⟩
   dsimp only
   generalize hnum:(cl+977 * (0+(i:Int)) * (0+(i:Int))+(0+(i:Int))) * 40692 % 2147483399=num
   have b1:0<=num:=by rw [<- hnum]; exact aX5 _ (by decide)
   have b2:num < 2147483399:=by rw [<- hnum]; exact aX1 _ (by decide)
   refine⟨_,rfl,_,rfl,_,_,rfl,rfl,.inl ⟨by omega,by omega⟩,_,_,rfl,rfl,(by show (0:Int) < 2147483399; decide),_,_,rfl,rfl,⟨by decide,by decide⟩,_,_,rfl,rfl,(by show (0:Int) < 7; decide),_,rfl,_,_,rfl,rfl,⟨by decide,by decide⟩,_,_,rfl,rfl,(by show (0:Int) < 4; decide),_,_,rfl,rfl,_,_,rfl,rfl,_,rfl,?_⟩
   dsimp only
   cases hc2:(decide (num * num % 2147483399 / 8 % 7 < 1+cl / 8 % 4)) with
   | true=>
    refine aO ⟨_,rfl,_,rfl,trivial,by rw [aY]; omega,si (0+(i:Int)),si num,ms ++ [(0:Int)+(i:Int)],?_,u.take⟩
    rw [eQ]; rfl
   | false=>exact aN ⟨si (0+(i:Int)),si num,ms,rfl,u.skip⟩
  ·rintro ρ ⟨y0,z0,ms,rfl,u⟩
   rw [dM,show ((n.toNat:Nat):Int)=n by omega] at u
   exact ret rfl u
theorem eS.set {n:Nat}{ms:List Int} (h:eS (n:Int) ms):dR n ms=true:=by
 unfold dR
 rw [uX h.up,Bool.true_and,aY3]
 intro b hb
 obtain ⟨x,hx,rfl⟩:=bd3.mp hb
 have:=h.inn x hx
 unfold inB
 simp [this]
theorem M8 {a b:List Int} (p:Int->Bool) (h:a.Perm b):(a.filter p).length=(b.filter p).length:=(h.filter p).length_eq
theorem aA4:∀ {a b:List Int},a.Perm b->a.Pairwise (· <= ·)->b.Pairwise (· <= ·)->a=b:=by
 intro a b h ha hb
 exact h.eq_of_pairwise (fun x y _ _ h1 h2=>Int.le_antisymm h1 h2) ha hb
noncomputable def M9:bV:=fun xs Q=>∃ ns:List Int,xs = [.scr ns]/\ns.length<=63/\Q (.bl true)
structure aA5 (K:PySem.W.Frag):Prop where
 ii:PySem.W.kitOne K (.type "int") (.type "int")=some true
 ib:PySem.W.kitOne K (.type "int") (.type "bool")=some false
 tt:PySem.W.kitOne K (.type "tuple") (.type "tuple")=some true
 ll:PySem.W.kitOne K (.type "list") (.type "list")=some true
 bb:PySem.W.kitOne K (.type "bool") (.type "bool")=some true
theorem vF (K:PySem.W.Frag):aA5 K:=by
 have same:∀ n:String,PySem.W.kitMeta n=true->True:=fun _ _=>trivial
 refine⟨?_,?_,?_,?_,?_⟩
 ·unfold PySem.W.kitOne; rw [if_pos (by decide)]
 ·have e:(if PySem.W.kitMeta "bool" = true then (fastBuiltinMro "int").map (·.contains (Value.type "bool")) else none)=some false:=by decide +kernel
  unfold PySem.W.kitOne
  rw [if_neg (by decide)]
  exact e
 ·unfold PySem.W.kitOne; rw [if_pos (by decide)]
 ·unfold PySem.W.kitOne; rw [if_pos (by decide)]
 ·unfold PySem.W.kitOne; rw [if_pos (by decide)]
theorem cL.wb {n:Int}{ws:List Int}{ls:List (Int × Int)} (h:cL n ws ls) (hn:n<=40):Wb ws ls:=
 ⟨by have:=h.many; omega,by have:=h.most; omega,fun l hl=>by have:=h.inn l hl; have:=h.many; omega⟩
end Core
namespace PP
open PySem L2 PyProof.Rows
theorem aA6 {P:Program}{w:World}{K:PySem.W.Frag}{mg:Str->Option Value}{base:Heap}{k:Nat}{x:Str}{ps N:List Str}{p:bV}{st:Stmt}{f:Addr}{fd:FuncData} (F:eW K x x st f fd) (S:FnScope N ps (aZ st))
  (len:∀ xs Q,p xs Q->xs.length=ps.length)
  (body:∀ (cdv:Value) (A:Around) (outer:List Env) (s:Shared) (H:Hp) (E:XK),cG k (A.deeper (envOfC x (aZ st) s.heap.objs.size f cdv))->
   ∃ t,eN (dC dW P w K mg base N x (aZ st) f cdv A outer s H E).nox (eI st) t/\∀ xs Q,p xs Q->t { nx:=fun _=>Q .non,rt:=Q } (dY N xs)):cU P w K mg base dW (k+1) f fd ps (nR K p):=by
 refine F.ok S (fun vs H Q E h=>?_) (fun cdv A outer s H vs Q E hr h=>?_)
 ·obtain ⟨xs,Qp,r,q,_⟩:=h
  rw [r.length]; exact len xs Qp q
 ·obtain ⟨xs,Qp,r,q,k⟩:=h
  obtain ⟨t,ht,hq⟩:=body cdv A outer s H E hr
  refine⟨_,ht,fun _=>False,dY N xs,_,uR r,hq xs Qp q,?_,?_,?_,?_⟩
  ·exact fun W' σ' H' ρ' e px q=>k _ _ _ px.same .non q
  ·exact fun v H' x s r q=>k _ _ _ s r q
  ·exact fun W' σ' H' ρ' e px q=>q
  ·exact fun W' σ' H' ρ' e px q=>q
noncomputable def qQ (K:PySem.W.Frag):Sp:=fun vs H Q _=>∃ (a:Addr) (ns:List Int),vs = [.ref a]/\j9 K H a ns/\ns.length<=63/\∀ H',Q (.bl true) H'
theorem aA7 {P:Program}{w:World}{K:PySem.W.Frag}{mg:Str->Option Value}{base:Heap}{k:Nat}{f:Addr}{fd:FuncData} (F:cU P w K mg base dW k f fd ["script"] (nR K Core.M9)):cU P w K mg base dW k f fd ["script"] (qQ K):=
 F.imp fun vs H Q E h=>by
  obtain ⟨a,ns,rfl,hs,hl,q⟩:=h
  refine⟨[.scr ns],fun z=>z = .bl true,.cons (.scr hs) .nil,⟨ns,rfl,hl,rfl⟩,?_⟩
  rintro v H' x _ r rfl
  cases r
  exact q H'
theorem aA8 {K:PySem.W.Frag}{H:Hp}{a:Addr}{ns:List Int} (hO:oU H) (h:aK K H a (ns.map V.int)):j9 K H a ns:=by
 rcases h with (h | ⟨o,h⟩) | h
 ·rcases hO a with e | ⟨o,xs,e⟩ <;> (rw [h] at e; cases e)
 ·exact .inl ⟨o,h⟩
 ·exact .inr h
section
variable {X : Cx} {e : Expr} {te : aF} {pos : Pos}
theorem aA9 (i j:Nat) {x y:Str}{apos cpos xpos apos2 cpos2 ypos:Pos} (he:QE X e te) (hxN:X.N[i]? = some x:=by rfl) (hxv:fR X.env.scope x:=by first | exact Or.inl rfl | exact Or.inr (Or.inl rfl) | exact Or.inr (Or.inr rfl)) (hxd:(x == ("__debug__" : Str))=false:=by decide) (hxc:(x == ("__classdict__" : Str))=false:=by decide) (hyN:X.N[j]? = some y:=by rfl) (hyv:fR X.env.scope y:=by first | exact Or.inl rfl | exact Or.inr (Or.inl rfl) | exact Or.inr (Or.inr rfl)) (hyd:(y == ("__debug__" : Str))=false:=by decide) (hyc:(y == ("__classdict__" : Str))=false:=by decide)
  (hb1:attributeBase (.Name x xpos) "append" X.env (eval (.Name x xpos) X.env)=eval (.Name x xpos) X.env:=by rfl) (hb2:attributeBase (.Name y ypos) "pop" X.env (eval (.Name y ypos) X.env)=eval (.Name y ypos) X.env:=by rfl)
  (hfew1:((backTo cpos (starEach [.Call (.Attribute (.Name y ypos) "pop" apos2) [e] [] cpos2] X.env)).all (fun x=>!x.1) && (backToKw cpos (keywordEach [] X.env)).all (fun x=>x.1.isSome) && decide (([.Call (.Attribute (.Name y ypos) "pop" apos2) [e] [] cpos2]:List Expr).length+([]:List Keyword).length+(if ([]:List Keyword).isEmpty then 0 else 1) < 30))=true:=by rfl)
  (hfew2:((backTo cpos2 (starEach [e] X.env)).all (fun x=>!x.1) && (backToKw cpos2 (keywordEach [] X.env)).all (fun x=>x.1.isSome) && decide (([e]:List Expr).length+([]:List Keyword).length+(if ([]:List Keyword).isEmpty then 0 else 1) < 30))=true:=by rfl)
  (hl1:(apos.endLine == cpos.line)=true:=by rfl) (hl2:(apos2.endLine == cpos2.line)=true:=by rfl)
  (hs1:starEach [.Call (.Attribute (.Name y ypos) "pop" apos2) [e] [] cpos2] X.env=(false,eval (.Call (.Attribute (.Name y ypos) "pop" apos2) [e] [] cpos2) X.env) :: starEach [] X.env:=by rfl) (hs2:starEach [e] X.env=(false,eval e X.env) :: starEach [] X.env:=by rfl)
  (hp1:(backTo cpos (starEach [] X.env)).any (·.1)=false:=by rfl) (hp2:(backTo cpos2 (starEach [] X.env)).any (·.1)=false:=by rfl)
  (hsw:swapsWith (.Call (.Attribute (.Name x xpos) "append" apos) [.Call (.Attribute (.Name y ypos) "pop" apos2) [e] [] cpos2] [] cpos) none pos.line X.env=pure false:=by rfl) :
  QS X (.Expr (.Call (.Attribute (.Name x xpos) "append" apos) [.Call (.Attribute (.Name y ypos) "pop" apos2) [e] [] cpos2] [] cpos) pos) (u4 i j te):=
 eF (lD (kF bd5 PySem.F.slot_list_append PySem.F.type_list_append nF (iG hxN hxv hxd hxc) (cP (kF bd5 PySem.F.slot_list_pop PySem.F.type_list_pop yM (iG hyN hyv hyd hyc) (cP he dB hs2) hb2 hfew2 hl2 hs2 hp2) dB hs1) hb1 hfew1 hl1 hs1 hp1) hsw) fun _ _ _=>ap0
end
end PP
namespace PyProof.Rows
open PySem
section
variable {prog : Program} {w : World} {A : Around} {E : Value → Shared → Prop} {s : Shared}
theorem aB0 {l:Addr}{vs:List Value}{Q:List Value->Shared->Prop} (hl:s.heap.IsTuple l vs.toArray)
  (h:Q vs { s with heap:=(s.heap.push (seqObj "list" #[] 0)).update s.heap.objs.size (Obj.mapSeq (· ++ vs.toArray)) }) (hsz:vs.length<=sizeLine) :
  wpAny (model prog w) A (collect (.ref l)) Q E s:=by
 obtain ⟨o,ho,hc,n,hd⟩:=id hl
 unfold collect
 refine aT3 (wpAny_runValue (bd9 entry_proto_collect' ?_))
 show wpAny _ _ (do again (.builtin "list.__iadd__" ⟨[<- newList [],.ref l],[]⟩)) _ _ s
 refine aT3 (wpAny_newList (aT6 ⟨Code.quiet_builtin _ (by decide +kernel),bd9 entry_list_iadd' ?_⟩))
 show wpAny _ _ (Builtin.List.listExtendWith (.ref s.heap.objs.size) (.ref l) (.ref s.heap.objs.size)) _ _ { s with heap:=s.heap.push (seqObj "list" #[] 0) }
 unfold Builtin.List.listExtendWith
 have ho':(s.heap.push (seqObj "list" #[] 0)).get? l=some o:=aT5 _ ho
 refine aT3 (bj3 (T:="tuple") ⟨o,ho',hc⟩ ?_)
 have ht:(Value.type "tuple" == Value.type "tuple")=true:=by rfl
 rw [if_pos (by rw [ht]; simp)]
 refine aT3 (listItems_at ho' hd ?_)
 refine aT3 (listItems_at (xs:=#[]) (n:=0) (aU0 _ rfl) rfl ?_)
 rw [if_neg (by simp)]
 refine aT3 (listUpdate_at (xs:=#[]) (n:=0) (aU0 _ rfl) rfl ?_ (aX0 _) (by show (#[] ++ vs.toArray).size<=sizeLine+1; simp only [Array.size_append,aT8,List.length_nil]; omega))
 refine aT6 ?_
 show wpAny (model prog w) A (do
   let o <- load s.heap.objs.size
   match o.data with
   | .seq xs _=>pure xs.toList
   | _=>unsupported "internal:collect") Q E { s with heap:=(s.heap.push (seqObj "list" #[] 0)).update s.heap.objs.size (Obj.mapSeq (· ++ vs.toArray)) }
 refine aT3 (wpAny_load (get?_update_seq (aU0 _ rfl) _) ?_)
 show wpAny _ _ (pure ((#[]:Array Value) ++ vs.toArray).toList) Q E _
 rw [show ((#[]:Array Value) ++ vs.toArray).toList=vs by simp]
 exact aT6 h
theorem aB1 {l:Addr}{vs:List Value}{ns:List Int}{Q:Value->Shared->Prop} (hl:s.heap.IsTuple l vs.toArray) (hI:IntsAre vs ns) (h64:vs.length < 64)
  (h:∀ (out:Array Value) (ns':List Int),IntsAre out.toList ns'->ns'.Perm ns->ns'.Pairwise (· <= ·)->Q (.ref (s.heap.objs.size+1)) { s with heap:=sortedAll s.heap vs out }) :
  wpAny (model prog w) A (call (.builtin "sorted") [.ref l]) Q E s:=by
 have hsl:vs.length<=sizeLine:=aX8 (ba3 h64) (by decide)
 refine Calls.call_function_entry kind_sorted plain_sorted entry_sorted (args_sorted1 _) ?_
 unfold Builtin.«sorted»
 refine aT3 (m:=checkCount "sorted" 1 1 _) (aT6 ?_)
 refine aT3 (aB0 hl ?_ hsl)
 refine aT3 (wpAny_newList ?_)
 have hsz:((s.heap.push (seqObj "list" #[] 0)).update s.heap.objs.size (Obj.mapSeq (· ++ vs.toArray))).objs.size=s.heap.objs.size+1:=by
  rw [Heap.size_update,size_push']
 have hoL:(((s.heap.push (seqObj "list" #[] 0)).update s.heap.objs.size (Obj.mapSeq (· ++ vs.toArray))).push (seqObj "list" vs.toArray 0)).get? (s.heap.objs.size+1)=some (seqObj "list" vs.toArray 0):=by
  rw [<- hsz]; exact aU0 _ rfl
 show wpAny _ _ _ _ _ { s with heap:=((s.heap.push (seqObj "list" #[] 0)).update s.heap.objs.size (Obj.mapSeq (· ++ vs.toArray))).push (seqObj "list" vs.toArray 0) }
 rw [hsz]
 refine aT3 (ba5 (aW5 slot_list_sort ⟨_,hoL,rfl⟩ entry_list_sort (list_sort_tree hoL hI h64 fun out ns' a1 a2 a3=>⟨_,rfl,?_⟩) (args_list_sort _)))
 exact aT6 ⟨_,rfl,h out ns' a1 a2 a3⟩
end
end PyProof.Rows
namespace PP
open PySem L2 PyProof.Rows
section
variable {X : Cx} {a b e : Expr} {ta tb te : aF} {tr : cS} {pos p2 : Pos}
theorem aB2:cO X (.builtin "sorted") (fun xs H Q=>∃ a ns,xs = [.ref a]/\(aK X.K H a (ns.map V.int) ∨ aH X.K H a (ns.map V.int))/\ns.length < 64/\∀ l (ms:List Int),H l=none->ms.Perm ns->ms.Pairwise (· <= ·)->Q (.ref l) (upd H l (.lst (ms.map V.int)))):=by
 intro pins s σ H xs us Q I r h
 obtain ⟨a,ns,rfl,hs,h64,q⟩:=h
 rcases hs with hs | hs
 ·exact zQ pins s σ H _ us Q I r ⟨a,ns,rfl,hs,h64,q⟩
 obtain ⟨u,rfl,ru⟩:=fU r
 cases ru
 obtain ⟨its,rv,p,hz⟩:=I.tuple hs
 have hl:=rv.length
 rw [aU7] at hl
 refine aB1 p (mW rv) (by omega) fun out ns' a1 a2 a3=>?_
 obtain ⟨e,he⟩:=sortedAll_at s.heap its out
 have hn:s.heap.objs.size<=s.heap.objs.size+1:=bk8 _
 have hlen:ns'.length=ns.length:=a2.length_eq
 refine⟨.ref (s.heap.objs.size+1),upd H (s.heap.objs.size+1) (.lst (ns'.map V.int)),I.laid (t':=s.toks) (fun _ _=>sortedAll_old) hn ⟨?_,out.toList,e,nH a1,by simpa using he⟩,rfl,q _ ns' (I.hok.fresh hn) a2 a3⟩
 rw [aU7,hlen]
 exact ba3 (nI (by omega))
noncomputable def l0:List PV->(PV->Prop)->Prop:=fun xs Q=>∃ x ns,xs = [x]/\jC x=some (intz ns)/\ns.length < 64/\∀ ms:List Int,ms.Perm ns->ms.Pairwise (· <= ·)->Q (.lst (intz ms))
theorem aB3:fX X l0 (fun xs H Q=>∃ a ns,xs = [.ref a]/\(aK X.K H a (ns.map V.int) ∨ aH X.K H a (ns.map V.int))/\ns.length < 64/\∀ l (ms:List Int),H l=none->ms.Perm ns->ms.Pairwise (· <= ·)->Q (.ref l) (upd H l (.lst (ms.map V.int)))):=by
 rintro H vs xs Q Q' r ⟨x,ns,rfl,e,hl,q⟩ k
 obtain ⟨v,rfl,r1⟩:=r.one
 obtain ⟨a,us,rfl,hs,r2⟩:=r1.seq e
 obtain rfl:=r2.ofInts
 exact⟨a,ns,rfl,hs,hl,fun l ms hl' p o=>k _ _ _ (bE hl' _) (.lst hl' bI (Reps.intz ms)) (q ms p o)⟩
theorem N0 (B:Bt X.mg) (ha:QA X [e] tr) (hg:Gl X "sorted":=by rfl) (he:starEach [e] X.env=(false,eval e X.env) :: starEach [] X.env:=by rfl) (hpl:(backTo pos (starEach [] X.env)).any (·.1)=false:=by rfl):QE X (.Call (.Name "sorted" p2) [e] [] pos) (aC l0 tr):=
 kS aB2 aB3 hg B.sorted PyProof.Rows.boot_sorted ha (he:=he) (hpl:=hpl)
noncomputable def N1:PV->Tg->PV->Tg->PK->Prop:=fun x _ y _ Q=>∃ xs ys,x = .lst xs/\y = .lst ys/\flats xs=true/\flats ys=true/\xs.length+ys.length<=16000000/\Q (.lst (xs ++ ys)) .fr
noncomputable abbrev N3 (ta tb:aF):aF:=q2 N1 ta tb
theorem aB4:dL X N1 yN:=by
 rintro W Hs H u v x y g g' Q Q' s n r1 r2 ⟨xs,ys,rfl,rfl,f1,f2,hl,q⟩ k
 obtain ⟨a,us,rfl,_,h1,q1⟩:=r1.sqL
 obtain ⟨b,ws,rfl,_,h2,q2⟩:=r2.sqL
 have l1:=q1.length
 have l2:=q2.length
 refine⟨a,b,us,ws,rfl,rfl,h1,h2,lim (by omega),fun p hp=>k _ _ _ .fr (bE hp _) (.lst (s.free hp) bI (((q1.flat f1).append (q2.flat f2)).same (bE hp _) fun _ z=>z)) q⟩
theorem aB5 (ha:QE X a ta) (hb:QE X b tb):QE X (.BinOp a .Add b pos) (N3 ta tb):=iO ag6 aB4 ha hb
end
end PP
namespace L2
open PySem PySem.Spec PyProof.Rows
noncomputable def vG (K:PySem.W.Frag) (a:Addr):It:=
  ⟨fun i H=>∃ xs x,aK K H a xs/\xs[i]? = some x,
   fun i H v H'=>∃ T x,H T=none/\v = .ref T/\H'=upd H T (.tup [.int i,x])/\∀ xs,aK K H a xs->xs[i]? = some x,
   fun i H=>∃ xs,aK K H a xs/\xs.length<=i⟩
structure aB6 (e it a:Addr) (i:Nat) (h:Heap):Prop where
 ee:∃ old,IsEnum h e it i old
 s1:h.IsListIter it a i
theorem aB7 {P:Program}{w:World}{K:PySem.W.Frag}{elts:List Expr}{k:Nat}{pos:Pos} (a e it:Addr) (d:e ≠ it) :
  iH P w K (.Tuple elts k pos) (vG K a) [e,it] e (aB6 e it a):=by
 refine⟨by simp,fun i h st c hc=>?_,fun i h h' st kp=>?_,?_,?_,fun A i s Q E st q=>?_⟩
 ·simp only [aU2,aV1,aY5] at hc
  obtain ⟨old,ee⟩:=st.ee
  obtain ⟨o1,f1,g1,d1⟩:=st.s1
  rcases hc with rfl | rfl
  ·exact⟨_,ee,fun v q=>by cases q⟩
  ·exact⟨_,f1,fun v q=>by rw [d1] at q; cases q⟩
 ·obtain ⟨old,ee⟩:=st.ee
  exact⟨⟨old,kp e (by simp) _ ee⟩,st.s1.at fun o z=>kp it (by simp) o z⟩
 ·intro X hP hw hK hc i pins s σ H E I hf st hg
  subst hP hw hK
  obtain ⟨xs,x,ha,hx⟩:=hg
  obtain ⟨us,ru,pu,lu⟩:=I.list ha
  obtain ⟨ux,eux,rux⟩:=ru.get hx
  obtain ⟨old,ee⟩:=st.ee
  refine wpAny_pyNext_enum_item ee st.s1 pu.isList (by simpa using eux) d fun h' eo it' pr sz kp=>⟨_,rfl,?_⟩
  refine wpAny_letOwnedTupleGo_enum (s:={ s with heap:=h',toks:=s.toks+1 }) eo fun g zz sb=>?_
  have hzl:e < s.heap.objs.size:=aU8 ee
  have up:∀ c o,c ≠ e->c ≠ it->s.heap.get? c=some o->g.get? c=some o:=fun c o c1 c2 z=>sb.extBut c o c1 (kp c o c1 c2 z)
  have hT:H s.heap.objs.size=none:=I.hok.fresh (aT9 _)
  have prG:g.get? s.heap.objs.size=some { cls:=.type "tuple",data:=.seq #[.int i s.toks,ux] }:=sb.extBut _ _ (bb2 hzl) pr
  have fpn:∀ c u,H c=some u->c ∉ [e,it]:=fun c u z hm=>by rw [(hf c hm).1] at z; cases z
  have upH:∀ c o u,H c=some u->s.heap.get? c=some o->g.get? c=some o:=fun c o u q z=>by
   have:=fpn c u q
   simp only [aU2,aV1,aY5,not_or] at this
   exact up c o this.1 this.2 z
  have ns:∀ m,s.heap.Ns X.env.locals m->g.Ns X.env.locals m:=fun m hm=>by
   obtain ⟨o,es,ep,e1,e2⟩:=hm
   exact⟨o,es,ep,up _ o (Ne.symm (hf e (by simp)).2.1) (Ne.symm (hf it (by simp)).2.1) e1,e2⟩
  have I2:a7 X pins σ (upd H s.heap.objs.size (.tup [.int i,x])) { s with heap:=g,toks:=s.toks+1 }:=by
   refine I.step (g':=s.gens) (d':=s.drawn) (ch:=[e,it]) (fun c hc'=>?_) (fun c o _ _ hc' z _=>?_) (fun c o _ _ hc' z _=>⟨o.slots,?_⟩) (fun c o _ z n=>?_) (fun c o hc' z=>⟨o,?_⟩)
    (fun c zs z=>by rw [aQ (cF z hT)]; exact z) (fun c u zs z=>by rw [aQ (cF z hT)]; exact z) (fun c ps z=>⟨#[],by rw [aQ (cF z hT),z]; simp⟩) ns (fun c u z=>?_) I.bare
   ·exact⟨(hf c hc').2.2.2.1,(hf c hc').2.1,(hf c hc').2.2.2.2.1,(hf c hc').2.2.2.2.2⟩
   ·simp only [aU2,aV1,aY5,not_or] at hc'
    exact up c o hc'.1 hc'.2 z
   ·simp only [aU2,aV1,aY5,not_or] at hc'
    exact up c o hc'.1 hc'.2 z
   ·rw [aQ (aW6 (aU8 z))]; exact n
   ·simp only [aU2,aV1,aY5,not_or] at hc'
    exact up c o hc'.1 hc'.2 z
   ·by_cases hcT:c=s.heap.objs.size
    ·subst hcT
     rw [bI] at z; cases z
     exact⟨by show 2<=sizeLine; decide,[.int i s.toks,ux],.cons ⟨_,rfl⟩ (.cons rux .nil),⟨_,prG,rfl,_,rfl⟩,fun u e=>by rw [prG] at e; cases e; rfl⟩
    ·rw [aQ hcT] at z
     refine (I.hok c u z).stay (fun c' o' hc2 q'=>?_) (fun c' q'=>by rw [aQ (cF q' hT)]; exact q') fun c' zs q'=>by rw [aQ (cF q' hT)]; exact q'
     rcases hc2 with rfl | hc2
     ·exact upH _ _ _ z q'
     ·exact upH _ _ _ hc2 q'
  refine⟨.ref s.heap.objs.size,_,I2,rfl,⟨_,x,hT,rfl,rfl,fun xs' ha'=>?_⟩,⟨⟨ux,by push_cast; exact zz⟩,it'.at fun o z=>sb.extBut _ o (Ne.symm d) z⟩,fun c hc'=>?_⟩
  ·rw [I.list_inj ha' ha]; exact hx
  ·obtain ⟨o,z⟩:∃ o,s.heap.get? c=some o:=by
    simp only [aU2,aV1,aY5] at hc'
    obtain ⟨o1,f1,_⟩:=st.s1
    rcases hc' with rfl | rfl
    ·exact⟨_,ee⟩
    ·exact⟨_,f1⟩
   rw [aQ (aW6 (aU8 z))]; exact (hf c hc').1
 ·intro X hP hw hK hc i pins s σ H E I hf st hg
  subst hP hw hK
  obtain ⟨xs,ha,hi⟩:=hg
  obtain ⟨us,ru,pu,lu⟩:=I.list ha
  obtain ⟨old,ee⟩:=st.ee
  have hh:X.A.handled=none:=I.ok.hd hc
  have e1:=ru.length
  refine wpAny_pyNext_enum_end hh ee st.s1 pu.isList (by rw [bf3]; simp only [aT8]; omega) fun g kp=>⟨rfl,?_⟩
  have fpn:∀ c u,H c=some u->c ∉ [e,it]:=fun c u z hm=>by rw [(hf c hm).1] at z; cases z
  have upH:∀ c o u,H c=some u->s.heap.get? c=some o->g.get? c=some o:=fun c o u q z=>by
   have:=fpn c u q
   simp only [aU2,aV1,aY5,not_or] at this
   exact kp c o this.2 z
  have ns:∀ m,s.heap.Ns X.env.locals m->g.Ns X.env.locals m:=fun m hm=>by
   obtain ⟨o,es,ep,e1,e2⟩:=hm
   exact⟨o,es,ep,kp _ o (Ne.symm (hf it (by simp)).2.1) e1,e2⟩
  refine I.step (g':=s.gens) (d':=s.drawn) (ch:=[it]) (fun c hc'=>?_) (fun c o _ _ hc' z _=>?_) (fun c o _ _ hc' z _=>⟨o.slots,?_⟩) (fun c o _ z n=>n) (fun c o hc' z=>⟨o,?_⟩)
   (fun c zs z=>z) (fun c u zs z=>z) (fun c ps z=>⟨#[],by rw [z]; simp⟩) ns (fun c u z=>?_) I.bare
  ·have hm:c ∈ [e,it]:=aV3 _ hc'
   exact⟨(hf c hm).2.2.2.1,(hf c hm).2.1,(hf c hm).2.2.2.2.1,(hf c hm).2.2.2.2.2⟩
  ·exact kp c o (fun y=>hc' (by rw [y]; simp)) z
  ·exact kp c o (fun y=>hc' (by rw [y]; simp)) z
  ·exact kp c o (fun y=>hc' (by rw [y]; simp)) z
  ·refine (I.hok c u z).stay (fun c' o' hc2 q'=>?_) (fun _ q'=>q') fun _ _ q'=>q'
   rcases hc2 with rfl | hc2
   ·exact upH _ _ _ z q'
   ·exact upH _ _ _ hc2 q'
 ·obtain ⟨old,ee⟩:=st.ee
  exact wpAny_pyIter_enum ee q
end L2
namespace Zp
open PySem PyProof.Rows
section
variable {prog : Program} {w : World} {A : Around} {E : Value → Shared → Prop} {s : Shared}
theorem aB8 {e it t:Addr}{i:Nat}{items:Array Value}{x old:Value}{Q:Option Value->Shared->Prop} (he:IsEnum s.heap e it i old) (hi:s.heap.IsTupleIter it t i) (ht:s.heap.IsTuple t items) (hx:items[i]? = some x) (ne:e ≠ it)
  (q:∀ h',IsEnumOut h' e it ((i:Int)+1) x s.heap.objs.size->h'.IsTupleIter it t (i+1)->h'.get? s.heap.objs.size=some { cls:=.type "tuple",data:=.seq #[.int i s.toks,x] }->h'.objs.size=s.heap.objs.size+1->
   (∀ b o,b ≠ e->b ≠ it->s.heap.get? b=some o->h'.get? b=some o)->Q (some (.ref s.heap.objs.size)) { s with heap:=h',toks:=s.toks+1 }):wpAny (model prog w) A (pyNext (.ref e)) Q E s:=by
 have T:s.TypeIs (.ref e) "enumerate":=⟨_,he,rfl⟩
 have slot:=PySem.F.slot_enumerate_next
 unfold pyNext
 apply aT3
 apply bc9
 apply aW7 (name:=Str.ofString "__next__") T slot
 apply aW5 slot T PySem.F.entry_enumerate_next _ (PySem.F.args_enumerate_next_1 _)
 change wpAny _ _ (field (.ref e) 2 >>= _) _ _ _
 apply aT3
 refine aX9 he rfl (x:=.ref it) rfl ?_
 apply aT3
 refine zY hi ht hx fun g1 it1 sb1=>?_
 have e1:IsEnum g1 e it i old:=sb1.extBut _ _ ne he
 change wpAny _ _ (field (.ref e) 3 >>= _) _ _ _
 apply aT3
 refine aX9 e1 rfl (x:=rawInt i) rfl ?_
 change wpAny _ _ (field (.ref e) 4 >>= _) _ _ _
 apply aT3
 refine aX9 e1 rfl (x:=.none) rfl ?_
 change wpAny _ _ (mkInt i >>= _) _ _ _
 apply aT3
 refine wpAny_mkInt ?_
 change wpAny _ _ (setField (.ref e) 3 (rawInt ((i:Int)+1)) >>= _) _ _ _
 apply aT3
 refine bb5 e1 (by simp) fun g2 e2 sb2=>?_
 apply aT3
 refine bb5 e2 (by simp) fun g3 e3 sb3=>?_
 have e3:IsEnum g3 e it ((i:Int)+1) old:=e3
 apply aT3
 refine wpAny_newTuple ?_ (by show 2<=sizeLine; decide)
 have e4:IsEnum (g3.push { cls:=.type "tuple",data:=.seq #[.int i s.toks,x] }) e it ((i:Int)+1) old:=aT5 _ e3
 have size:g3.objs.size=s.heap.objs.size:=by rw [sb3.1,sb2.1,sb1.1]
 change wpAny _ _ (Builtin.SmallTypes.ownedTupleIsFree (.ref e) >>= _) _ _ _
 apply aT3
 unfold Builtin.SmallTypes.ownedTupleIsFree
 apply aT3
 refine aX9 e4 rfl (x:=.none) rfl (aT6 ?_)
 simp only [if_true]
 apply aT3
 apply bk2
 apply aT3
 refine aX9 e4 rfl (x:=old) rfl ?_
 apply aT3
 refine bb5 e4 (by simp) fun g5 e5 sb5=>?_
 apply aT3
 unfold Builtin.SmallTypes.ownedTupleHandOut
 apply aT3
 refine bb5 e5 (by simp) fun g6 e6 sb6=>?_
 refine bb5 e6 (by simp) fun g7 e7 sb7=>?_
 have e7:IsEnumOut g7 e it ((i:Int)+1) x g3.objs.size:=e7
 have elt:e < g3.objs.size:=aU8 e3
 have up:∀ c o,c ≠ e->(g3.push { cls:=.type "tuple",data:=.seq #[.int i s.toks,x] }).get? c=some o->g7.get? c=some o:=fun c o c1 z=>sb7.extBut c o c1 (sb6.extBut c o c1 (sb5.extBut c o c1 z))
 have up3:∀ c o,c ≠ e->g1.get? c=some o->g7.get? c=some o:=fun c o c1 z=>up c o c1 (aT5 _ (sb3.extBut c o c1 (sb2.extBut c o c1 z)))
 have p7:g7.get? g3.objs.size=some { cls:=.type "tuple",data:=.seq #[.int i s.toks,x] }:=up _ _ (bb2 elt) (aU0 _ rfl)
 have s7:g7.objs.size=g3.objs.size+1:=by rw [sb7.1,sb6.1,sb5.1,bd6]
 apply aT3
 apply wpAny_letGo
 apply aT6
 rw [size] at e7 p7 s7
 refine⟨_,rfl,aT6 ?_⟩
 change Q (some (.ref g3.objs.size)) _
 rw [size]
 exact q g7 e7 (it1.at fun o z=>up3 it o (Ne.symm ne) z) p7 s7 fun b o b1 b2 z=>up3 b o b1 (sb1.extBut b o b2 z)
theorem aB9 {e it t:Addr}{i:Nat}{items:Array Value}{old:Value}{Q:Option Value->Shared->Prop} (hh:A.handled=none) (he:IsEnum s.heap e it i old) (hi:s.heap.IsTupleIter it t i) (ht:s.heap.IsTuple t items) (hx:items[i]? = none)
  (q:∀ h',Heap.ExtBut it s.heap h'->Q none { s with heap:=h' }):wpAny (model prog w) A (pyNext (.ref e)) Q E s:=by
 have T:s.TypeIs (.ref e) "enumerate":=⟨_,he,rfl⟩
 have slot:=PySem.F.slot_enumerate_next
 unfold pyNext
 apply aT3
 apply bc9
 apply aW7 (name:=Str.ofString "__next__") T slot
 apply aW5 slot T PySem.F.entry_enumerate_next _ (PySem.F.args_enumerate_next_1 _)
 change wpAny _ _ (field (.ref e) 2 >>= _) _ _ _
 apply aT3
 refine aX9 he rfl (x:=.ref it) rfl ?_
 apply aT3
 refine zZ hh hi ht hx fun g2 ex eb exo=>?_
 obtain ⟨oe,eo,co⟩:=exo
 apply aT3
 refine be8 (T:="StopIteration") (b:=true) ⟨oe,eo,co⟩ bk7 ?_
 exact aT6 (q g2 eb)
theorem aC0 {M:Model}{A:Around}{E:Value->Shared->Prop}{s:Shared}{α:Type}{c:Prop} [Decidable c] {m n:Sem α}{Q:α->Shared->Prop} (h1:wpAny M A m Q E s) (h2:wpAny M A n Q E s):wpAny M A (if c then m else n) Q E s:=by
 split
 ·exact h1
 ·exact h2
theorem aC1 (t:Addr) (xs:Array Value):Meets (Builtin.«enumerate.__new__» ⟨[.type "enumerate",.ref t],[]⟩) (fun _ R s=>s.heap.IsTuple t xs/\R (.ok (.ret (.ref (s.heap.objs.size+1)))) { s with heap:=(s.heap.push { cls:=.type "tuple_iterator",data:=.fields #[.ref t,.int 0 0] }).push { cls:=.type "enumerate",data:=.fields #[.none,.bool false,.ref s.heap.objs.size,rawInt 0,.none,.none] } }):=
 .of_wp fun prog w A R s h=>by
  obtain ⟨hp,g,d,tk,os⟩:=s
  obtain ⟨ht,h⟩:=h
  have sub:=sub_enumerate
  have a1:Heap.IsTuple (Shared.heap ⟨hp,g,d,tk,os⟩) t xs:=ht
  wp_walk using bf9 a1
  refine wpAny_stack_any fun st=>aT6 ?_
  refine aC0 ?_ ?_
  all_goals
   apply aT3
   refine be7 (a:=(Value.ref t,none)) rfl ?_
   wp_walk using bf9 a1
   have e:∀ (o:Obj) (k:Heap),(k.push o).objs.size=k.objs.size+1:=fun o k=>bd6 ..
   refine⟨_,rfl,?_⟩
   simp only [e] at h ⊢
   exact h
theorem aC2 {t:Addr}{xs:Array Value}{Q:Value->Shared->Prop} (ht:s.heap.IsTuple t xs)
  (q:∀ h',IsEnum h' (s.heap.objs.size+1) s.heap.objs.size 0 .none->h'.IsTupleIter s.heap.objs.size t 0->h'.objs.size=s.heap.objs.size+2->(∀ c o,s.heap.get? c=some o->h'.get? c=some o)->Q (.ref (s.heap.objs.size+1)) { s with heap:=h' }) :
  wpAny (model prog w) A (call (.type "enumerate") [.ref t]) Q E s:=by
 refine callType_new PySem.F.called_enumerate (by decide) (PySem.F.typeCall_enumerate_1 _) (PySem.F.newCall_enumerate_1 _) (fun obj=>PySem.F.args_object_init_2 obj _) PySem.F.entry_enumerate_new (aC1 t xs) ⟨ht,?_⟩
 have e:∀ (o:Obj) (k:Heap),(k.push o).objs.size=k.objs.size+1:=fun o k=>bd6 ..
 have g0:((s.heap.push { cls:=.type "tuple_iterator",data:=.fields #[.ref t,.int 0 0] }).push { cls:=.type "enumerate",data:=.fields #[.none,.bool false,.ref s.heap.objs.size,rawInt 0,.none,.none] }).get? s.heap.objs.size=some { cls:=.type "tuple_iterator",data:=.fields #[.ref t,.int 0 0] }:=aT5 _ (aU0 _ rfl)
 have g1:((s.heap.push { cls:=.type "tuple_iterator",data:=.fields #[.ref t,.int 0 0] }).push { cls:=.type "enumerate",data:=.fields #[.none,.bool false,.ref s.heap.objs.size,rawInt 0,.none,.none] }).get? (s.heap.objs.size+1)=some { cls:=.type "enumerate",data:=.fields #[.none,.bool false,.ref s.heap.objs.size,rawInt 0,.none,.none] }:=by
  have:=aU0 (h:=s.heap.push { cls:=.type "tuple_iterator",data:=.fields #[.ref t,.int 0 0] }) (o:={ cls:=.type "enumerate",data:=.fields #[.none,.bool false,.ref s.heap.objs.size,rawInt 0,.none,.none] }) rfl
  rw [e] at this; exact this
 exact⟨⟨_,g1,rfl⟩,q _ g1 ⟨_,g0,rfl,rfl⟩ (by rw [e,e]) fun c o z=>aT5 _ (aT5 _ z)⟩
end
end Zp
namespace L2
open PySem PySem.Spec PyProof.Rows
noncomputable def vH (K:PySem.W.Frag) (a:Addr):It:=
  ⟨fun i H=>∃ xs x,aH K H a xs/\xs[i]? = some x,
   fun i H v H'=>∃ T x,H T=none/\v = .ref T/\H'=upd H T (.tup [.int i,x])/\∀ xs,aH K H a xs->xs[i]? = some x,
   fun i H=>∃ xs,aH K H a xs/\xs.length<=i⟩
structure aC3 (e it a:Addr) (i:Nat) (h:Heap):Prop where
 ee:∃ old,IsEnum h e it i old
 s1:h.IsTupleIter it a i
theorem aC4 {P:Program}{w:World}{K:PySem.W.Frag}{elts:List Expr}{k:Nat}{pos:Pos} (a e it:Addr) (d:e ≠ it) :
  iH P w K (.Tuple elts k pos) (vH K a) [e,it] e (aC3 e it a):=by
 refine⟨by simp,fun i h st c hc=>?_,fun i h h' st kp=>?_,?_,?_,fun A i s Q E st q=>?_⟩
 ·simp only [aU2,aV1,aY5] at hc
  obtain ⟨old,ee⟩:=st.ee
  obtain ⟨o1,f1,g1,d1⟩:=st.s1
  rcases hc with rfl | rfl
  ·exact⟨_,ee,fun v q=>by cases q⟩
  ·exact⟨_,f1,fun v q=>by rw [d1] at q; cases q⟩
 ·obtain ⟨old,ee⟩:=st.ee
  exact⟨⟨old,kp e (by simp) _ ee⟩,st.s1.at fun o z=>kp it (by simp) o z⟩
 ·intro X hP hw hK hc i pins s σ H E I hf st hg
  subst hP hw hK
  obtain ⟨xs,x,ha,hx⟩:=hg
  obtain ⟨us,ru,pu,lu⟩:=I.tuple ha
  obtain ⟨ux,eux,rux⟩:=ru.get hx
  obtain ⟨old,ee⟩:=st.ee
  refine Zp.aB8 ee st.s1 pu (by simpa using eux) d fun h' eo it' pr sz kp=>⟨_,rfl,?_⟩
  refine wpAny_letOwnedTupleGo_enum (s:={ s with heap:=h',toks:=s.toks+1 }) eo fun g zz sb=>?_
  have hzl:e < s.heap.objs.size:=aU8 ee
  have up:∀ c o,c ≠ e->c ≠ it->s.heap.get? c=some o->g.get? c=some o:=fun c o c1 c2 z=>sb.extBut c o c1 (kp c o c1 c2 z)
  have hT:H s.heap.objs.size=none:=I.hok.fresh (aT9 _)
  have prG:g.get? s.heap.objs.size=some { cls:=.type "tuple",data:=.seq #[.int i s.toks,ux] }:=sb.extBut _ _ (bb2 hzl) pr
  have fpn:∀ c u,H c=some u->c ∉ [e,it]:=fun c u z hm=>by rw [(hf c hm).1] at z; cases z
  have upH:∀ c o u,H c=some u->s.heap.get? c=some o->g.get? c=some o:=fun c o u q z=>by
   have:=fpn c u q
   simp only [aU2,aV1,aY5,not_or] at this
   exact up c o this.1 this.2 z
  have ns:∀ m,s.heap.Ns X.env.locals m->g.Ns X.env.locals m:=fun m hm=>by
   obtain ⟨o,es,ep,e1,e2⟩:=hm
   exact⟨o,es,ep,up _ o (Ne.symm (hf e (by simp)).2.1) (Ne.symm (hf it (by simp)).2.1) e1,e2⟩
  have I2:a7 X pins σ (upd H s.heap.objs.size (.tup [.int i,x])) { s with heap:=g,toks:=s.toks+1 }:=by
   refine I.step (g':=s.gens) (d':=s.drawn) (ch:=[e,it]) (fun c hc'=>?_) (fun c o _ _ hc' z _=>?_) (fun c o _ _ hc' z _=>⟨o.slots,?_⟩) (fun c o _ z n=>?_) (fun c o hc' z=>⟨o,?_⟩)
    (fun c zs z=>by rw [aQ (cF z hT)]; exact z) (fun c u zs z=>by rw [aQ (cF z hT)]; exact z) (fun c ps z=>⟨#[],by rw [aQ (cF z hT),z]; simp⟩) ns (fun c u z=>?_) I.bare
   ·exact⟨(hf c hc').2.2.2.1,(hf c hc').2.1,(hf c hc').2.2.2.2.1,(hf c hc').2.2.2.2.2⟩
   ·simp only [aU2,aV1,aY5,not_or] at hc'
    exact up c o hc'.1 hc'.2 z
   ·simp only [aU2,aV1,aY5,not_or] at hc'
    exact up c o hc'.1 hc'.2 z
   ·rw [aQ (aW6 (aU8 z))]; exact n
   ·simp only [aU2,aV1,aY5,not_or] at hc'
    exact up c o hc'.1 hc'.2 z
   ·by_cases hcT:c=s.heap.objs.size
    ·subst hcT
     rw [bI] at z; cases z
     exact⟨by show 2<=sizeLine; decide,[.int i s.toks,ux],.cons ⟨_,rfl⟩ (.cons rux .nil),⟨_,prG,rfl,_,rfl⟩,fun u e=>by rw [prG] at e; cases e; rfl⟩
    ·rw [aQ hcT] at z
     refine (I.hok c u z).stay (fun c' o' hc2 q'=>?_) (fun c' q'=>by rw [aQ (cF q' hT)]; exact q') fun c' zs q'=>by rw [aQ (cF q' hT)]; exact q'
     rcases hc2 with rfl | hc2
     ·exact upH _ _ _ z q'
     ·exact upH _ _ _ hc2 q'
  refine⟨.ref s.heap.objs.size,_,I2,rfl,⟨_,x,hT,rfl,rfl,fun xs' ha'=>?_⟩,⟨⟨ux,by push_cast; exact zz⟩,it'.at fun o z=>sb.extBut _ o (Ne.symm d) z⟩,fun c hc'=>?_⟩
  ·rw [I.tuple_inj ha' ha]; exact hx
  ·obtain ⟨o,z⟩:∃ o,s.heap.get? c=some o:=by
    simp only [aU2,aV1,aY5] at hc'
    obtain ⟨o1,f1,_⟩:=st.s1
    rcases hc' with rfl | rfl
    ·exact⟨_,ee⟩
    ·exact⟨_,f1⟩
   rw [aQ (aW6 (aU8 z))]; exact (hf c hc').1
 ·intro X hP hw hK hc i pins s σ H E I hf st hg
  subst hP hw hK
  obtain ⟨xs,ha,hi⟩:=hg
  obtain ⟨us,ru,pu,lu⟩:=I.tuple ha
  obtain ⟨old,ee⟩:=st.ee
  have hh:X.A.handled=none:=I.ok.hd hc
  have e1:=ru.length
  refine Zp.aB9 hh ee st.s1 pu (by rw [bf3]; simp only [aT8]; omega) fun g kp=>⟨rfl,?_⟩
  have fpn:∀ c u,H c=some u->c ∉ [e,it]:=fun c u z hm=>by rw [(hf c hm).1] at z; cases z
  have upH:∀ c o u,H c=some u->s.heap.get? c=some o->g.get? c=some o:=fun c o u q z=>by
   have:=fpn c u q
   simp only [aU2,aV1,aY5,not_or] at this
   exact kp c o this.2 z
  have ns:∀ m,s.heap.Ns X.env.locals m->g.Ns X.env.locals m:=fun m hm=>by
   obtain ⟨o,es,ep,e1,e2⟩:=hm
   exact⟨o,es,ep,kp _ o (Ne.symm (hf it (by simp)).2.1) e1,e2⟩
  refine I.step (g':=s.gens) (d':=s.drawn) (ch:=[it]) (fun c hc'=>?_) (fun c o _ _ hc' z _=>?_) (fun c o _ _ hc' z _=>⟨o.slots,?_⟩) (fun c o _ z n=>n) (fun c o hc' z=>⟨o,?_⟩)
   (fun c zs z=>z) (fun c u zs z=>z) (fun c ps z=>⟨#[],by rw [z]; simp⟩) ns (fun c u z=>?_) I.bare
  ·have hm:c ∈ [e,it]:=aV3 _ hc'
   exact⟨(hf c hm).2.2.2.1,(hf c hm).2.1,(hf c hm).2.2.2.2.1,(hf c hm).2.2.2.2.2⟩
  ·exact kp c o (fun y=>hc' (by rw [y]; simp)) z
  ·exact kp c o (fun y=>hc' (by rw [y]; simp)) z
  ·exact kp c o (fun y=>hc' (by rw [y]; simp)) z
  ·refine (I.hok c u z).stay (fun c' o' hc2 q'=>?_) (fun _ q'=>q') fun _ _ q'=>q'
   rcases hc2 with rfl | hc2
   ·exact upH _ _ _ z q'
   ·exact upH _ _ _ hc2 q'
 ·obtain ⟨old,ee⟩:=st.ee
  exact wpAny_pyIter_enum ee q
section
variable {X : Cx}
noncomputable def N4 (K:PySem.W.Frag) (ta:TA):TI:=fun σ H R=>ta σ H fun vs H1=>∃ a,vs = [.ref a]/\((∃ xs,aK K H1 a xs/\R (vG K a) H1) ∨ (∃ xs,aH K H1 a xs/\R (vH K a) H1))
theorem aC5 {elts:List Expr}{kt:Nat}{pt:Pos}{a:Expr}{ta:TA}{p pos:Pos} (hg:Gl X "enumerate") (hm:X.mg "enumerate" = none) (ha:PA X [a] ta) (hs:starEach [a] X.env = [(false,eval a X.env)]:=by rfl) :
  PI X (.Tuple elts kt pt) (.Call (.Name "enumerate" p) [a] [] pos) (N4 X.K ta):=by
 intro pins s σ H R I h
 refine Call_ (gY I hg hm PyProof.Rows.boot_enumerate (aY7 (aP (ha pos pins s σ H _ I h) fun us s1 ⟨vs,H1,I1,r1,q1⟩=>?_) (by rw [hs]; rfl) (by rfl)))
 obtain ⟨a',e,q⟩:=q1
 subst e
 have fresh:∀ k,H1 (s1.heap.objs.size+k)=none:=fun k=>I1.hok.fresh (bb0 _ _)
 cases r1 with
 | cons r rr=>
  cases rr
  cases r
  rcases q with ⟨xs,h1,q⟩ | ⟨xs,h1,q⟩
  ·obtain ⟨us,_,p1,_⟩:=I1.list h1
   refine call_enumerate_list p1.isList fun h' z s1' sz kp=>wpAny_pyIter_enum z ?_
   refine⟨s1.heap.objs.size+1,[s1.heap.objs.size+1,s1.heap.objs.size],_,_,H1,rfl,I1.kept (t':=s1.toks) kp,
    aB7 a' _ _ (Nat.succ_ne_self _),⟨⟨_,z⟩,s1'⟩,fun c hc=>?_,q⟩
   simp only [aU2,aV1,aY5] at hc
   rcases hc with rfl | rfl
   ·exact I1.fpOk (bb0 _ _) (fresh 1)
   ·exact I1.fpOk (aT9 _) (fresh 0)
  ·obtain ⟨us,_,p1,_⟩:=I1.tuple h1
   refine Zp.aC2 p1 fun h' z s1' sz kp=>wpAny_pyIter_enum z ?_
   refine⟨s1.heap.objs.size+1,[s1.heap.objs.size+1,s1.heap.objs.size],_,_,H1,rfl,I1.kept (t':=s1.toks) kp,
    aC4 a' _ _ (Nat.succ_ne_self _),⟨⟨_,z⟩,s1'⟩,fun c hc=>?_,q⟩
   simp only [aU2,aV1,aY5] at hc
   rcases hc with rfl | rfl
   ·exact I1.fpOk (bb0 _ _) (fresh 1)
   ·exact I1.fpOk (aT9 _) (fresh 0)
end
end L2
namespace Zp
open PySem PyProof.Rows
theorem aC6 (t b:Addr) (xs ys:Array Value) (n n2:Nat) (dd dd2:Option Addr) (sl sl2:Array (Option Value)) (hx:xs.isEmpty=true):Meets (Builtin.«tuple.__add__» ⟨[.ref t,.ref b],[]⟩)
  (fun _ R s=>s.heap.get? t=some { cls:=.type "tuple",dict:=dd,data:=.seq xs n,slots:=sl }/\s.heap.get? b=some { cls:=.type "tuple",dict:=dd2,data:=.seq ys n2,slots:=sl2 }/\R (.ok (.ret (.ref b))) s):=
 .of_wp fun prog w A R s h=>by
  obtain ⟨h1,h2,h⟩:=h
  have sub:isSubtype (Value.type "tuple") (Value.type "tuple")=pure true:=rfl
  wp_walk
  exact⟨_,rfl,h⟩
end Zp
namespace L2
open PySem PySem.Spec PyProof.Rows
section
variable {X : Cx}
noncomputable def N5 (K:PySem.W.Frag):R2:=fun x y H Q=>∃ a b xs ys,x = .ref a/\y = .ref b/\aH K H a xs/\aH K H b ys/\xs.length+ys.length<=sizeLine/\
 (xs = []->Q (.ref b) H)/\(xs ≠ []->ys = []->Q (.ref a) H)/\(xs ≠ []->ys ≠ []->∀ p,H p=none->Q (.ref p) (upd H p (.tup (xs ++ ys))))
theorem aC7:c9 X (binaryOp .Add) (N5 X.K):=by
 intro pins s σ H x y v u Q I rx ry h
 obtain ⟨a,b,xs,ys,ex,ey,ha,hb,hz,q0,q1,q2⟩:=h
 by_cases hx:xs = []
 ·subst ex ey
  cases rx
  cases ry
  obtain ⟨its,r1,p1,_⟩:=I.tuple ha
  obtain ⟨its2,r2,p2,_⟩:=I.tuple hb
  have hi:its = []:=r1.nil_iff.mpr hx
  obtain ⟨⟨cls,dd,data,sl⟩,ho,hc,n,hd⟩:=id p1
  obtain ⟨⟨cls2,dd2,data2,sl2⟩,ho2,hc2,n2,hd2⟩:=id p2
  simp only at hc hd hc2 hd2
  subst hc hd hc2 hd2
  exact concat_meets ⟨_,ho,rfl⟩ ⟨_,ho2,rfl⟩ noFill_tuple_add seq_tuple_add PySem.F.slot_tuple_add PySem.F.entry_tuple_add (PySem.F.args_tuple_add_2 _ _)
   (Zp.aC6 a b its.toArray its2.toArray n n2 dd dd2 sl sl2 (by simp [hi])) ⟨ho,ho2,⟨.ref b,H,I,rfl,q0 hx⟩⟩
 ·exact af2 pins s σ H x y v u Q I rx ry ⟨a,b,xs,ys,ex,ey,ha,hb,hx,hz,q1 hx,q2 hx⟩
end
end L2
namespace PP
open PySem L2 PyProof.Rows
noncomputable def jL (xs:List PV):List PV:=xs.mapIdx fun i x=>PV.tup [.int (i:Int),x]
theorem qR (xs:List PV):(jL xs).length=xs.length:=by unfold jL; rw [List.length_mapIdx]
theorem N6 {xs:List PV}{i:Nat}{x:PV} (h:xs[i]? = some x):(jL xs)[i]? = some (.tup [.int (i:Int),x]):=by
 unfold jL; rw [List.getElem?_mapIdx,h]; rfl
theorem aC8 {xs:List PV}{i:Nat}{z:PV} (h:(jL xs)[i]? = some z):∃ x,xs[i]? = some x/\z = .tup [.int (i:Int),x]:=by
 unfold jL at h
 rw [List.getElem?_mapIdx] at h
 cases e:xs[i]? with
 | none=>rw [e] at h; cases h
 | some x=>rw [e] at h; exact⟨x,rfl,(aW4 h).symm⟩
noncomputable def vI (te:aF):fA:=fun ρ Q=>te ρ fun x g=>∃ xs,(x = .lst xs ∨ x = .tup xs)/\(g = .rd->flat x=true)/\Q (jL xs) (nT g xs)
theorem aC9 {K:PySem.W.Frag}{H0:Hp}{W:Addr->Prop}{g:Bool}{H1:Hp}{a:Addr}{us:List V}{xs:List PV} (tw:∀ a,W a->∃ o,H1 a=some o/\hV o=true) (ha:∀ W' H',Ev W H1 W' H'->aK K H' a us) (r:Reps K (Ms H0 W g) H1 us xs):lW K H0 W g H1 (vG K a) (jL xs):=by
 have lr:=r.length
 have ll:=qR xs
 refine⟨fun W' H' i e hi=>⟨us,us[i]'(by omega),ha W' H' e,by simp⟩,fun W' H' i v H2 e y hi=>?_,fun W' H' e=>⟨us,ha W' H' e,by omega⟩⟩
 obtain ⟨T,x,hT,rfl,rfl,y⟩:=y
 obtain ⟨z,hz,rz⟩:=r.get (y us (ha W' _ e))
 have sm:=bE hT (HO.tup [.int (i:Int),x])
 exact⟨sm,_,N6 hz,.tup bI (.cons (.int _) (.cons ((rz.keep (e.keep tw)).same sm fun _ q=>q) .nil))⟩
theorem aD0 {K:PySem.W.Frag}{H0:Hp}{W:Addr->Prop}{g:Bool}{H1:Hp}{a:Addr}{us:List V}{xs:List PV} (tw:∀ a,W a->∃ o,H1 a=some o/\hV o=true) (ha:∀ W' H',Ev W H1 W' H'->aH K H' a us) (r:Reps K (Ms H0 W g) H1 us xs):lW K H0 W g H1 (vH K a) (jL xs):=by
 have lr:=r.length
 have ll:=qR xs
 refine⟨fun W' H' i e hi=>⟨us,us[i]'(by omega),ha W' H' e,by simp⟩,fun W' H' i v H2 e y hi=>?_,fun W' H' e=>⟨us,ha W' H' e,by omega⟩⟩
 obtain ⟨T,x,hT,rfl,rfl,y⟩:=y
 obtain ⟨z,hz,rz⟩:=r.get (y us (ha W' _ e))
 have sm:=bE hT (HO.tup [.int (i:Int),x])
 exact⟨sm,_,N6 hz,.tup bI (.cons (.int _) (.cons ((rz.keep (e.keep tw)).same sm fun _ q=>q) .nil))⟩
section
variable {X : Cx} {σ : L2.St} {H : Hp} {te : aF} {R : It → Hp → Prop}
theorem aD1 (h:LI X (vI te) σ H R):N4 X.K (gZ (LE X te) iI) σ H R:=by
 obtain ⟨W,ρ,Q,px,q,k⟩:=h
 refine⟨W,ρ,_,px,q,?_⟩
 rintro v H1 x g s r ⟨xs,hx,hg,q⟩
 have px1:=px.mono s
 have tw:∀ a,W a->∃ o,H1 a=some o/\hV o=true:=fun a z=>(px1.wm a z).2
 rcases hx with rfl | rfl
 ·obtain ⟨a,us,rfl,m,h,r⟩:=r.sqL
  have wa : ¬ W a:=by
   cases g with
   | fr=>exact (px.new m).1
   | nw=>exact m.1
   | sh=>exact m
   | rd=>have:=hg rfl; unfold flat at this; cases this
  exact⟨a,rfl,.inl ⟨us,aK.of h,k _ _ _ _ s (aC9 tw (fun W' H' e=>aK.of (e _ _ h wa).1) (lX px (fun z=>by have:=hg z; unfold flat at this; cases this) r)) q⟩⟩
 ·obtain ⟨a,us,rfl,h,r⟩:=r.sqT
  refine⟨a,rfl,.inr ⟨us,aH.of h,k _ _ _ _ s (aD0 tw (fun W' H' e=>aH.of (e _ _ h fun z=>?_).1) (lX px (fun z=>by have:=hg z; unfold flat at this; exact this) r)) q⟩⟩
  obtain ⟨o,h',mu⟩:=tw _ z; rw [h] at h'; cases h'; cases mu
theorem aD2 {elts:List Expr}{kt:Nat}{pt p2 pos:Pos}{a:Expr}{ta:aF} (hg:Gl X "enumerate") (hm:X.mg "enumerate" = none) (ha:QE X a ta) (hs:starEach [a] X.env = [(false,eval a X.env)]:=by rfl):QI X (.Tuple elts kt pt) (.Call (.Name "enumerate" p2) [a] [] pos) (vI ta):=
 pU (aC5 hg hm (cP ha dB hs) hs) fun _ _ _=>aD1
end
section
variable {X : Cx} {e : Expr} {te : aF} {pos p2 : Pos} {scope : Scope} {N : List Str} {fr : List (Option Nat)} {x y : Str} {tp xp yp : Pos} {kt : Nat} {iter elt : Expr} {ti : fA}
noncomputable abbrev vJ (x y:Str) (xp yp:Pos) (kt:Nat) (tp:Pos):Expr:=.Tuple [.Name x xp,.Name y yp] kt tp
theorem aD3 {ifs:List Expr}{tcs:cH} (hc:X.calm=true) (he:∀ (s:Shared) (H:Hp) (C:Addr) (fp:List Addr),QE (bY X scope N s H C fp cV) elt te) (hi:∀ (s:Shared) (H:Hp) (C:Addr) (fp:List Addr),jR (bY X scope N s H C fp cV) ifs (LT (bY X scope N s H C fp cV) tcs))
  (hN:N.Nodup) (h0:N[0]? = some x) (h1:N[1]? = some y) (hl:∀ (s:Shared) (H:Hp) (C:Addr) (fp:List Addr),(bY X scope N s H C fp cV).env.scope.names.lookup x=some .local) (hl2:∀ (s:Shared) (H:Hp) (C:Addr) (fp:List Addr),(bY X scope N s H C fp cV).env.scope.names.lookup y=some .local) (s:Shared) (H:Hp) :
  lM X scope N (vJ x y xp yp kt tp) ifs elt s H (kE X.K 2 (fS (cT 0) (fS (cT 1) kD))) (LT (X.frm H) tcs) (LE (X.frm H) te):=
 ⟨fun C fp=>lF (X:=bY X scope N s H C fp cV) hc (gJ (eU hN h0 (.inl (hl s H C fp)) (.inr (hl s H C fp))) (gJ (eU hN h1 (.inl (hl2 s H C fp)) (.inr (hl2 s H C fp))) lE)),fun C fp=>hi s H C fp,fun C fp=>he s H C fp⟩
theorem aD4 {c:Expr}{tcs:cH} (hi:QI X (vJ x y xp yp kt tp) iter ti) (ht:∀ (s:Shared) (H:Hp) (C:Addr) (fp:List Addr),QT (bY X scope N s H C fp cV) c tcs) (he:∀ (s:Shared) (H:Hp) (C:Addr) (fp:List Addr),QE (bY X scope N s H C fp cV) elt te)
  (hc:X.calm=true:=by rfl) (S:dD X scope N fr:=by exact dD.of rfl rfl) (hN:N.Nodup:=by decide +kernel) (h0:N[0]? = some x:=by rfl) (h1:N[1]? = some y:=by rfl) (hl:∀ (s:Shared) (H:Hp) (C:Addr) (fp:List Addr),(bY X scope N s H C fp cV).env.scope.names.lookup x=some .local:=by intro _ _ _ _; rfl) (hl2:∀ (s:Shared) (H:Hp) (C:Addr) (fp:List Addr),(bY X scope N s H C fp cV).env.scope.names.lookup y=some .local:=by intro _ _ _ _; rfl) (hf:fr[0]? = some none:=by rfl) (hf2:fr[1]? = some none:=by rfl)
  (hs:∀ x,foldedSetIterable iter X.env x=pure x:=by intro _; rfl):QE X (.ListComp elt [⟨vJ x y xp yp kt tp,iter,[c],0⟩] scope pos) (g9 ti fr (jU 0 1) tcs te):=
 cJ (tD (gh:=fun _=>kE X.K 2 (fS (cT 0) (fS (cT 1) kD))) (tch:=fun H=>LT (X.frm H) tcs) (teh:=fun H=>LE (X.frm H) te) hc S hi (aD3 hc he (fun s H C fp=>t7 (ht s H C fp)) hN h0 h1 hl hl2) hs) fun _ _ _=>pP (u8 _ 0 1) (fun i e=>by rcases e with e | e <;> (subst e; assumption))
end
section
variable {X : Cx} {a b e o f : Expr} {ta tb te td tk tx : aF} {pos p2 apos cpos : Pos} {σ : L2.St} {H : Hp} {Q' : VK}
noncomputable def N7:PV->Tg->PV->Tg->PK->Prop:=fun x _ y _ Q=>∃ xs n,x = .lst xs/\y = .int n/\flats xs=true/\-1000000<=n/\n<=1000000/\xs.length<=10/\Q (.lst (List.replicate n.toNat xs).flatten) .fr
noncomputable abbrev vK (ta tb:aF):aF:=q2 N7 ta tb
theorem aD5:dL X N7 yO:=by
 rintro W Hs H u v x y g g' Q Q' s n r1 r2 ⟨xs,m,rfl,rfl,f,h1,h2,hl,q⟩ k
 cases r2
 obtain ⟨a,us,rfl,mm,h,r⟩:=r1.sqL
 have lr:=r.length
 refine⟨a,m,us,rfl,rfl,h,by omega,by omega,lim ?_,fun p hp=>k _ _ _ .fr (bE hp _) (.lst (s.free hp) bI (((r.flat f).rep m.toNat).same (bE hp _) fun _ z=>z)) q⟩
 have h3:us.length<=10:=by omega
 have h4:m.toNat<=1000000:=by omega
 calc us.length * m.toNat<=10 * 1000000:=Nat.mul_le_mul h3 h4
  _<=16000000:=by decide
theorem N8 (ha:QE X a ta) (hb:QE X b tb):QE X (.BinOp a .Mult b pos) (vK ta tb):=iO ag7 aD5 ha hb
end
section
variable {X : Cx} {a b : Expr} {ta tb : aF} {pos : Pos}
noncomputable def N9:PV->Tg->PV->Tg->PK->Prop:=fun x _ y _ Q=>∃ xs ys,x = .tup xs/\y = .tup ys/\flats xs=true/\flats ys=true/\xs.length+ys.length<=16000000/\Q (.tup (xs ++ ys)) .fr
noncomputable abbrev iC (ta tb:aF):aF:=q2 N9 ta tb
theorem aD6:dL X N9 (N5 X.K):=by
 rintro W Hs H u v x y g g' Q Q' s n r1 r2 ⟨xs,ys,rfl,rfl,f1,f2,hl,q⟩ k
 obtain ⟨a,us,rfl,h1,q1⟩:=r1.sqT
 obtain ⟨b,ws,rfl,h2,q2⟩:=r2.sqT
 have l1:=q1.length
 have l2:=q2.length
 refine⟨a,b,us,ws,rfl,rfl,aH.of h1,aH.of h2,lim (by omega),fun z=>?_,fun _ z=>?_,fun _ _ p hp=>k _ _ _ .fr (bE hp _) (.tup bI (((q1.flat f1).append (q2.flat f2)).same (bE hp _) fun _ z=>z)) q⟩
 ·obtain rfl:xs = []:=by cases xs with
   | nil=>rfl
   | cons _ _=>rw [z] at l1; cases l1
  exact k _ _ _ .fr (aE.refl _) (.tup h2 (q2.flat f2)) q
 ·obtain rfl:ys = []:=by cases ys with
   | nil=>rfl
   | cons _ _=>rw [z] at l2; cases l2
  rw [aX2] at q
  exact k _ _ _ .fr (aE.refl _) (.tup h1 (q1.flat f1)) q
theorem oD (ha:QE X a ta) (hb:QE X b tb):QE X (.BinOp a .Add b pos) (iC ta tb):=iO aC7 aD6 ha hb
end
end PP
namespace Core
open PySem L2 PP
section
variable (ws : List Int) (ls : List (Int × Int)) (os ns : List Int)
noncomputable def gF:Nat->List Int
 | 0=>[]
 | k+1=>gF k ++ (os.find? (kin ws ls (ns ++ gF k))).toList
noncomputable def oE (k:Nat):Option Int:=os.find? (kin ws ls (ns ++ gF ws ls os ns k))
end
section
variable {ws : List Int} {ls : List (Int × Int)} {os ns : List Int}
theorem aD7 {k:Nat}{h:Int} (e:oE ws ls os ns k=some h):gF ws ls os ns (k+1)=gF ws ls os ns k ++ [h]:=by
 show gF ws ls os ns k ++ (oE ws ls os ns k).toList=_
 rw [e]; rfl
theorem aD8 {S T:List Int}{h:Int} (hk:kin ws ls S h=true) (st:∀ x ∈ S,x ∈ T) (hn:h ∉ T):kin ws ls T h=true:=by
 unfold kin at hk ⊢
 rw [aX3] at hk ⊢
 refine⟨by rw [aU1 hn]; rfl,aU5 ?_⟩
 have h1:=bb3 hk.2
 have h2:((b8 ls h).filter fun x=>decide (x ∈ S)).length<=((b8 ls h).filter fun x=>decide (x ∈ T)).length:=by
  rw [<- List.countP_eq_length_filter,<- List.countP_eq_length_filter]
  exact List.countP_mono_left fun x _ hx=>aU5 (st x (bb3 hx))
 omega
noncomputable def qS (ws:List Int) (ls:List (Int × Int)) (T:List Int):Prop:=∀ h ∈ rng ws.length,kin ws ls T h=false
theorem O0 {T:List Int} (sh:qS ws ls T) (st:∀ x ∈ ns,x ∈ T):∀ k,∀ x ∈ aT ws ls ns k,x ∈ T
 | 0,x,hx=>st x hx
 | k+1,x,hx=>by
  have ih:=O0 sh st k
  rcases aW8.mp (show x ∈ aT ws ls ns k ++ nextOf ws ls (aT ws ls ns k) from hx) with hx | hx
  ·exact ih x hx
  ·have hx:=aZ0.mp hx
   by_cases e:x ∈ T
   ·exact e
   ·have:=aD8 hx.2 ih e
    rw [sh x hx.1] at this; cases this
theorem aD9 {k:Nat}{h:Int} (e:oE ws ls os ns k=some h):h ∈ os/\h ∉ ns ++ gF ws ls os ns k:=
 ⟨List.mem_of_find?_eq_some e,bg1 (uZ (List.find?_some e))⟩
theorem aE0 (po:os.Perm (rng ws.length)) (hs:dR ws.length ns=true):∀ k,(ns ++ gF ws ls os ns k).Nodup/\∀ x ∈ ns ++ gF ws ls os ns k,x ∈ rng ws.length
 | 0=>by
  rw [show gF ws ls os ns 0 = [] from rfl,aX2]
  exact⟨(kU (jK hs).1).imp fun h=>Int.ne_of_lt h,fun x hx=>iA.mpr ((jK hs).2 x hx)⟩
 | k+1=>by
  obtain ⟨i1,i2⟩:=aE0 po hs k
  cases e:oE ws ls os ns k with
  | none=>
   have:gF ws ls os ns (k+1)=gF ws ls os ns k:=by
    show gF ws ls os ns k ++ (oE ws ls os ns k).toList=_
    rw [e]; exact aX2 _
   rw [this]; exact⟨i1,i2⟩
  | some h=>
   obtain ⟨n1,n2⟩:=aD9 e
   rw [aD7 e,<- bj4]
   refine⟨bh4.mpr ⟨i1,aY0 _ _,fun x hx y hy=>?_⟩,fun x hx=>?_⟩
   ·rw [aU3.mp hy]; intro z; subst z; exact n2 hx
   ·rcases aW8.mp hx with hx | hx
    ·exact i2 x hx
    ·rw [aU3.mp hx]; exact po.mem_iff.mp n1
theorem O1 (hs:dR ws.length ns=true):∀ k,(aT ws ls ns k).Nodup
 | 0=>(kU (jK hs).1).imp fun h=>Int.ne_of_lt h
 | k+1=>by
  show (aT ws ls ns k ++ nextOf ws ls (aT ws ls ns k)).Nodup
  refine bh4.mpr ⟨O1 hs k,(L7 ws.length).filter _,fun x hx y hy=>?_⟩
  intro z; subst z
  exact bg1 (uZ (aZ0.mp hy).2) hx
end
theorem k9 {i:Nat}{h:Int}{g:Bool}{ρ:bM}{Q:bM->Prop} (q:Q (ρ.set i (some (.sh true (.int h))))):bZ i (.int h) g ρ Q:=by
 show Q (ρ.set i (some (.sh (g || true) (.int h))))
 rw [Bool.or_true]; exact q
noncomputable def aE1 (ns S:List Int):Int:=(ns.length:Int) - (((ns.filter fun x=>decide (x ∈ S)).length:Nat):Int)
noncomputable def aE2 (ws:List Int) (ls:List (Int × Int)) (S:List Int) (h:Int):Bool:=decide (aE1 (b8 ls h) S < ws.getD h.toNat 0)
noncomputable def stay (ws:List Int) (ls:List (Int × Int)) (S:List Int):List Int:=S.filter (aE2 ws ls S)
end Core
namespace PP
open PySem L2 PyProof.Rows
section
variable {X : Cx} {a b e : Expr} {ta tb te : aF} {tr : cS} {pos p2 : Pos}
theorem aE3 {x:Str}{a:Addr}{us:List V}{xs:List PV} (hg:Gl X x) (hm:X.mg x=some (.ref a)) (h:jA X.K a us) (hr:∀ M H,Reps X.K M H us xs) (hd:(x == ("__debug__" : Str))=false:=by decide):QE X (.Name x pos) (qC (.kt xs)):=
 cJ (wL (v:=.ref a) hg hm rfl hd) fun _ _ _=>nM fun _=>.kt h (hr _ _)
noncomputable def vL (K:PySem.W.Frag) (mg:Str->Option Value):Prop:=∃ a b,mg "CAUSE_OF_SEED" = some (.ref a)/\jA K a [.int 0,.ref b]/\jA K b []
theorem aE4 (c:vL X.K X.mg) (hg:Gl X "CAUSE_OF_SEED":=by rfl):QE X (.Name "CAUSE_OF_SEED" pos) (qC (.kt [.int 0,.kt []])):=by
 obtain ⟨a,b,hm,h1,h2⟩:=c
 exact aE3 hg hm h1 fun _ _=>.cons (.int 0) (.cons (.kt h2 .nil) .nil)
end
end PP
namespace Core
open PySem L2 PP
section
variable {ws : List Int} {ls : List (Int × Int)} {ns : List Int} {m : Nat}
noncomputable def aE5 (ws:List Int) (ls:List (Int × Int)) (ns:List Int):Nat->List Int
 | 0=>ns
 | k+1=>nextOf ws ls (aT ws ls ns k)
theorem vM {x:Int}:∀ k,x ∈ aT ws ls ns k ↔ ∃ j,j<=k/\x ∈ aE5 ws ls ns j
 | 0=>by
  constructor
  ·exact fun h=>⟨0,aT9 _,h⟩
  ·rintro ⟨j,hj,h⟩
   obtain rfl:j=0:=by omega
   exact h
 | k+1=>by
  show x ∈ aT ws ls ns k ++ nextOf ws ls (aT ws ls ns k) ↔ _
  rw [aW8,vM k]
  constructor
  ·rintro (⟨j,hj,h⟩ | h)
   ·exact⟨j,by omega,h⟩
   ·exact⟨k+1,aT9 _,h⟩
  ·rintro ⟨j,hj,h⟩
   by_cases e:j=k+1
   ·subst e; exact .inr h
   ·exact .inl ⟨j,by omega,h⟩
end
theorem aE6 {xs:List PV}{w:Int} (h:0<=w):fC xs none (some w)=xs.take w.toNat:=by
 unfold fC
 rw [HT.ae1,List.drop_zero,Nat.sub_zero]
 have:HT.aV xs.length xs.length (some w)=min w.toNat xs.length:=by
  show (if w < 0 then (w+(xs.length:Int)).toNat else min w.toNat xs.length)=_
  rw [if_neg (by omega)]
 rw [this,<- List.take_take,bb1]
theorem qT {n:Int}{ws:List Int}{ls:List (Int × Int)} (w:cL n ws ls) (h:Int):(b8 ls h).length<=63:=
 aX8 (v4 h ls fun l hl=>by have:=w.inn l hl; omega) w.most
noncomputable def aE7:aU:=(aX (i5 (m7 (a5 0) (qC .non)) (iN (b4 (a5 0) (qC (.int 0))) (a5 1))))
theorem aE8 (g:Tg) (n:Int):lT g (.int n):=by cases g <;> first | exact trivial | rfl
theorem aE9 (g:Tg) (ns:List Int):lT g (.tup (intz ns)):=by cases g <;> first | exact trivial | exact iS ns
theorem O2 {ls:List (Int × Int)}{h x:Int}:x ∈ b8 ls h ↔ ∃ l ∈ ls,(l.1=h/\l.2=x) ∨ (l.2=h/\l.1=x):=by
 unfold b8
 rw [List.mem_flatMap]
 constructor
 ·rintro ⟨l,hl,hx⟩
  refine⟨l,hl,?_⟩
  rcases aW8.mp hx with hx | hx
  ·split at hx
   ·rename_i e; exact .inl ⟨e,(aU3.mp hx).symm⟩
   ·cases hx
  ·split at hx
   ·rename_i e; exact .inr ⟨e,(aU3.mp hx).symm⟩
   ·cases hx
 ·rintro ⟨l,hl,⟨e1,e2⟩ | ⟨e1,e2⟩⟩
  ·exact⟨l,hl,bg8 _ (by rw [if_pos e1,e2]; exact be9 _)⟩
  ·exact⟨l,hl,aY1 _ (by rw [if_pos e1,e2]; exact be9 _)⟩
theorem O3 {h:Int}:∀ {ls:List (Int × Int)},(∀ l ∈ ls,l.1 < l.2)->ls.Pairwise iU->(b8 ls h).Nodup
 | [],_,_=>.nil
 | l :: r,hl,hp=>by
  have ih:=O3 (h:=h) (ls:=r) (fun m hm=>hl m (aV3 _ hm)) (List.pairwise_cons.mp hp).2
  have h0:=hl l aV2
  have e:b8 (l :: r) h=((if l.1=h then [l.2] else []) ++ (if l.2=h then [l.1] else [])) ++ b8 r h:=rfl
  rw [e]
  refine bh4.mpr ⟨?_,ih,fun x hx y hy q=>?_⟩
  ·by_cases e1:l.1=h
   ·rw [if_pos e1,if_neg (by omega),aX2]; exact aY0 _ _
   ·rw [if_neg e1]
    split
    ·exact aY0 _ _
    ·exact .nil
  ·subst q
   obtain ⟨m,hm,c⟩:=O2.mp hy
   have h1:=hl m (aV3 _ hm)
   have h2:=(List.pairwise_cons.mp hp).1 m hm
   have c':(l.1=h/\l.2=x) ∨ (l.2=h/\l.1=x):=by
    rcases aW8.mp hx with hx | hx
    ·split at hx
     ·rename_i e; exact .inl ⟨e,(aU3.mp hx).symm⟩
     ·cases hx
    ·split at hx
     ·rename_i e; exact .inr ⟨e,(aU3.mp hx).symm⟩
     ·cases hx
   unfold iU at h2
   omega
theorem cL.nd {n:Int}{ws:List Int}{ls:List (Int × Int)} (w:cL n ws ls) (h:Int):(b8 ls h).Nodup:=O3 (fun l hl=>(w.inn l hl).2.1) w.ord
theorem cL.nb {n:Int}{ws:List Int}{ls:List (Int × Int)} (w:cL n ws ls) {h x:Int} (hx:x ∈ b8 ls h):0<=x/\x < n:=by
 obtain ⟨l,hl,c⟩:=O2.mp hx
 have:=w.inn l hl
 omega
theorem vN:∀ n:Nat,flats (List.replicate n [PV.non]).flatten=true
 | 0=>rfl
 | n+1=>by rw [aZ2,be1]; exact vN n
theorem aF0 {ws:List Int}{ls:List (Int × Int)}{ns:List Int} (hs:dR ws.length ns=true) {k:Nat}{x:Int} (h:x ∈ aT ws ls ns k):0<=x/\x < (ws.length:Int):=by
 obtain ⟨j,_,hj⟩:=(vM k).mp h
 cases j with
 | zero=>exact (jK hs).2 x hj
 | succ j=>
  have hj:x ∈ nextOf ws ls (aT ws ls ns j):=hj
  unfold nextOf at hj
  exact iA.mp (aZ0.mp hj).1
theorem O4 {ns:List Int}{w:Int} (h:0<=w):fC (intz ns) none (some w)=intz (ns.take w.toNat):=by
 rw [aE6 h]; exact List.map_take.symm
theorem aF1 (n:Nat):(rng n).Pairwise (· < ·):=by
 unfold rng
 rw [bh2]
 exact (List.pairwise_lt_range (n:=n)).imp fun h=>by omega
section
variable {ws : List Int} {ls : List (Int × Int)} {ns wts : List Int} {m : Nat}
noncomputable def loose (ls:List (Int × Int)) (wts ns:List Int):List ((Int × Int) × Int):=(ls.zip wts).filter fun z=>!(decide (z.1.1 ∈ ns) && decide (z.1.2 ∈ ns))
end
end Core
namespace PP
open PySem L2 PyProof.Rows
section
variable {X : Cx} {a b e : Expr} {ta tb te : aF} {D : cK} {σ : L2.St} {H : Hp} {pos p2 : Pos}
noncomputable def qU (p:iM) (te:aF):aU:=fun D ρ=>te ρ fun x g=>lT g x/\p x (tY g x) ρ fun ρ2=>D.nx ρ2
theorem aF2 {p:iM}{g:TG}{own:Nat->Prop} (hg:lY X.K own p g) (h:LS X (qU p te) D σ H):jO (LE X te) g D σ H:=by
 obtain ⟨W,ρ,D',px,q,k⟩:=h
 refine⟨W,ρ,_,px,q,?_⟩
 rintro v H1 x gt s r ⟨st,q⟩
 refine hg X.H₀ W σ ρ H1 v x _ _ _ (px.mono s) (B2 px st r) q fun σ' ρ' px' _ _ q'=>?_
 exact k.nx W σ' H1 ρ' (Ev.same s) px' q'
theorem O5 (i j:Nat) {x y:Str}{tp xp yp:Pos}{kt:Nat} (hN:X.N.Nodup) (he:QE X e te) (hx:X.N[i]? = some x:=by rfl) (hy:X.N[j]? = some y:=by rfl) (hlx:gW X.env.scope x:=by first | exact Or.inl rfl | exact Or.inr rfl) (hly:gW X.env.scope y:=by first | exact Or.inl rfl | exact Or.inr rfl)
  (hfx:X.fn x=true ∨ X.env.scope.names.lookup x=some .local:=by first | exact .inl rfl | exact .inr rfl) (hfy:X.fn y=true ∨ X.env.scope.names.lookup y=some .local:=by first | exact .inl rfl | exact .inr rfl) (hc:X.calm=true:=by rfl)
  (hs:swapsWithSole [.Tuple [.Name x xp,.Name y yp] kt tp] e pos.line X.env=pure false:=by rfl) (hw:swappedStores [.Tuple [.Name x xp,.Name y yp] kt tp] e X.env=pure none:=by rfl):QS X (.Assign [.Tuple [.Name x xp,.Name y yp] kt tp] e pos) (qU (jU i j) te):=by
 have g:PG X (.Tuple [.Name x xp,.Name y yp] kt tp) (kE X.K 2 (fS (cT i) (fS (cT j) kD))):=lF hc (gJ (eU hN hx hlx hfx) (gJ (eU hN hy hly hfy) lE))
 exact eF (wW he g hs hw) fun _ _ _=>aF2 (u8 _ i j)
end
noncomputable abbrev iD:=(Str->Prop)->bV
noncomputable def EX (K:PySem.W.Frag) (H0:Hp) (Ep:Str->Prop):XK:=fun c d H'=>d=none/\aE H0 H'/\∃ n C,c = .ref C/\PySem.W.nsIn K mainGlobals n=some (some (.ref C))/\Ep n
noncomputable def O6 (K:PySem.W.Frag) (p:iD):Sp:=fun vs H Q E=>∃ xs Qp Ep,Reps K (fun _=>True) H vs xs/\p Ep xs Qp/\(∀ v H' x,aE H H'->aI K (fun a=>H a=none) H' v x->Qp x->Q v H')/\
 ∀ n C H',aE H H'->PySem.W.nsIn K mainGlobals n=some (some (.ref C))->Ep n->E (.ref C) none H'
structure gG (P:Program) (w:World) (K:PySem.W.Frag) (mg:Str->Option Value) (base:Heap) (k:Nat) (x:Str) (ps:List Str) (p:iD):Prop where
 ex:∃ f fd,cU P w K mg base (e8 P w) k f fd ps (O6 K p)/\iJ K fd ps []/\PySem.W.keepIn K (.ref f)=true/\mg x=some (.ref f)
section
variable {X : Cx} {σ : L2.St} {H : Hp} {D : cK} {tr : cS} {Q' : VK} {a b c e : Expr} {es : List Expr} {pos p2 cp np hp : Pos} {t : aU} {te : aF} {tc : cH}
noncomputable def vO (Ep:Str->Prop) (p:iD) (t:cS):aF:=aC (p Ep) t
theorem aF3 {p:iD}{Ep:Str->Prop} (h:LE X (vO Ep p tr) σ H Q'):sJ (O6 X.K p) [] (EX X.K X.H₀ Ep) (LA X tr) σ H Q':=by
 obtain ⟨W,ρ,Q,px,q,k⟩:=h
 refine⟨W,ρ,_,px,q,fun vs H1 xs s1 r1 q1=>⟨_,_,Ep,by rw [aX2]; exact r1.any,q1,fun v H' x s2 r2 q2=>k v H' x .fr (s1.trans s2) (r2.same (aE.refl _) fun _ z=>s1.free z) q2,fun n C H' s2 z1 z2=>⟨rfl,(px.same.trans s1).trans s2,n,C,rfl,z1,z2⟩⟩⟩
theorem aF4 {Ep:Str->Prop}{k j:Nat}{x:Str}{ps:List Str}{p:iD} (hX:m9 X (EX X.K X.H₀ Ep)) (d:gG X.prog X.w X.K X.mg X.base k x ps p) (hr:cG j X.A) (ha:QA X (e :: es) tr) (hkj:k<=j:=by decide) (hg:Gl X x:=by rfl) (hdb:(x == ("__debug__" : Str))=false:=by decide)
  (he:starEach (e :: es) X.env=(false,eval e X.env) :: starEach es X.env:=by rfl) (hpl:(backTo pos (starEach es X.env)).any (·.1)=false:=by rfl):QE X (.Call (.Name x p2) (e :: es) [] pos) (vO Ep p tr):=by
 obtain ⟨f,fd,F,b,kp,m⟩:=d.ex
 exact cJ (xP F (hr.mono hkj) hg m kp b .nil hX.pass ha hdb he hpl) fun _ _ _=>aF3
noncomputable def oF (Ep:Str->Prop) (n:Str) (t:cS):aU:=fun _ ρ=>t ρ fun xs=>xs.length<=1000/\Ep n
theorem aF5 {Ep:Str->Prop}{n:Str}{C:Addr} (hn:PySem.W.nsIn X.K mainGlobals n=some (some (.ref C))) (h:LS X (oF Ep n tr) D σ H):G4 (EX X.K X.H₀ Ep) C (LA X tr) D σ H:=by
 obtain ⟨W,ρ,D',px,q,k⟩:=h
 exact⟨W,ρ,_,px,q,fun vs H1 xs s1 r z=>⟨by rw [r.length]; exact tW z.1,rfl,px.same.trans s1,n,C,rfl,hn,z.2⟩⟩
structure Xc (K:PySem.W.Frag) (mg:Str->Option Value) (base:Heap) (n:Str):Prop where
 ex:∃ C B newId initId bm,OwnCls n C bm newId mg base/\ExcBaseFacts B newId initId bm/\PySem.W.nsIn K mainGlobals n=some (some (.ref C))
theorem vP {Ep:Str->Prop}{n:Str} (hX:m9 X (EX X.K X.H₀ Ep)) (x:Xc X.K X.mg X.base n) (ha:QA X (e :: es) tr) (hc:X.calm=true:=by rfl) (hg:Gl X n:=by rfl) (hd:(n == ("__debug__" : Str))=false:=by decide)
  (he:starEach (e :: es) X.env=(false,eval e X.env) :: starEach es X.env:=by rfl) (hpl:(backTo cp (starEach es X.env)).any (·.1)=false:=by rfl):QS X (.Raise (some (.Call (.Name n np) (e :: es) [] cp)) none pos) (oF Ep n tr):=by
 obtain ⟨C,B,newId,initId,bm,O,FB,hn⟩:=x.ex
 exact eF (au4 hX hc O FB ha hg hd he hpl) fun _ _ _=>aF5 hn
noncomputable abbrev mB:=fY->(Str->Prop)->bM->Prop
noncomputable def LB (X:Cx) (t:mB):TB:=fun D Ex σ H=>∃ (W:Addr->Prop) (ρ:bM) (D':fY) (Ep:Str->Prop),PX X.K X.H₀ W σ ρ H/\t D' Ep ρ/\nN X W H D' D/\∀ n C H',aE H H'->PySem.W.nsIn X.K mainGlobals n=some (some (.ref C))->Ep n->Ex (.ref C) none H'
noncomputable def QB (X:Cx) (sts:List Stmt) (t:mB):Prop:=PB X sts (LB X t)
theorem pbI {sts:List Stmt}{t t':TB} (h:PB X sts t) (m:∀ D Ex σ H,t' D Ex σ H->t D Ex σ H):PB X sts t':=fun pins s σ H D Ex I q=>h pins s σ H D Ex I (m D Ex σ H q)
noncomputable def O7 (D:fY) (i:Nat):fY:={ nx:=fun ρ=>D.nx (ρ.set i none),rt:=D.rt,bk:=fun ρ=>D.bk (ρ.set i none),ct:=fun ρ=>D.ct (ρ.set i none) }
noncomputable def mC:List Str:=["BadWeb","BadSet","BadOrder","BadPrices","BadBoard","BadDeed","NotWood","NoPaper","NoSuch","TooMany","NoText","OddRound"]
noncomputable def l8 (n m:Str):Option Bool:=if mC.contains n then some (n == m || m == "HearthError" || m == "ValueError") else none
noncomputable def vQ (m:Str) (i:Nat) (tb:mB) (ts:aU):aU:=fun D ρ=>tb D (fun n=>l8 n m=some true/\ts (O7 D i) (ρ.set i (some (.sh true (.exc n))))) ρ
theorem aF6 {m:Str}{Ch:Addr}{i:Nat}{tb:mB}{ts:aU} (hs:∀ n C,l8 n m=some true->PySem.W.nsIn X.K mainGlobals n=some (some (.ref C))->PySem.W.subIn X.K (.ref C) (.ref Ch)=some true) (h:LS X (vQ m i tb ts) D σ H):G6 X.K Ch i (LB X tb) (LS X ts) D σ H:=by
 obtain ⟨W,ρ,D',px,q,k⟩:=h
 refine⟨W,ρ,D',_,px,q,k,fun n C H' s z1 z2 a C' oe hc na hcl=>?_⟩
 cases hc
 refine⟨hs n C z2.1 z1,W,_,O7 D' i,(px.mono (s.trans (bE na _))).setSh (g:=true) (.exc bI z1 hcl),z2.2,?_⟩
 have k':=k.step (Ev.same (W:=W) (s.trans (bE na (.frz oe (.own a)))))
 exact⟨fun W' σ' H2 ρ' ev px' q'=>k'.nx W' _ H2 _ ev px'.setNone q',k'.rt,fun W' σ' H2 ρ' ev px' q'=>k'.bk W' _ H2 _ ev px'.setNone q',fun W' σ' H2 ρ' ev px' q'=>k'.ct W' _ H2 _ ev px'.setNone q'⟩
structure vR (K:PySem.W.Frag) (mg:Str->Option Value) (m:Str):Prop where
 ex:∃ Ch,mg m=some (.ref Ch)/\uW K Ch/\∀ n C,l8 n m=some true->PySem.W.nsIn K mainGlobals n=some (some (.ref C))->PySem.W.subIn K (.ref C) (.ref Ch)=some true
theorem aF7 (i:Nat) {m n:Str}{b₀:Stmt}{suite body:List Stmt}{tb:mB}{ts:aU} (ct:vR X.K X.mg m) (hN:X.N.Nodup) (hb:QB X body tb) (hs:∀ a,eN (X.suite a) (b₀ :: suite) ts) (hstk:X.stack=X.env :: X.outer/\X.env.frame=some X.env.locals:=by exact⟨rfl,rfl⟩) (hi:X.N[i]? = some n:=by rfl) (hl:X.env.scope.names.lookup n=some .local:=by rfl) (hg:Gl X m:=by rfl)
  (hd:(m == ("__debug__" : Str))=false:=by decide):QS X (.Try body [.ExceptHandler (some (.Name m np)) (some n) (b₀ :: suite) hp] [] [] pos) (vQ m i tb ts):=by
 obtain ⟨Ch,hm,c,sub⟩:=ct.ex
 exact eF (au7 (ts:=LS X ts) hstk hb hg hm c hN hi hl (fun a=>uF (hs a) fun _ _ _ ⟨W,ρ,D',px,q,k⟩=>⟨W,ρ,D',px,q,⟨k.nx,k.rt,k.bk,k.ct⟩⟩) hd) fun _ _ _=>aF6 sub
noncomputable def hU:V->Value
 | .ref a=>.ref a
 | .ty n=>.type n
 | _=>.none
noncomputable def aF8 (K:PySem.W.Frag):List V->Hp->VK->Prop:=fun xs H Q=>∃ v v2 b,xs = [v,v2]/\hU v2 ≠ .none/\((∃ a o C,v = .ref a/\H a=some (.frz o (.own a))/\o.cls = .ref C/\iQ K C/\PySem.W.kitOne K (.ref C) (hU v2)=some b) ∨ (v = .non/\PySem.W.kitOne K (.type "NoneType") (hU v2)=some b))/\Q (.bl b) H
theorem aF9:cO X (.builtin "isinstance") (aF8 X.K):=by
 intro pins s σ H xs us Q I r h
 obtain ⟨v,v2,b,rfl,hv,hk,q⟩:=h
 obtain ⟨u,u',rfl,ru,ru'⟩:=mT r
 obtain rfl:u'=hU v2:=by
  cases v2 <;> first | exact ru' | exact absurd rfl hv
 rcases hk with ⟨a,o,C,rfl,hH,hc,F,e⟩ | ⟨rfl,e⟩
 ·obtain ⟨h1,_⟩:=I.hok a _ hH
  cases (show u=Value.ref a from ru)
  exact ba7 (av4 F) I.kIn ⟨o,h1,hc⟩ e (fun z=>nomatch z) fun tk=>⟨.bl b,H,I.tok tk,rfl,q⟩
 ·cases (show u=Value.none from ru)
  exact ba7 PySem.W.kitx_none I.kIn trivial e (fun z=>nomatch z) fun tk=>⟨.bl b,H,I.tok tk,rfl,q⟩
noncomputable def aG0 (m:Str):PV->Option Bool
 | .exc n=>l8 n m
 | .non=>some false
 | _=>none
noncomputable def mD (m:Str) (te:aF):aF:=fun ρ Q=>te ρ fun x _=>∃ b,aG0 m x=some b/\Q (.bl b) .fr
structure vS (K:PySem.W.Frag) (m:Str) (v2:V):Prop where
 nn:hU v2 ≠ .none
 ex:∀ n C b,PySem.W.nsIn K mainGlobals n=some (some (.ref C))->l8 n m=some b->iQ K C/\PySem.W.kitOne K (.ref C) (hU v2)=some b
 no:PySem.W.kitOne K (.type "NoneType") (hU v2)=some false
theorem O8 {x:Str}{v2:V}{px:Pos} (B:Bt X.mg) (A:vS X.K x v2) (hx:PE X (.Name x px) (tC v2)) (ha:QE X a te) (hg:Gl X "isinstance":=by rfl)
  (he:starEach [a,.Name x px] X.env=(false,eval a X.env) :: starEach [.Name x px] X.env:=by rfl) (he2:starEach [.Name x px] X.env=(false,eval (.Name x px) X.env) :: starEach [] X.env:=by rfl) (hpl:(backTo pos (starEach [.Name x px] X.env)).any (·.1)=false:=by rfl):QE X (.Call (.Name "isinstance" p2) [a,.Name x px] [] pos) (mD x te):=
 cJ (lJ aF9 hg B.isinst PyProof.Rows.boot_isinstance (cP ha (cP hx dB he2) he) (he:=he) (hpl:=hpl)) fun σ H Q' h=>by
  obtain ⟨W,ρ,Q,px,q,k⟩:=h
  refine⟨W,ρ,_,px,q,?_⟩
  rintro v H1 y g s r ⟨b,e,q⟩
  refine⟨v,v2,b,rfl,A.nn,?_,k _ _ _ .fr s (.bl _) q⟩
  cases r with
  | exc h z c=>
   obtain ⟨F,kt⟩:=A.ex _ _ _ z e
   exact .inl ⟨_,_,_,rfl,h,c,F,kt⟩
  | non=>cases e; exact .inr ⟨rfl,A.no⟩
  | _=>cases e
end
section
variable {X : Cx} {a : Expr} {pos p2 px : Pos} {te : aF}
structure oG (K:PySem.W.Frag) (mg:Str->Option Value) (m:Str):Prop where
 ex:∃ C,mg m=some (.ref C)/\vS K m (.ref C)
structure vT (K:PySem.W.Frag) (mg:Str->Option Value):Prop where
 mg:mg "ValueError" = none
 is:vS K "ValueError" (.ty "ValueError")
theorem O9 {x:Str} (B:Bt X.mg) (A:oG X.K X.mg x) (ha:QE X a te) (hgx:Gl X x:=by rfl) (hdx:(x == ("__debug__" : Str))=false:=by decide) (hg:Gl X "isinstance":=by rfl)
  (he:starEach [a,.Name x px] X.env=(false,eval a X.env) :: starEach [.Name x px] X.env:=by rfl) (he2:starEach [.Name x px] X.env=(false,eval (.Name x px) X.env) :: starEach [] X.env:=by rfl) (hpl:(backTo pos (starEach [.Name x px] X.env)).any (·.1)=false:=by rfl):QE X (.Call (.Name "isinstance" p2) [a,.Name x px] [] pos) (mD x te):=by
 obtain ⟨C,m,i⟩:=A.ex
 exact O8 B i (wL hgx m rfl hdx) ha hg he he2 hpl
theorem aG1 (B:Bt X.mg) (A:vT X.K X.mg) (ha:QE X a te) (hgx:Gl X "ValueError":=by rfl) (hg:Gl X "isinstance":=by rfl)
  (he:starEach [a,.Name "ValueError" px] X.env=(false,eval a X.env) :: starEach [.Name "ValueError" px] X.env:=by rfl) (he2:starEach [.Name "ValueError" px] X.env=(false,eval (.Name "ValueError" px) X.env) :: starEach [] X.env:=by rfl) (hpl:(backTo pos (starEach [.Name "ValueError" px] X.env)).any (·.1)=false:=by rfl):QE X (.Call (.Name "isinstance" p2) [a,.Name "ValueError" px] [] pos) (mD "ValueError" te):=
 O8 B A.is (wM (v:=.ty "ValueError") hgx A.mg PyProof.Rows.Boot.«ValueError» rfl (by decide) (by decide)) ha hg he he2 hpl
end
structure l9 (K:PySem.W.Frag) (C:Addr):Prop where
 cls:PySem.W.isClsIn K C=true
 ty:PySem.W.typeIn K (.ref C)=some (.type "type")
 ga:PySem.W.findIn K (.ref C) "__getattribute__" = some (some (.builtin "BaseException.__getattribute__"))
 gt:PySem.W.findIn K (.ref C) "__getattr__" = some none
 fc:PySem.W.findIn K (.ref C) "__class__" = some (some (.builtin "object.__class__"))
 fg:PySem.W.specialIn K (.builtin "object.__class__") "__get__" = some (some (.builtin "getset_descriptor.__get__"))
 ft:PySem.W.takesIn K (.builtin "object.__class__")=some true
 ob:PySem.W.mroIn K C (.type "object")=some true
 be:PySem.W.mroIn K C (.type "BaseException")=some true
theorem l9.exc {K:PySem.W.Frag}{C:Addr} (h:l9 K C):iQ K C:=⟨h.cls,h.ga,h.gt,h.fc,h.fg,h.ft,h.ob,h.be⟩
theorem P0 {K:PySem.W.Frag}{h₀:Heap}{mg:Str->Option Value}{x:Str}{C:Addr}{bmB:List Value}{newId:String} (X:K.In h₀) (m:mg x=some (.ref C)) (q:PySem.W.excIn K C bmB newId=true):OwnCls x C bmB newId mg h₀:=by
 refine⟨m,?_⟩
 unfold PySem.W.excIn at q
 split at q
 case h_2=>cases q
 rename_i dd cd sl ho
 split at q
 case h_2=>cases q
 rename_i C' bm k0 k1 k2 k3 n k5 hm hs
 simp only [aX3,beq_iff_eq,Bool.not_eq_true'] at q
 obtain ⟨⟨⟨⟨⟨rfl,rfl⟩,dl⟩,ht⟩,hok⟩,hni⟩:=q
 obtain ⟨nm,bs,mro,ns,qn,hd,sn,sub,ab,col,del⟩:=cd
 dsimp only at hm dl hok hni
 subst hm dl
 obtain rfl:sl = #[k0,k1,k2,k3,some (.builtin n),k5]:=by
  obtain ⟨l⟩:=sl
  exact congrArg Array.mk hs
 exact⟨bm,ns,nm,qn,bs,hd,sn,sub,ab,col,dd,k0,k1,k2,k3,k5,_,X _ _ ho,.of_isNs (PySem.W.isNs_of_in X hok),PySem.W.nsMap_none_of_in X hok hni,PySem.W.tail_of_in X ht⟩
theorem qV {n m:Str}{b:Bool} (h:l8 n m=some b):n ∈ mC/\b=(n == m || m == "HearthError" || m == "ValueError"):=by
 unfold l8 at h
 split at h
 ·rename_i z
  exact⟨by simpa using z,by cases h; rfl⟩
 ·cases h
theorem P3 {K:PySem.W.Frag}{C D:Addr}{b:Bool} (hd:l9 K D) (ne:(C == D)=false) (s:PySem.W.subIn K (.ref C) (.ref D)=some b):PySem.W.kitOne K (.ref C) (.ref D)=some b:=by
 have ne':(Value.ref C == Value.ref D)=false:=by
  rw [bh7] at ne ⊢
  exact fun z=>ne (Value.ref.inj z)
 have c:=hd.cls
 unfold PySem.W.isClsIn at c
 unfold PySem.W.kitOne PySem.W.kitCls
 rw [if_neg (by rw [ne']; decide)]
 dsimp only
 rw [if_pos (by rw [c,hd.ty]; decide)]
 exact s
theorem P4 {K:PySem.W.Frag}{C:Addr}:PySem.W.kitOne K (.ref C) (.ref C)=some true:=by
 unfold PySem.W.kitOne
 rw [if_pos (bb9 _)]
theorem P5 {K:PySem.W.Frag}{C:Addr} (s:PySem.W.subIn K (.ref C) (.type "ValueError")=some true):PySem.W.kitOne K (.ref C) (.type "ValueError")=some true:=by
 unfold PySem.W.kitOne PySem.W.kitCls
 rw [if_neg (fun z=>by cases beq_iff_eq.mp z)]
 dsimp only
 rw [if_pos (by decide +kernel)]
 exact s
theorem P6 {K:PySem.W.Frag}{D:Addr} (hd:l9 K D) (s:PySem.W.subIn K (.type "NoneType") (.ref D)=some false):PySem.W.kitOne K (.type "NoneType") (.ref D)=some false:=by
 have c:=hd.cls
 unfold PySem.W.isClsIn at c
 unfold PySem.W.kitOne PySem.W.kitCls
 rw [if_neg (fun z=>by cases beq_iff_eq.mp z)]
 dsimp only
 rw [if_pos (by rw [c,hd.ty]; decide)]
 exact s
theorem aG2 {K:PySem.W.Frag}:PySem.W.kitOne K (.type "NoneType") (.type "ValueError")=some false:=by
 have e:(if PySem.W.kitMeta "ValueError" = true then (fastBuiltinMro "NoneType").map (·.contains (Value.type "ValueError")) else none)=some false:=by decide +kernel
 unfold PySem.W.kitOne
 rw [if_neg (by decide)]
 exact e
theorem gG.of {P:Program}{w:World}{K:PySem.W.Frag}{mg:Str->Option Value}{base:Heap}{k:Nat}{x:Str}{ps N:List Str}{p:iD}{st:Stmt}{f:Addr}{fd:FuncData} (F:eW K x x st f fd) (m:mg x=some (.ref f)) (S:FnScope N ps (aZ st))
  (hb:∀ (kV doc pm:Value) (an:Option Addr) (cdv ct:Value) (us:List Value),us.length=ps.length->bindArgs (PySem.W.fnOf x x (j4 st) (eI st) (aZ st) .none kV doc pm an cdv ct) ⟨us,[]⟩=pure (ps.zip us))
  (t:(Str->Prop)->aU) (len:∀ Ep xs Q,p Ep xs Q->xs.length=ps.length) (rd:∀ Ep xs Q,p Ep xs Q->t Ep { nx:=fun _=>Q .non,rt:=Q } (dY N xs))
  (body:∀ (cdv:Value) (A:Around) (outer:List Env) (s:Shared) (H:Hp) (E:XK) (Ep:Str->Prop),cG k (A.deeper (envOfC x (aZ st) s.heap.objs.size f cdv))->m9 (dC (e8 P w) P w K mg base N x (aZ st) f cdv A outer s H E) (EX K H Ep)->
   eN (dC (e8 P w) P w K mg base N x (aZ st) f cdv A outer s H E) (eI st) (t Ep)):gG P w K mg base (k+1) x ps p:=by
 refine⟨f,fd,F.okX S (fun vs H Q E h=>?_) (fun cdv A outer s H vs Q E hr h=>?_),F.binds hb,F.kp,m⟩
 ·obtain ⟨xs,Qp,Ep,r,q,_⟩:=h
  rw [r.length]; exact len Ep xs Qp q
 ·obtain ⟨xs,Qp,Ep,r,q,k,ke⟩:=h
  have ht:=body cdv A outer s H E Ep hr (au3 fun c d H' z=>?_)
  ·refine⟨_,ht,fun _=>False,dY N xs,_,uR r,rd Ep xs Qp q,?_,?_,?_,?_⟩
   ·exact fun W' σ' H' ρ' e px q=>k _ _ _ px.same .non q
   ·exact fun v H' x s r q=>k _ _ _ s r q
   ·exact fun W' σ' H' ρ' e px q=>q
   ·exact fun W' σ' H' ρ' e px q=>q
  ·obtain ⟨rfl,s1,n,C,rfl,z1,z2⟩:=z
   exact ke n C H' s1 z1 z2
end PP
namespace Core
open PySem L2 PP
noncomputable abbrev P7 (t:(Str->Prop)->aU) (N:List Str) (p:iD):Prop:=∀ Ep xs Q,p Ep xs Q->t Ep { nx:=fun _=>Q .non,rt:=Q } (dY N xs)
noncomputable def qW:iD:=fun Ep xs Q=>∃ ws ls x ns,xs = [b9 ws ls,x]/\fQ x ns/\ns.length<=1000/\(dR ws.length ns=true->Q (.tup (intz ns)))/\(dR ws.length ns=false->Ep "BadSet")
noncomputable def P8 (Ep:Str->Prop):aU:=(aD (bD (jB (aM (aC qF (a6 (a5 0) (a6 (a5 1) a9))))) (oF Ep "BadSet" (a6 (qC (.str "a set is of rising hearths of the web")) a9)) bC)
 (aX (aC dN (a6 (a5 1) a9))))
theorem aG3:P7 P8 ["web","hearths"] qW:=by
 rintro Ep xs Q ⟨ws,ls,x,ns,rfl,hx,hl,q1,q2⟩
 refine⟨_,rfl,_,rfl,ws,ls,x,ns,rfl,hx,hl,_,rfl,?_⟩
 cases h:dR ws.length ns with
 | true=>exact aN ⟨_,rfl,⟨_,_,rfl,hx.seqT,bT _,trivial,q1 h⟩,hx.noscr⟩
 | false=>exact aO ⟨by decide,q2 h⟩
end Core
namespace PP
open PySem L2
theorem mE {us:List Value} (h:us.length=1):∃ a,us = [a]:=List.length_eq_one_iff.mp h
theorem qX {us:List Value} (h:us.length=2):∃ a b,us = [a,b]:=by
 cases us with
 | nil=>cases h
 | cons a r=>
  obtain ⟨b,rfl⟩:=mE (us:=r) (by simpa using h)
  exact⟨a,b,rfl⟩
theorem vU {us:List Value} (h:us.length=3):∃ a b c,us = [a,b,c]:=by
 cases us with
 | nil=>cases h
 | cons a r=>
  obtain ⟨b,c,rfl⟩:=qX (us:=r) (by simpa using h)
  exact⟨a,b,c,rfl⟩
theorem vV {us:List Value} (h:us.length=4):∃ a b c d,us = [a,b,c,d]:=by
 cases us with
 | nil=>cases h
 | cons a r=>
  obtain ⟨b,c,d,rfl⟩:=vU (us:=r) (by simpa using h)
  exact⟨a,b,c,d,rfl⟩
theorem P9 {us:List Value} (h:us.length=5):∃ a b c d e,us = [a,b,c,d,e]:=by
 cases us with
 | nil=>cases h
 | cons a r=>
  obtain ⟨b,c,d,e,rfl⟩:=vV (us:=r) (by simpa using h)
  exact⟨a,b,c,d,e,rfl⟩
end PP
namespace Core
open PySem L2 PP
section
variable {ws : List Int} {ls : List (Int × Int)}
noncomputable def cne (ws:List Int) (ls:List (Int × Int)) (S:List Int):Bool:=!decide (S = []) && decide (stay ws ls S=S)
end
noncomputable def far (ns S:List Int):Bool:=decide (((S.filter fun x=>decide (x ∈ ns)).length:Int)=0)
noncomputable def aG4 (ls:List (Int × Int)) (S U:List Int):Prop:=∀ x ∈ U,∀ y ∈ b8 ls x,y ∈ S->y ∈ U
noncomputable def aG5 (ls:List (Int × Int)) (S:List Int) (h:Int):List Int:=S.filter fun x=>@decide (∀ U:List Int,aG4 ls S U->h ∈ U->x ∈ U) (Classical.propDecidable _)
section
variable {ws : List Int} {ls : List (Int × Int)} {S : List Int} {n : Nat} {h x : Int}
noncomputable def aG6 (ls:List (Int × Int)) (S:List Int) (h:Int):Bool:=decide ((aG5 ls S h).head? = some h)
noncomputable def aG7 (ls:List (Int × Int)) (S:List Int):List Int:=S.filter (aG6 ls S)
theorem Q0 {A B:List Int} (ua:A.Pairwise (· < ·)) (ub:B.Pairwise (· < ·)) (h:∀ x,x ∈ A ↔ x ∈ B):A=B:=
 aA4 ((List.perm_ext_iff_of_nodup (ua.imp fun z=>Int.ne_of_lt z) (ub.imp fun z=>Int.ne_of_lt z)).mpr h) (ua.imp fun z=>Int.le_of_lt z) (ub.imp fun z=>Int.le_of_lt z)
end
end Core
namespace PP
open PySem L2
section
variable {X : Cx} {σ : St} {H : Hp} {D : cK} {te : aF} {e : Expr} {pos : Pos}
noncomputable def vW (i:Nat) (tk:aF):aU:=fun D ρ=>∃ xs,ρ[i]? = some (some (.own (.lst xs)))/\tk ρ fun n _=>∃ m:Nat,n = .int m/\xs.length<=16000000/\m < xs.length/\D.nx (ρ.set i (some (.own (.lst (xs.eraseIdx m)))))
theorem aG8 {i:Nat}{tk:aF} (h:LS X (vW i tk) D σ H):mM (lK X.K "list" sY (gX i) (gZ (LE X tk) iI)) D σ H:=by
 obtain ⟨W,ρ,D',px,⟨xs,hi,q⟩,k⟩:=h
 obtain ⟨v,ev,a,rfl,wa,us,ea,r⟩:=px.sl i _ hi
 refine⟨_,ev,kI (aK.of ea),W,ρ,_,px,q,?_⟩
 rintro w H1 n g s rn ⟨m,rfl,hl,hm,q⟩
 cases rn
 have ea1:=s _ _ ea
 have r1:=r.same (M':=Ms X.H₀ W true) s fun _ z=>z
 have lr:=r.length
 have lm:m < us.length:=by omega
 refine⟨a,us,m,m,us[m],rfl,rfl,ea1,by omega,by omega,B6 lm,aT7 lm,?_⟩
 exact k.nx W _ _ _ ((Ev.same s).trans (Ev.upd wa)) ((px.mono s).updL hi ev wa ((r1.eraseIdx m).keep (.upd ea1 rfl fun b m=>⟨jT wa m,m⟩))) q
theorem aG9 (i:Nat) {x:Str}{apos cpos xpos:Pos} (ha:QE X e te) (hN:X.N[i]? = some x:=by rfl) (hv:fR X.env.scope x:=by first | exact Or.inl rfl | exact Or.inr (Or.inl rfl) | exact Or.inr (Or.inr rfl)) (hd:(x == ("__debug__" : Str))=false:=by decide) (hcd:(x == ("__classdict__" : Str))=false:=by decide)
  (hbase:attributeBase (.Name x xpos) "pop" X.env (eval (.Name x xpos) X.env)=eval (.Name x xpos) X.env:=by rfl)
  (hfew:((backTo cpos (starEach [e] X.env)).all (fun x=>!x.1) && (backToKw cpos (keywordEach [] X.env)).all (fun x=>x.1.isSome) && decide (([e]:List Expr).length+([]:List Keyword).length+(if ([]:List Keyword).isEmpty then 0 else 1) < 30))=true:=by rfl)
  (hline:(apos.endLine == cpos.line)=true:=by rfl) (hs:starEach [e] X.env=(false,eval e X.env) :: starEach [] X.env:=by rfl) (hplain:(backTo cpos (starEach [] X.env)).any (·.1)=false:=by rfl)
  (hsw:swapsWith (.Call (.Attribute (.Name x xpos) "pop" apos) [e] [] cpos) none pos.line X.env=pure false:=by rfl) :
  QS X (.Expr (.Call (.Attribute (.Name x xpos) "pop" apos) [e] [] cpos) pos) (vW i te):=
 eF (lD (kF bd5 PySem.F.slot_list_pop PySem.F.type_list_pop yM (iG hN hv hd hcd) (cP ha dB hs) hbase hfew hline hs hplain) hsw) fun _ _ _=>aG8
end
end PP
namespace Core
open PySem L2 PP
noncomputable def Q2 (ws:List Int) (ls:List (Int × Int)):List Int->List Int->Bool
 | _,[]=>true
 | B,h :: R=>inB ws.length h && (kin ws ls B h && Q2 ws ls (B ++ [h]) R)
end Core
namespace Raw
open PySem PySem.W PySem.Calls PyProof.Rows
theorem vX {xs:List Nat} (a:xs.Pairwise (· < ·)) {i k:Nat} (hk:k < xs.length) (h:i<=k):xs.getD i 0<=xs.getD k 0:=by
 rcases Nat.lt_or_ge i k with z | z
 ·have:=bc1.mp a i k (by omega) hk z
  rw [aU4,aU4,aT7 (by omega),aT7 hk]
  exact ba3 this
 ·rw [Nat.le_antisymm h z]; exact aT9 _
theorem aH0 {xs:Array Nat}{i j:Nat} (h:i < xs.size):xs.getD i j=xs.toList.getD i 0:=by
 rw [aU4,ba4,bf1,aX4 h]; rfl
theorem vY {xs:Array Nat}{j:Nat} (a:xs.toList.Pairwise (· < ·)):∀ (fuel lo hi:Nat),lo<=hi->hi<=xs.size->hi - lo<=fuel->(∀ i,i < lo->xs.toList.getD i 0 < j)->(∀ i,hi<=i->i < xs.size->j<=xs.toList.getD i 0)->
  SetTable.below.go xs j fuel lo hi<=xs.size/\(∀ i,i < SetTable.below.go xs j fuel lo hi->xs.toList.getD i 0 < j)/\∀ i,SetTable.below.go xs j fuel lo hi<=i->i < xs.size->j<=xs.toList.getD i 0
 | 0,lo,hi,h1,h2,h3,h4,h5=>by
  have e:lo=hi:=by omega
  subst e
  exact⟨h2,h4,h5⟩
 | fuel+1,lo,hi,h1,h2,h3,h4,h5=>by
  have sz:xs.toList.length=xs.size:=aV7
  unfold SetTable.below.go
  by_cases lt:lo < hi
  ·rw [if_pos lt]
   dsimp only
   have m1:lo<=(lo+hi) / 2:=by omega
   have m2:(lo+hi) / 2 < hi:=by omega
   rw [aH0 (by omega)]
   by_cases c:xs.toList.getD ((lo+hi) / 2) 0 < j
   ·rw [if_pos c]
    exact vY a fuel _ _ (by omega) h2 (by omega) (fun i hi'=>Nat.lt_of_le_of_lt (vX a (by omega) (by omega)) c) h5
   ·rw [if_neg c]
    exact vY a fuel _ _ (by omega) (by omega) (by omega) h4 fun i h6 h7=>aX8 (bi2 c) (vX a (by omega) h6)
  ·rw [if_neg lt]
   have e:lo=hi:=by omega
   subst e
   exact⟨h2,h4,h5⟩
theorem vZ {xs:Array Nat}{j:Nat} (a:xs.toList.Pairwise (· < ·)):SetTable.below xs j<=xs.size/\(∀ i,i < SetTable.below xs j->xs.toList.getD i 0 < j)/\∀ i,SetTable.below xs j<=i->i < xs.size->j<=xs.toList.getD i 0:=
 vY a xs.size 0 xs.size (aX0 _) (aT9 _) (by omega) (fun i h=>absurd h (bh5 _)) fun i h1 h2=>absurd h2 (by omega)
theorem aH1 {α:Type} (xs:Array α) (p:Nat) (x:α):(SetTable.insertAt xs p x).toList=xs.toList.take p ++ x :: xs.toList.drop p:=by
 unfold SetTable.insertAt
 simp
 exact bc6 (by simp)
theorem aH2 {xs:Array Nat}{j:Nat} (a:xs.toList.Pairwise (· < ·)) (ne:xs[SetTable.below xs j]? ≠ some j):(SetTable.insertAt xs (SetTable.below xs j) j).toList.Pairwise (· < ·):=by
 obtain ⟨b1,b2,b3⟩:=vZ (j:=j) a
 have sz:xs.toList.length=xs.size:=aV7
 rw [aH1]
 refine List.pairwise_append.mpr ⟨a.sublist (List.take_sublist _ _),List.pairwise_cons.mpr ⟨fun x hx=>?_,a.sublist (List.drop_sublist _ _)⟩,fun x hx y hy=>?_⟩
 ·obtain ⟨i,hi,e⟩:=List.getElem_of_mem hx
  rw [aY9] at hi
  rw [List.getElem_drop] at e
  have h1:=b3 (SetTable.below xs j) (aT9 _) (by omega)
  have h2:=vX a (i:=SetTable.below xs j) (k:=SetTable.below xs j+i) (by omega) (by omega)
  have h3:xs.toList.getD (SetTable.below xs j+i) 0=x:=by rw [aU4,aT7 (by omega),e]; rfl
  rcases Nat.lt_or_ge j x with z | z
  ·exact z
  ·exfalso
   have h4:xs.toList.getD (SetTable.below xs j) 0=j:=by omega
   rw [aU4,aT7 (by omega)] at h4
   refine ne ?_
   rw [<- ba4,aT7 (by omega)]
   exact congrArg some h4
 ·have hx':x < j:=by
   obtain ⟨i,hi,e⟩:=List.getElem_of_mem hx
   rw [ba8] at hi
   rw [List.getElem_take] at e
   have:=b2 i (by omega)
   rw [aU4,aT7 (by omega),e] at this
   exact this
  rcases aU2.mp hy with e | hy
  ·rw [e]; exact hx'
  ·obtain ⟨i,hi,e⟩:=List.getElem_of_mem hy
   rw [aY9] at hi
   rw [List.getElem_drop] at e
   have:=b3 (SetTable.below xs j+i) (by omega) (by omega)
   rw [aU4,aT7 (by omega),e] at this
   exact aU9 hx' this
structure gV (b:Bool) (t:SetTable):Prop where
 asc:t.place.toList.Pairwise (· < ·)
 dm:t.dummies = #[]
 led:t.led=b
theorem Q3 (j:Nat):SetTable.has #[] j=false:=by
 unfold SetTable.has
 simp
theorem Q4 {t:SetTable} (dm:t.dummies = #[]) {h:Int}{j:Nat}{d:Option Nat}:∀ (fuel:Nat) (p:SetTable.Probe),p.dummy=none->SetTable.probe.go t (fun _=>h+1) h fuel p=some (.empty j d)->d=none/\t.slot j = .empty
 | 0,p,_,e=>by cases e
 | fuel+1,p,hp,e=>by
  unfold SetTable.probe.go at e
  have adv:∀ p:SetTable.Probe,p.dummy=none->(t.advance p).dummy=none:=fun p hp=>by
   unfold SetTable.advance
   split <;> exact hp
  cases hs:t.slot p.j with
  | empty=>
   rw [hs] at e
   cases e
   exact⟨hp,hs⟩
  | dummy=>
   exfalso
   unfold SetTable.slot at hs
   dsimp only at hs
   rw [dm,Q3] at hs
   split at hs <;> cases hs
  | live i=>
   rw [hs] at e
   dsimp only at e
   rw [if_neg (by simp; omega)] at e
   exact Q4 dm fuel _ (adv p hp) e
theorem aH3 {t:SetTable} (dm:t.dummies = #[]) {h:Int}{sl:Nat}{d:Bool} (e:t.freeSlot h=some (sl,d)):t.slot sl = .empty:=by
 unfold SetTable.freeSlot at e
 split at e
 ·rename_i j dummy hm
  obtain ⟨e1,e2⟩:=Q4 dm _ _ rfl hm
  subst e1
  cases e
  exact e2
 ·cases e
theorem qY {b:Bool}{t:SetTable} (h:gV b t) (n:Nat):gV b (t.standIn n):=⟨by
 show (Array.range n).toList.Pairwise (· < ·)
 rw [Array.toList_range]; exact List.pairwise_lt_range,rfl,h.led⟩
theorem aH4 {b:Bool}{t:SetTable} (h:gV b t) {j:Nat} (hs:t.slot j = .empty):gV b (t.put j).1:=by
 refine⟨?_,?_,h.led⟩
 ·refine aH2 h.asc fun e=>?_
  unfold SetTable.slot at hs
  dsimp only at hs
  rw [if_pos (by rw [e]; exact bb9 _)] at hs
  cases hs
 ·show (if SetTable.has t.dummies j then SetTable.eraseAt t.dummies (SetTable.below t.dummies j) else t.dummies) = #[]
  rw [h.dm,Q3]; rfl
theorem aH5 {b:Bool}{t:SetTable} (h:gV b t) (es:Array (Int × Value)) (k:Int) (x:Value):gV b (layNew t es k x).2.1:=by
 unfold layNew
 split
 ·rename_i sl wd e
  have p:=aH4 h (aH3 h.dm e)
  show gV b (SetTable.orStandIn _ _)
  unfold SetTable.orStandIn
  split
  ·exact p
  ·exact qY p _
 ·exact qY h _
theorem aH6 {b:Bool}{t:SetTable} (h:gV b t) (es:Array (Int × Value)) (n:Nat):gV b (relayAll t es n).2.1:=by
 unfold relayAll
 split
 ·rename_i t' order e
  dsimp only
  split
  ·show gV b t'
   unfold SetTable.relaid SetTable.laid at e
   cases hc:SetTable.layClean (SetTable.sizeAbove n - 1) (es.map (·.1)) with
   | none=>rw [hc] at e; cases e
   | some owner=>
    rw [hc] at e
    cases e
    refine⟨?_,rfl,h.led⟩
    show (List.map _ _).Pairwise (· < ·)
    refine bh2.mpr (List.Pairwise.filterMap _ (R:=(· < ·)) ?_ List.pairwise_lt_range)
    intro i i' hlt x hx y hy
    cases ho:owner.getD i none with
    | none=>rw [ho] at hx; cases hx
    | some v=>
     rw [ho] at hx
     cases ho2:owner.getD i' none with
     | none=>rw [ho2] at hy; cases hy
     | some v2=>
      rw [ho2] at hy
      cases hx; cases hy
      exact hlt
  ·exact qY h _
 ·exact qY h _
theorem w4 {us vs:List Value} (p:us.Perm vs):∀ {ns:List Int},IntsAre vs ns->∃ ms,IntsAre us ms/\ms.Perm ns:=by
 induction p with
 | nil=>intro ns h; exact⟨ns,h,bk6 _⟩
 | cons x _ ih=>
  intro ns h
  cases h with
  | cons n t r=>
   obtain ⟨ms,h1,h2⟩:=ih r
   exact⟨n :: ms,.cons n t h1,h2.cons n⟩
 | swap x y l=>
  intro ns h
  cases h with
  | cons n t r=>
   cases r with
   | cons n' t' r=>
    exact⟨n' :: n :: _,.cons n' t' (.cons n t r),List.Perm.swap _ _ _⟩
 | trans _ _ ih1 ih2=>
  intro ns h
  obtain ⟨ms,h1,h2⟩:=ih2 h
  obtain ⟨ms',h3,h4⟩:=ih1 h1
  exact⟨ms',h3,h4.trans h2⟩
theorem Q5:∀ {us:List Value}{ns:List Int},IntsAre us ns->∀ (k:Int) (t:Nat),IntsAre (us ++ [.int k t]) (ns ++ [k])
 | _,_,.nil,k,t=>.cons k t .nil
 | _,_,.cons n u r,k,t=>.cons n u (Q5 r k t)
theorem qZ:∀ {us:List Value}{ns:List Int},IntsAre us ns->∀ k:Int,k ∈ ns ↔ ∃ t,Value.int k t ∈ us
 | _,_,.nil,k=>⟨(fun h=>nomatch h),(fun ⟨_,h⟩=>nomatch h)⟩
 | _,_,.cons n u r,k=>by
  constructor
  ·intro h
   rcases aU2.mp h with e | h
   ·exact⟨u,by rw [e]; exact aV2⟩
   ·obtain ⟨t,ht⟩:=(qZ r k).mp h
    exact⟨t,aV3 _ ht⟩
  ·rintro ⟨t,h⟩
   rcases aU2.mp h with e | h
   ·cases e; exact aV2
   ·exact aV3 _ ((qZ r k).mpr ⟨t,h⟩)
noncomputable abbrev cM (es:Array (Int × Value)) (ep:Nat) (t:SetTable):Obj:={ cls:=.type "set",dict:=none,data:=.set es ep t,slots:=#[] }
section
variable {prog : Program} {w : World} {A : Around} {E : Value → Shared → Prop} {s : Shared}
noncomputable def mF (prog:Program) (w:World) (es:Array (Int × Value)) (t:SetTable) (ms:List Int):Prop:=ElemsOf (intKind prog w) es.toList/\IntsAre (es.toList.map (·.2)) ms/\es.size < scanBound/\t.fits es.size=true/\gV (!w.params.followText "set-order") t
noncomputable def jM (prog:Program) (w:World) (h:Heap) (a:Addr) (ms:List Int):Prop:=∃ es ep t,h.get? a=some (cM es ep t)/\mF prog w es t ms
theorem Q6 {h:Heap}{a:Addr}{es es':Array (Int × Value)}{ep:Nat}{t t':SetTable} (ho:h.get? a=some (cM es ep t)):(h.update a (Obj.putSet es' t')).get? a=some (cM es' (ep+1) t'):=by
 have:=aX6 (Obj.putSet es' t') ho (by rw [putSet_of es' t' (rfl:(cM es ep t).data=_)]; rfl)
 rw [putSet_of es' t' (rfl:(cM es ep t).data=_)] at this
 exact this
theorem add_int {a:Addr}{ms:List Int}{k:Int}{u:Nat}{Q:Bool->Shared->Prop} (hS:jM prog w s.heap a ms) (room:ms.length+1 < scanBound)
  (h:∀ b h' ms',Heap.SameBut a s.heap h'->jM prog w h' a ms'->(k ∈ ms->ms'.Perm ms)->(k ∉ ms->ms'.Perm (ms ++ [k]))->Q b { s with heap:=h' }) :
  wpAny (model prog w) A (setAddHashed a (.int k u) ((intKind prog w).hash k)) Q E s:=by
 obtain ⟨es,ep,t,ho,hel,hi,hb,hf,tk⟩:=hS
 have key:(intKind prog w).is k (.int k u)=true:=intKind_is _ _ _ _
 have ln:ms.length=es.size:=by
  have:=IntsAre.length hi
  rw [aU7,aV7] at this
  exact this.symm
 have isk:∀ v,(intKind prog w).is k v=true->∃ u,v = .int k u:=fun v hv=>Value.isInt_shape hv
 unfold setAddHashed setAddHashedIn
 refine ba5 (aT3 (bj9 ho rfl hf ?_))
 dsimp only
 rw [byScan_of (knd:=intKind prog w) (x:=.int k u) rfl hb hel,if_pos rfl]
 unfold setAddByScan
 refine aT3 (aT3 (bk2 ?_))
 refine aT3 (wpAny_setScan_of key ho rfl hf hel ?_)
 cases hr:List.findIdx? (fun e=>(intKind prog w).is k e.2) es.toList with
 | some j=>
  dsimp only
  obtain ⟨hj,hp,_⟩:=List.findIdx?_eq_some_iff_getElem.mp hr
  have km:k ∈ ms:=by
   obtain ⟨u',e⟩:=isk _ hp
   exact (qZ hi k).mpr ⟨u',by rw [<- e]; exact bd3.mpr ⟨_,bc8 hj,rfl⟩⟩
  have e:s={ s with heap:=s.heap }:=by cases s; rfl
  rw [e]
  exact aT6 (aT6 (h _ s.heap ms (Heap.SameBut.refl a s.heap) ⟨es,ep,t,ho,hel,hi,hb,hf,tk⟩ (fun _=>bk6 _) fun n=>absurd km n))
 | none=>
  dsimp only
  have km:k ∉ ms:=fun z=>by
   obtain ⟨u',hm⟩:=(qZ hi k).mp z
   obtain ⟨e,he,e2⟩:=bd3.mp hm
   have:=List.findIdx?_eq_none_iff.mp hr e he
   rw [e2,intKind_is _ _ _ _] at this; cases this
  have lp:=layNew_perm t es ((intKind prog w).hash k) (.int k u)
  have lf:=layNew_fits t es ((intKind prog w).hash k) (.int k u)
  have lk:=aH5 tk es ((intKind prog w).hash k) (.int k u)
  generalize hL:layNew t es ((intKind prog w).hash k) (.int k u)=L at lp lf lk ⊢
  obtain ⟨es1,t1,wd,gave⟩:=L
  dsimp only at lp lf lk ⊢
  rw [Array.toList_push] at lp
  have el1:ElemsOf (intKind prog w) es1.toList:=(hel.push key rfl).perm lp
  have sz1:es1.size=es.size+1:=by rw [<- aV7,lp.length_eq,aU6,aV7]; rfl
  obtain ⟨ms1,i1,p1⟩:∃ ms1,IntsAre (es1.toList.map (·.2)) ms1/\ms1.Perm (ms ++ [k]):=w4 (lp.map (·.2)) (by rw [bd8]; exact Q5 hi k u)
  have hb1:es1.size < scanBound:=by omega
  have gw:∀ (b:Bool) (s₁:Shared) (Q':Unit->Shared->Prop),Q' () s₁->wpAny (model prog w) A (match b with | true=>rule "set.scan.the-table-gave-way" | false=>pure ()) Q' E s₁:=fun b s₁ Q' hq=>by
   cases b
   ·exact aT6 hq
   ·exact bk2 hq
  refine aT3 (gw _ _ _ ?_)
  split <;> (
   show wpAny _ _ (storeSet a es1 t1 >>= _) _ _ _
   simp only [↓reduceIte]
   refine aT3 (wpAny_storeSet_of ho rfl ?_ (fits_of_scanBound hb1))
   have ho1:=Q6 (es':=es1) (t':=t1) ho
   have sb1:=aZ3 s.heap a (Obj.putSet es1 t1)
   split
   ·have rp:=relayAll_perm t1 es1 (SetTable.grown es1.size)
    have rf:=relayAll_fits t1 es1 (SetTable.grown es1.size)
    have rk:=aH6 lk es1 (SetTable.grown es1.size)
    generalize relayAll t1 es1 (SetTable.grown es1.size)=L at rp rf rk ⊢
    obtain ⟨es2,t2,gave2⟩:=L
    dsimp only at rp rf rk ⊢
    have sz2:es2.size=es1.size:=by rw [<- aV7,rp.length_eq,aV7]
    obtain ⟨ms2,i2,p2⟩:=w4 (rp.map (·.2)) i1
    refine aT3 (gw _ _ _ ?_)
    refine aT3 (wpAny_storeSet_of ho1 rfl ?_ (fits_of_scanBound (by omega)))
    exact aT6 (aT6 (h _ _ ms2 (sb1.trans (aZ3 _ a _)) ⟨es2,_,t2,Q6 ho1,el1.perm rp,i2,by omega,rf,rk⟩ (fun z=>absurd z km) fun _=>p2.trans p1))
   ·exact aT6 (aT6 (h _ _ ms1 sb1 ⟨es1,_,t1,ho1,el1,i1,hb1,lf,lk⟩ (fun z=>absurd z km) fun _=>p1)))
end
section
variable {prog : Program} {w : World} {A : Around} {R : Result → Shared → Prop} {I : Addr} {fp wr : List Addr} {G : Array GenState → Array GenState → Prop} {n : Nat} {P : Nat → Value → Prop} {St : Nat → Shared → Prop}
theorem jM.at' {h h':Heap}{a:Addr}{ms:List Int} (x:jM prog w h a ms) (k:∀ o,h.get? a=some o->h'.get? a=some o):jM prog w h' a ms:=by
 obtain ⟨es,ep,t,ho,r⟩:=x
 exact⟨es,ep,t,k _ ho,r⟩
theorem aH7 (W:WalksS prog w A.in1 I fp wr G n P St) (a:Addr) (af:a ∉ fp) (val:Nat->Int) (hval:∀ i v,P i v->∃ t,v = .int (val i) t) (hb:n+1 < scanBound) :
  ∀ (k i:Nat) (s:Shared) (ms:List Int),n - i=k->i<=n->St i s->jM prog w s.heap a ms->ms.Nodup->ms.length<=i->(∀ x,x ∈ ms ↔ ∃ j,j < i/\val j=x)->
   (∀ s' ms',Moved (a :: wr) G s s'->jM prog w s'.heap a ms'->ms'.Nodup->(∀ x,x ∈ ms' ↔ ∃ j,j < n/\val j=x)->R (.ok (.ret .none)) s')->
   codeAny (model prog w) A (.builtin "set.update.loop" ⟨[.ref a,.ref I],[]⟩) R s:=by
 have aw:a ∉ wr:=fun h=>af (W.sub _ h)
 have up:∀ b ∈ wr,b ∈ a :: wr:=fun b hb=>aV3 _ hb
 intro k
 induction k with
 | zero=>
  intro i s ms hk hi st hS nd _ mem hR
  obtain rfl:i=n:=by omega
  refine bd9 F.entry_set_update_loop ?_
  rw [bf0 F.plain_set_update_loop _]
  show wpAny _ A.in1 (pyNext (.ref I) >>= _) _ _ s
  refine aT3 (W.done s _ _ st fun s' hm=>?_)
  show wpAny _ A.in1 (ret Value.none) _ _ s'
  exact aT6 (hR s' ms (hm.mono up) (hS.at' fun o e=>hm.heap a _ aw e) nd mem)
 | succ k ih=>
  intro i s ms hk hi st hS nd ln mem hR
  have lt:i < n:=by omega
  refine bd9 F.entry_set_update_loop ?_
  rw [bf0 F.plain_set_update_loop _]
  show wpAny _ A.in1 (pyNext (.ref I) >>= _) _ _ s
  refine aT3 (W.item i s _ _ lt st fun v s' hP st' hm=>?_)
  obtain ⟨t,rfl⟩:=hval i v hP
  have hS':jM prog w s'.heap a ms:=hS.at' fun o e=>hm.heap a _ aw e
  show wpAny _ A.in1 (holding [Value.int (val i) t] (setAdd a (.int (val i) t)) >>= _) _ _ s'
  refine aT3 (ba5 ?_)
  unfold setAdd
  refine ba5 (aT3 ((intKind prog w).pyHash (k:=val i) (intKind_is _ _ _ _) ?_))
  refine add_int (s:={ s' with toks:=s'.toks+1 }) hS' (by omega) fun b h' ms' sb S2 p1 p2=>?_
  have nd':ms'.Nodup:=by
   by_cases z:val i ∈ ms
   ·exact (p1 z).nodup_iff.mpr nd
   ·exact (p2 z).nodup_iff.mpr (bh4.mpr ⟨nd,aY0 _ _,fun x hx y hy e=>z (by rw [aU3.mp hy] at e; rw [<- e]; exact hx)⟩)
  have ln':ms'.length<=i+1:=by
   by_cases z:val i ∈ ms
   ·rw [(p1 z).length_eq]; omega
   ·rw [(p2 z).length_eq,aU6,aX7]; omega
  have mem':∀ x,x ∈ ms' ↔ ∃ j,j < i+1/\val j=x:=fun x=>by
   have:x ∈ ms' ↔ x ∈ ms ∨ x=val i:=by
    by_cases z:val i ∈ ms
    ·rw [(p1 z).mem_iff]
     exact⟨.inl,fun h=>h.elim id fun e=>by rw [e]; exact z⟩
    ·rw [(p2 z).mem_iff,aW8,aU3]
   rw [this,mem x]
   constructor
   ·rintro (⟨j,hj,e⟩ | e)
    ·exact⟨j,by omega,e⟩
    ·exact⟨i,by omega,e.symm⟩
   ·rintro ⟨j,hj,e⟩
    by_cases z:j=i
    ·exact .inr (by rw [<- e,z])
    ·exact .inl ⟨j,by omega,e⟩
  refine aT6 ⟨bk5 F.plain_set_update_loop _,ih (i+1) _ ms' (by omega) lt (W.frame _ s' _ _ st' (bk8 _) fun b hb o e=>?_) S2 nd' ln' mem' fun s2 ms2 m2 hS2 n2 me2=>?_⟩
  ·rw [sb.2 b fun z:b=a=>af (by rw [<- z]; exact hb)]; exact e
  ·refine hR s2 ms2 (Moved.trans W.gtrans ((hm.mono up).then_heap (bk8 _) fun b o hb e=>?_) m2) hS2 n2 me2
   rw [sb.2 b fun z:b=a=>hb (by rw [z]; exact aV2)]; exact e
end
section
variable {prog : Program} {w : World} {A : Around} {E : Value → Shared → Prop} {s : Shared} {l : Addr} {items : Array Value} {ns : List Int}
noncomputable def r6 (prog:Program) (w:World) (ns:List Int) (h h':Heap):Prop:=(∃ ms,jM prog w h' h.objs.size ms/\ms.Nodup/\∀ x,x ∈ ms ↔ x ∈ ns)/\∀ b o,b < h.objs.size->h.get? b=some o->h'.get? b=some o
theorem aH8 (a:Value) {Q₁:Value->Shared->Prop} (h:Q₁ (.ref s.heap.objs.size) { s with heap:=s.heap.push (i9 (!w.params.followText "set-order")) }) :
  codeAny (model prog w) A (.call (.builtin "set.__new__") ⟨[.type "set",a],[]⟩) (wants Q₁ E) s:=by
 refine codeAny_of_tree ?_
 show wpAny _ A.in1 (do checkBuiltinCall "set.__new__" ⟨[.type "set",a],[]⟩; again (.builtin "set.__new__" ⟨[.type "set",a],[]⟩)) _ _ s
 refine aT3 (be7 (F.newCall_set_1 a) (aT6 ⟨bk5 F.plain_set_new _,bd9 F.entry_set_new ?_⟩))
 rw [bf0 F.plain_set_new _]
 unfold Builtin.«set.__new__» Builtin.Frozenset.newClass
 have hsub:=sub_set_self
 obtain ⟨hp,g,d,tk,os⟩:=s
 dsimp only
 wp_walk
 refine wpAny_askSetting (aT6 ?_)
 dsimp only
 simp only [newObj]
 refine aT3 (wpAny_alloc (aT6 ?_))
 exact aT6 h
theorem aH9 {Q:Value->Shared->Prop} (hh:A.handled=none) (hl:s.heap.IsTuple l items) (hi:IntsAre items.toList ns) (hb:items.size+1 < scanBound) (h:∀ h' tk,r6 prog w ns s.heap h'->Q .none { s with heap:=h',toks:=tk }) :
  wpAny (model prog w) A (Builtin.«set.__init__» ⟨[.ref s.heap.objs.size,.ref l],[]⟩) (fun fin s'=>∃ r,fin = .done (.ret r)/\Q r s') E { s with heap:=s.heap.push (i9 (!w.params.followText "set-order")) }:=by
 generalize hled:(!w.params.followText "set-order")=led
 have hS:(s.heap.push (i9 led)).get? s.heap.objs.size=some (i9 led):=aU0 _ rfl
 have hT:Shared.TypeIs { s with heap:=s.heap.push (i9 led) } (.ref s.heap.objs.size) "set":=⟨_,hS,rfl⟩
 obtain ⟨ol,uU,hcl,nl,hdl⟩:=hl
 have lt:l < s.heap.objs.size:=aU8 uU
 obtain ⟨ocls,odict,odata,oslots⟩:=ol
 dsimp only at hcl hdl
 subst hcl hdl
 have hol1:=aT5 (i9 led) uU
 have tu:(s.heap.push (i9 led)).IsTuple l items:=⟨_,hol1,rfl,nl,rfl⟩
 have t1:=av5
 have t2:=av6
 have t3:(Value.type "tuple" == Value.type "dict")=false:=by decide
 unfold Builtin.«set.__init__» noKeywords Builtin.Frozenset.updateFrom
 generalize pi:pyIter=PI
 wp_walk
 subst pi
 apply bf9 tu
 apply aT3
 apply wpAny_runValue
 have sz:(s.heap.push (i9 led)).objs.size=s.heap.objs.size+1:=bd6 ..
 have il:=IntsAre.length hi
 rw [aV7] at il
 refine aH7 (Walks.tuple (by simp [hh]) (s.heap.push (i9 led)).objs.size l (by rw [sz]; exact aW6 (Nat.lt_succ_of_lt lt)) items).toS s.heap.objs.size (fun z=>?_) (fun i=>ns.getD i 0) (fun i v hv=>IntsAre.int_at hi i v (by rw [ba4]; exact hv)) hb items.size 0 _ [] (Nat.sub_zero _) (aX0 _) ⟨⟨_,aU0 _ rfl,rfl,rfl⟩,tu.push _⟩ ⟨#[],0,.fresh 0 0 led,aT5 _ hS,(fun e he=>by simp at he),.nil,by decide,rfl,⟨bj6,rfl,hled.symm⟩⟩ .nil (aT9 _) (fun x=>⟨(fun z=>nomatch z),(fun ⟨_,z,_⟩=>absurd z (bh5 _))⟩) ?_
 ·simp only [aU2,aV1,aY5] at z
  rcases z with z | z
  ·rw [sz] at z
   exact aW6 (Nat.lt_succ_self _) z
  ·exact bb2 lt z
 ·rintro ⟨h',g',d',tk',os'⟩ ms hm hS' nd mem
  obtain rfl:g'=s.gens:=hm.gens
  obtain rfl:d'=s.drawn:=hm.drawn
  obtain rfl:os'=s.os:=hm.os
  change wpAny _ _ _ _ _ _
  apply aT6
  change wpAny _ _ (ret Value.none) _ _ _
  refine aT6 ⟨_,rfl,h h' tk' ⟨⟨ms,hS',nd,fun x=>?_⟩,fun b o lb e=>hm.heap b o (fun z=>?_) (aT5 _ (aT5 _ e))⟩⟩
  ·rw [mem x]
   constructor
   ·rintro ⟨j,hj,e⟩
    rw [<- e,aU4,aT7 (by omega)]
    exact bc8 _
   ·intro hx
    obtain ⟨j,hj,e⟩:=List.getElem_of_mem hx
    exact⟨j,by omega,by rw [aU4,aT7 hj,e]; rfl⟩
  simp only [aU2,aV1,aY5] at z
  rcases z with z | z
  ·exact aW6 lb z
  ·rw [sz] at z
   exact aW6 (Nat.lt_succ_of_lt lb) z
theorem aI0 {Q:Value->Shared->Prop} (hh:A.handled=none) (hl:s.heap.IsTuple l items) (hi:IntsAre items.toList ns) (hb:items.size+1 < scanBound) (h:∀ h' tk,r6 prog w ns s.heap h'->Q (.ref s.heap.objs.size) { s with heap:=h',toks:=tk }) :
  wpAny (model prog w) A (call (.type "set") [.ref l]) Q E s:=by
 have C:=F.called_set
 obtain ⟨c,tl,hmro⟩:=C.mro
 have c1:=C.made
 have c2:=C.sub
 have c3:=C.notType
 have c4:=C.canCreate
 have c5:=F.typeCall_set_1 (.ref l)
 have c6:=C.init.lookup
 have c7:=C.init.bind (.ref s.heap.objs.size)
 apply wpAny_call
 apply codeAny_of_tree
 change wpAny _ _ (callAny (.type "set") _) _ _ _
 refine aT6 ⟨Code.quiet_builtin _ (by decide +kernel),bd9 F.entry_type_call ?_⟩
 rw [Around.under_plain (weight_type_call_type "set" [.ref l] []) rfl]
 repeat (any_goals first | assumption | wp_step | fail)
 refine codeAny_mono (aH8 (.ref l) (E:=E) (Q₁:=fun obj s₁=>obj = .ref s.heap.objs.size/\s₁={ s with heap:=s.heap.push (i9 (!w.params.followText "set-order")) }) ⟨rfl,rfl⟩) fun r s₁ hr=>?_
 match r,hr with
 | .error _,hr=>exact hr
 | .ok (.ret obj),hr=>
  obtain ⟨rfl,rfl⟩:=hr
  have hT:Shared.TypeIs { s with heap:=s.heap.push (i9 (!w.params.followText "set-order")) } (.ref s.heap.objs.size) "set":=⟨_,aU0 _ rfl,rfl⟩
  repeat (any_goals first | assumption | wp_step | fail)
  refine codeAny_mono (codeAny_call_builtin (R:=wants (fun r s₂=>r = .none/\∃ h' tk,s₂={ s with heap:=h',toks:=tk }/\r6 prog w ns s.heap h') E) C.init.plain F.entry_set_init (check_set_init_1 hT ?_)) fun r₂ s₂ hr₂=>?_
  ·refine bc4 (aH9 (E:=fun _ _=>False) (Q:=fun r s₂=>r = .none/\∃ h' tk,s₂={ s with heap:=h',toks:=tk }/\r6 prog w ns s.heap h') (by simp [hh]) hl hi hb fun h' tk f=>⟨rfl,h',tk,rfl,f⟩) ?_ ?_
   ·rintro fin s' ⟨r,rfl,q⟩
    exact q
   ·exact fun _ _ h=>h.elim
  match r₂,hr₂ with
  | .error _,hr₂=>exact hr₂
  | .ok (.ret _),hr₂=>
   obtain ⟨rfl,h',tk,rfl,f⟩:=hr₂
   repeat (any_goals first | assumption | wp_step | fail)
   exact h _ _ f
end
theorem aI1:entryFor table "set.__iter__" = some Builtin.«frozenset.__iter__»:=entryFor_alias (id':="frozenset.__iter__") (by kernel_rfl) rfl (by decide +kernel) (by kernel_rfl)
theorem iE:Slot "set_iterator" "__next__" "set_iterator.__next__":=
 .of (owner:="set_iterator") (n:="__next__") (by rw [bh6,bd1]; kernel_rfl) (by decide +kernel) (by decide +kernel) (by decide +kernel) (by first | exact .inl (by decide +kernel) | exact .inr (by decide +kernel)) (by rw [be3]; kernel_rfl)
theorem r9:entryFor table "set_iterator.__next__" = some Builtin.«set_iterator.__next__»:=entryFor_of_tree (by kernel_rfl)
theorem Q7:Manifest.owners.lookup (String.ofList ['r','o','t','a','r','e','t','i','_','t','e','s'].reverse)=some Manifest.sig_set_iterator:=by kernel_rfl
theorem rA (a:Value):argsOk "set_iterator.__next__" ⟨[a],[]⟩:=by
 unfold argsOk; rw [signature?_of (id:="set_iterator.__next__") (n:=['_','_','t','x','e','n','_','_']) (o:=['r','o','t','a','r','e','t','i','_','t','e','s']) (by kernel_rfl) Q7]; kernel_rfl
theorem aI2:entryFor table "set_iterator.__iter__" = some Builtin.«dict_keyiterator.__iter__»:=
 entryFor_alias (id':="dict_keyiterator.__iter__") (by kernel_rfl) (by first | rfl | decide +kernel | (unfold String.splitOn; simp +decide [String.splitOnAux])) (by decide +kernel) (by kernel_rfl)
theorem Q8:Slot "set_iterator" "__iter__" "set_iterator.__iter__":=
 .of (owner:="set_iterator") (n:="__iter__") (by rw [bh6,bd1]; kernel_rfl) (by decide +kernel) (by decide +kernel) (by decide +kernel) (by first | exact .inl (by decide +kernel) | exact .inr (by decide +kernel)) (by rw [be3]; kernel_rfl)
theorem aI3 (a:Value):argsOk "set_iterator.__iter__" ⟨[a],[]⟩:=by
 unfold argsOk; rw [signature?_of (id:="set_iterator.__iter__") (n:=['_','_','r','e','t','i','_','_']) (o:=['r','o','t','a','r','e','t','i','_','t','e','s']) (by kernel_rfl) Q7]; kernel_rfl
section
variable {prog : Program} {w : World} {A : Around} {E : Value → Shared → Prop} {s : Shared} {I a : Addr} {es : Array (Int × Value)} {ep : Nat} {t : SetTable}
noncomputable abbrev gH (f:Value) (i:Nat) (a:Addr) (n ep:Nat):Obj:={ cls:=.type "set_iterator",data:=.fields #[f,.int i 0,.ref a,.int n 0,.int ep 0] }
theorem aI4 {f:Value}{i:Nat}{Q:Option Value->Shared->Prop} (hi:s.heap.get? I=some (gH f i a es.size ep)) (ha:s.heap.get? a=some (cM es ep t)) (hf:t.fits es.size=true) (ne:I ≠ a) {sl sl':Nat}{x:Value} (ef:f = .int sl 0)
  (hn:∀ (s:Shared) (Q:Option (Value × Nat)->Shared->Prop) (E:Value->Shared->Prop) (A:Around),s.heap.get? a=some (cM es ep t)->Q (some (x,sl')) s->wpAny (model prog w) A (setNext a sl i ep) Q E s)
  (hQ:∀ h',h'.get? I=some (gH (.int sl' 0) (i+1) a es.size ep)->Heap.SameBut I s.heap h'->Q (some x) { s with heap:=h' }):wpAny (model prog w) A (pyNext (.ref I)) Q E s:=by
 have hT:s.TypeIs (.ref I) "set_iterator":=⟨_,hi,rfl⟩
 subst ef
 unfold pyNext
 refine aT3 (bc9 (aW7 (name:=Str.ofString "__next__") hT iE (aW5 iE hT r9 ?_ (rA _))))
 unfold Builtin.«set_iterator.__next__»
 refine aT3 (aT6 ?_)
 refine aT3 (wpAny_fieldsOf hi rfl ?_)
 dsimp only
 refine aT3 (wpAny_setEntries_of ha rfl hf ?_)
 rw [if_neg (by simp)]
 refine aT3 (hn _ _ _ _ ha ?_)
 dsimp only
 refine aT3 (bc7 hi rfl (by simp) ?_)
 have h1:(s.heap.update I (Obj.mapFields (·.setIfInBounds 0 (rawInt sl')))).get? I=some (gH (.int sl' 0) i a es.size ep):=by
  have:=aX6 (Obj.mapFields (·.setIfInBounds 0 (rawInt sl'))) hi rfl
  exact this
 refine aT3 (bc7 h1 rfl (by simp) ?_)
 have h2:=aX6 (Obj.mapFields (·.setIfInBounds 1 (rawInt ((i:Int)+1)))) h1 rfl
 exact aT6 ⟨_,rfl,aT6 (hQ _ h2 ((aZ3 ..).trans (aZ3 ..)))⟩
theorem aI5 {f:Value}{i:Nat}{Q:Option Value->Shared->Prop} (hh:A.handled=none) (hi:s.heap.get? I=some (gH f i a es.size ep)) (ha:s.heap.get? a=some (cM es ep t)) (hf:t.fits es.size=true) {sl:Nat} (ef:f = .int sl 0)
  (hn:∀ (s:Shared) (Q:Option (Value × Nat)->Shared->Prop) (E:Value->Shared->Prop) (A:Around),s.heap.get? a=some (cM es ep t)->Q none s->wpAny (model prog w) A (setNext a sl i ep) Q E s)
  (hQ:∀ h',Heap.ExtBut I s.heap h'->Q none { s with heap:=h' }):wpAny (model prog w) A (pyNext (.ref I)) Q E s:=by
 have hT:s.TypeIs (.ref I) "set_iterator":=⟨_,hi,rfl⟩
 subst ef
 unfold pyNext
 refine aT3 (bc9 (aW7 (name:=Str.ofString "__next__") hT iE (aW5 iE hT r9 ?_ (rA _))))
 unfold Builtin.«set_iterator.__next__»
 refine aT3 (aT6 ?_)
 refine aT3 (wpAny_fieldsOf hi rfl ?_)
 dsimp only
 refine aT3 (wpAny_setEntries_of ha rfl hf ?_)
 rw [if_neg (by simp)]
 refine aT3 (hn _ _ _ _ ha ?_)
 dsimp only
 refine aT3 (bc7 hi rfl (by simp) ?_)
 refine aT3 ?_
 simp only [newExc,newTuple]
 refine aT3 (aW2 ?_ (by size_fits))
 refine aT3 (m:=firstArgMember _ _) (be7 (a:=Value.none) (by first | rfl | (simp only [firstArgMember]; rfl)) ?_)
 refine aW2 ?_ (by size_fits)
 simp only [raiseNew]
 refine aT3 (wpAny_handled ?_)
 rw [show A.in1.handled=none from hh]
 refine aT3 (aT6 (wpAny_throw ?_))
 refine aT3 (be8 (T:="StopIteration") (b:=true) ⟨_,aU0 _ rfl,rfl⟩ bk7 ?_)
 exact aT6 (hQ _ (((aZ3 ..).extBut.push _).push _))
end
section
variable {prog : Program} {w : World} {A : Around} {E : Value → Shared → Prop} {s : Shared} {I a : Addr} {es : Array (Int × Value)} {ep : Nat} {t : SetTable}
theorem Q9 {f:Value}{i n:Nat}{Q:Value->Shared->Prop} (hi:s.heap.get? I=some (gH f i a n ep)) (h:Q (.ref I) s):wpAny (model prog w) A (pyIter (.ref I)) Q E s:=by
 have hT:s.TypeIs (.ref I) "set_iterator":=⟨_,hi,rfl⟩
 refine wpAny_pyIter_slot hT Q8 (aW5 Q8 hT aI2 ?_ (aI3 _))
 show wpAny _ _ (ret (.ref I)) _ _ s
 exact aT6 ⟨_,rfl,"set_iterator",_,hT,iE.lookup,h⟩
theorem aI6 (hh:A.handled=none) (ne:I ≠ a) (hf:t.fits es.size=true) (O:List Value) (len:O.length=es.size) (sl:Nat->Nat)
  (hn:∀ i x,O[i]? = some x->∀ (s:Shared) (Q:Option (Value × Nat)->Shared->Prop) (E:Value->Shared->Prop) (A:Around),s.heap.get? a=some (cM es ep t)->Q (some (x,sl (i+1))) s->wpAny (model prog w) A (setNext a (sl i) i ep) Q E s)
  (he:∀ (s:Shared) (Q:Option (Value × Nat)->Shared->Prop) (E:Value->Shared->Prop) (A:Around),s.heap.get? a=some (cM es ep t)->Q none s->wpAny (model prog w) A (setNext a (sl es.size) es.size ep) Q E s) :
  Walks prog w A I [I,a] [I] es.size (fun i v=>O[i]? = some v) (fun i h=>h.get? I=some (gH (.int (sl i) 0) i a es.size ep)/\h.get? a=some (cM es ep t)) where
 sub:=fun b hb=>by rw [aU3.mp hb]; exact aV2
 frame:=fun _ _ _ st hk=>⟨hk I aV2 _ st.1,hk a (aV3 _ aV2) _ st.2⟩
 item:=fun i s Q E hi st hQ=>by
  have ho:O[i]? = some O[i]:=aT7 (by omega)
  refine aI4 st.1 st.2 hf ne rfl (hn i _ ho) fun h' g sb=>?_
  have e:s={ s with heap:=s.heap }:=by cases s; rfl
  exact hQ _ h' s.toks ho ⟨g,by rw [sb.2 a (Ne.symm ne)]; exact st.2⟩ fun b o hb e=>by rw [sb.2 b fun z=>hb (by rw [z]; exact be9 _)]; exact e
 done:=fun s Q E st hQ=>aI5 hh st.1 st.2 hf rfl he fun h' eb=>hQ h' s.toks fun b o hb e=>eb b o (fun z=>hb (by rw [z]; exact be9 _)) e
 self:=fun i s Q E st hQ=>Q9 st.1 hQ
theorem R3 (bt:w.params.followText "set-order" = true) (hf:t.fits es.size=true) {i:Nat}{sl:Nat}{Q:Option (Value × Nat)->Shared->Prop} (ha:s.heap.get? a=some (cM es ep t))
  (h:Q (((pickOrder (w.params.setOrder a ep) es)[i]?).map fun e=>(e.2,sl)) s):wpAny (model prog w) A (setNext a sl i ep) Q E s:=by
 unfold setNext setsByText
 refine aT3 (bj9 ha rfl hf ?_)
 refine aT3 (aT3 (wpAny_askSetting (aT6 ?_)))
 rw [show ((⟨(model prog w).prog,(model prog w).w.params⟩:Setting).params.followText "set-order")=true from bt,if_pos rfl,if_neg (by simp)]
 refine aT3 ?_
 unfold setWalk setsByText
 refine aT3 (bj9 ha rfl hf ?_)
 refine aT3 (aT3 (wpAny_askSetting (aT6 ?_)))
 rw [show ((⟨(model prog w).prog,(model prog w).w.params⟩:Setting).params.followText "set-order")=true from bt,if_pos rfl]
 refine aT3 (wpAny_askSetting (aT6 ?_))
 exact aT6 h
theorem R4 (bt:w.params.followText "set-order" = false) (hf:t.fits es.size=true) (tk:gV (!w.params.followText "set-order") t) (pl:(!t.plain && decide (es.size > 1))=false) {i sl:Nat}{Q:Option (Value × Nat)->Shared->Prop} (ha:s.heap.get? a=some (cM es ep t))
  (h:Q (match es[SetTable.below t.place sl]?,t.place[SetTable.below t.place sl]? with | some (_,x),some j=>some (x,j+1) | _,_=>none) s):wpAny (model prog w) A (setNext a sl i ep) Q E s:=by
 unfold setNext setsByText
 refine aT3 (bj9 ha rfl hf ?_)
 refine aT3 (aT3 (wpAny_askSetting (aT6 ?_)))
 rw [show ((⟨(model prog w).prog,(model prog w).w.params⟩:Setting).params.followText "set-order")=false from bt,if_neg (by decide)]
 have ld:t.led=true:=by rw [tk.led,bt]; rfl
 show wpAny _ _ (if (!t.plain && decide (es.size > 1))=true then _ else _) _ _ _
 rw [pl,if_neg (by decide)]
 refine aT3 ?_
 show wpAny _ _ (if (!t.led && !es.isEmpty)=true then _ else _) _ _ _
 rw [ld,if_neg (by simp)]
 exact aT6 (aT6 h)
end
theorem R5 {α:Type}{l:List α}{i:Nat} (h:i < l.length):(l[i] :: l.eraseIdx i).Perm l:=by
 have e:l=l.take i ++ l[i] :: l.drop (i+1):=by rw [<- List.drop_eq_getElem_cons h,List.take_append_drop]
 rw [List.eraseIdx_eq_take_drop_succ]
 exact List.perm_middle.symm.trans (by rw [<- e])
theorem R6 {prog:Program}{w:World}{A:Around}{E:Value->Shared->Prop}{s:Shared}{p:Addr}{o:Obj}{xs:Array Value}{n:Nat}{Q:Option (Array Value)->Shared->Prop} (ho:s.heap.get? p=some o) (hd:o.data = .seq xs n) (h:Q (some xs) s):wpAny (model prog w) A (seqItems? (.ref p)) Q E s:=by
 unfold seqItems?
 refine aT3 (wpAny_load ho ?_)
 rw [hd]
 exact aT6 h
theorem R7 {α:Type}{next:Nat->Nat}:∀ (fuel k:Nat) (left:List α) (out:Array α),left.length<=fuel->(pickOrder.go next fuel k left out).toList.Perm (out.toList ++ left)
 | 0,k,left,out,h=>by
  have:left = []:=List.eq_nil_of_length_eq_zero (by omega)
  subst this
  rw [aX2]; exact bk6 _
 | fuel+1,k,left,out,h=>by
  unfold pickOrder.go
  cases hx:left[next k % left.length]? with
  | none=>
   have:left = []:=by
    cases left with
    | nil=>rfl
    | cons a r=>
     have:=List.getElem?_eq_none_iff.mp hx
     have:=Nat.mod_lt (next k) (show 0 < (a :: r).length from Nat.zero_lt_succ _)
     omega
   subst this
   rw [aX2]
  | some x=>
   obtain ⟨hi,e⟩:=aV0.mp hx
   have p:=R5 hi
   rw [e] at p
   have lp:=p.length_eq
   rw [aZ6] at lp
   refine (R7 fuel (k+1) _ _ (by omega)).trans ?_
   rw [Array.toList_push,bj4]
   exact p.append_left _
theorem R8 {α:Type} (next:Nat->Nat) (xs:Array α):(pickOrder next xs).toList.Perm xs.toList:=R7 xs.size 0 xs.toList #[] (by rw [aV7]; exact aT9 _)
noncomputable def kA (xs:List Nat):Nat->Nat
 | 0=>0
 | i+1=>xs.getD i 0+1
theorem R9 {xs:Array Nat} (a:xs.toList.Pairwise (· < ·)):∀ i,i<=xs.size->SetTable.below xs (kA xs.toList i)=i
 | 0,_=>by
  obtain ⟨_,b2,_⟩:=vZ (j:=kA xs.toList 0) a
  rcases Nat.eq_zero_or_pos (SetTable.below xs (kA xs.toList 0)) with z | z
  ·exact z
  ·exact absurd (b2 0 z) (bh5 _)
 | i+1,hi=>by
  obtain ⟨b1,b2,b3⟩:=vZ (j:=kA xs.toList (i+1)) a
  have sz:xs.toList.length=xs.size:=aV7
  have e:kA xs.toList (i+1)=xs.toList.getD i 0+1:=rfl
  rcases Nat.lt_trichotomy (SetTable.below xs (kA xs.toList (i+1))) (i+1) with z | z | z
  ·have:=b3 i (by omega) (by omega)
   omega
  ·exact z
  ·have h1:=b2 (i+1) z
   have h2:=bc1.mp a i (i+1) (by omega) (by omega) (by omega)
   rw [e,aU4,aU4,aT7 (by omega),aT7 (by omega)] at h1
   exact absurd h1 (by show ¬ xs.toList[i+1] < xs.toList[i]+1; omega)
theorem aI7 {prog:Program}{w:World}{A:Around}{E:Value->Shared->Prop}{s:Shared}{src:Source}{n:Nat}{Q:Nat->Shared->Prop} (hn:n ≠ 0) (h:∀ i d,i < n->Q i { s with drawn:=d }):wpAny (model prog w) A (choose src n) Q E s:=
 fun _ _ _=>⟨hn,h _ _ (Nat.mod_lt _ (Nat.pos_of_ne_zero hn))⟩
section
variable {prog : Program} {w : World} {A : Around} {E : Value → Shared → Prop}
theorem S0 {α:Type}:∀ (n:Nat) (xs:List α) (s:Shared) {Q:List α->Shared->Prop},xs.length<=n->(∀ ys d,ys.Perm xs->Q ys { s with drawn:=d })->wpAny (model prog w) A (drawOrder n xs) Q E s
 | 0,xs,s,Q,hl,h=>by
  have:xs = []:=List.eq_nil_of_length_eq_zero (by omega)
  subst this
  exact aT6 (h [] s.drawn (bk6 _))
 | n+1,[],s,Q,hl,h=>aT6 (h [] s.drawn (bk6 _))
 | n+1,x :: r,s,Q,hl,h=>by
  unfold drawOrder
  refine aT3 (aI7 (Nat.succ_ne_zero _) fun i d hi=>?_)
  rw [aT7 hi]
  have p:=R5 hi
  have lp:=p.length_eq
  rw [aZ6] at lp
  refine aT3 (S0 n _ _ (by omega) fun ys d' py=>aT6 ?_)
  exact h _ d' ((py.cons _).trans p)
end
section
variable {prog : Program} {w : World} {A : Around} {E : Value → Shared → Prop} {s : Shared} {I a p : Addr} {es : Array (Int × Value)} {ep : Nat} {t : SetTable}
theorem aI8 {i j:Nat}{ps:Array Value}{x:Int × Value}{Q:Option Value->Shared->Prop} (hi:s.heap.get? I=some (gH (.ref p) i a es.size ep)) (ha:s.heap.get? a=some (cM es ep t)) (hf:t.fits es.size=true) (hp:s.heap.IsTuple p ps) (hj:ps[i]? = some (.int j 0)) (hx:es[j]? = some x)
  (hQ:∀ h',h'.get? I=some (gH (.ref p) (i+1) a es.size ep)->Heap.SameBut I s.heap h'->Q (some x.2) { s with heap:=h' }):wpAny (model prog w) A (pyNext (.ref I)) Q E s:=by
 have hT:s.TypeIs (.ref I) "set_iterator":=⟨_,hi,rfl⟩
 obtain ⟨op,hop,hc,nl,hd⟩:=hp
 unfold pyNext
 refine aT3 (bc9 (aW7 (name:=Str.ofString "__next__") hT iE (aW5 iE hT r9 ?_ (rA _))))
 unfold Builtin.«set_iterator.__next__»
 refine aT3 (aT6 ?_)
 refine aT3 (wpAny_fieldsOf hi rfl ?_)
 dsimp only
 refine aT3 (wpAny_setEntries_of ha rfl hf ?_)
 rw [if_neg (by simp)]
 refine aT3 (R6 hop hd ?_)
 dsimp only
 rw [bd2,hj]
 dsimp only
 unfold setNextDrawn
 refine aT3 (aT3 (bj9 ha rfl hf ?_))
 dsimp only
 rw [if_neg (by simp),bd2,hx]
 refine aT6 ?_
 refine aT3 (bc7 hi rfl (by simp) ?_)
 have h2:=aX6 (Obj.mapFields (·.setIfInBounds 1 (rawInt ((i:Int)+1)))) hi rfl
 exact aT6 ⟨_,rfl,aT6 (hQ _ h2 (aZ3 ..))⟩
theorem aI9 {i:Nat}{ps:Array Value}{Q:Option Value->Shared->Prop} (hh:A.handled=none) (hi:s.heap.get? I=some (gH (.ref p) i a es.size ep)) (ha:s.heap.get? a=some (cM es ep t)) (hf:t.fits es.size=true) (hp:s.heap.IsTuple p ps) (hj:ps[i]? = none)
  (hQ:∀ h',Heap.ExtBut I s.heap h'->Q none { s with heap:=h' }):wpAny (model prog w) A (pyNext (.ref I)) Q E s:=by
 have hT:s.TypeIs (.ref I) "set_iterator":=⟨_,hi,rfl⟩
 obtain ⟨op,hop,hc,nl,hd⟩:=hp
 unfold pyNext
 refine aT3 (bc9 (aW7 (name:=Str.ofString "__next__") hT iE (aW5 iE hT r9 ?_ (rA _))))
 unfold Builtin.«set_iterator.__next__»
 refine aT3 (aT6 ?_)
 refine aT3 (wpAny_fieldsOf hi rfl ?_)
 dsimp only
 refine aT3 (wpAny_setEntries_of ha rfl hf ?_)
 rw [if_neg (by simp)]
 refine aT3 (R6 hop hd ?_)
 dsimp only
 rw [bd2,hj]
 dsimp only
 refine aT3 (bc7 hi rfl (by simp) ?_)
 have h1:(s.heap.update I (Obj.mapFields (·.setIfInBounds 0 (rawInt 0)))).get? I=some (gH (.int 0 0) i a es.size ep):=aX6 (Obj.mapFields (·.setIfInBounds 0 (rawInt 0))) hi rfl
 refine aT3 (bc7 h1 rfl (by simp) ?_)
 refine aT3 ?_
 simp only [newExc,newTuple]
 refine aT3 (aW2 ?_ (by size_fits))
 refine aT3 (m:=firstArgMember _ _) (be7 (a:=Value.none) (by first | rfl | (simp only [firstArgMember]; rfl)) ?_)
 refine aW2 ?_ (by size_fits)
 simp only [raiseNew]
 refine aT3 (wpAny_handled ?_)
 rw [show A.in1.handled=none from hh]
 refine aT3 (aT6 (wpAny_throw ?_))
 refine aT3 (be8 (T:="StopIteration") (b:=true) ⟨_,aU0 _ rfl,rfl⟩ bk7 ?_)
 exact aT6 (hQ _ ((((aZ3 ..).trans (aZ3 ..)).extBut.push _).push _))
theorem aJ0 (hh:A.handled=none) (ne:I ≠ a) (nep:I ≠ p) (hf:t.fits es.size=true) {ps:Array Value}{js:List Nat} (hps:ps=(js.map fun j:Nat=>Value.int j 0).toArray) (len:js.length=es.size) (inn:∀ j ∈ js,j < es.size) :
  Walks prog w A I [I,a,p] [I] es.size (fun i v=>(js.map fun j=>(es.toList.map (·.2)).getD j .none)[i]? = some v) (fun i h=>h.get? I=some (gH (.ref p) i a es.size ep)/\h.get? a=some (cM es ep t)/\h.IsTuple p ps) where
 sub:=fun b hb=>by rw [aU3.mp hb]; exact aV2
 frame:=fun _ _ _ st hk=>⟨hk I aV2 _ st.1,hk a (aV3 _ aV2) _ st.2.1,st.2.2.at fun o e=>hk p (aV3 _ (aV3 _ aV2)) o e⟩
 item:=fun i s Q E hi st hQ=>by
  have hl:i < js.length:=by omega
  have hj:=inn js[i] (bc8 hl)
  have h1:ps[i]? = some (.int js[i] 0):=by rw [hps]; simp [hl]
  have h2:es[js[i]]? = some es[js[i]]:=aX4 hj
  refine aI8 st.1 st.2.1 hf st.2.2 h1 h2 fun h' g sb=>?_
  refine hQ _ h' s.toks ?_ ⟨g,by rw [sb.2 a (Ne.symm ne)]; exact st.2.1,st.2.2.at fun o e=>by rw [sb.2 p (Ne.symm nep)]; exact e⟩ fun b o hb e=>by rw [sb.2 b fun z=>hb (by rw [z]; exact be9 _)]; exact e
  simp [hl,hj]
 done:=fun s Q E st hQ=>aI9 hh st.1 st.2.1 hf st.2.2 (by rw [hps]; simp [len]) fun h' eb=>hQ h' s.toks fun b o hb e=>eb b o (fun z=>hb (by rw [z]; exact be9 _)) e
 self:=fun i s Q E st hQ=>Q9 st.1 hQ
end
section
variable {prog : Program} {w : World} {A : Around} {E : Value → Shared → Prop} {s : Shared} {a : Addr} {es : Array (Int × Value)} {ep : Nat} {t : SetTable} {ms : List Int}
theorem aJ1 (hh:A.handled=none) (ha:s.heap.get? a=some (cM es ep t)) (ok:mF prog w es t ms) {Q:Value->Shared->Prop}
  (h:∀ (I:Addr) (h1:Heap) (d1:Drawn) (O:List Value) (fp:List Addr) (St:Nat->Heap->Prop),(∀ b o,s.heap.get? b=some o->h1.get? b=some o)->s.heap.objs.size<=I->(∀ b ∈ fp,b=a ∨ s.heap.objs.size<=b)->O.Perm (es.toList.map (·.2))->
   Walks prog w A I fp [I] es.size (fun i v=>O[i]? = some v) St->St 0 h1->Q (.ref I) { s with heap:=h1,drawn:=d1 }):wpAny (model prog w) A (pyIter (.ref a)) Q E s:=by
 obtain ⟨hel,hi,hb,hf,tk⟩:=ok
 have hT:s.TypeIs (.ref a) "set":=⟨_,ha,rfl⟩
 have lt:=aU8 ha
 have sz:es.toList.length=es.size:=aV7
 refine wpAny_pyIter_slot hT F.slot_set_iter (aW5 F.slot_set_iter hT aI1 ?_ (F.args_set_iter_1 _))
 unfold Builtin.«frozenset.__iter__» Builtin.Frozenset.slot0 Builtin.Frozenset.sizeOf
 refine aT3 (aT3 (aT6 (aT6 ?_)))
 refine aT3 (aT3 (wpAny_setEntries_of ha rfl hf (aT6 ?_)))
 refine aT3 ?_
 unfold setDrawn setsByText
 refine aT3 (bj9 ha rfl hf ?_)
 refine aT3 (aT3 (wpAny_askSetting (aT6 ?_)))
 refine aT6 ?_
 show wpAny _ _ (if (!w.params.followText "set-order" && (!t.plain && decide (es.size > 1)))=true then _ else _) _ _ _
 have fin:∀ (d1:Drawn) (sl:Nat->Nat) (O:List Value),O.Perm (es.toList.map (·.2))->sl 0=0->
   (∀ i x,O[i]? = some x->∀ (s:Shared) (Q:Option (Value × Nat)->Shared->Prop) (E:Value->Shared->Prop) (A:Around),s.heap.get? a=some (cM es ep t)->Q (some (x,sl (i+1))) s->wpAny (model prog w) A (setNext a (sl i) i ep) Q E s)->
   (∀ (s:Shared) (Q:Option (Value × Nat)->Shared->Prop) (E:Value->Shared->Prop) (A:Around),s.heap.get? a=some (cM es ep t)->Q none s->wpAny (model prog w) A (setNext a (sl es.size) es.size ep) Q E s)->
   Q (.ref s.heap.objs.size) { s with heap:=s.heap.push (gH (.int 0 0) 0 a es.size ep),drawn:=d1 }:=fun d1 sl O po s0 hn he=>
  h s.heap.objs.size _ d1 O [s.heap.objs.size,a] _ (fun b o e=>aT5 _ e) (aT9 _) (fun b hb=>by
   rcases aU2.mp hb with e | hb
   ·exact .inr (Nat.le_of_eq e.symm)
   ·exact .inl (aU3.mp hb)) po (aI6 (I:=s.heap.objs.size) hh (bb2 lt) hf O (by rw [po.length_eq,aU7,sz]) sl hn he) ⟨by rw [s0]; exact aU0 _ rfl,aT5 _ ha⟩
 have last:∀ q:Q (.ref s.heap.objs.size) { s with heap:=s.heap.push (gH (.int 0 0) 0 a es.size ep) },wpAny (model prog w) A.in1 (do
   let first <- pure (rawInt 0)
   (fun first=>do
    let e <- setEpoch a
    let o <- newFields "set_iterator" [first,rawInt 0,Value.ref a,rawInt es.size,rawInt e]
    ret o) first) (fun fin s'=>∃ v,fin = .done (.ret v)/\∃ T' r,s'.TypeIs v T'/\typeLookup (.type T') (Str.ofString "__next__")=pure (some r)/\Q v s') E s:=fun q=>by
  refine aT3 (aT6 ?_)
  refine aT3 (wpAny_setEpoch_of ha rfl hf ?_)
  exact aT3 (aW2 (aT6 ⟨_,rfl,"set_iterator",_,⟨_,aU0 _ rfl,rfl⟩,iE.lookup,q⟩))
 cases bt:w.params.followText "set-order" with
 | true=>
  rw [if_neg (by simp)]
  refine last (fin s.drawn (fun _=>0) ((pickOrder (w.params.setOrder a ep) es).toList.map (·.2)) ((R8 _ _).map _) rfl (fun i x hx s Q E A ha q=>R3 bt hf ha ?_) fun s Q E A ha q=>R3 bt hf ha ?_)
  ·rw [aV5,ba4] at hx
   cases hp:(pickOrder (w.params.setOrder a ep) es)[i]? with
   | none=>rw [hp] at hx; cases hx
   | some e=>rw [hp] at hx; cases hx; exact q
  ·have:=(R8 (w.params.setOrder a ep) es).length_eq
   rw [aV7,aV7] at this
   rw [bf3 (by omega)]; exact q
 | false=>
  have ps:t.place.size=es.size:=by
   unfold SetTable.fits at hf
   rw [aX3] at hf
   exact eq_of_beq hf.1
  cases pl:(!t.plain && decide (es.size > 1)) with
  | false=>
   rw [if_neg (by simp)]
   refine last (fin s.drawn (kA t.place.toList) (es.toList.map (·.2)) (bk6 _) rfl (fun i x hx s Q E A ha q=>R4 bt hf tk pl ha ?_) fun s Q E A ha q=>R4 bt hf tk pl ha ?_)
   ·have il:i < es.size:=by
     have:=(aV0.mp hx).1
     rw [aU7,sz] at this; exact this
    rw [R9 tk.asc i (by omega),aX4 il,aX4 (by omega)]
    rw [aV5,ba4,aX4 il] at hx
    cases hx
    have e:kA t.place.toList (i+1)=t.place[i]+1:=by
     show t.place.toList.getD i 0+1=_
     rw [aU4,ba4,aX4 (by omega)]; rfl
    rw [e] at q; exact q
   ·rw [R9 tk.asc es.size (by omega),bf3 (aT9 _)]; exact q
  | true=>
   rw [if_pos (by simp)]
   refine aT3 (S0 es.size (List.range es.size) s (by rw [bf2]; exact aT9 _) fun js d pj=>?_)
   have jl:js.length=es.size:=by rw [pj.length_eq,bf2]
   simp only [newTuple]
   refine aT3 (aW2 ?_ (by show (List.map _ js).toArray.size<=sizeLine; rw [aT8,aU7,jl]; exact fits_of_scanBound hb))
   have ha1:=aT5 { cls:=.type "tuple",data:=.seq (js.map fun (i:Nat)=>rawInt i).toArray } ha
   refine aT3 (wpAny_setEpoch_of ha1 rfl hf ?_)
   refine aT3 (aW2 (aT6 ⟨_,rfl,"set_iterator",_,⟨_,aU0 _ rfl,rfl⟩,iE.lookup,?_⟩))
   have sp:(s.heap.push { cls:=.type "tuple",data:=.seq (js.map fun (i:Nat)=>rawInt i).toArray }).objs.size=s.heap.objs.size+1:=bd6 ..
   have hp1:=aU0 s.heap (o:={ cls:=.type "tuple",data:=.seq (js.map fun (i:Nat)=>rawInt i).toArray }) rfl
   have inn:∀ j ∈ js,j < es.size:=fun j hj=>bg7.mp (pj.mem_iff.mp hj)
   refine h _ _ d (js.map fun j=>(es.toList.map (·.2)).getD j .none) [_,a,s.heap.objs.size] _ (fun b o e=>aT5 _ (aT5 _ e)) (by show _<=(s.heap.push _).objs.size; rw [sp]; exact bk8 _) (fun b hb=>?_) ?_ (aJ0 (p:=s.heap.objs.size) hh (by show (s.heap.push _).objs.size ≠ a; rw [sp]; exact bb2 (Nat.lt_succ_of_lt lt)) (by show (s.heap.push _).objs.size ≠ s.heap.objs.size; rw [sp]; exact Nat.succ_ne_self _) hf rfl jl inn) ⟨aU0 _ rfl,aT5 _ ha1,_,aT5 _ hp1,rfl,_,rfl⟩
   ·rcases aU2.mp hb with e | hb
    ·rw [e]; exact .inr (by show _<=(s.heap.push _).objs.size; rw [sp]; exact bk8 _)
    ·rcases aU2.mp hb with e | hb
     ·exact .inl e
     ·exact .inr (Nat.le_of_eq (aU3.mp hb).symm)
   ·refine (pj.map _).trans ?_
    have e:(List.range es.size).map (fun j=>(es.toList.map (·.2)).getD j .none)=es.toList.map (·.2):=by
     refine List.ext_getElem (by simp) fun i h1 h2=>?_
     simp at h1 h2 ⊢
     simp [h2]
    rw [e]
end
end Raw
namespace Raw
open PySem PySem.W PyProof.Rows
section
variable {prog : Program} {w : World} {A : Around} {E : Value → Shared → Prop} {s : Shared} {a : Addr} {es : Array (Int × Value)} {ep : Nat} {t : SetTable} {ms : List Int}
theorem aJ2 {Q:Bool->Shared->Prop} (hT:s.TypeIs (.ref a) "set") (h:Q false s):wpAny (model prog w) A (Builtin.List.listLengthHint (.ref a)) Q E s:=by
 unfold Builtin.List.listLengthHint
 refine aT3 (wpAny_specialOf hT PySem.F.slot_set_len.lookup ?_)
 generalize hid:("set.__len__" : String)=id0
 wp_delta
 rw [show splitId id0=some ("set","__len__") from by subst hid; decide +kernel]
 subst hid
 refine aT3 (be8 (T:="set") (b:=true) hT (by rw [be3]; kernel_rfl) ?_)
 refine wpAny_ite_split (fun hab=>absurd hab (by decide)) (fun _=>?_)
 refine wpAny_ite_split (fun _=>?_) (fun hab=>absurd (by decide +kernel) hab)
 refine aT3 (bj3 hT ?_)
 exact aT6 h
theorem aJ3 {O:List Value}{acc:Array Value}{n:Nat} (h:ItemsOf (fun i v=>O[i]? = some v) acc n) (hn:O.length=n):acc.toList=O:=by
 refine List.ext_getElem (by rw [aV7,h.1,hn]) fun i h1 h2=>?_
 rw [aV7] at h1
 have this:O[i]? = some acc[i]:=h.2 i acc[i] (aX4 h1)
 rw [aT7 h2] at this
 rw [Array.getElem_toList]
 exact (aW4 this).symm
theorem aJ4 {R:Result->Shared->Prop} (hh:A.handled=none) (ha:s.heap.get? a=some (cM es ep t)) (ok:mF prog w es t ms) (S:Addr) (nSa:S ≠ a) (res:Value) (c0:Nat) (hS:s.heap.get? S=some { cls:=.type "list",data:=.seq #[] c0 })
  (hR:∀ h' tk d acc c,(∀ b o,b ≠ S->s.heap.get? b=some o->h'.get? b=some o)->h'.get? S=some { cls:=.type "list",dict:=none,data:=.seq acc c,slots:=#[] }->acc.toList.Perm (es.toList.map (·.2))->R (.ok (.ret res)) { s with heap:=h',toks:=tk,drawn:=d }) :
  wpAny (model prog w) A.in1 (Builtin.List.listExtendWith (.ref S) (.ref a) res)
   (fun fin s'=>match fin with | .done f=>R (.ok f) s' | .again c'=>c'.quiet=true/\codeAny (model prog w) A c' R s') (fun e s'=>R (.error e) s') s:=by
 have hT:s.TypeIs (.ref a) "set":=⟨_,ha,rfl⟩
 have lS:=aU8 hS
 have hn:es.size<=sizeLine:=fits_of_scanBound ok.2.2.1
 unfold Builtin.List.listExtendWith
 refine aT3 (bj3 (T:="set") hT ?_)
 have e1:Builtin.List.listSameRef (.ref S) (.ref a)=false:=by simp [Builtin.List.listSameRef,nSa]
 simp only [e1,show (Value.type "set" == Value.type "list")=false by decide,show (Value.type "set" == Value.type "tuple")=false by decide,Bool.or_false,aW1,bb6]
 refine aT3 (aJ1 (A:=A.in1) hh ha ok fun I h1 d1 O fp St kp lI fpo po W st=>?_)
 have nSf:S ∉ fp:=fun z=>(fpo S z).elim nSa fun z=>absurd (aU9 lS z) (aZ4 _)
 have ol:O.length=es.size:=by rw [po.length_eq,aU7,aV7]
 have key:∀ (h:Heap) (c1 tk:Nat),St 0 h->(∀ b o,b ≠ S->s.heap.get? b=some o->h.get? b=some o)->h.get? S=some { cls:=.type "list",data:=.seq #[] c1 }->codeAny (model prog w) A (.builtin "list.extend.loop" ⟨[.ref S,.ref I,res],[]⟩) R { s with heap:=h,toks:=tk,drawn:=d1 }:=by
  intro h c1 tk hst hk hS1
  refine codeAny_extend_loopS W.toS hn S nSf res es.size 0 _ #[] c1 rfl (aX0 _) hst hS1 (ItemsOf.nil _) fun s' acc c hm hS' it=>?_
  rw [Moved.eq_with hm]
  refine hR s'.heap s'.toks d1 acc c (fun b o hb e=>hm.heap b o (fun z=>?_) (hk b o hb e)) hS' (by rw [aJ3 it ol]; exact po)
  rcases aU2.mp z with z | z
  ·exact hb z
  ·rw [aU3.mp z] at e
   exact absurd (aU9 (aU8 e) lI) (aZ4 _)
 have hS1:=kp _ _ hS
 refine aT3 (ba5 (aJ2 ⟨_,kp _ _ ha,rfl⟩ ?_))
 refine wpAny_ite_split (fun _=>?_) (fun _=>aT6 ⟨bk5 PySem.F.plain_extend_loop _,key _ c0 _ st (fun b o _ e=>kp _ _ e) hS1⟩)
 refine aT3 (bk2 ?_)
 refine aT3 ?_
 show wpAny _ _ (updateSeq S (·.push .none) >>= fun _=>updateSeq S (·.pop)) _ _ _
 refine aT3 (wpAny_updateSeq hS1 rfl ?_)
 have hS2:=aX6 (Obj.mapSeq (·.push Value.none)) hS1 rfl
 refine wpAny_updateSeq (hz:=by seq_fits) hS2 rfl ?_
 have hS3:=aX6 (Obj.mapSeq (·.pop)) hS2 rfl
 refine aT6 ⟨bk5 PySem.F.plain_extend_loop _,key _ _ _ ?_ (fun b o hb e=>?_) hS3⟩
 ·refine W.frame 0 _ _ st fun b hb o e=>?_
  have hbS:b ≠ S:=fun z=>nSf (z ▸ hb)
  exact (aZ9 _ _ (Ne.symm hbS)).trans ((aZ9 _ _ (Ne.symm hbS)).trans e)
 ·exact (aZ9 _ _ (Ne.symm hb)).trans ((aZ9 _ _ (Ne.symm hb)).trans (kp _ _ e))
theorem aJ5 {R:Result->Shared->Prop} (hh:A.handled=none) (ha:s.heap.get? a=some (cM es ep t)) (ok:mF prog w es t ms)
  (hR:∀ h' tk d acc c,(∀ b o,b ≠ s.heap.objs.size->(s.heap.push { cls:=.type "list",data:=.seq ([]:List Value).toArray }).get? b=some o->h'.get? b=some o)->h'.get? s.heap.objs.size=some { cls:=.type "list",dict:=none,data:=.seq acc c,slots:=#[] }->acc.toList.Perm (es.toList.map (·.2))->R (.ok (.ret (.ref s.heap.objs.size))) { s with heap:=h',toks:=tk,drawn:=d }) :
  codeAny (model prog w) A (.builtin "proto.collect" ⟨[.ref a],[]⟩) R s:=by
 refine bd9 PySem.F.entry_proto_collect ?_
 rw [bf0 PySem.F.plain_proto_collect _]
 show wpAny _ A.in1 (newList [] >>= fun l=>again (.builtin "list.__iadd__" ⟨[l,.ref a],[]⟩)) _ _ s
 refine aT3 (aW2 ?_)
 refine aT6 ⟨bk5 PySem.F.plain_list_iadd _,bd9 PySem.F.entry_list_iadd ?_⟩
 rw [bf0 PySem.F.plain_list_iadd _]
 show wpAny _ A.in1 (Builtin.List.listExtendWith (.ref s.heap.objs.size) (.ref a) (.ref s.heap.objs.size)) _ _ _
 exact aJ4 (s:={ s with heap:=s.heap.push { cls:=.type "list",data:=.seq ([]:List Value).toArray } }) (R:=R) hh (aT5 _ ha) ok s.heap.objs.size (bb2 (aU8 ha)) _ 0 (aU0 _ rfl) hR
theorem aJ6 {Q:Value->Shared->Prop} (hh:A.handled=none) (ha:s.heap.get? a=some (cM es ep t)) (ok:mF prog w es t ms) (hn:ms.length < 64)
  (h:∀ h' tk d l (out:Array Value) (ms':List Int) e,(∀ b o,s.heap.get? b=some o->h'.get? b=some o)->s.heap.objs.size<=l->h'.get? l=some (seqObj "list" out e)->IntsAre out.toList ms'->ms'.Perm ms->ms'.Pairwise (· <= ·)->Q (.ref l) { s with heap:=h',toks:=tk,drawn:=d }) :
  wpAny (model prog w) A (call (.builtin "sorted") [.ref a]) Q E s:=by
 refine Calls.call_function_entry kind_sorted plain_sorted entry_sorted (args_sorted1 _) ?_
 unfold Builtin.«sorted»
 refine aT3 (m:=checkCount "sorted" 1 1 _) (aT6 ?_)
 unfold collect
 refine aT3 (aT3 (wpAny_runValue (aJ5 (s:=s) hh ha ok fun h' tk d acc c kp at1 pa=>?_)))
 show wpAny _ _ (load s.heap.objs.size >>= _) _ _ _
 refine aT3 (wpAny_load at1 ?_)
 refine aT6 ?_
 obtain ⟨ks,hi,pk⟩:=w4 pa ok.2.1
 have hz:acc.toList.length < 64:=by rw [IntsAre.length hi,pk.length_eq]; exact hn
 refine aT3 (wpAny_newList ?_ (aX8 (ba3 hz) (by decide)))
 have hoL:(h'.push (seqObj "list" acc.toList.toArray 0)).get? h'.objs.size=some (seqObj "list" acc.toList.toArray 0):=aU0 _ rfl
 show wpAny _ _ _ _ _ { s with heap:=h'.push (seqObj "list" acc.toList.toArray 0),toks:=tk,drawn:=d }
 refine aT3 (ba5 (aW5 slot_list_sort ⟨_,hoL,rfl⟩ entry_list_sort (list_sort_tree hoL hi hz fun out ns' a1 a2 a3=>⟨_,rfl,?_⟩) (args_list_sort _)))
 obtain ⟨e,he⟩:=sortedHeap_at (vs:=acc.toList) (out:=out) hoL
 have kq:∀ b o,s.heap.get? b=some o->h'.get? b=some o:=fun b o e=>kp b o (aW6 (aU8 e)) (aT5 _ e)
 refine aT6 ⟨_,rfl,h _ tk d h'.objs.size out ns' e (fun b o hb=>?_) (ba3 (aU8 at1)) he a1 (a2.trans pk) a3⟩
 have lt:=aU8 (kq b o hb)
 rw [sortedHeap_old (aW6 lt) (by rw [size_push']; exact Nat.lt_succ_of_lt lt)]
 exact aT5 _ (kq b o hb)
end
end Raw
namespace L2
open PySem PySem.Spec PyProof.Rows
section
variable {X : Cx}
noncomputable def S3 (X:Cx) (o:Obj) (ms:List Int):Prop:=∃ es ep t,o=Raw.cM es ep t/\Raw.mF X.prog X.w es t ms
theorem aJ7 (hc:X.calm=true):cO X (.type "set") (fun xs H Q=>∃ (p:Addr) (ns:List Int),xs = [.ref p]/\aH X.K H p (ns.map V.int)/\ns.length<=1000/\∀ l o ms,H l=none->S3 X o ms->ms.Nodup->(∀ x,x ∈ ms ↔ x ∈ ns)->Q (.ref l) (upd H l (.frz o (.own l)))):=by
 intro pins s σ H xs us Q I r h
 obtain ⟨p,ns,rfl,hq,hl,q⟩:=h
 obtain ⟨u,rfl,rx⟩:=fU r
 obtain rfl:u=Value.ref p:=rx
 obtain ⟨its,r',pl,hz⟩:=I.tuple hq
 have ia:=mW r'
 have len:its.length=ns.length:=by rw [<- r'.length,aU7]
 refine Raw.aI0 (items:=its.toArray) (ns:=ns) (I.ok.hd hc) pl ia (by rw [aT8,len]; exact Nat.lt_of_le_of_lt (Nat.add_le_add_right hl 1) (by decide)) fun h' tk f=>?_
 obtain ⟨⟨ms,⟨es,ep,t,ho,ok⟩,nd,mem⟩,f2⟩:=f
 exact⟨.ref s.heap.objs.size,_,I.laid (t':=tk) (fun b o e=>f2 b o (aU8 e) e) (aT9 _) (show bO X.prog X.w _ _ _ (.frz (Raw.cM es ep t) (.own _)) from ⟨ho,_,ho⟩),rfl,q _ _ ms (I.hok.fresh (aT9 _)) ⟨es,ep,t,rfl,ok⟩ nd mem⟩
theorem a7.drew {pins:List (Addr × Obj)}{σ:St}{H:Hp}{s:Shared} (I:a7 X pins σ H s) (d:Drawn):a7 X pins σ H { s with drawn:=d }:=
 ⟨I.ok,I.os,I.bare,I.base,I.loc,I.cell,I.free,I.freeC,I.pin,I.hok,I.len⟩
theorem aJ8 (hc:X.calm=true):cO X (.builtin "sorted") (fun xs H Q=>∃ (a:Addr) (o:Obj) (ms:List Int),xs = [.ref a]/\H a=some (.frz o (.own a))/\S3 X o ms/\ms.length < 64/\∀ l (ks:List Int),H l=none->ks.Perm ms->ks.Pairwise (· <= ·)->Q (.ref l) (upd H l (.lst (ks.map V.int)))):=by
 intro pins s σ H xs us Q I r h
 obtain ⟨a,o,ms,rfl,ha,⟨es,ep,t,rfl,ok⟩,h64,q⟩:=h
 obtain ⟨u,rfl,rx⟩:=fU r
 obtain rfl:u=Value.ref a:=rx
 have ho:s.heap.get? a=some (Raw.cM es ep t):=(show bO X.prog X.w H s.heap a (.frz (Raw.cM es ep t) (.own a)) from I.hok a _ ha).1
 refine Raw.aJ6 (I.ok.hd hc) ho ok h64 fun h' tk d l out ks e kp hn he a1 p so=>?_
 have hlen:ks.length=ms.length:=p.length_eq
 refine⟨.ref l,upd H l (.lst (ks.map V.int)),(I.drew d).laid (s:={ s with drawn:=d }) (t':=tk) kp hn ⟨?_,out.toList,e,nH a1,by simpa using he⟩,rfl,q _ ks (I.hok.fresh hn) p so⟩
 rw [aU7,hlen]
 exact ba3 (nI (by omega))
end
end L2
namespace PP
open PySem L2
section
variable {X : Cx} {e : Expr} {tr : cS} {pos p2 p3 p4 : Pos}
noncomputable def S4:List PV->(PV->Prop)->Prop:=fun xs Q=>∃ ns:List Int,xs = [.tup (intz ns)]/\ns.length<=1000/\(∀ ms:List Int,ms.Nodup->(∀ x,x ∈ ms ↔ x ∈ ns)->ms.length < 64)/\∀ ks:List Int,ks.Pairwise (· < ·)->(∀ x,x ∈ ks ↔ x ∈ ns)->Q (.lst (intz ks))
theorem aJ9 (B:Bt X.mg) (bs:X.mg "set" = none) (hc:X.calm=true) (ha:QA X [e] tr) (hg:Gl X "sorted":=by rfl) (hg2:Gl X "set":=by rfl) (he:starEach [e] X.env=(false,eval e X.env) :: starEach [] X.env:=by rfl) (hpl:∀ p:Pos,(backTo p (starEach [] X.env)).any (·.1)=false:=by intro _; rfl)
  (he2:starEach [.Call (.Name "set" p3) [e] [] p4] X.env=(false,eval (.Call (.Name "set" p3) [e] [] p4) X.env) :: starEach [] X.env:=by rfl):QE X (.Call (.Name "sorted" p2) [.Call (.Name "set" p3) [e] [] p4] [] pos) (aC S4 tr):=
 cJ (lJ (aJ8 hc) hg B.sorted PyProof.Rows.boot_sorted (cP (sL (aJ7 hc) hg2 bs PyProof.Rows.boot_set ha (by decide) (by decide) he (hpl _)) dB he2) (by decide) (by decide) he2 (hpl _)) fun σ H Q' h=>by
  obtain ⟨W,ρ,Q,px,q,k⟩:=h
  refine⟨W,ρ,_,px,q,fun vs H1 xs s1 r1 q1=>?_⟩
  obtain ⟨ns,e1,hl,few,q⟩:=q1
  have r2:=r1.any
  rw [e1] at r2
  obtain ⟨v,rfl,r3⟩:=r2.one
  obtain ⟨p,us,rfl,hp,r4⟩:=r3.sqT
  obtain rfl:=r4.ofInts
  refine⟨p,ns,rfl,aH.of hp,hl,fun l o ms hf sv nd mem=>⟨l,o,ms,rfl,bI,sv,few ms nd mem,fun l2 ks hf2 pk so=>?_⟩⟩
  have nk:ks.Nodup:=pk.nodup_iff.mpr nd
  have up:ks.Pairwise (· < ·):=(List.Pairwise.and so nk).imp fun z=>Int.lt_iff_le_and_ne.mpr ⟨z.1,z.2⟩
  refine k _ _ _ .fr ((s1.trans (bE hf _)).trans (bE hf2 _)) ?_ (q ks up fun x=>(pk.mem_iff).trans (mem x))
  have n2:H l2=none:=by
   cases z:H l2 with
   | none=>rfl
   | some u=>
    have:=(s1.trans (bE hf (.frz o (.own l)))) _ _ z
    rw [hf2] at this; cases this
  exact .lst n2 bI (Reps.intz ks)
end
end PP
namespace Core
open PySem L2 PP
section
variable {ws : List Int} {ls : List (Int × Int)} {A T : List Int} {m : Nat}
theorem aK0 (en:cK ws ls A m):qS ws ls (aT ws ls A m):=fun h hh=>by
 have:=List.filter_eq_nil_iff.mp (show (rng ws.length).filter (kin ws ls (aT ws ls A m)) = [] from en.2) h hh
 simpa using this
end
theorem w5 (ns:List Int) (lo hi:Option Int):∃ zs:List Int,fC (intz ns) lo hi=intz zs/\zs.length<=ns.length:=by
 refine⟨(ns.drop (HT.aV (intz ns).length 0 lo)).take (HT.aV (intz ns).length (intz ns).length hi - HT.aV (intz ns).length 0 lo),?_,?_⟩
 ·unfold fC intz; rw [List.map_take,List.map_drop]
 ·rw [ba8,aY9]; omega
noncomputable def tH (ws:List Int) (ls:List (Int × Int)) (ns R:List Int):Prop:=Q2 ws ls ns R=true/\qS ws ls (ns ++ R)
end Core
namespace L2
open PySem PySem.Spec PyProof.Rows PP
section
variable {prog : Program} {w : World} {A : Around} {R : Result → Shared → Prop} {I S : Addr} {n : Nat} {l : Addr} {its : Array Value} {s0 : Shared} {bt : Nat → Nat → Bool}
noncomputable abbrev at_ (s:Shared) (h:Heap) (k:Nat):Shared:={ s with heap:=h,toks:=k }
end
end L2
namespace Core
open PySem L2 PP
theorem aK1 (ps:List Int):fC (intz ps) (some 1) none=intz (ps.drop 1):=by
 unfold fC
 have e1:HT.aV (intz ps).length 0 (some 1)=min 1 ps.length:=by
  rw [aY]
  show (if (1:Int) < 0 then ((1:Int)+(ps.length:Int)).toNat else min (1:Int).toNat ps.length)=_
  rw [if_neg (by decide)]; rfl
 rw [e1]
 show ((intz ps).drop (min 1 ps.length)).take ((intz ps).length - min 1 ps.length)=_
 rw [bc6 (by rw [aY9]; exact aT9 _)]
 show (List.map PV.int ps).drop _=List.map PV.int _
 cases ps with
 | nil=>rfl
 | cons x xs=>rw [show min 1 (x :: xs).length=1 by simp]; rfl
noncomputable def FB (L:List (List Int)) (f:List Int->Int) (r:List Int):Prop:=∃ i,L[i]? = some r/\(∀ (j:Nat) (s:List Int),j < i->L[j]? = some s->f s < f r)/\∀ s ∈ L,f s<=f r
noncomputable def inL (S:List Int) (l:Int × Int):Bool:=decide (l.1 ∈ S) && decide (l.2 ∈ S)
structure Moved (ws os ws':List Int):Prop where
 len:ws'.length=ws.length
 at_:∀ h:Nat,h < ws.length->ws'[(os.getD h 0).toNat]? = ws[h]?
section
variable {ls : List (Int × Int)} {n : Nat} {B : List Int}
noncomputable def ins (ls:List (Int × Int)) (S:List Int) (h:Int):Nat:=((b8 ls h).filter fun x=>decide (x ∈ S)).length
end
noncomputable def keep2 (ls:List (Int × Int)) (L:List Int):List Int:=L.filter fun h=>decide (2<=ins ls L h)
end Core
namespace L2
open PySem PySem.Spec PyProof.Rows
noncomputable def aK2 (sp:Sp) (t:TA) (i:Nat):TB:=fun D Ex σ H=>t σ H fun vs H1=>sp vs H1 (fun v H2=>D.nx (σ.set i (some v)) H2) Ex
section
variable {X : Cx} {k : Nat} {f : Addr} {fd : FuncData} {ps : List Str} {sp : Sp} {x z : Str} {p cp pos zp : Pos} {e : Expr} {es : List Expr} {t : TA} {i : Nat}
theorem aK3 (F:cU X.prog X.w X.K X.mg X.base (e8 X.prog X.w) k f fd ps sp) (hr:cG k X.A) (hg:Gl X x) (hm:X.mg x=some (.ref f)) (hk:PySem.W.keepIn X.K (.ref f)=true) (hb:iJ X.K fd ps []) (ha:∀ E,PA (X.wish E) (e :: es) t)
  (hN:X.N.Nodup) (hi:X.N[i]? = some z) (hz:X.env.scope.names.lookup z=some .local)
  (hdb:(x == ("__debug__" : Str))=false:=by decide) (he:starEach (e :: es) X.env=(false,eval e X.env) :: starEach es X.env:=by rfl) (hpl:(backTo cp (starEach es X.env)).any (·.1)=false:=by rfl) (hsw:swapsWith (.Call (.Name x p) (e :: es) [] cp) (some (.Name z zp)) pos.line X.env=pure false:=by rfl) :
  PB X [.Assign [.Name z zp] (.Call (.Name x p) (e :: es) [] cp) pos] (aK2 sp t i):=by
 intro pins s σ H D Ex I h
 refine wpAny_execs_cons (wpAny_Assign_Name ?_ hsw)
 refine bi6 (mK I hg hm ?_ hdb)
 refine PySem.W.callWith_K (h₀:=X.base) I.ok.mod.kin hk (aP (ha (XB X pins σ Ex) cp pins s σ H _ (I.wish _) h) fun us s1 h1=>⟨?_,?_⟩) he hpl
 ·obtain ⟨_,_,I1,_⟩:=h1
  exact I1.kIn
 ·obtain ⟨vs,H1,I1,r,q⟩:=h1
  have I1:=I1.unwish
  have hl:us.length=ps.length:=by rw [<- r.length]; exact F.len _ _ _ _ q
  have bd:=hb s1 us I1.kIn (by rw [aX2]; exact hl)
  rw [aX2] at bd
  refine wpAny_call (codeAny_mono (F.run X.A X.stack s1 H1 ⟨us,[]⟩ us vs _ Ex hr I1.env0 bd r q) fun rs s' hq=>?_)
  cases rs with
  | error ev=>exact⟨H1,s1,I1,hq⟩
  | ok fl=>
   cases fl with
   | ret u=>
    obtain ⟨v,H2,I2,rv,q2⟩:=I1.after hq
    exact oN I2 hN hi (.inl hz) rv (fun s3 I3=>wpAny_execs_nil ⟨_,H2,I3,q2⟩) (.inr hz)
   | next=>exact False.elim hq
   | brk=>exact False.elim hq
   | cont=>exact False.elim hq
end
end L2
namespace PP
open PySem L2
section
variable {X : Cx} {e : Expr} {es : List Expr} {tr : cS} {p2 cp pos zp : Pos}
noncomputable def S5 (i:Nat) (p:iD) (t:cS):mB:=fun D Ep ρ=>t ρ fun xs=>p Ep (xs.map (·.1)) fun z=>D.nx (ρ.set i (some (.sh true z)))
theorem aK4 (i:Nat) {k j:Nat}{x z:Str}{ps:List Str}{p:iD} (d:gG X.prog X.w X.K X.mg X.base k x ps p) (hr:cG j X.A) (hN:X.N.Nodup) (ha:∀ E,QA (X.wish E) (e :: es) tr) (hkj:k<=j:=by decide) (hg:Gl X x:=by rfl) (hi:X.N[i]? = some z:=by rfl) (hz:X.env.scope.names.lookup z=some .local:=by rfl) (hdb:(x == ("__debug__" : Str))=false:=by decide)
  (he:starEach (e :: es) X.env=(false,eval e X.env) :: starEach es X.env:=by rfl) (hpl:(backTo cp (starEach es X.env)).any (·.1)=false:=by rfl) (hsw:swapsWith (.Call (.Name x p2) (e :: es) [] cp) (some (.Name z zp)) pos.line X.env=pure false:=by rfl):QB X [.Assign [.Name z zp] (.Call (.Name x p2) (e :: es) [] cp) pos] (S5 i p tr):=by
 obtain ⟨f,fd,F,b,kp,m⟩:=d.ex
 refine pbI (aK3 (t:=LA X tr) F (hr.mono hkj) hg m kp b (fun E=>ha E) hN hi hz hdb he hpl hsw) fun D Ex σ H h=>?_
 obtain ⟨W,ρ,D',Ep,px,q,k,ke⟩:=h
 refine⟨W,ρ,_,px,q,fun vs H1 xs s1 r q1=>⟨_,_,Ep,r.any,q1,fun v H' x s2 r2 q2=>?_,fun n C H' s2 z1 z2=>ke n C H' (s1.trans s2) z1 z2⟩⟩
 have s3:=s1.trans s2
 exact k.nx W _ H' _ (Ev.same s3) ((px.mono s3).setSh (g:=true) (r2.same (aE.refl _) fun a za=>px.new (s1.free za))) q2
end
end PP
namespace Core
open PySem L2 PP
section
variable {ls : List (Int × Int)} {n : Nat} {U : List Int} {v : Int}
noncomputable def mu (ls:List (Int × Int)) (U:List Int):Int:=((ls.filter (inL U)).length:Int) - (U.length:Int)+((aG7 ls U).length:Int)
end
noncomputable abbrev Wys:=List (Int × List Int)
end Core
namespace PP
open PySem L2
noncomputable def w9:List PV->(PV->Prop)->Prop:=fun xs Q=>∃ ys,xs = [.tup ys]/\flats ys=true/\Q (.tup ys.reverse)
end PP
namespace Raw
open PySem PySem.W PySem.Calls PyProof.Rows
theorem aK5:Slot "reversed" "__init__" "object.__init__":=
 .of (owner:="object") (n:="__init__") (by rw [bh6,bd1]; kernel_rfl) (by decide +kernel) (by decide +kernel) (by decide +kernel)
  (by first | exact .inl (by decide +kernel) | exact .inr (by decide +kernel)) (by rw [be3]; kernel_rfl)
theorem aK6:TypeCalled "reversed" "reversed.__new__" "object.__init__":=
 ⟨by decide +kernel,by decide +kernel,⟨_,_,F.mro_reversed⟩,F.made_reversed,F.plain_reversed_new,F.sub_reversed_self,aK5⟩
theorem aK7:typeLookup (.type "tuple") "__reversed__" = pure none:=by rw [bh6,bd1]; kernel_rfl
noncomputable def rB (t:Addr) (i:Int):Obj:={ cls:=.type "reversed",data:=.fields #[.ref t,rawInt i] }
theorem aK8 (t:Addr) (items:Array Value) (hz:(items.size:Int) < 2 ^ 62) :
  Meets (Builtin.«reversed.__new__» ⟨[.type "reversed",.ref t],[]⟩) (fun _ R s=>IsTup s.heap t items/\∀ tk,R (.ok (.ret (.ref s.heap.objs.size))) { s with heap:=s.heap.push (rB t ((items.size:Int) - 1)),toks:=tk }):=
 .of_wp fun prog w A R s h=>by
  obtain ⟨ht,h⟩:=h
  have hT:s.TypeIs (.ref t) "tuple":=ht.typeIs
  unfold Builtin.«reversed.__new__»
  refine aT3 (be7 (newClass_reversed _) ?_)
  try dsimp only
  refine aT3 (be7 (a:=()) (by first | rfl | kernel_rfl) ?_)
  refine aT3 (be7 (a:=()) (by first | rfl | kernel_rfl) ?_)
  try dsimp only
  refine aT3 (wpAny_specialOf hT aK7 ?_)
  try dsimp only
  have hg:=F.slot_tuple_getitem.lookup
  have hsd:isSubtype (.type "tuple") (.type "dict")=pure false:=by rw [be3]; kernel_rfl
  generalize pc:call (Value.builtin "len") [Value.ref t]=CL
  refine aT3 ?_
  show wpAny _ _ (isInstance (.ref t) (.type "dict") >>= fun b=>_) _ _ _
  wp_walk using bj3 hT,wpAny_specialOf hT hg
  subst pc
  refine len_tuple ht (by omega) ?_
  refine aT3 (m:=asInt? _) (aT6 ?_)
  show wpAny _ _ (newObj (.type "reversed") (.fields #[.ref t,rawInt ((items.size:Int) - 1)]) >>= fun v=>ret v) _ _ _
  refine aT3 (aW2 ?_)
  exact aT6 ⟨_,rfl,h _⟩
theorem wA:Manifest.owners.lookup (String.ofList ['d','e','s','r','e','v','e','r'].reverse)=some Manifest.sig_reversed:=by kernel_rfl
theorem oH:Slot "reversed" "__next__" "reversed.__next__":=
 .of (owner:="reversed") (n:="__next__") (by rw [bh6,bd1]; kernel_rfl) (by decide +kernel) (by decide +kernel) (by decide +kernel)
  (by first | exact .inl (by decide +kernel) | exact .inr (by decide +kernel)) (by rw [be3]; kernel_rfl)
theorem S6:entryFor table "reversed.__next__" = some Builtin.«reversed.__next__»:=entryFor_of_tree (by kernel_rfl)
theorem S7 (a:Value):argsOk "reversed.__next__" ⟨[a],[]⟩:=by
 unfold argsOk; rw [signature?_of (id:="reversed.__next__") (n:=['_','_','t','x','e','n','_','_']) (o:=['d','e','s','r','e','v','e','r']) (by kernel_rfl) wA]; kernel_rfl
theorem S8:Slot "reversed" "__iter__" "reversed.__iter__":=
 .of (owner:="reversed") (n:="__iter__") (by rw [bh6,bd1]; kernel_rfl) (by decide +kernel) (by decide +kernel) (by decide +kernel)
  (by first | exact .inl (by decide +kernel) | exact .inr (by decide +kernel)) (by rw [be3]; kernel_rfl)
theorem aK9 (a:Value):argsOk "reversed.__iter__" ⟨[a],[]⟩:=by
 unfold argsOk; rw [signature?_of (id:="reversed.__iter__") (n:=['_','_','r','e','t','i','_','_']) (o:=['d','e','s','r','e','v','e','r']) (by kernel_rfl) wA]; kernel_rfl
theorem aL0:entryFor table "reversed.__iter__" = some Builtin.«dict_keyiterator.__iter__»:=
 entryFor_alias (id':="dict_keyiterator.__iter__") (by kernel_rfl) (by first | rfl | decide +kernel | (unfold String.splitOn; simp +decide [String.splitOnAux])) (by decide +kernel) (by kernel_rfl)
theorem aL1:typeLookup (.type "reversed") "__len__" = pure none:=by rw [bh6,bd1]; kernel_rfl
theorem wB:Slot "reversed" "__length_hint__" "reversed.__length_hint__":=
 .of (owner:="reversed") (n:="__length_hint__") (by rw [bh6,bd1]; kernel_rfl) (by decide +kernel) (by decide +kernel) (by decide +kernel)
  (by first | exact .inl (by decide +kernel) | exact .inr (by decide +kernel)) (by rw [be3]; kernel_rfl)
theorem aL2:entryFor table "reversed.__length_hint__" = some Builtin.«reversed.__length_hint__»:=entryFor_of_tree (by kernel_rfl)
theorem aL3 (a:Value):argsOk "reversed.__length_hint__" ⟨[a],[]⟩:=by
 unfold argsOk; rw [signature?_of (id:="reversed.__length_hint__") (n:=['_','_','t','n','i','h','_','h','t','g','n','e','l','_','_']) (o:=['d','e','s','r','e','v','e','r']) (by kernel_rfl) wA]; kernel_rfl
noncomputable def dU (h:Heap) (a t:Addr) (i:Int):Prop:=∃ o,h.get? a=some o/\o.cls = .type "reversed"/\o.data = .fields #[.ref t,rawInt i]
theorem dU.at {h h':Heap}{a t:Addr}{i:Int} (x:dU h a t i) (e:∀ o,h.get? a=some o->h'.get? a=some o):dU h' a t i:=let ⟨o,ho,r⟩:=x; ⟨o,e _ ho,r⟩
section
variable {prog : Program} {w : World} {A : Around} {E : Value → Shared → Prop} {s : Shared}
theorem dU.typeIs {a t:Addr}{i:Int} (x:dU s.heap a t i):s.TypeIs (.ref a) "reversed":=let ⟨o,ho,hc,_⟩:=x; ⟨o,ho,hc⟩
theorem aL4 {it t:Addr}{i:Nat}{items:Array Value}{x:Value}{Q:Option Value->Shared->Prop} (hit:dU s.heap it t (i:Int)) (ht:IsTup s.heap t items) (hz:(items.size:Int) < 2 ^ 62) (hx:items[i]? = some x)
  (hQ:∀ h' tk,dU h' it t ((i:Int) - 1)->Heap.SameBut it s.heap h'->Q (some x) { s with heap:=h',toks:=tk }):wpAny (model prog w) A (pyNext (.ref it)) Q E s:=by
 obtain ⟨o,ho,hc,hd⟩:=id hit
 have hi:i < items.size:=(Array.getElem?_eq_some_iff.mp hx).1
 unfold pyNext
 refine aT3 (bc9 (aW7 (name:=Str.ofString "__next__") hit.typeIs oH
  (aW5 oH hit.typeIs S6 ?_ (S7 _))))
 unfold Builtin.«reversed.__next__»
 refine aT3 (be7 (a:=(Value.ref it,[])) rfl ?_)
 try dsimp only
 refine aT3 (aX9 ho hd (x:=.ref t) rfl ?_)
 refine aT3 (aX9 ho hd (x:=rawInt (i:Int)) rfl ?_)
 show wpAny _ _ (if (i:Int) < 0 then _ else _) _ _ s
 rw [if_neg (by omega)]
 refine aT3 (wpAny_specialOf ht.typeIs PySem.F.slot_tuple_getitem.lookup ?_)
 rw [if_neg (by simp)]
 refine aT3 (wpAny_mkInt ?_)
 refine aT3 (bc9 (getItem_tuple (s:={ s with toks:=s.toks+1 }) (j:=i) ht (by omega) (by omega) (by simp [seqIndex?]; omega) hx ?_))
 refine aT3 (aX9 (s:={ s with toks:=s.toks+1 }) ho hd (x:=rawInt (i:Int)) rfl ?_)
 refine aT3 (bc7 (s:={ s with toks:=s.toks+1 }) ho hd (by simp) ?_)
 refine aT6 ⟨x,rfl,aT6 (hQ _ _ ?_ (aZ3 ..))⟩
 exact⟨_,aX6 _ ho (Obj.isFreed_of_fields (be6 hd _)),(Obj.cls_mapFields ..).trans hc,by
  rw [be6 hd]; simp⟩
theorem aL5 {it t:Addr}{Q:Option Value->Shared->Prop} (hh:A.handled=none) (hit:dU s.heap it t (-1))
  (hQ:∀ h',Heap.ExtBut it s.heap h'->Q none { s with heap:=h' }):wpAny (model prog w) A (pyNext (.ref it)) Q E s:=by
 obtain ⟨o,ho,hc,hd⟩:=id hit
 unfold pyNext
 refine aT3 (bc9 (aW7 (name:=Str.ofString "__next__") hit.typeIs oH
  (aW5 oH hit.typeIs S6 ?_ (S7 _))))
 unfold Builtin.«reversed.__next__»
 refine aT3 (be7 (a:=(Value.ref it,[])) rfl ?_)
 try dsimp only
 refine aT3 (aX9 ho hd (x:=.ref t) rfl ?_)
 refine aT3 (aX9 ho hd (x:=rawInt (-1)) rfl ?_)
 show wpAny _ _ (if (-1:Int) < 0 then _ else _) _ _ s
 rw [if_pos (by decide)]
 refine aT3 (bk2 ?_)
 refine aT3 ?_
 show wpAny _ _ (setField (.ref it) 1 (rawInt (-1)) >>= fun _=>setField (.ref it) 0 .none) _ _ s
 refine aT3 (bc7 ho hd (by simp) ?_)
 refine bc7 (aX6 _ ho (Obj.isFreed_of_fields (be6 hd _))) (be6 hd _) (by simp) ?_
 first
 | show wpAny _ _ (newExc (.type "StopIteration") [] >>= _) _ _ _
 | (refine aT3 ?_; show wpAny _ _ (newExc (.type "StopIteration") [] >>= _) _ _ _)
 refine aT3 ?_
 simp only [newExc,newTuple]
 refine aT3 (aW2 ?_ (by size_fits))
 refine aT3 (m:=firstArgMember _ _) (be7 (a:=Value.none) (by first | rfl | (simp only [firstArgMember]; rfl)) ?_)
 refine aW2 ?_ (by size_fits)
 simp only [raiseNew]
 refine aT3 (wpAny_handled ?_)
 first | rw [show A.in1.handled=none from hh] | rw [hh]
 refine aT3 (aT6 (wpAny_throw ?_))
 refine aT3 (be8 (T:="StopIteration") (b:=true) ⟨_,aU0 _ rfl,rfl⟩ bk7 ?_)
 refine aT6 (hQ _ ?_)
 intro b o' hb e
 exact aT5 _ (aT5 _ ((aZ9 _ _ (Ne.symm hb)).trans ((aZ9 _ _ (Ne.symm hb)).trans e)))
theorem S9 {it t:Addr}{i:Int}{Q:Value->Shared->Prop} (hit:dU s.heap it t i) (h:Q (.ref it) s):wpAny (model prog w) A (pyIter (.ref it)) Q E s:=by
 refine wpAny_pyIter_slot hit.typeIs S8 (aW5 S8 hit.typeIs aL0 ?_ (aK9 _))
 show wpAny _ _ (ret (.ref it)) _ _ s
 exact aT6 ⟨_,rfl,"reversed",_,hit.typeIs,oH.lookup,h⟩
end
theorem aL6 {prog:Program}{w:World}{A:Around} (hh:A.handled=none) (I l:Addr) (hne:l ≠ I) (items:Array Value) (hz:(items.size:Int) < 2 ^ 62) :
  Walks prog w A I [I,l] [I] items.size (fun i v=>items[items.size - 1 - i]? = some v) (fun i h=>i<=items.size/\dU h I l ((items.size:Int) - 1 - (i:Int))/\IsTup h l items) where
 sub:=fun b hb=>by simp at hb; simp [hb]
 frame:=fun _ _ _ x hk=>⟨x.1,x.2.1.at fun o e=>hk I (by simp) o e,let ⟨o,ho,r⟩:=x.2.2; ⟨o,hk l (by simp) o ho,r⟩⟩
 item:=fun i s Q E hi x hQ=>by
  have e:(items.size:Int) - 1 - (i:Int)=((items.size - 1 - i:Nat):Int):=by omega
  have hit:=x.2.1
  rw [e] at hit
  have hx:items[items.size - 1 - i]? = some (items[items.size - 1 - i]'(by omega)):=aX4 (by omega)
  refine aL4 hit x.2.2 hz hx fun h' tk hit' hs'=>?_
  have e2:((items.size - 1 - i:Nat):Int) - 1=(items.size:Int) - 1 - ((i+1:Nat):Int):=by omega
  rw [e2] at hit'
  exact hQ _ h' tk hx ⟨hi,hit',let ⟨o,ho,r⟩:=x.2.2; ⟨o,(hs'.2 l hne).trans ho,r⟩⟩ fun b o hb eo=>hs'.extBut b o (fun h=>hb (by simp [h])) eo
 done:=fun s Q E x hQ=>by
  have e:(items.size:Int) - 1 - (items.size:Int) = -1:=by omega
  have hit:=x.2.1
  rw [e] at hit
  exact aL5 hh hit fun h' he'=>hQ h' s.toks fun b o hb eo=>he' b o (fun h=>hb (by simp [h])) eo
 self:=fun _ _ _ _ x hQ=>S9 x.2.1 hQ
section
variable {prog : Program} {w : World} {A : Around} {E : Value → Shared → Prop} {s : Shared}
theorem aL7 {it t:Addr}{items:Array Value}{Q:Value->Shared->Prop} (hit:dU s.heap it t ((items.size:Int) - 1)) (ht:IsTup s.heap t items) (hz:(items.size:Int) < 2 ^ 62)
  (h:∀ u tk,s.toks<=tk->Q (.int items.size u) { s with toks:=tk }):wpAny (model prog w) A (call (.builtin "reversed.__length_hint__") [.ref it]) Q E s:=by
 obtain ⟨o,ho,hc,hd⟩:=id hit
 refine aW5 wB hit.typeIs aL2 ?_ (aL3 _)
 unfold Builtin.«reversed.__length_hint__»
 refine aT3 (be7 (a:=Value.ref it) rfl ?_)
 refine aT3 (aX9 ho hd (x:=.ref t) rfl ?_)
 rw [if_neg (show ¬ ((Value.ref t == Value.none)=true) from aV6)]
 refine aT3 (len_tuple ht (by omega) ?_)
 refine aT3 (m:=asInt? _) (aT6 ?_)
 dsimp only
 refine aT3 (aX9 (s:={ s with toks:=_ }) ho hd (x:=rawInt ((items.size:Int) - 1)) rfl ?_)
 show wpAny _ _ (if (items.size:Int) < (items.size:Int) - 1+1 then _ else _) _ _ _
 rw [if_neg (by omega),show (items.size:Int) - 1+1=items.size by omega]
 exact aT3 (wpAny_mkInt (aT6 ⟨_,rfl,h _ _ (by show s.toks<=s.toks+1+1+1; omega)⟩))
theorem aL8 {it t:Addr}{items:Array Value}{Q:Bool->Shared->Prop} (hit:dU s.heap it t ((items.size:Int) - 1)) (ht:IsTup s.heap t items) (hz:items.size<=2 ^ 24)
  (h:∀ tk,s.toks<=tk->Q ((items.size:Int) != 0) { s with toks:=tk }):wpAny (model prog w) A (Builtin.List.listLengthHint (.ref it)) Q E s:=by
 unfold Builtin.List.listLengthHint
 refine aT3 (wpAny_specialOf hit.typeIs aL1 ?_)
 show wpAny _ _ (specialOf (Value.ref it) (Str.ofString "__length_hint__") >>= _) _ _ _
 refine aT3 (wpAny_specialOf hit.typeIs wB.lookup ?_)
 generalize hid:("reversed.__length_hint__" : String)=id0
 wp_delta
 rw [show splitId id0=some ("reversed","__length_hint__") from by subst hid; decide +kernel]
 subst hid
 refine aT3 (be8 (b:=true) hit.typeIs (by rw [be3]; kernel_rfl) ?_)
 refine wpAny_ite_split (fun hab=>absurd hab (by decide)) (fun _=>?_)
 refine wpAny_ite_split (fun hab=>absurd hab (by decide +kernel)) (fun _=>?_)
 refine aT3 (bk2 ?_)
 refine aT3 (be7 (wB.bind _) ?_)
 dsimp only
 refine aT3 (bc9 (aL7 hit ht (by omega) fun u tk htk=>?_))
 have h0:0<=(items.size:Int):=by omega
 have h1:(items.size:Int)<=2 ^ 24:=by omega
 replace h:=h tk htk
 generalize (items.size:Int)=k at h h0 h1 ⊢
 have htl:Builtin.List.listTooLong k.toNat=false:=by simp [Builtin.List.listTooLong,sizeLine]; omega
 have hfi:Builtin.List.listFitsIndex k=true:=by simp [Builtin.List.listFitsIndex]; omega
 refine aT3 (m:=asInt? _) (aT6 ?_)
 dsimp only
 rw [if_neg (by rw [hfi]; decide),if_neg (by omega),if_neg (by rw [htl]; decide)]
 exact aT6 h
theorem aL9 {R:Result->Shared->Prop}{it t:Addr}{items:Array Value} (hh:A.handled=none) (hne:t ≠ it) (hit:dU s.heap it t ((items.size:Int) - 1)) (ht:IsTup s.heap t items) (hlen:items.size<=2 ^ 24)
  (S:Addr) (res:Value) (c₀:Nat) (hS:s.heap.get? S=some { cls:=.type "list",data:=.seq #[] c₀ })
  (hR:∀ h' tk acc' c',(∀ b o,b ≠ S->b ≠ it->s.heap.get? b=some o->h'.get? b=some o)->h'.get? S=some { cls:=.type "list",dict:=none,data:=.seq acc' c',slots:=#[] }->
   ItemsOf (fun i v=>items[items.size - 1 - i]? = some v) acc' items.size->R (.ok (.ret res)) { s with heap:=h',toks:=tk }) :
  wpAny (model prog w) A.in1 (Builtin.List.listExtendWith (.ref S) (.ref it) res)
   (fun fin s'=>match fin with | .done f=>R (.ok f) s' | .again c'=>c'.quiet=true/\codeAny (model prog w) A c' R s') (fun e s'=>R (.error e) s') s:=by
 have hSi:S ≠ it:=fun e=>by obtain ⟨o,ho,hc,_⟩:=hit; rw [e,ho] at hS; cases hS; exact absurd hc (by show ¬ Value.type "list" = _; decide)
 have hSt:S ≠ t:=fun e=>by obtain ⟨o,ho,hc,_⟩:=ht; rw [e,ho] at hS; cases hS; exact absurd hc (by show ¬ Value.type "list" = _; decide)
 have hSf:S ∉ [it,t]:=fun hm=>by rcases aU2.mp hm with e | e; exact hSi e; exact hSt (aU3.mp e)
 have W:=(aL6 (prog:=prog) (w:=w) (A:=A.in1) hh it t hne items (by omega)).toS
 have key:∀ (h:Heap) (c₁ tk:Nat),(∀ b o,b ≠ S->s.heap.get? b=some o->h.get? b=some o)->
   h.get? S=some { cls:=.type "list",data:=.seq #[] c₁ }->codeAny (model prog w) A (.builtin "list.extend.loop" ⟨[.ref S,.ref it,res],[]⟩) R { s with heap:=h,toks:=tk }:=by
  intro h c₁ tk hk hS₁
  have st:0<=items.size/\dU h it t ((items.size:Int) - 1 - ((0:Nat):Int))/\IsTup h t items:=
   ⟨aX0 _,by rw [show (items.size:Int) - 1 - ((0:Nat):Int)=(items.size:Int) - 1 by omega]; exact hit.at fun o e=>hk it o (Ne.symm hSi) e,let ⟨o,ho,r⟩:=ht; ⟨o,hk t o (Ne.symm hSt) ho,r⟩⟩
  refine codeAny_extend_loopS W (by rw [sizeLine_eq]; omega) S hSf res items.size 0 _ #[] c₁ rfl (aX0 _) st hS₁ (ItemsOf.nil _) fun s' acc' c' hm hS' hacc=>?_
  rw [hm.eq_with]
  refine hR s'.heap s'.toks acc' c' (fun b o hb hb2 e=>hm.heap b o (fun hmem=>?_) (hk b o hb e)) hS' hacc
  rcases aU2.mp hmem with e' | hmem
  ·exact hb e'
  ·exact hb2 (aU3.mp hmem)
 unfold Builtin.List.listExtendWith
 refine aT3 (bj3 (T:="reversed") hit.typeIs ?_)
 have h1:Builtin.List.listSameRef (.ref S) (.ref it)=false:=by simp [Builtin.List.listSameRef,hSi]
 have h2:(Value.type "reversed" == Value.type "list")=false:=by decide
 have h3:(Value.type "reversed" == Value.type "tuple")=false:=by decide
 simp only [h1,h2,h3,Bool.or_false,aW1,bb6]
 refine aT3 (S9 hit ?_)
 refine aT3 (ba5 (aL8 hit ht hlen fun tk htk=>?_))
 refine wpAny_ite_split (fun _=>?_) (fun _=>aT6 ⟨bk5 F.plain_extend_loop _,key _ c₀ _ (fun b o _ e=>e) hS⟩)
 refine aT3 (bk2 ?_)
 refine aT3 ?_
 show wpAny _ _ (updateSeq S (·.push .none) >>= fun _=>updateSeq S (·.pop)) _ _ _
 refine aT3 (wpAny_updateSeq hS rfl ?_)
 have hS₂:=aX6 (Obj.mapSeq (·.push Value.none)) hS rfl
 refine wpAny_updateSeq (hz:=by seq_fits) hS₂ rfl ?_
 have hS₃:=aX6 (Obj.mapSeq (·.pop)) hS₂ rfl
 refine aT6 ⟨bk5 F.plain_extend_loop _,key _ _ _ (fun b o hb e=>?_) hS₃⟩
 exact (aZ9 _ _ (Ne.symm hb)).trans ((aZ9 _ _ (Ne.symm hb)).trans e)
theorem aM0 {R:Result->Shared->Prop}{it t:Addr}{items:Array Value} (hh:A.handled=none) (hne:t ≠ it) (hit:dU s.heap it t ((items.size:Int) - 1)) (ht:IsTup s.heap t items) (hlen:items.size<=2 ^ 24)
  (hR:∀ h' tk acc c,(∀ b o,b ≠ s.heap.objs.size->b ≠ it->(s.heap.push { cls:=.type "list",data:=.seq ([]:List Value).toArray }).get? b=some o->h'.get? b=some o)->h'.get? s.heap.objs.size=some { cls:=.type "list",dict:=none,data:=.seq acc c,slots:=#[] }->ItemsOf (fun i v=>items[items.size - 1 - i]? = some v) acc items.size->R (.ok (.ret (.ref s.heap.objs.size))) { s with heap:=h',toks:=tk }) :
  codeAny (model prog w) A (.builtin "proto.collect" ⟨[.ref it],[]⟩) R s:=by
 refine bd9 PySem.F.entry_proto_collect ?_
 rw [bf0 PySem.F.plain_proto_collect _]
 show wpAny _ A.in1 (newList [] >>= fun l=>again (.builtin "list.__iadd__" ⟨[l,.ref it],[]⟩)) _ _ s
 refine aT3 (aW2 ?_)
 refine aT6 ⟨bk5 PySem.F.plain_list_iadd _,bd9 PySem.F.entry_list_iadd ?_⟩
 rw [bf0 PySem.F.plain_list_iadd _]
 show wpAny _ A.in1 (Builtin.List.listExtendWith (.ref s.heap.objs.size) (.ref it) (.ref s.heap.objs.size)) _ _ _
 exact aL9 (s:={ s with heap:=s.heap.push { cls:=.type "list",data:=.seq ([]:List Value).toArray } }) (R:=R) hh hne (hit.at fun o e=>aT5 _ e) (let ⟨o,ho,r⟩:=ht; ⟨o,aT5 _ ho,r⟩) hlen s.heap.objs.size _ 0 (aU0 _ rfl) hR
theorem aM1 {Q:List Value->Shared->Prop}{it t:Addr}{items:Array Value} (hh:A.handled=none) (hne:t ≠ it) (hit:dU s.heap it t ((items.size:Int) - 1)) (ht:IsTup s.heap t items) (hlen:items.size<=2 ^ 24)
  (hQ:∀ h' tk acc,(∀ b o,b ≠ it->s.heap.get? b=some o->h'.get? b=some o)->ItemsOf (fun i v=>items[items.size - 1 - i]? = some v) acc items.size->Q acc.toList { s with heap:=h',toks:=tk }):wpAny (model prog w) A (collect (.ref it)) Q E s:=by
 unfold collect
 refine aT3 (wpAny_runValue (aM0 (s:=s) hh hne hit ht hlen fun h' tk acc c kp at1 i1=>?_))
 show wpAny _ A (load s.heap.objs.size >>= _) _ _ _
 refine aT3 (wpAny_load at1 ?_)
 exact aT6 (hQ h' tk acc (fun b o hb e=>kp b o (aW6 (aU8 e)) hb (aT5 _ e)) i1)
theorem aM2 (it t:Addr) (items:Array Value) (hne:t ≠ it) (hlen:items.size<=2 ^ 24) :
  Meets (Builtin.«tuple.__new__» ⟨[.type "tuple",.ref it],[]⟩) (fun A R s=>A.handled=none/\dU s.heap it t ((items.size:Int) - 1)/\IsTup s.heap t items/\∀ (h':Heap) tk (acc:Array Value),(∀ b o',b ≠ it->s.heap.get? b=some o'->h'.get? b=some o')->ItemsOf (fun i v=>items[items.size - 1 - i]? = some v) acc items.size->R (.ok (.ret (.ref h'.objs.size))) { s with heap:=h'.push { cls:=.type "tuple",data:=.seq acc },toks:=tk }):=
 .of_wp fun prog w A R s h=>by
  obtain ⟨hp,g,d,tk,os⟩:=s
  obtain ⟨hh,hit,ht,h⟩:=h
  have hsub:=sub_tuple_self
  have hinit:=init_tuple_lookup
  have hmh:=madeHere_tuple
  have hT:Shared.TypeIs ⟨hp,g,d,tk,os⟩ (.ref it) "reversed":=dU.typeIs (s:=⟨hp,g,d,tk,os⟩) hit
  unfold Builtin.«tuple.__new__»
  generalize pi:collect=CC
  wp_walk using bj3 hT
  subst pi
  refine aM1 (s:=⟨hp,g,d,tk,os⟩) hh hne hit ht hlen fun h' tk' acc kp i1=>?_
  refine aT3 (aT6 ?_)
  show wpAny _ _ (Builtin.Tuple.tupleExact acc.toList.toArray >>= fun v=>ret v) _ _ _
  unfold Builtin.Tuple.tupleExact
  refine aT3 (aW2 ?_ (by show acc.toList.toArray.size<=sizeLine; rw [aT8,aV7,i1.1,sizeLine_eq]; omega))
  refine aT6 ⟨_,rfl,?_⟩
  have e:acc.toList.toArray=acc:=by simp
  rw [e]
  exact h h' tk' acc kp i1
theorem aM3 {Q:Value->Shared->Prop}{it t:Addr}{items:Array Value} (hh:A.handled=none) (hne:t ≠ it) (hit:dU s.heap it t ((items.size:Int) - 1)) (ht:IsTup s.heap t items) (hlen:items.size<=2 ^ 24)
  (h:∀ (h':Heap) tk (acc:Array Value),(∀ b o',b ≠ it->s.heap.get? b=some o'->h'.get? b=some o')->ItemsOf (fun i v=>items[items.size - 1 - i]? = some v) acc items.size->Q (.ref h'.objs.size) { s with heap:=h'.push { cls:=.type "tuple",data:=.seq acc },toks:=tk }) :
  wpAny (model prog w) A (call (.type "tuple") [.ref it]) Q E s:=
 callType_new F.called_tuple (by decide) (F.typeCall_tuple_1 _) (F.newCall_tuple_1 _) (fun obj=>F.args_object_init_2 obj _) F.entry_tuple_new (aM2 it t items hne hlen) ⟨by simp [hh],hit,ht,fun h' tk acc hk i1=>⟨⟨_,aU0 _ rfl,rfl⟩,h h' tk acc hk i1⟩⟩
theorem aM4 {t:Addr}{items:Array Value}{Q:Value->Shared->Prop} (ht:IsTup s.heap t items) (hz:(items.size:Int) < 2 ^ 62)
  (h:∀ tk,Q (.ref s.heap.objs.size) { s with heap:=s.heap.push (rB t ((items.size:Int) - 1)),toks:=tk }):wpAny (model prog w) A (call (.type "reversed") [.ref t]) Q E s:=
 callType_new aK6 (by decide) (PySem.F.typeCall_reversed_1 _) (PySem.F.newCall_reversed_1 _) (fun obj=>PySem.F.args_object_init_2 obj _) PySem.F.entry_reversed_new (aK8 t items hz) ⟨ht,fun tk=>⟨⟨_,aU0 _ rfl,rfl⟩,h tk⟩⟩
end
end Raw
namespace L2
open PySem PySem.Spec PyProof.Rows
section
variable {X : Cx}
theorem aM5 {xs:List V}{its acc:Array Value} (rv:aJ xs its.toList) (h:ItemsOf (fun i v=>its[its.size - 1 - i]? = some v) acc its.size):aJ xs.reverse acc.toList:=by
 have e:acc.toList=its.toList.reverse:=by
  refine List.ext_getElem? fun i=>?_
  by_cases hi:i < its.size
  ·obtain ⟨hl,hv⟩:=h
   have h2:acc[i]? = some (acc[i]'(by omega)):=aX4 (by omega)
   rw [List.getElem?_reverse (by simpa using hi),aV7,ba4,ba4,h2,hv i _ h2]
  ·rw [List.getElem?_eq_none (by rw [aV7,h.1]; omega),List.getElem?_eq_none (by rw [List.length_reverse,aV7]; omega)]
 rw [e]
 exact rv.reverse
noncomputable def aM6 (ta:TA):TE:=fun σ H Q=>ta σ H fun vs H1=>∃ t xs,vs = [.ref t]/\H1 t=some (.tup xs)/\∀ p,H1 p=none->Q (.ref p) (upd H1 p (.tup xs.reverse))
theorem aM7 {a:Expr}{ta:TA}{p2 p3 pos pos2:Pos} (hc:X.calm=true) (hg:Gl X "tuple") (hm:X.mg "tuple" = none) (hgr:Gl X "reversed") (hmr:X.mg "reversed" = none) (ha:PA X [a] ta) (hs:starEach [a] X.env = [(false,eval a X.env)]:=by rfl)
  (he:starEach [.Call (.Name "reversed" p3) [a] [] pos2] X.env=(false,eval (.Call (.Name "reversed" p3) [a] [] pos2) X.env) :: starEach [] X.env:=by rfl) (hpl:(backTo pos (starEach [] X.env)).any (·.1)=false:=by rfl) (hnl:starEach [] X.env = []:=by rfl) :
  PE X (.Call (.Name "tuple" p2) [.Call (.Name "reversed" p3) [a] [] pos2] [] pos) (aM6 ta):=by
 intro pins s σ H Q I h
 refine bi6 (gY I hg hm PyProof.Rows.boot_tuple ?_)
 refine aY7 ?_ he hpl
 rw [he,hnl]
 show wpAny _ _ (spliced ((false,eval _ X.env) :: [])) _ _ s
 refine Calls.spliced_cons ?_
 refine bi6 (gY I hgr hmr PyProof.Rows.boot_reversed (aY7 (aP (ha pos2 pins s σ H _ I h) fun us s1 ⟨vs,H1,I1,r1,q1⟩=>?_) (by rw [hs]; rfl) (by rfl)))
 obtain ⟨t,xs,e,h1,q⟩:=q1
 subst e
 obtain ⟨u,rfl,rx⟩:=fU r1
 cases rx
 obtain ⟨hz,its,rv,tp,nd⟩:=(show bO X.prog X.w H1 s1.heap t (.tup xs) from I1.hok t _ h1)
 have hl:xs.length<=2 ^ 24:=by have e:=sizeLine_eq; omega
 have lv:its.length=xs.length:=rv.length.symm
 have tlt:t < s1.heap.objs.size:=by obtain ⟨o,ho,_⟩:=tp; exact aU8 ho
 refine Raw.aM4 tp (by rw [aT8,lv]; omega) fun tk=>?_
 refine Calls.spliced_nil ?_
 have I2:a7 X pins σ H1 { s1 with heap:=s1.heap.push (Raw.rB t ((its.toArray.size:Int) - 1)),toks:=tk }:=I1.kept (t':=tk) fun b o e=>aT5 _ e
 have fr:H1 s1.heap.objs.size=none:=I1.hok.fresh (aT9 _)
 obtain ⟨f0,f1,f2,f3,f4,f5⟩:=I1.fpOk (b:=s1.heap.objs.size) (aT9 _) fr
 refine Raw.aM3 (s:={ s1 with heap:=s1.heap.push (Raw.rB t ((its.toArray.size:Int) - 1)),toks:=tk }) (t:=t) (items:=its.toArray) (I2.ok.hd hc) (aW6 tlt) ⟨_,aU0 _ rfl,rfl,rfl⟩ (let ⟨o,ho,r⟩:=tp; ⟨o,aT5 _ ho,r⟩) (by rw [aT8,lv]; omega) fun h' tk' acc kp it=>?_
 have vv:=aM5 (its:=its.toArray) (by simpa using rv) it
 have eq:acc.toList.toArray=acc:=by simp
 have I3:a7 X pins σ H1 { s1 with heap:=h',toks:=tk' }:=I2.turned (t':=tk') (fun b o hb e=>kp b o hb e) f0 f1 f3 f4 f5
 have I4:a7 X pins σ (upd H1 h'.objs.size (.tup xs.reverse)) { s1 with heap:=h'.push { cls:=.type "tuple",data:=.seq acc.toList.toArray },toks:=tk' }:=
  I3.laid (t':=tk') (fun b o e=>aT5 _ e) (aT9 _) (show bO X.prog X.w _ _ _ (.tup _) from ⟨by rw [List.length_reverse]; exact hz,acc.toList,vv,PyProof.Rows.IsTup.new _ _,gI.new _ _ rfl⟩)
 rw [eq] at I4
 exact⟨.ref h'.objs.size,_,I4,rfl,q _ (I3.hok.fresh (aT9 _))⟩
end
end L2
namespace PP
open PySem L2
theorem aM8 {K:PySem.W.Frag}{M:Addr->Prop}{H:Hp}{vs:List V}{xs:List PV} (r:Reps K M H vs xs):Reps K M H vs.reverse xs.reverse:=by
 induction vs generalizing xs with
 | nil=>cases r; exact .nil
 | cons v vs ih=>
  cases r with
  | cons r t=>rw [List.reverse_cons,List.reverse_cons]; exact (ih t).append (.cons r .nil)
section
variable {X : Cx} {a : Expr} {tr : cS} {pos pos2 p2 p3 : Pos}
theorem aM9 (B:Bt X.mg) (bs:X.mg "reversed" = none) (ha:QA X [a] tr) (hc:X.calm=true:=by rfl) (hg:Gl X "tuple":=by rfl) (hgr:Gl X "reversed":=by rfl) (hs:starEach [a] X.env = [(false,eval a X.env)]:=by rfl)
  (he:starEach [.Call (.Name "reversed" p3) [a] [] pos2] X.env=(false,eval (.Call (.Name "reversed" p3) [a] [] pos2) X.env) :: starEach [] X.env:=by rfl) (hpl:(backTo pos (starEach [] X.env)).any (·.1)=false:=by rfl) (hnl:starEach [] X.env = []:=by rfl) :
  QE X (.Call (.Name "tuple" p2) [.Call (.Name "reversed" p3) [a] [] pos2] [] pos) (aC w9 tr):=
 cJ (aM7 hc hg B.tuple hgr bs ha hs he hpl hnl) fun σ H Q' h=>by
  obtain ⟨W,ρ,Q,px,q,k⟩:=h
  refine⟨W,ρ,_,px,q,fun vs H1 xs s1 r1 q1=>?_⟩
  obtain ⟨ys,e1,fl,q⟩:=q1
  have r2:=r1.any
  rw [e1] at r2
  obtain ⟨v,rfl,r3⟩:=r2.one
  obtain ⟨p,us,rfl,hp,r4⟩:=r3.sqT
  exact⟨p,us,rfl,hp,fun l hl=>k _ _ _ .fr (s1.trans (bE hl _)) (.tup bI ((aM8 (r4.flat fl)).same (bE hl _) fun _ z=>z)) q⟩
end
noncomputable abbrev bA:=Option (Int × List Int)
noncomputable def bQ:bA->PV
 | none=>.non
 | some (r,bs)=>.tup [.int r,.tup (intz bs)]
noncomputable abbrev wC:PV:=.kt [.int 0,.kt []]
noncomputable def T0 (K:PySem.W.Frag):V->V->Hp->VK->Prop:=fun v w H Q=>∃ c:bA,aI K (fun _=>True) H v (bQ c)/\aI K (fun _=>True) H w wC/\Q (.bl (decide (c=some (0,[])))) H
section
variable {X : Cx} {a b : Expr} {ta tb : aF} {pos : Pos}
theorem aN0 (hu:X.A.units+3 < cLine):c9 X (compareOp .Eq) (T0 X.K):=by
 intro pins s σ H v w a b Q I ra rb h
 obtain ⟨c,rx,ry,q⟩:=h
 have hu0:X.A.units < cLine:=by omega
 obtain ⟨p2,ws,rfl,h2,r2⟩:=ry.kt_
 cases rb
 obtain ⟨its2,v2,p2',_⟩:=I.tuple (.inr h2)
 cases c with
 | none=>
  cases rx
  cases ra
  exact SeqAt.RcAt.none_tuple p2' hu0 _ _ _ _ ⟨.bl _,H,I,rfl,q⟩
 | some c=>
  obtain ⟨r,bs⟩:=c
  obtain ⟨p,us,rfl,h1,r1⟩:=rx.sqT
  cases ra
  obtain ⟨its,v1,p1,_⟩:=I.tuple (aH.of (K:=X.K) h1)
  cases r1 with | cons ra1 r1=>
  cases r1 with | cons ra2 r1=>
  cases r1
  cases r2 with | cons rb1 r2=>
  cases r2 with | cons rb2 r2=>
  cases r2
  cases ra1
  cases rb1
  obtain ⟨q1,mE,rfl,g1,s1⟩:=ra2.sqT
  obtain ⟨q2,qX,rfl,g2,s2⟩:=rb2.kt_
  obtain rfl:=s1.ofInts
  cases s2
  obtain ⟨x1,x2,rfl,t1,t2⟩:=v1.two
  obtain ⟨y1,y2,rfl,u1,u2⟩:=v2.two
  obtain ⟨m1,w1,o1,_⟩:=I.tuple (aH.of (K:=X.K) g1)
  obtain ⟨m2,w2,o2,_⟩:=I.tuple (.inr g2)
  obtain rfl:=w2.nil_iff.mpr rfl
  cases (show x2=Value.ref q1 from t2)
  cases (show y2=Value.ref q2 from u2)
  obtain ⟨k1,rfl⟩:=t1
  obtain ⟨k2,rfl⟩:=u1
  have lw:=w1.length
  rw [aU7] at lw
  have emp:bs.isEmpty=decide (m1.length=0):=by
   cases bs with
   | nil=>rw [aU5 (by rw [<- lw]; rfl)]; rfl
   | cons _ _=>rw [aU1 (by rw [<- lw,aZ6]; omega)]; rfl
  have key:=bj8 (A:=X.A) (e:=fun j=>if j=0 then r == 0 else bs.isEmpty) p1 p2' hu0 fun j h1 h2=>by
   match j,h1,h2 with
   | 0,_,_=>exact SeqAt.EqAt.int_int _ _ _ _
   | 1,_,_=>
    show SeqAt.EqAt _ _ (.ref q1) (.ref q2) bs.isEmpty
    by_cases hne:q1=q2
    ·have em:m1 = []:=by
      obtain ⟨o,e1,_,n1,e2⟩:=o1
      obtain ⟨o',e1',_,n1',e2'⟩:=o2
      rw [hne,e1'] at e1
      cases e1
      rw [e2'] at e2
      injection e2 with e2 _
      exact (congrArg Array.toList e2).symm
     rw [emp,em,hne]
     exact bj1 _
    have:=bj8 (A:=X.A.in1) (s:=s) (e:=fun _=>true) o1 o2 (show X.A.units+1 < cLine by omega) fun j h1 h2=>absurd h2 (bh5 _)
    refine .of_refs hne ?_
    have e:bs.isEmpty=((List.range (min m1.toArray.size ([]:List Value).toArray.size)).all (fun _=>true) && m1.toArray.size == ([]:List Value).toArray.size):=by
     rw [emp,aT8,aT8]
     show decide (m1.length=0)=((List.range (min m1.length 0)).all (fun _=>true) && (m1.length == 0))
     rw [Nat.min_zero]; rfl
    rw [e]
    exact this
   | j+2,h1,_=>exact absurd h1 (by simp)
  have e:decide ((some (r,bs):bA)=some (0,[]))=((List.range (min [Value.int r k1,.ref q1].toArray.size [Value.int 0 k2,.ref q2].toArray.size)).all (fun j=>if j=0 then r == 0 else bs.isEmpty) && [Value.int r k1,.ref q1].toArray.size == [Value.int 0 k2,.ref q2].toArray.size):=by
   show _=(((r == 0) && (bs.isEmpty && true)) && true)
   rw [bk3,bk3,bb8]
   simp
  rw [e] at q
  exact key _ _ _ _ ⟨.bl _,H,I,rfl,q⟩
theorem aN1:dL X (fun x _ y _ Q=>∃ c:bA,x=bQ c/\y=wC/\Q (.bl (decide (c=some (0,[])))) .fr) (T0 X.K):=by
 rintro W Hs H u v x y g g' Q Q' s n r1 r2 ⟨c,rfl,rfl,q⟩ k
 exact⟨c,r1.same (aE.refl _) fun _ _=>trivial,r2.same (aE.refl _) fun _ _=>trivial,k _ _ _ .fr (aE.refl _) (.bl _) q⟩
noncomputable def T1:PV->Tg->PV->Tg->PK->Prop:=fun x _ y _ Q=>∃ c:bA,x=bQ c/\y=wC/\Q (.bl (decide (c=some (0,[])))) .fr
theorem aN2 (hu:X.A.units+3 < cLine) (ha:QE X a ta) (hb:QE X b tb):QE X (.Compare a [.Eq] [b] pos) (q2 T1 ta tb):=jX (aN0 hu) aN1 ha hb (e9 _)
end
end PP
namespace Core
open PySem L2 PP
noncomputable def rC (c:bA) (k:Int):Bool:=match c with
 | none=>false
 | some (j,_)=>decide (j < k)
noncomputable def cR (nb:List Int) (cs:List bA) (r:Int) (o:Int):Bool:=decide (o ∈ nb) && rC (cs.getD o.toNat none) r
noncomputable def dH (want:Int) (nb:List Int) (cs:List bA) (sd:Bool) (c:bA):Bool:=
 if sd=true then decide (c=some (0,[])) else match c with
 | none=>decide (((nb.filter fun o=>(cs.getD o.toNat none).isSome).length:Int) < want)
 | some (r,bs)=>!decide (r < 1) && (decide ((bs.length:Int)=want) && (dQ bs && bs.all (cR nb cs r)))
noncomputable abbrev b7 (cs:List bA):List PV:=cs.map bQ
theorem cZ (cs:List bA):(b7 cs).length=cs.length:=aU7 _
theorem oI (c:bA):gR (bQ c) = !c.isSome:=by cases c <;> rfl
theorem iF {cs:List bA}{o:Int} (h0:0<=o) (h1:o < (cs.length:Int)):L2.atI (b7 cs) o=some (bQ (cs.getD o.toNat none)):=by
 refine lN h0 ?_
 have:o.toNat < cs.length:=by omega
 rw [aV5,aT7 this,aU4,aT7 this]; rfl
theorem T2:∀ c:bA,flat (bQ c)=true
 | none=>rfl
 | some (r,bs)=>by
  show (flat (.int r) && (flat (.tup (intz bs)) && true))=true
  rw [iS]; rfl
theorem wD:∀ cs:List bA,flats (b7 cs)=true
 | []=>rfl
 | c :: r=>by show (flat (bQ c) && flats (b7 r))=true; rw [T2,wD r]; rfl
noncomputable def rD:bV:=fun xs Q=>∃ c k,xs = [bQ c,.int k]/\Q (.bl (rC c k))
noncomputable abbrev T3:aU:=aE7
theorem aN3:dF T3 ["cause","rank"] rD:=by
 rintro xs Q ⟨c,k,rfl,q⟩
 cases c with
 | none=>exact⟨_,rfl,rfl,_,rfl,aN ⟨trivial,q⟩⟩
 | some c=>
  obtain ⟨j,bs⟩:=c
  exact⟨_,rfl,rfl,_,rfl,aO ⟨_,rfl,_,_,_,rfl,rfl,lN (by decide) rfl,_,rfl,_,_,rfl,rfl,trivial,q⟩⟩
noncomputable def rE:bV:=fun xs Q=>∃ want nb cs sd c,xs = [.int want,.lst (intz nb),.lst (b7 cs),.bl sd,bQ c]/\nb.length<=1000/\(∀ o ∈ nb,0<=o/\o < (cs.length:Int))/\(∀ r bs,c=some (r,bs)->bs.length<=1000)/\Q (.bl (dH want nb cs sd c))
noncomputable def T4:aU:=(aD (bD (nS (a5 3)) (aX (q2 T1 (a5 4) (qC (.kt [.int 0,.kt []])))) bC)
 (aD (bD (aM (nV (a5 4) (qC .non))) (aX (iN (aC bU (a6 (g9 (fN (a5 1)) [none,some 2] (bZ 0) (aM (m7 (b4 (a5 1) (a5 0)) (qC .non))) (a5 0)) a9)) (a5 0))) bC)
 (aD (b6 5 (b4 (a5 4) (qC (.int 0))))
 (aD (b6 6 (b4 (a5 4) (qC (.int 1))))
 (aD (bD (iL (aM (iN (a5 5) (qC (.int 1)))) (iL (aM (jW (aC bU (a6 (a5 6) a9)) (a5 0))) (jB (aM (aC o8 (a6 (a5 6) a9)))))) (aX (qC (.bl false))) bC)
 (aX (aC pL (a6 (g9 (fN (a5 6)) [none,some 1,some 5,some 2] (bZ 0) m5 (i5 (q2 (gS false) (a5 0) (a5 1)) (aC rD (a6 (b4 (a5 3) (a5 0)) (a6 (a5 2) a9))))) a9))))))))
noncomputable def bN (cs:List bA) (o:Int):Bool:=(cs.getD o.toNat none).isSome
theorem oJ {nb:List Int}{cs:List bA}{i:Nat}{o:Int} (ho:nb[i]? = some o):intz ((nb.take (i+1)).filter (bN cs))=intz ((nb.take i).filter (bN cs)) ++ (if bN cs o=true then [PV.int o] else []):=by
 rw [v9 (p:=bN cs) ho,eQ]
 cases bN cs o <;> rfl
theorem aN4:dF T4 ["want","neighbours","told","is_seed","cause","rank","by"] rE:=by
 rintro xs Q ⟨want,nb,cs,sd,c,rfl,nl,inn,b1,q⟩
 cases sd with
 | true=>
  refine⟨_,rfl,true,rfl,aO ⟨_,rfl,c,rfl,rfl,trivial,?_⟩⟩
  exact q
 | false=>
 refine⟨_,rfl,false,rfl,aN ⟨_,rfl,rfl,_,rfl,?_⟩⟩
 cases c with
 | none=>
  refine aO ⟨_,rfl,_,rfl,(fun z=>by cases z),by rw [aY]; omega,fun i acc=>acc=intz ((nb.take i).filter (bN cs)),rfl,?_,?_⟩
  ·rintro i y acc hy rfl
   obtain ⟨o,rfl,ho⟩:=iR hy
   have tk:=oJ (cs:=cs) ho
   obtain ⟨o0,o1⟩:=inn o (aY4 ho)
   refine⟨_,rfl,_,rfl,_,_,_,rfl,rfl,iF o0 o1,rfl,_,rfl,?_⟩
   show if (!gR (bQ (cs.getD o.toNat none)))=true then _ else _
   rw [oI,Bool.not_not,show (cs.getD o.toNat none).isSome=bN cs o from rfl]
   cases hn:bN cs o with
   | true=>
    rw [hn] at tk
    exact aO ⟨_,rfl,iB _ _,tk.symm⟩
   | false=>
    rw [hn] at tk
    refine aN ?_
    show _=_
    rw [tk]; exact (aX2 _).symm
  ·rintro acc rfl
   rw [aY,bb1]
   refine⟨_,_,rfl,rfl,_,rfl,_,_,rfl,rfl,trivial,?_⟩
   dsimp only
   rw [aY]
   exact q
 | some c=>
  obtain ⟨k,bs⟩:=c
  have b1:=b1 k bs rfl
  refine aN ?_
  refine⟨_,rfl,_,_,_,rfl,rfl,rfl,aE8 _ _,?_⟩
  refine⟨_,rfl,_,_,_,rfl,rfl,rfl,aE9 _ _,?_⟩
  have q:Q (.bl (!decide (k < 1) && (decide ((bs.length:Int)=want) && (dQ bs && bs.all (cR nb cs k))))):=q
  refine⟨_,rfl,_,_,rfl,rfl,_,rfl,?_⟩
  by_cases k1:k < 1
  ·rw [aU5 k1] at q ⊢
   exact aO (aO ⟨trivial,q⟩)
  rw [aU1 k1] at q ⊢
  refine aN ⟨_,rfl,_,_,rfl,rfl,_,rfl,.inl ⟨_,_,rfl,rfl,_,rfl,?_⟩⟩
  rw [aY]
  show if (!decide ((bs.length:Int)=want))=true then _ else _
  by_cases bl : ¬ (bs.length:Int)=want
  ·rw [aU1 bl] at q ⊢
   exact aO (aO ⟨trivial,q⟩)
  have bl:=Decidable.not_not.mp bl
  rw [aU5 bl] at q ⊢
  refine aN ⟨_,rfl,_,bs,rfl,.inl rfl,b1,_,rfl,?_⟩
  cases br:dQ bs with
  | false=>
   rw [br] at q
   exact aO ⟨trivial,q⟩
  | true=>
  rw [br] at q
  refine aN ⟨_,rfl,_,rfl,(fun _=>iS bs),by rw [aY]; omega,fun i acc=>acc=((bs.take i).map (cR nb cs k)).map PV.bl,rfl,?_,?_⟩
  ·rintro i y acc hy rfl
   obtain ⟨o,rfl,ho⟩:=iR hy
   have tk:((bs.take (i+1)).map (cR nb cs k)).map PV.bl=((bs.take i).map (cR nb cs k)).map PV.bl ++ [PV.bl (cR nb cs k o)]:=by
    rw [bh3,ho]; simp
   refine⟨_,rfl,_,rfl,o,nb,rfl,rfl,_,rfl,?_⟩
   show if decide (o ∈ nb)=true then _ else _
   unfold cR at tk
   by_cases hn:o ∈ nb
   ·obtain ⟨o0,o1⟩:=inn o hn
    rw [aU5 hn] at tk ⊢
    exact aO ⟨_,rfl,_,rfl,_,_,_,rfl,rfl,iF o0 o1,_,rfl,_,k,rfl,trivial,tk.symm⟩
   ·rw [aU1 hn] at tk ⊢
    exact aN ⟨trivial,tk.symm⟩
  ·rintro acc rfl
   rw [aY,bb1]
   refine⟨_,rfl,trivial,?_⟩
   rw [List.all_map]
   exact q
noncomputable def dI (ws:List Int) (ls:List (Int × Int)) (ns:List Int) (cs:List bA):Bool:=decide (cs.length=ws.length) && (rng ws.length).all fun h=>dH (ws.getD h.toNat 0) (b8 ls h) cs (decide (h ∈ ns)) (cs.getD h.toNat none)
noncomputable def rF (Ep:Str->Prop):bV:=fun xs Q=>∃ ws ls x ns cs,xs = [b9 ws ls,x,.lst (b7 cs)]/\cL (ws.length:Int) ws ls/\ws.length<=40/\fQ x ns/\dR ws.length ns=true/\cs.length<=1000/\(∀ r bs,some (r,bs) ∈ cs->bs.length<=1000)/\
 (dI ws ls ns cs=true->Q (.tup (intz ((rng ws.length).filter (bN cs)))))/\(dI ws ls ns cs=false->Ep "NoPaper")
noncomputable def T5 (Ep:Str->Prop):aU:=(aD (b6 3 (vO Ep qW (a6 (a5 0) (a6 (a5 1) a9))))
 (aD (bD (aM (jW (aC bU (a6 (a5 2) a9)) (aC kX (a6 (a5 0) a9)))) (oF Ep "NoPaper" (a6 (qC (.str "there are not as many causes as hearths")) a9)) bC)
 (aD (b6 4 (aC vA (a6 (a5 0) a9)))
 (aD (cQ (eJ (aC kX (a6 (a5 0) a9))) (bZ 5)
  (bD (jB (aM (aC rE (a6 (b4 (b4 (a5 0) (qC (.int 0))) (a5 5)) (a6 (b4 (a5 4) (a5 5)) (a6 (a5 2) (a6 (q2 (gS false) (a5 5) (a5 3)) (a6 (b4 (a5 2) (a5 5)) a9)))))))) (oF Ep "NoPaper" (a6 (qC (.str "a cause is not right")) a9)) bC))
 (aX (aC dN (a6 (g9 (vI (a5 2)) [none,none] (jU 0 1) (aM (m7 (a5 1) (qC .non))) (a5 0)) a9)))))))
theorem rG {cs:List bA}{k:Nat}{r:Int}{bs:List Int} (h:cs.getD k none=some (r,bs)):some (r,bs) ∈ cs:=by
 rw [aU4] at h
 cases e:cs[k]? with
 | none=>rw [e] at h; cases h
 | some c=>rw [e] at h; cases (show c=_ from h); exact aY4 e
theorem aN5:P7 T5 ["web","seeds","told","lit","around","hearth"] rF:=by
 rintro Ep xs Q ⟨ws,ls,x,ns,cs,rfl,w,few,hx,hs,cl,cb,q,qe⟩
 have wb:=w.wb (by omega)
 have ln:=qH hs
 refine⟨_,rfl,_,rfl,ws,ls,x,ns,rfl,hx,by omega,fun _=>⟨trivial,?_⟩,fun z=>by rw [hs] at z; cases z⟩
 refine⟨_,rfl,_,_,rfl,rfl,_,rfl,ws,ls,rfl,.inl ⟨_,_,rfl,rfl,_,rfl,?_⟩⟩
 rw [cZ]
 show if (!decide ((cs.length:Int)=(ws.length:Int)))=true then _ else _
 by_cases el : ¬ cs.length=ws.length
 ·rw [aU1 (by omega)]
  exact aO ⟨by show 1<=1000; decide,qe (by unfold dI; rw [aU1 el]; rfl)⟩
 have el:=Decidable.not_not.mp el
 rw [aU5 (by omega)]
 refine aN ?_
 have ra:dI ws ls ns cs=(rng ws.length).all fun h=>dH (ws.getD h.toNat 0) (b8 ls h) cs (decide (h ∈ ns)) (cs.getD h.toNat none):=by
  unfold dI; rw [aU5 el,Bool.true_and]
 refine⟨_,rfl,ws,ls,rfl,wb,trivial,?_⟩
 refine⟨_,rfl,ws,ls,rfl,_,rfl,by omega,by omega,fun i ρ=>(∀ j:Nat,j < i->dH (ws.getD j 0) (b8 ls (j:Int)) cs (decide ((j:Int) ∈ ns)) (cs.getD j none)=true)/\∃ y,ρ = [some (.sh (flat (b9 ws ls)) (b9 ws ls)),some (.sh (flat x) x),some (.sh (flat (.lst (b7 cs))) (.lst (b7 cs))),some (.sh true (.tup (intz ns))),some (.sh true (.lst (qG ws.length ls))),y],⟨fun j z=>absurd z (bh5 _),none,rfl⟩,?_,?_⟩
 ·rintro i y ρ hy ⟨hr,y0,rfl⟩
  obtain ⟨rfl,hi⟩:=fE hy
  have e0:(0:Int)+(i:Int)=(i:Int):=by omega
  rw [e0]
  refine k9 ?_
  refine⟨_,rfl,_,_,_,rfl,rfl,rfl,_,rfl,_,_,_,rfl,rfl,k7 (by omega) (by omega),_,rfl,_,rfl,_,_,_,rfl,rfl,aw5 (by omega) (by omega),_,rfl,_,rfl,_,rfl,_,ns,rfl,rfl,_,rfl,_,rfl,_,_,_,rfl,rfl,iF (by omega) (by omega),?_⟩
  have n63:=qT w (i:Int)
  refine⟨_,b8 ls i,cs,_,_,rfl,by omega,fun o ho=>by have:=w.nb ho; omega,fun r bs e=>cb r bs (rG e),_,rfl,?_⟩
  show if (!dH (ws.getD (i:Int).toNat 0) (b8 ls (i:Int)) cs (decide ((i:Int) ∈ ns)) (cs.getD (i:Int).toNat none))=true then _ else _
  cases hc:dH (ws.getD (i:Int).toNat 0) (b8 ls (i:Int)) cs (decide ((i:Int) ∈ ns)) (cs.getD (i:Int).toNat none) with
  | true=>
   refine aN ⟨fun j hj=>?_,si (i:Int),rfl⟩
   by_cases e:j=i
   ·subst e; exact hc
   ·exact hr j (by omega)
  | false=>
   refine aO ⟨by show 1<=1000; decide,qe ?_⟩
   rw [ra]
   refine bc0.mpr fun z=>?_
   rw [aY3.mp z (i:Int) (iA.mpr ⟨by omega,by omega⟩)] at hc
   cases hc
 ·rintro ρ ⟨hr,y,rfl⟩
  rw [dM] at hr
  have all:dI ws ls ns cs=true:=by
   rw [ra]
   refine aY3.mpr fun h hh=>?_
   obtain ⟨h0,h1⟩:=iA.mp hh
   have:=hr h.toNat (by omega)
   rw [show ((h.toNat:Nat):Int)=h by omega] at this
   exact this
  refine⟨_,rfl,b7 cs,.inl rfl,(fun z=>by cases z),by rw [qR,cZ]; omega,fun i acc=>acc=intz (((rng ws.length).take i).filter (bN cs)),rfl,?_,?_⟩
  ·rintro i y acc hy rfl
   obtain ⟨c,hc,rfl⟩:=aC8 hy
   have il:i < ws.length:=by have:=(aV0.mp hc).1; rw [cZ] at this; omega
   have tk:=oJ (cs:=cs) (v8 il)
   have ec:c=bQ (cs.getD i none):=by
    rw [aV5,aT7 (by omega)] at hc
    rw [aU4,aT7 (by omega)]
    exact (aW4 hc).symm
   subst ec
   refine⟨_,_,rfl,_,rfl,rfl,_,rfl,?_⟩
   show if (!gR (bQ (cs.getD i none)))=true then _ else _
   rw [oI,Bool.not_not,show (cs.getD i none).isSome=bN cs (i:Int) from rfl]
   cases hn:bN cs (i:Int) with
   | true=>
    rw [hn] at tk
    exact aO ⟨_,rfl,iB _ _,tk.symm⟩
   | false=>
    rw [hn] at tk
    refine aN ?_
    show _=_
    rw [tk]; exact (aX2 _).symm
  ·rintro acc rfl
   rw [qR,cZ,el,bc6 (by rw [jJ]; omega)]
   exact⟨⟨_,_,rfl,rfl,bT _,trivial,q all⟩,fun ns z=>by cases z⟩
section
variable {ws : List Int} {ls : List (Int × Int)} {ns : List Int} {cs : List bA} {m : Nat}
theorem wE (R:dI ws ls ns cs=true) {h:Int} (hh:h ∈ rng ws.length):dH (ws.getD h.toNat 0) (b8 ls h) cs (decide (h ∈ ns)) (cs.getD h.toNat none)=true:=by
 unfold dI at R
 rw [aX3] at R
 exact aY3.mp R.2 h hh
theorem T6 (R:dI ws ls ns cs=true) {h:Int} (hh:h ∈ rng ws.length) {r:Int}{bs:List Int} (e:cs.getD h.toNat none=some (r,bs)):(h ∈ ns/\r=0) ∨ (h ∉ ns/\1<=r/\(bs.length:Int)=ws.getD h.toNat 0/\bs.Pairwise (· < ·)/\∀ o ∈ bs,o ∈ b8 ls h/\∃ j cs',cs.getD o.toNat none=some (j,cs')/\j < r):=by
 have a:=wE R hh
 rw [e] at a
 unfold dH at a
 by_cases hn:h ∈ ns
 ·rw [if_pos (aU5 hn)] at a
  have:=bb3 a
  cases this
  exact .inl ⟨hn,rfl⟩
 ·rw [if_neg (by simpa using hn)] at a
  dsimp only at a
  rw [aX3,aX3,aX3] at a
  obtain ⟨a1,a2,a3,a4⟩:=a
  refine .inr ⟨hn,?_,bb3 a2,kU a3,fun o ho=>?_⟩
  ·have : ¬ r < 1:=by simpa using a1
   omega
  ·have:=aY3.mp a4 o ho
   unfold cR at this
   rw [aX3] at this
   refine⟨bb3 this.1,?_⟩
   have t2:=this.2
   unfold rC at t2
   cases ec:cs.getD o.toNat none with
   | none=>rw [ec] at t2; cases t2
   | some c=>rw [ec] at t2; exact⟨c.1,c.2,rfl,bb3 t2⟩
theorem rH:∀ {A B:List Int},A.Nodup->(∀ x ∈ A,x ∈ B)->A.length<=B.length
 | [],_,_,_=>aX0 _
 | a :: A,B,nd,sub=>by
  have ha:=sub a aV2
  have n:=List.nodup_cons.mp nd
  have ih:=rH (A:=A) (B:=B.erase a) n.2 fun x hx=>(List.mem_erase_of_ne fun (e:x=a)=>n.1 (e ▸ hx)).mpr (sub x (aV3 _ hx))
  have:=List.length_erase_of_mem ha
  have:=List.length_pos_of_mem ha
  rw [aZ6]
  omega
theorem T7 (w:cL (ws.length:Int) ws ls) (R:dI ws ls ns cs=true) (en:cK ws ls ns m) (h:Int) (hh:h ∈ rng ws.length):bN cs h=true ↔ h ∈ aT ws ls ns m:=by
 have sh:=aK0 en
 constructor
 ·have key:∀ (k:Nat) (h:Int) (r:Int) (bs:List Int),h ∈ rng ws.length->cs.getD h.toNat none=some (r,bs)->r.toNat < k->h ∈ aT ws ls ns m:=by
   intro k
   induction k with
   | zero=>intro h r bs _ _ z; omega
   | succ k ih=>
    intro h r bs hh e rk
    rcases T6 R hh e with ⟨hn,_⟩ | ⟨hn,r1,bl,up,by_⟩
    ·exact (vM m).mpr ⟨0,aX0 _,hn⟩
    ·refine Decidable.byContradiction fun z=>?_
     have:=sh h hh
     unfold kin at this
     rw [aU1 z] at this
     have c:=bg1 this
     refine c ?_
     rw [<- bl]
     have:=rH (B:=(b8 ls h).filter fun x=>decide (x ∈ aT ws ls ns m)) (up.imp fun {a b} h=>Int.ne_of_lt h) fun o ho=>by
      obtain ⟨on,j,c',ej,jr⟩:=by_ o ho
      have orr:=iA.mpr (w.nb on)
      refine aZ0.mpr ⟨on,aU5 (ih o j c' orr ej ?_)⟩
      rcases T6 R orr ej with ⟨_,j0⟩ | ⟨_,j1,_⟩ <;> omega
     omega
  intro hc
  unfold bN at hc
  cases e:cs.getD h.toNat none with
  | none=>rw [e] at hc; cases hc
  | some c=>exact key (c.1.toNat+1) h c.1 c.2 hh e (by omega)
 ·intro hb
  have has:∀ x ∈ ns,x ∈ rng ws.length->bN cs x=true:=fun x hx hr=>by
   have a:=wE R hr
   unfold dH at a
   rw [if_pos (aU5 hx)] at a
   unfold bN
   rw [bb3 a]; rfl
  have sT:qS ws ls ((rng ws.length).filter (bN cs) ++ ns.filter fun x=>!decide (x ∈ rng ws.length)):=fun x hx=>by
   unfold kin
   cases hc:bN cs x with
   | true=>
    rw [aU5 (bg8 _ (aZ0.mpr ⟨hx,hc⟩))]; rfl
   | false=>
    have nn:x ∉ ns:=fun z=>by rw [has x z hx] at hc; cases hc
    have a:=wE R hx
    unfold dH at a
    rw [if_neg (by simpa using nn)] at a
    have e:cs.getD x.toNat none=none:=by
     unfold bN at hc
     cases q:cs.getD x.toNat none with
     | none=>rfl
     | some c=>rw [q] at hc; cases hc
    rw [e] at a
    have lt:=bb3 a
    have fe:((b8 ls x).filter fun o=>(cs.getD o.toNat none).isSome)=(b8 ls x).filter fun o=>decide (o ∈ (rng ws.length).filter (bN cs) ++ ns.filter fun x=>!decide (x ∈ rng ws.length)):=by
     refine List.filter_congr fun o ho=>?_
     have orr:=iA.mpr (w.nb ho)
     show bN cs o=_
     rw [bb8,bf4,aW8,aZ0,aZ0]
     constructor
     ·exact fun z=>.inl ⟨orr,z⟩
     ·rintro (z | z)
      ·exact z.2
      ·exact absurd orr (by simpa using z.2)
    rw [<- fe,show decide (ws.getD x.toNat 0<=((((b8 ls x).filter fun o=>(cs.getD o.toNat none).isSome).length:Nat):Int))=false from aU1 (by omega),bi7]
  have:=O0 (ns:=ns) sT (fun x hx=>by
   by_cases hr:x ∈ rng ws.length
   ·exact bg8 _ (aZ0.mpr ⟨hr,has x hx hr⟩)
   ·exact aY1 _ (aZ0.mpr ⟨hx,by simpa using hr⟩)) m h hb
  rcases aW8.mp this with z | z
  ·exact (aZ0.mp z).2
  ·exact absurd hh (by simpa using (aZ0.mp z).2)
end
theorem aN6 {nb ms:List Int} (p:ms.Perm nb) (want:Int) (cs:List bA) (sd:Bool) (c:bA):dH want ms cs sd c=dH want nb cs sd c:=by
 unfold dH
 cases sd with
 | true=>rfl
 | false=>
  cases c with
  | none=>
   show decide _=decide _
   rw [M8 _ p]
  | some c=>
   have:∀ o,cR ms cs c.1 o=cR nb cs c.1 o:=fun o=>by
    unfold cR
    rw [decide_eq_decide.mpr p.mem_iff]
   show (!decide (c.1 < 1) && (decide ((c.2.length:Int)=want) && (dQ c.2 && c.2.all (cR ms cs c.1))))=(!decide (c.1 < 1) && (decide ((c.2.length:Int)=want) && (dQ c.2 && c.2.all (cR nb cs c.1))))
   rw [show cR ms cs c.1=cR nb cs c.1 from funext this]
noncomputable def cW (k:Nat) (cs:List bA):Prop:=∀ r bs,some (r,bs) ∈ cs->bs.length<=k
noncomputable def rJ:bV:=fun xs Q=>∃ ws ls ns cs h,xs = [b9 ws ls,.tup (intz ns),.lst (b7 cs),.int h]/\cL (ws.length:Int) ws ls/\ws.length<=40/\cs.length=ws.length/\cW 60 cs/\0<=h/\h < (ws.length:Int)/\Q (.bl (dH (ws.getD h.toNat 0) (b8 ls h) cs (decide (h ∈ ns)) (cs.getD h.toNat none)))
noncomputable def T8:aU:=(aD (b6 4 (aC k8 (a6 (a5 0) (a6 (a5 3) a9))))
 (aD (bD (aM (nV (b4 (a5 2) (a5 3)) (qC .non))) (aD (b6 5 (g9 (fN (a5 4)) [none,some 2] (bZ 0) (aM (m7 (b4 (a5 1) (a5 0)) (qC .non))) (a5 0)))
  (aX (i5 (q2 (gS true) (a5 3) (a5 1)) (iN (aC bU (a6 (a5 5) a9)) (b4 (b4 (a5 0) (qC (.int 0))) (a5 3)))))) bC)
 (aD (qU (jU 6 7) (b4 (a5 2) (a5 3)))
 (aD (bD (aM (q2 (gS false) (a5 3) (a5 1))) (aX (q2 (i6 2 false) (bB (a6 (a5 6) (a6 (a5 7) a9))) (bB (a6 (qC (.int 0)) (a6 (bB a9) a9))))) bC)
 (aD (bD (iL (aM (iN (a5 6) (qC (.int 1)))) (iL (aM (jW (aC bU (a6 (a5 7) a9)) (b4 (b4 (a5 0) (qC (.int 0))) (a5 3)))) (aM (q2 (i6 2 true) (aC nO (a6 (a5 7) a9)) (aC S4 (a6 (a5 7) a9)))))) (aX (qC (.bl false))) bC)
 (aD (cQ (fN (a5 7)) (bZ 8)
  (bD (iL (aM (q2 (gS true) (a5 8) (a5 4))) (iL (aM (nV (b4 (a5 2) (a5 8)) (qC .non))) (aM (pS (b4 (b4 (a5 2) (a5 8)) (qC (.int 0))) (a5 6))))) (aX (qC (.bl false))) bC))
 (aX (qC (.bl true)))))))))
theorem aN7 {bs ks:List Int} (up:ks.Pairwise (· < ·)) (h:∀ x,x ∈ ks ↔ x ∈ bs):decide (bs=ks)=dQ bs:=by
 rw [bb8,bf4]
 exact⟨fun e=>by rw [e]; exact uX up,fun r=>Q0 (kU r) up fun x=>(h x).symm⟩
theorem aN8 (r:Int) (bs:List Int):bP 3 (.tup [.int r,.tup (intz bs)]) (.tup [.int 0,.tup []])=decide ((some (r,bs):bA)=some (0,[])):=by
 show ((bP 2 (.int r) (.int 0) && (bP 2 (.tup (intz bs)) (.tup (intz [])) && true)) && true)=_
 rw [uC,uA,bb8]
 simp
theorem aN9:dF T8 ["web","seeds","told","hearth","nears","there","rank","some","other"] rJ:=by
 rintro xs Q ⟨ws,ls,ns,cs,h,rfl,w,few,cl,cf,h0,h1,q⟩
 refine⟨_,rfl,_,rfl,ws,ls,h,rfl,fun l hl=>by have:=w.inn l hl; omega,w.most,fun ms mp mo=>⟨trivial,?_⟩⟩
 rw [<- aN6 mp] at q
 have n63:=qT w h
 have ml:=mp.length_eq
 have inn:∀ o ∈ ms,0<=o/\o < (cs.length:Int):=fun o ho=>by have:=w.nb (mp.mem_iff.mp ho); omega
 have ah:=iF (cs:=cs) h0 (by omega)
 have cf':∀ r bs,cs.getD h.toNat none=some (r,bs)->bs.length<=60:=fun r bs e=>cf r bs (rG e)
 refine⟨_,rfl,_,rfl,_,_,_,rfl,rfl,ah,rfl,_,rfl,?_⟩
 show if gR (bQ (cs.getD h.toNat none))=true then _ else _
 generalize cs.getD h.toNat none=c at ah q cf'
 cases c with
 | none=>
  refine aO ?_
  refine⟨_,rfl,_,rfl,(fun z=>by cases z),by rw [aY]; omega,fun i acc=>acc=intz ((ms.take i).filter (bN cs)),rfl,?_,?_⟩
  ·rintro i y acc hy rfl
   obtain ⟨o,rfl,ho⟩:=iR hy
   have tk:=oJ (cs:=cs) ho
   obtain ⟨o0,o1⟩:=inn o (aY4 ho)
   refine⟨_,rfl,_,rfl,_,_,_,rfl,rfl,iF o0 o1,rfl,_,rfl,?_⟩
   show if (!gR (bQ (cs.getD o.toNat none)))=true then _ else _
   rw [oI,Bool.not_not,show (cs.getD o.toNat none).isSome=bN cs o from rfl]
   cases hn:bN cs o with
   | true=>
    rw [hn] at tk
    exact aO ⟨_,rfl,iB _ _,tk.symm⟩
   | false=>
    rw [hn] at tk
    refine aN ?_
    show _=_
    rw [tk]; exact (aX2 _).symm
  ·rintro acc rfl
   rw [aY,bb1]
   refine⟨trivial,?_⟩
   refine⟨_,rfl,_,rfl,_,ns,rfl,rfl,_,rfl,?_⟩
   show if (!decide (h ∈ ns))=true then _ else _
   unfold dH at q
   by_cases hn:h ∈ ns
   ·rw [if_pos (aU5 hn)] at q
    rw [aU5 hn]
    exact aN ⟨trivial,q⟩
   ·rw [if_neg (by simpa using hn)] at q
    rw [aU1 hn]
    refine aO ⟨_,rfl,_,_,rfl,rfl,_,rfl,_,_,_,rfl,rfl,rfl,_,rfl,_,_,_,rfl,rfl,k7 h0 h1,_,_,rfl,rfl,trivial,?_⟩
    dsimp only
    rw [aY]
    exact q
 | some c=>
  obtain ⟨r,bs⟩:=c
  have bl60:=cf' r bs rfl
  refine aN ?_
  refine⟨_,rfl,_,rfl,_,_,_,rfl,rfl,ah,trivial,_,_,rfl,?_⟩
  refine⟨_,rfl,_,rfl,_,ns,rfl,rfl,_,rfl,?_⟩
  show if decide (h ∈ ns)=true then _ else _
  unfold dH at q
  by_cases hn:h ∈ ns
  ·rw [if_pos (aU5 hn)] at q
   rw [aU5 hn]
   refine aO ?_
   have fl:flats [PV.int r,.tup (intz bs)]=true:=by show (flat (.int r) && (flat (.tup (intz bs)) && true))=true; rw [iS]; rfl
   refine⟨_,rfl,_,rfl,by show 2<=1000; decide,fl,by show 0<=1000; decide,rfl,by show 2<=1000; decide,rfl,.inl ⟨_,_,rfl,rfl⟩,?_,trivial,?_⟩
   ·show (cX 2 (.int r) (.int 0) && (cX 2 (.tup (intz bs)) (.tup (intz [])) && true))=true
    rw [uE]; rfl
   ·show Q (.bl (bP 3 (.tup [.int r,.tup (intz bs)]) (.tup [.int 0,.tup []])))
    rw [aN8]; exact q
  rw [if_neg (by simpa using hn)] at q
  rw [aU1 hn]
  refine aN ?_
  have q:Q (.bl (!decide (r < 1) && (decide ((bs.length:Int)=ws.getD h.toNat 0) && (dQ bs && bs.all (cR ms cs r))))):=q
  refine⟨_,rfl,_,_,rfl,rfl,_,rfl,?_⟩
  by_cases k1:r < 1
  ·rw [aU5 k1] at q ⊢
   exact aO (aO ⟨trivial,q⟩)
  rw [aU1 k1] at q ⊢
  refine aN ⟨_,rfl,_,_,rfl,rfl,_,rfl,_,_,_,rfl,rfl,rfl,_,rfl,_,_,_,rfl,rfl,k7 h0 h1,.inl ⟨_,_,rfl,rfl,_,rfl,?_⟩⟩
  rw [aY]
  show if (!decide ((bs.length:Int)=ws.getD h.toNat 0))=true then _ else _
  by_cases bl : ¬ (bs.length:Int)=ws.getD h.toNat 0
  ·rw [aU1 bl] at q ⊢
   exact aO (aO ⟨trivial,q⟩)
  have bl:=Decidable.not_not.mp bl
  rw [aU5 bl] at q ⊢
  refine aN ⟨_,rfl,_,_,rfl,rfl,bT _,_,rfl,bs,rfl,by omega,fun ks nd hk=>?_,fun ks up hk=>⟨.inr ⟨_,_,rfl,rfl⟩,C8 2 _ _,_,rfl,?_⟩⟩
  ·have:=rH nd fun x hx=>(hk x).mp hx
   omega
  show if (!bP 3 (.lst (intz bs)) (.lst (intz ks)))=true then _ else _
  rw [C7,aN7 up hk]
  cases br:dQ bs with
  | false=>
   rw [br] at q
   exact aO ⟨trivial,q⟩
  | true=>
  rw [br] at q
  refine aN ⟨_,rfl,_,rfl,(fun _=>iS bs),fun i ρ=>(∀ o ∈ bs.take i,cR ms cs r o=true)/\∃ y g6 g7,ρ = [some (.sh (flat (b9 ws ls)) (b9 ws ls)),some (.sh (flat (.tup (intz ns))) (.tup (intz ns))),some (.sh (flat (.lst (b7 cs))) (.lst (b7 cs))),some (.sh (flat (.int h)) (.int h)),some (.sh true (.lst (intz ms))),none,some (.sh g6 (.int r)),some (.sh g7 (.tup (intz bs))),y],⟨(fun o z=>by rw [List.take_zero] at z; cases z),none,_,_,rfl⟩,?_,?_⟩
  ·rintro i y ρ hy ⟨ho,y0,g6,g7,rfl⟩
   obtain ⟨o,rfl,hoo⟩:=iR hy
   refine k9 ?_
   refine⟨_,rfl,_,rfl,_,ms,rfl,rfl,_,rfl,?_⟩
   show if (!decide (o ∈ ms))=true then _ else _
   have mo:∀ z,cR ms cs r o=z->(∀ x ∈ bs,cR ms cs r x=true)->z=true:=fun z e a=>by rw [<- e]; exact a o (aY4 hoo)
   have no:cR ms cs r o=false->Q (.bl false):=fun e=>by
    have:bs.all (cR ms cs r)=false:=bc0.mpr fun z=>by cases mo false e (aY3.mp z)
    rw [this] at q; exact q
   by_cases hm:o ∈ ms
   ·obtain ⟨o0,o1⟩:=inn o hm
    have ao:=iF (cs:=cs) o0 o1
    rw [aU5 hm]
    refine aN ⟨_,rfl,_,rfl,_,_,_,rfl,rfl,ao,rfl,_,rfl,?_⟩
    show if gR (bQ (cs.getD o.toNat none))=true then _ else _
    have ok:cR ms cs r o=rC (cs.getD o.toNat none) r:=by unfold cR; rw [aU5 hm]; rfl
    generalize cs.getD o.toNat none=c at ao ok
    cases c with
    | none=>exact aO (aO ⟨trivial,no ok⟩)
    | some c=>
     obtain ⟨j,c2⟩:=c
     refine aN ⟨_,rfl,_,rfl,_,_,_,rfl,rfl,ao,_,_,_,rfl,rfl,rfl,_,rfl,_,_,rfl,rfl,_,rfl,?_⟩
     have ok:cR ms cs r o=decide (j < r):=ok
     by_cases jr:j < r
     ·rw [aU5 jr] at ok
      rw [aU1 (by omega)]
      refine aN ⟨fun x hx=>?_,si o,g6,g7,rfl⟩
      rw [bh3,hoo] at hx
      rcases aW8.mp hx with hx | hx
      ·exact ho x hx
      ·rw [show x=o by simpa using hx]; exact ok
     ·rw [aU1 jr] at ok
      rw [aU5 (by omega)]
      exact aO ⟨trivial,no ok⟩
   ·rw [aU1 hm]
    exact aO (aO ⟨trivial,no (by unfold cR; rw [aU1 hm]; rfl)⟩)
  ·rintro ρ ⟨ho,y,g6,g7,rfl⟩
   rw [aY,bb1] at ho
   rw [aY3.mpr ho] at q
   exact⟨trivial,q⟩
noncomputable def rK:bV:=fun xs Q=>∃ ws ls ns cs,xs = [b9 ws ls,.tup (intz ns),.lst (b7 cs)]/\cL (ws.length:Int) ws ls/\ws.length<=40/\cW 60 cs/\cs.length<=1000/\Q (.bl (dI ws ls ns cs))
noncomputable def T9:aU:=(aD (bD (aM (jW (aC bU (a6 (a5 2) a9)) (aC bU (a6 (b4 (a5 0) (qC (.int 0))) a9)))) (aX (qC (.bl false))) bC)
 (aD (cQ (eJ (aC bU (a6 (a5 2) a9))) (bZ 3)
  (bD (jB (aM (aC rJ (a6 (a5 0) (a6 (a5 1) (a6 (a5 2) (a6 (a5 3) a9))))))) (aX (qC (.bl false))) bC))
 (aX (qC (.bl true)))))
theorem aO0:dF T9 ["web","seeds","told","hearth"] rK:=by
 rintro xs Q ⟨ws,ls,ns,cs,rfl,w,few,cf,cl,q⟩
 refine⟨_,rfl,_,_,rfl,rfl,_,rfl,_,_,_,rfl,rfl,rfl,_,_,rfl,rfl,.inl ⟨_,_,rfl,rfl,_,rfl,?_⟩⟩
 rw [cZ,aY]
 show if (!decide ((cs.length:Int)=(ws.length:Int)))=true then _ else _
 by_cases el : ¬ cs.length=ws.length
 ·rw [aU1 (by omega)]
  have:dI ws ls ns cs=false:=by unfold dI; rw [aU1 el]; rfl
  rw [this] at q
  exact aO ⟨trivial,q⟩
 have el:=Decidable.not_not.mp el
 rw [aU5 (by omega)]
 have ra:dI ws ls ns cs=(rng ws.length).all fun h=>dH (ws.getD h.toNat 0) (b8 ls h) cs (decide (h ∈ ns)) (cs.getD h.toNat none):=by
  unfold dI; rw [aU5 el,Bool.true_and]
 refine aN ⟨_,rfl,_,_,rfl,rfl,_,rfl,by omega,by rw [cZ]; omega,fun i ρ=>(∀ j:Nat,j < i->dH (ws.getD j 0) (b8 ls (j:Int)) cs (decide ((j:Int) ∈ ns)) (cs.getD j none)=true)/\∃ y,ρ = [some (.sh (flat (b9 ws ls)) (b9 ws ls)),some (.sh (flat (.tup (intz ns))) (.tup (intz ns))),some (.sh (flat (.lst (b7 cs))) (.lst (b7 cs))),y],⟨fun j z=>absurd z (bh5 _),none,rfl⟩,?_,?_⟩
 ·rintro i y ρ hy ⟨hr,y0,rfl⟩
  obtain ⟨rfl,hi⟩:=fE hy
  have hi:i < ws.length:=by rw [cZ] at hi; omega
  rw [show (0:Int)+(i:Int)=(i:Int) by omega]
  refine k9 ?_
  refine⟨_,rfl,_,rfl,_,rfl,_,rfl,ws,ls,ns,cs,(i:Int),rfl,w,few,el,cf,by omega,by omega,_,rfl,?_⟩
  show if (!dH (ws.getD (i:Int).toNat 0) (b8 ls (i:Int)) cs (decide ((i:Int) ∈ ns)) (cs.getD (i:Int).toNat none))=true then _ else _
  cases hc:dH (ws.getD (i:Int).toNat 0) (b8 ls (i:Int)) cs (decide ((i:Int) ∈ ns)) (cs.getD (i:Int).toNat none) with
  | true=>
   refine aN ⟨fun j hj=>?_,si (i:Int),rfl⟩
   by_cases e:j=i
   ·subst e; exact hc
   ·exact hr j (by omega)
  | false=>
   have:dI ws ls ns cs=false:=by
    rw [ra]
    refine bc0.mpr fun z=>?_
    rw [aY3.mp z (i:Int) (iA.mpr ⟨by omega,by omega⟩)] at hc
    cases hc
   rw [this] at q
   exact aO ⟨trivial,q⟩
 ·rintro ρ ⟨hr,y,rfl⟩
  rw [dM,cZ] at hr
  have all:dI ws ls ns cs=true:=by
   rw [ra]
   refine aY3.mpr fun h hh=>?_
   obtain ⟨h0,h1⟩:=iA.mp hh
   have:=hr h.toNat (by omega)
   rw [show ((h.toNat:Nat):Int)=h by omega] at this
   exact this
  rw [all] at q
  exact⟨trivial,q⟩
noncomputable def rL:bV:=fun xs Q=>∃ ws ls ns,xs = [b9 ws ls,.tup (intz ns)]/\cL (ws.length:Int) ws ls/\ws.length<=40/\dR ws.length ns=true/\∀ ms m,cK ws ls ns m->ms.Perm (aT ws ls ns m)->ms.Pairwise (· <= ·)->Q (.lst (intz ms))
noncomputable def U0:aU:=(aD (dX 2 (aC nO (a6 (a5 1) a9)))
 (aD (b6 3 (qC (.bl true)))
 (aD (pK (nS (a5 3))
  (aD (dX 4 (cI a9))
  (aD (cQ (eJ (aC bU (a6 (b4 (a5 0) (qC (.int 0))) a9))) (bZ 5)
   (aD (b6 6 (g9 (fN (aC k8 (a6 (a5 0) (a6 (a5 5) a9)))) [none,some 2] (bZ 0) (aM (q2 (gS false) (a5 0) (a5 1))) (a5 0)))
   (bD (gQ (aM (q2 (gS true) (a5 5) (a5 2))) (aM (pS (aC bU (a6 (a5 6) a9)) (b4 (b4 (a5 0) (qC (.int 0))) (a5 5))))) (fM 4 (a5 5)) bC)))
  (aD (u3 2 (a5 4))
  (b6 3 (jD (aC bU (a6 (a5 4) a9)) (qC (.int 0))))))))
 (aX (aC nP (a6 (a5 2) a9))))))
theorem aO1 {nb S:List Int}{i:Nat}{o:Int} (ho:nb[i]? = some o):intz ((nb.take (i+1)).filter fun x=>decide (x ∈ S))=intz ((nb.take i).filter fun x=>decide (x ∈ S)) ++ (if decide (o ∈ S)=true then [PV.int o] else []):=by
 rw [v9 (p:=fun x=>decide (x ∈ S)) ho,eQ]
 cases decide (o ∈ S) <;> rfl
theorem aO2 {ws:List Int}{ls:List (Int × Int)}{S:List Int}{i:Nat} (h:i < ws.length):((rng ws.length).take (i+1)).filter (kin ws ls S)=((rng ws.length).take i).filter (kin ws ls S) ++ (if kin ws ls S (i:Int)=true then [(i:Int)] else []):=v9 (v8 h)
theorem aO3:dF U0 ["web","seeds","burning","going","ahead","hearth","there"] rL:=by
 rintro xs Q ⟨ws,ls,ns,rfl,w,few,hs,q⟩
 have ln:=qH hs
 refine⟨_,rfl,_,_,rfl,rfl,bT _,rfl,bT _,?_⟩
 refine⟨trivial,?_⟩
 refine⟨fun M ρ=>∃ (k:Nat) (b:Bool) (y4 y5 y6:Option Slot),ρ = [some (.sh (flat (b9 ws ls)) (b9 ws ls)),some (.sh (flat (.tup (intz ns))) (.tup (intz ns))),some (.own (.lst (intz (aT ws ls ns k)))),some (.sh true (.bl b)),y4,y5,y6]/\(b=true->(∀ j < k,nextOf ws ls (aT ws ls ns j) ≠ [])/\M+k=ws.length+1)/\(b=false->cK ws ls ns k),⟨ws.length+1,0,true,none,none,none,rfl,fun _=>⟨fun j z=>absurd z (bh5 _),rfl⟩,fun z=>by cases z⟩,?_⟩
 rintro M ρ ⟨k,b,y4,y5,y6,rfl,ht,hf⟩
 refine⟨_,rfl,b,rfl,?_⟩
 cases b with
 | false=>
  refine aN ⟨_,rfl,_,rfl,?_,fun ms mp mo=>⟨trivial,q ms k (hf rfl) mp mo⟩⟩
  have:=J5 (ls:=ls) hs k
  omega
 | true=>
 obtain ⟨ne,mk⟩:=ht rfl
 have sl:=J5 (ls:=ls) hs k
 have el:=v7 k ne
 refine aO ⟨by show 0<=1000; decide,rfl,rfl,rfl,?_⟩
 refine⟨_,rfl,_,_,_,rfl,rfl,rfl,_,_,rfl,rfl,_,rfl,by omega,by rw [aY]; omega,fun i ρ=>∃ y5 y6,ρ = [some (.sh (flat (b9 ws ls)) (b9 ws ls)),some (.sh (flat (.tup (intz ns))) (.tup (intz ns))),some (.own (.lst (intz (aT ws ls ns k)))),some (.sh true (.bl true)),some (.own (.lst (intz (((rng ws.length).take i).filter (kin ws ls (aT ws ls ns k)))))),y5,y6],⟨y5,y6,rfl⟩,?_,?_⟩
 ·rintro i y ρ hy ⟨y5,y6,rfl⟩
  obtain ⟨rfl,hi⟩:=fE hy
  have hi:i < ws.length:=by rw [aY] at hi; omega
  rw [show (0:Int)+(i:Int)=(i:Int) by omega]
  refine k9 ?_
  refine⟨_,rfl,_,rfl,ws,ls,(i:Int),rfl,fun l hl=>by have:=w.inn l hl; omega,w.most,fun ms mp mo=>⟨_,rfl,(fun z=>by cases z),by rw [aY]; have:=mp.length_eq; have:=qT w (i:Int); omega,fun j acc=>acc=intz ((ms.take j).filter fun x=>decide (x ∈ aT ws ls ns k)),rfl,?_,?_⟩⟩
  ·rintro j y acc hy rfl
   obtain ⟨o,rfl,ho⟩:=iR hy
   have tk:=aO1 (S:=aT ws ls ns k) ho
   refine⟨_,rfl,_,rfl,o,_,rfl,rfl,_,rfl,?_⟩
   show if decide (o ∈ aT ws ls ns k)=true then _ else _
   cases hn:decide (o ∈ aT ws ls ns k) with
   | true=>
    rw [hn] at tk
    exact aO ⟨_,rfl,iB _ _,tk.symm⟩
   | false=>
    rw [hn] at tk
    refine aN ?_
    show _=_
    rw [tk]; exact (aX2 _).symm
  ·rintro acc rfl
   rw [aY,bb1]
   refine⟨trivial,?_⟩
   have tk:=aO2 (ls:=ls) (S:=aT ws ls ns k) hi
   have ek:kin ws ls (aT ws ls ns k) (i:Int)=(!decide ((i:Int) ∈ aT ws ls ns k) && decide (ws.getD (i:Int).toNat 0<=((ms.filter fun x=>decide (x ∈ aT ws ls ns k)).length:Int))):=by
    unfold kin; rw [M8 _ mp]
   have nx:∀ b:Bool,kin ws ls (aT ws ls ns k) (i:Int)=b->b=false->∃ y5 y6,[some (Slot.sh (flat (b9 ws ls)) (b9 ws ls)),some (.sh (flat (.tup (intz ns))) (.tup (intz ns))),some (.own (.lst (intz (aT ws ls ns k)))),some (.sh true (.bl true)),some (.own (.lst (intz (((rng ws.length).take i).filter (kin ws ls (aT ws ls ns k)))))),si (i:Int),some (.sh true (.lst (intz (ms.filter fun x=>decide (x ∈ aT ws ls ns k)))))] = [some (Slot.sh (flat (b9 ws ls)) (b9 ws ls)),some (.sh (flat (.tup (intz ns))) (.tup (intz ns))),some (.own (.lst (intz (aT ws ls ns k)))),some (.sh true (.bl true)),some (.own (.lst (intz (((rng ws.length).take (i+1)).filter (kin ws ls (aT ws ls ns k)))))),y5,y6]:=fun b e eb=>by
    subst eb
    rw [tk,e]
    exact⟨_,_,by rw [if_neg (by decide),aX2]⟩
   refine⟨_,rfl,_,rfl,_,_,rfl,rfl,_,rfl,?_⟩
   show if (!decide ((i:Int) ∈ aT ws ls ns k))=true then _ else _
   by_cases hm:(i:Int) ∈ aT ws ls ns k
   ·rw [aU5 hm] at ek ⊢
    exact aN (aN (nx _ ek rfl))
   ·rw [aU1 hm] at ek ⊢
    refine aO ⟨_,rfl,_,_,rfl,rfl,_,rfl,_,_,_,rfl,rfl,rfl,_,rfl,_,_,_,rfl,rfl,k7 (by omega) (by omega),_,_,rfl,rfl,_,rfl,?_⟩
    rw [aY]
    by_cases hw:ws.getD (i:Int).toNat 0<=((ms.filter fun x=>decide (x ∈ aT ws ls ns k)).length:Int)
    ·rw [aU5 hw] at ek
     rw [aU5 hw]
     refine aO ⟨_,rfl,_,rfl,iB _ _,?_,si (i:Int),some (.sh true (.lst (intz (ms.filter fun x=>decide (x ∈ aT ws ls ns k))))),?_⟩
     ·rw [aY]
      have:=bf8 (kin ws ls (aT ws ls ns k)) ((rng ws.length).take i)
      rw [ba8,jJ] at this
      omega
     ·rw [tk,ek,if_pos (by decide),eQ]; rfl
    ·rw [aU1 hw] at ek
     rw [aU1 hw]
     exact aN (nx _ ek rfl)
 ·rintro ρ ⟨y5,y6,rfl⟩
  rw [dM,aY,bc6 (by rw [jJ]; omega),show (rng ws.length).filter (kin ws ls (aT ws ls ns k))=nextOf ws ls (aT ws ls ns k) from rfl]
  have nl:(nextOf ws ls (aT ws ls ns k)).length<=ws.length:=by
   have:=bf8 (kin ws ls (aT ws ls ns k)) (rng ws.length)
   rw [jJ] at this
   exact this
  refine⟨_,rfl,_,rfl,_,.inr rfl,.inr (bT _),by rw [aY,aY]; omega,?_⟩
  refine⟨_,rfl,_,_,rfl,rfl,_,_,rfl,rfl,trivial,?_⟩
  rw [aY,<- eQ]
  have fin:∀ b:Bool,(b=true ↔ nextOf ws ls (aT ws ls ns k) ≠ [])->∃ M',M' < M/\∃ (k':Nat) (b':Bool) (y4 y5' y6':Option Slot),[some (Slot.sh (flat (b9 ws ls)) (b9 ws ls)),some (.sh (flat (.tup (intz ns))) (.tup (intz ns))),some (.own (.lst (intz (aT ws ls ns k ++ nextOf ws ls (aT ws ls ns k))))),some (.sh true (.bl b)),some (.own (.lst (intz (nextOf ws ls (aT ws ls ns k))))),y5,y6] = [some (Slot.sh (flat (b9 ws ls)) (b9 ws ls)),some (.sh (flat (.tup (intz ns))) (.tup (intz ns))),some (.own (.lst (intz (aT ws ls ns k')))),some (.sh true (.bl b')),y4,y5',y6']/\(b'=true->(∀ j < k',nextOf ws ls (aT ws ls ns j) ≠ [])/\M'+k'=ws.length+1)/\(b'=false->cK ws ls ns k'):=fun b hb=>by
   cases b with
   | true=>
    have n0:=hb.mp rfl
    have ne':∀ j < k+1,nextOf ws ls (aT ws ls ns j) ≠ []:=fun j hj=>by
     by_cases e:j=k
     ·subst e; exact n0
     ·exact ne j (by omega)
    have:=v7 (k+1) ne'
    exact⟨M - 1,by omega,k+1,true,_,_,_,rfl,fun _=>⟨ne',by omega⟩,fun z=>by cases z⟩
   | false=>
    have n0:nextOf ws ls (aT ws ls ns k) = []:=Decidable.byContradiction fun z=>by cases hb.mpr z
    rw [n0,aX2]
    exact⟨M - 1,by omega,k,false,_,_,_,rfl,(fun z=>by cases z),fun _=>⟨ne,n0⟩⟩
  refine fin _ ?_
  rw [bf4]
  constructor
  ·intro z e; rw [e] at z; exact absurd z (by decide)
  ·intro z
   have:=List.length_pos_iff.mpr z
   omega
theorem rM (cs:List bA) (j:Nat) (c:bA):(b7 cs).set j (bQ c)=b7 (cs.set j c):=by unfold b7; rw [List.map_set]
theorem cW.set {k:Nat}{cs:List bA}{j:Nat}{c:bA} (h:cW k cs) (hc:∀ r bs,c=some (r,bs)->bs.length<=k):cW k (cs.set j c):=fun r bs hm=>by
 rcases List.mem_or_eq_of_mem_set hm with hm | e
 ·exact h r bs hm
 ·exact hc r bs e.symm
theorem U1 (n:Nat):(List.replicate n [PV.non]).flatten=b7 (List.replicate n none):=by
 induction n with
 | zero=>rfl
 | succ n ih=>rw [aZ2,aZ2,be1,ih]; rfl
theorem U2 (n k:Nat):cW k (List.replicate n none):=fun r bs h=>by
 have:=(List.mem_replicate.mp h).2
 cases this
noncomputable def jN (cs:List bA):Nat:=cs.countP fun c=>!c.isSome
theorem aO4 {cs:List bA}{j:Nat} (hj:j < cs.length) (e:cs.getD j none=none) (c:Int × List Int):jN (cs.set j (some c))+1=jN cs:=by
 have ej:cs[j]=none:=by
  rw [aU4,aT7 hj] at e
  exact e
 have pos:0 < cs.countP fun c=>!c.isSome:=List.countP_pos_iff.mpr ⟨_,bc8 hj,by rw [ej]; rfl⟩
 unfold jN
 rw [List.countP_set hj,ej]
 show cs.countP _ - 1+0+1=_
 omega
theorem rN {n:Nat}{h:Int} (h0:0<=h) (h1:h < (n:Int)):hG n h=some h.toNat:=by
 unfold hG
 rw [if_pos h0,if_pos h1]
noncomputable def rO:bV:=fun xs Q=>∃ ws ls ns c,xs = [b9 ws ls,.tup (intz ns),.int c]/\cL (ws.length:Int) ws ls/\ws.length<=40/\dR ws.length ns=true/\∀ cs:List bA,cs.length=ws.length->cW 40 cs->Q (.lst (b7 cs))
noncomputable def wF:aU:=(aD (b6 4 (aR (dE (eL (a5 7) (dE (qC (.int 1)) (eL (aR (a5 2) (qC (.int 2))) (aC lV (a6 (qC (.int 0)) (a6 (nU (aC bU (a6 (a5 3) a9)) (qC (.int 2))) a9)))))) (bR (a5 2) (qC (.int 2)))) (aC bU (a6 (a5 3) a9))))
   (aD (b6 8 (g9 (fN (aC k8 (a6 (a5 0) (a6 (a5 4) a9)))) [none,some 3] (bZ 0) (aM (m7 (b4 (a5 1) (a5 0)) (qC .non))) (a5 0)))
   (bD (gQ (aM (nV (b4 (a5 3) (a5 4)) (qC .non))) (aM (pS (aC bU (a6 (a5 8) a9)) (b4 (b4 (a5 0) (qC (.int 0))) (a5 4))))) (aD (b6 9 (aR (bR (a5 2) (qC (.int 7))) (dE (aC bU (a6 (a5 8) a9)) (qC (.int 1)))))
    (aD (lU 3 (a5 4) (bB (a6 (a5 5) (a6 (aC dN (a6 (aC nP (a6 (gC (N3 (gC (a5 8) (gB (a5 9)) gA) (gC (a5 8) gA (gB (a5 9)))) gA (gB (b4 (b4 (a5 0) (qC (.int 0))) (a5 4)))) a9)) a9)) a9))))
    (aD (b6 5 (dE (a5 5) (qC (.int 3))))
    (b6 6 (qC (.bl true)))))) bC)))
noncomputable def U3:aU:=(aD (dX 3 (vK (cI (a6 (qC .non) a9)) (aC bU (a6 (b4 (a5 0) (qC (.int 0))) a9))))
 (aD (cQ (fN (a5 1)) (bZ 4)
  (lU 3 (a5 4) (bB (a6 (qC (.int 0)) (a6 (bB a9) a9)))))
 (aD (b6 5 (dE (qC (.int 1)) (aR (a5 2) (qC (.int 5)))))
 (aD (b6 6 (qC (.bl true)))
 (aD (pK (nS (a5 6))
  (aD (b6 6 (qC (.bl false)))
  (cQ (eJ (aC bU (a6 (a5 3) a9))) (bZ 7)
   wF)))
 (tZ 3))))))
section
variable {ws : List Int} {ls : List (Int × Int)} {ns : List Int} {c : Int}
noncomputable def lA (ws:List Int) (ls:List (Int × Int)) (ns:List Int) (c:Int) (cs:List bA) (r:Int) (b:Bool) (y4 y7 y8 y9:Option Slot):bM:=[some (.sh (flat (b9 ws ls)) (b9 ws ls)),some (.sh (flat (.tup (intz ns))) (.tup (intz ns))),si c,some (.own (.lst (b7 cs))),y4,si r,some (.sh true (.bl b)),y7,y8,y9]
theorem aO5 {D:fY}{cs:List bA}{r k:Int}{b:Bool}{y4 y8 y9:Option Slot} (w:cL (ws.length:Int) ws ls) (few:ws.length<=40) (cl:cs.length=ws.length) (cf:cW 40 cs) (pos:0 < ws.length) (k0:0<=k) (k1:k < 1000)
  (q1:∀ y4 y8 y9,D.nx (lA ws ls ns c cs r b y4 (si k) y8 y9)) (q2:∀ cs':List bA,cs'.length=ws.length->cW 40 cs'->jN cs'+1=jN cs->∀ r' y4 y8 y9,D.nx (lA ws ls ns c cs' r' true y4 (si k) y8 y9)):wF D (lA ws ls ns c cs r b y4 (si k) y8 y9):=by
 have cl':=cZ cs
 have c0:=aX5 c (show (2:Int) ≠ 0 by decide)
 have c1:=aX1 c (show (0:Int) < 2 by decide)
 have pz:(0:Int) < ((b7 cs).length:Int):=by rw [cl']; omega
 refine⟨_,rfl,_,rfl,_,_,rfl,rfl,(by show (0:Int) < 2; decide),_,rfl,_,_,rfl,rfl,_,_,rfl,rfl,_,_,rfl,_,_,rfl,rfl,.inl ⟨by omega,by omega⟩,_,_,rfl,rfl,_,_,rfl,rfl,.inl ⟨by omega,by omega⟩,_,rfl,_,_,rfl,rfl,⟨by decide,by decide⟩,_,_,rfl,rfl,_,rfl,_,_,rfl,rfl,_,_,rfl,rfl,pz,trivial,?_⟩
 dsimp only
 generalize hx:(k * (1+c % 2 * (if ((b7 cs).length:Int) - 2 > 0 then ((b7 cs).length:Int) - 2 else 0))+c / 2)=x
 have h0:=aX5 x (show ((b7 cs).length:Int) ≠ 0 by omega)
 have h1:=aX1 x pz
 generalize x % ((b7 cs).length:Int)=h at h0 h1
 rw [cl',cl] at h1
 have n63:=qT w h
 refine⟨_,rfl,_,rfl,ws,ls,h,rfl,fun l hl=>by have:=w.inn l hl; omega,w.most,fun ms mp mo=>⟨_,rfl,(fun z=>by cases z),by rw [aY]; have:=mp.length_eq; omega,fun j acc=>acc=intz ((ms.take j).filter (bN cs)),rfl,?_,?_⟩⟩
 ·rintro j y acc hy rfl
  obtain ⟨o,rfl,ho⟩:=iR hy
  have tk:=oJ (cs:=cs) ho
  have on:=w.nb (mp.mem_iff.mp (aY4 ho))
  refine⟨_,rfl,_,rfl,_,_,_,rfl,rfl,iF on.1 (by omega),rfl,_,rfl,?_⟩
  show if (!gR (bQ (cs.getD o.toNat none)))=true then _ else _
  rw [oI,Bool.not_not,show (cs.getD o.toNat none).isSome=bN cs o from rfl]
  cases hn:bN cs o with
  | true=>
   rw [hn] at tk
   exact aO ⟨_,rfl,iB _ _,tk.symm⟩
  | false=>
   rw [hn] at tk
   refine aN ?_
   show _=_
   rw [tk]; exact (aX2 _).symm
 rintro acc rfl
 rw [aY,bb1]
 have tl:(ms.filter (bN cs)).length<=63:=by
  have:=bf8 (bN cs) ms
  have:=mp.length_eq
  omega
 have tl40:(ms.filter (bN cs)).length<=40:=by
  have:=rH (B:=rng ws.length) ((mp.nodup_iff.mpr (w.nd h)).filter (bN cs)) fun o ho=>iA.mpr (w.nb (mp.mem_iff.mp (aZ0.mp ho).1))
  rw [jJ] at this
  omega
 generalize ms.filter (bN cs)=T at tl tl40
 refine⟨trivial,?_⟩
 have ah:=iF (cs:=cs) h0 (by omega)
 refine⟨_,rfl,_,rfl,_,_,_,rfl,rfl,ah,rfl,_,rfl,?_⟩
 show if gR (bQ (cs.getD h.toNat none))=true then _ else _
 cases ec:cs.getD h.toNat none with
 | some c'=>exact aN (aN (q1 _ _ _))
 | none=>
 refine aO ⟨_,rfl,_,_,rfl,rfl,_,rfl,_,_,_,rfl,rfl,rfl,_,rfl,_,_,_,rfl,rfl,k7 h0 h1,_,_,rfl,rfl,_,rfl,?_⟩
 rw [aY]
 by_cases hw:ws.getD h.toNat 0<=(T.length:Int)
 ·rw [aU5 hw]
  have tp:(0:Int) < ((intz T).length:Int)+1:=by omega
  refine aO ⟨_,rfl,_,_,rfl,rfl,⟨by decide,by decide⟩,_,rfl,_,_,rfl,rfl,_,_,rfl,rfl,_,_,rfl,rfl,tp,trivial,?_⟩
  dsimp only
  have u0:=aX5 (c / 7) (show ((intz T).length:Int)+1 ≠ 0 by omega)
  generalize c / 7 % (((intz T).length:Int)+1)=u at u0
  have eA:=vE T u0
  have eB:=O4 (ns:=T) u0
  obtain ⟨Z,eZ,lZ⟩:=w5 (T.drop u.toNat ++ T.take u.toNat) none (some (ws.getD h.toNat 0))
  rw [aU6,aY9,ba8] at lZ
  refine⟨_,rfl,_,rfl,_,rfl,_,rfl,_,rfl,bT _,?_⟩
  refine⟨_,rfl,_,rfl,_,rfl,_,rfl,bT _,?_⟩
  refine⟨intz (T.drop u.toNat),intz (T.take u.toNat),congrArg PV.lst eA,congrArg PV.lst eB,bT _,bT _,by rw [aY,aY,aY9,ba8]; omega,?_⟩
  rw [<- eQ]
  refine⟨_,rfl,_,_,_,rfl,rfl,rfl,_,rfl,_,_,_,rfl,rfl,k7 h0 h1,_,rfl,_,rfl,bT _,?_⟩
  refine⟨Z,congrArg (fun l=>[PV.lst l]) eZ,by omega,fun bs bp bo=>⟨⟨_,_,rfl,rfl,bT _,by show 2<=1000; decide,?_,?_⟩,fun ns z=>by cases z⟩⟩
  ·show (flat (.int r) && (flat (.tup (intz bs)) && true))=true
   rw [iS]; rfl
  have bl:=bp.length_eq
  refine⟨_,rfl,_,rfl,_,h.toNat,rfl,?_,trivial,?_⟩
  ·rw [cl',cl]; exact rN h0 h1
  refine⟨_,rfl,_,_,rfl,rfl,trivial,trivial,?_⟩
  have:=q2 (cs.set h.toNat (some (r,bs))) (by rw [aZ1]; exact cl) (cf.set fun r' bs' e=>by cases e; omega) (aO4 (by omega) ec _) (r+3) (si h) (some (.sh true (.lst (intz T)))) (si u)
  unfold lA at this
  rw [<- rM] at this
  exact this
 ·rw [aU1 hw]
  exact aN (q1 _ _ _)
theorem aO6:dF U3 ["web","seeds","cell","told","hearth","rank","going","k","there","cut"] rO:=by
 rintro xs Q ⟨ws,ls,ns,c,rfl,w,few,hs,q⟩
 have ln:=qH hs
 refine⟨by show 1<=1000; decide,rfl,_,rfl,_,_,_,rfl,rfl,rfl,_,_,rfl,rfl,_,_,rfl,rfl,rfl,by omega,by rw [aY]; omega,by show 1<=10; decide,rfl,?_,?_⟩
 ·exact vN _
 have e0:(List.replicate (((intz ws).length:Nat):Int).toNat [PV.non]).flatten=b7 (List.replicate ws.length none):=by
  rw [bd2,aY,U1]
 show (aD _ _) _ [_,_,_,some (Slot.own (.lst (List.replicate (((intz ws).length:Nat):Int).toNat [PV.non]).flatten)),_,_,_,_,_,_]
 rw [e0]
 refine⟨_,rfl,_,rfl,(fun _=>iS ns),fun i ρ=>∃ cs y4,cs.length=ws.length/\cW 40 cs/\ρ = [some (.sh (flat (b9 ws ls)) (b9 ws ls)),some (.sh (flat (.tup (intz ns))) (.tup (intz ns))),si c,some (.own (.lst (b7 cs))),y4,none,none,none,none,none],⟨_,none,bf7,U2 _ _,rfl⟩,?_,?_⟩
 ·rintro i y ρ hy ⟨cs,y4,cl,cf,rfl⟩
  obtain ⟨o,rfl,ho⟩:=iR hy
  have oo:=(jK hs).2 o (aY4 ho)
  refine k9 ?_
  refine⟨by show 0<=1000; decide,rfl,by show 2<=1000; decide,rfl,_,rfl,_,rfl,o,o.toNat,rfl,?_,trivial,cs.set o.toNat (some (0,[])),si o,by rw [aZ1]; exact cl,cf.set fun r bs e=>by cases e; exact aX0 _,?_⟩
  ·rw [cZ,cl]; exact rN oo.1 oo.2
  ·rw [<- rM]; rfl
 rintro ρ ⟨cs,y4,cl,cf,rfl⟩
 refine⟨_,rfl,_,_,rfl,rfl,(by show (0:Int) < 5; decide),_,_,rfl,rfl,trivial,?_⟩
 refine⟨trivial,?_⟩
 refine⟨fun M ρ=>∃ cs r b y4 y7 y8 y9,cs.length=ws.length/\cW 40 cs/\M=2 * jN cs+(if b=true then 1 else 0)/\ρ=lA ws ls ns c cs r b y4 y7 y8 y9,⟨_,cs,1+c % 5,true,y4,none,none,none,cl,cf,rfl,rfl⟩,?_⟩
 rintro M ρ ⟨cs,r,b,y4,y7,y8,y9,cl,cf,eM,rfl⟩
 refine⟨_,rfl,b,rfl,?_⟩
 cases b with
 | false=>exact aN ⟨_,rfl,trivial,q cs cl cf⟩
 | true=>
 refine aO ⟨trivial,?_⟩
 refine⟨_,rfl,_,_,rfl,rfl,_,rfl,by omega,by rw [cZ]; omega,fun i ρ=>∃ cs' r b y4 y7 y8 y9,cs'.length=ws.length/\cW 40 cs'/\jN cs'+(if b=true then 1 else 0)<=jN cs/\ρ=lA ws ls ns c cs' r b y4 y7 y8 y9,⟨cs,r,false,y4,y7,y8,y9,cl,cf,aT9 _,rfl⟩,?_,?_⟩
 ·rintro i y ρ hy ⟨cs',r,b,y4,y7,y8,y9,cl',cf',le,rfl⟩
  obtain ⟨rfl,hi⟩:=fE hy
  rw [cZ] at hi
  refine k9 ?_
  show wF _ (lA ws ls ns c cs' r b y4 (si (0+(i:Int))) y8 y9)
  refine aO5 w few cl' cf' (by omega) (by omega) (by omega) (fun y4 y8 y9=>⟨cs',r,b,y4,_,y8,y9,cl',cf',le,rfl⟩) fun cs2 cl2 cf2 e2 r' y4 y8 y9=>⟨cs2,r',true,y4,_,y8,y9,cl2,cf2,?_,rfl⟩
  rw [if_pos rfl]
  omega
 ·rintro ρ ⟨cs',r,b,y4,y7,y8,y9,cl',cf',le,rfl⟩
  refine⟨2 * jN cs'+(if b=true then 1 else 0),?_,cs',r,b,y4,y7,y8,y9,cl',cf',rfl,rfl⟩
  rw [if_pos rfl] at eM
  cases b with
  | true=>rw [if_pos rfl] at le ⊢; omega
  | false=>rw [if_neg (by decide)] at le ⊢; omega
end
noncomputable def rP:bV:=fun xs Q=>∃ (c:bA) (n x:Int) (k:Nat),xs = [bQ c,.int n,.int x]/\0 < n/\2<=k/\k<=50/\(∀ r bs,c=some (r,bs)->bs.length<=k)/\∀ c':bA,(∀ r bs,c'=some (r,bs)->bs.length<=k+1)->Q (bQ c')
noncomputable def U4:aU:=(aD (b6 3 (bR (a5 2) (qC (.int 8))))
 (aD (bD (aM (nV (a5 0) (qC .non))) (aX (bB (a6 (dE (qC (.int 1)) (aR (a5 3) (qC (.int 9)))) (a6 (aC dN (a6 (aC l0 (a6 (gC (cI (a6 (aR (a5 3) (a5 1)) (a6 (aR (dE (a5 3) (qC (.int 1))) (a5 1)) a9))) gA (gB (aR (a5 2) (qC (.int 3))))) a9)) a9)) a9)))) bC)
 (aD (qU (jU 4 5) (a5 0))
 (aD (b6 6 (aR (a5 2) (qC (.int 8))))
 (aD (bD (aM (cY (a5 6) (qC (.int 0)))) (aX (qC .non)) bC)
 (aD (bD (aM (cY (a5 6) (qC (.int 1)))) (aX (bB (a6 (b4 (cI (a6 (qC (.int 0)) (a6 (jV (qC (.int 1))) (a6 (dE (a5 4) (qC (.int 3))) (a6 (nU (a5 4) (qC (.int 3))) (a6 (nU (a5 4) (qC (.int 1))) a9)))))) (aR (a5 3) (qC (.int 5)))) (a6 (a5 5) a9)))) bC)
 (aD (bD (aM (cY (a5 6) (qC (.int 2)))) (aX (bB (a6 (a5 4) (a6 (iC (a5 5) (bB (a6 (aR (a5 3) (a5 1)) a9))) a9)))) bC)
 (aD (bD (aM (cY (a5 6) (qC (.int 3)))) (aX (bB (a6 (a5 4) (a6 (gC (a5 5) (gB (qC (.int 1))) gA) a9)))) bC)
 (aD (bD (gQ (aM (cY (a5 6) (qC (.int 4)))) (aM (jD (aC bU (a6 (a5 5) a9)) (qC (.int 0))))) (aD (b6 7 (aR (a5 3) (aC bU (a6 (a5 5) a9))))
  (aX (bB (a6 (a5 4) (a6 (iC (iC (gC (a5 5) gA (gB (a5 7))) (bB (a6 (aR (bR (a5 3) (qC (.int 41))) (a5 1)) a9))) (gC (a5 5) (gB (dE (a5 7) (qC (.int 1)))) gA)) a9))))) bC)
 (aD (bD (aM (cY (a5 6) (qC (.int 5)))) (aX (bB (a6 (a5 4) (a6 (aC w9 (a6 (a5 5) a9)) a9)))) bC)
 (aD (bD (gQ (aM (cY (a5 6) (qC (.int 6)))) (aM (jD (aC bU (a6 (a5 5) a9)) (qC (.int 0))))) (aX (bB (a6 (a5 4) (a6 (iC (gC (a5 5) gA (gB (jV (qC (.int 1))))) (bB (a6 (b4 (cI (a6 (jV (qC (.int 1))) (a6 (a5 1) (a6 (dE (a5 1) (aR (a5 3) (pR (qC (.int 10)) (qC (.int 9))))) a9)))) (aR (bR (a5 3) (qC (.int 7))) (qC (.int 3)))) a9))) a9)))) bC)
 (aX (bB (a6 (a5 4) (a6 (aC dN (a6 (aC l0 (a6 (iC (a5 5) (bB (a6 (aR (a5 3) (a5 1)) a9))) a9)) a9)) a9)))))))))))))))
theorem kB (r:Int) (bs:List Int):flats [PV.int r,.tup (intz bs)]=true:=by
 show (flat (.int r) && (flat (.tup (intz bs)) && true))=true
 rw [iS]; rfl
theorem U5 (zs:List Int) {x:Int} (h0:0<=x) (h1:x < (zs.length:Int)):L2.atI (intz zs) x=some (.int (zs.getD x.toNat 0)):=k7 h0 h1
theorem aO7 (g:Tg) (c:bA):lT g (bQ c):=by cases g <;> first | exact trivial | exact T2 c
theorem aO8:dF U4 ["cause","many","cell","rest","rank","some","way","at"] rP:=by
 rintro xs Q ⟨c,n,x,k,rfl,n0,k2,k50,hb,q⟩
 have t2:2<=1000:=by decide
 have t1:1<=1000:=by decide
 refine⟨_,rfl,_,_,rfl,rfl,⟨by decide,by decide⟩,trivial,?_⟩
 dsimp only
 generalize x / 8=e
 refine⟨_,rfl,rfl,_,rfl,?_⟩
 cases c with
 | none=>
  refine aO ?_
  obtain ⟨Z,eZ,lZ⟩:=w5 [e % n,(e+1) % n] none (some (x % 3))
  have lZ:Z.length<=2:=lZ
  refine⟨_,rfl,_,_,rfl,rfl,(by show (0:Int) < 9; decide),_,_,rfl,rfl,_,rfl,_,rfl,_,_,rfl,rfl,n0,_,rfl,_,_,rfl,rfl,_,rfl,_,_,rfl,rfl,n0,t2,rfl,_,rfl,_,_,rfl,rfl,(by show (0:Int) < 3; decide),_,rfl,_,rfl,rfl,?_⟩
  refine⟨_,Z,rfl,congrArg some eZ,by omega,fun bs bp bo=>⟨⟨_,_,rfl,rfl,bT _,t2,kB _ _,trivial,q (some (_,bs)) fun r bs' e=>?_⟩,fun ns z=>by cases z⟩⟩
  cases e
  rw [bp.length_eq]; omega
 | some c=>
 obtain ⟨r,bs⟩:=c
 have bl:=hb r bs rfl
 have fin:∀ (r':Int) (bs':List Int),bs'.length<=k+1->Q (.tup [.int r',.tup (intz bs')]):=fun r' bs' h=>q (some (r',bs')) fun r2 bs2 e=>by cases e; exact h
 refine aN ⟨_,rfl,aO7 _ (some (r,bs)),_,_,rfl,?_⟩
 refine⟨_,rfl,_,_,rfl,rfl,(by show (0:Int) < 8; decide),trivial,?_⟩
 dsimp only
 generalize x % 8=y
 refine⟨_,rfl,.inl ⟨_,_,rfl,rfl,_,rfl,?_⟩⟩
 generalize decide (y=0)=d0
 show if d0=true then _ else _
 cases d0 with
 | true=>exact aO ⟨trivial,q none fun r bs e=>by cases e⟩
 | false=>
 refine aN ⟨_,rfl,.inl ⟨_,_,rfl,rfl,_,rfl,?_⟩⟩
 generalize decide (y=1)=d1
 show if d1=true then _ else _
 cases d1 with
 | true=>
  have u0:=aX5 e (show (5:Int) ≠ 0 by decide)
  have u1:=aX1 e (show (0:Int) < 5 by decide)
  refine aO ⟨1,rfl,_,rfl,_,_,rfl,rfl,_,rfl,_,_,rfl,rfl,_,rfl,_,_,rfl,rfl,by show 5<=1000; decide,rfl,_,rfl,_,_,rfl,rfl,(by show (0:Int) < 5; decide),_,_,_,rfl,rfl,U5 [0,-1,r+3,r - 3,r - 1] u0 u1,_,rfl,t2,kB _ bs,trivial,fin _ bs (by omega)⟩
 | false=>
 refine aN ⟨_,rfl,.inl ⟨_,_,rfl,rfl,_,rfl,?_⟩⟩
 generalize decide (y=2)=d2
 show if d2=true then _ else _
 have app:∀ z:Int,intz bs ++ [PV.int z]=intz (bs ++ [z]):=fun z=>by rw [eQ]; rfl
 cases d2 with
 | true=>
  refine aO ⟨_,rfl,_,rfl,_,rfl,_,rfl,_,_,rfl,rfl,n0,t1,rfl,_,_,rfl,rfl,bT _,rfl,by rw [aY]; show bs.length+1<=16000000; omega,t2,?_,trivial,?_⟩
  ·show flats [PV.int r,.tup (intz bs ++ [PV.int (e % n)])]=true
   rw [app]; exact kB _ _
  ·show Q (.tup [.int r,.tup (intz bs ++ [PV.int (e % n)])])
   rw [app]
   exact fin _ _ (by rw [aU6,aX7]; omega)
 | false=>
 refine aN ⟨_,rfl,.inl ⟨_,_,rfl,rfl,_,rfl,?_⟩⟩
 generalize decide (y=3)=d3
 show if d3=true then _ else _
 cases d3 with
 | true=>
  have e1:=aK1 bs
  refine aO ⟨_,rfl,_,rfl,_,rfl,_,rfl,bT _,t2,?_,trivial,?_⟩
  ·show flats [PV.int r,.tup (fC (intz bs) (some 1) none)]=true
   rw [e1]; exact kB _ _
  ·show Q (.tup [.int r,.tup (fC (intz bs) (some 1) none)])
   rw [e1]
   exact fin _ _ (by rw [aY9]; omega)
 | false=>
 refine aN ⟨_,rfl,.inl ⟨_,_,rfl,rfl,_,rfl,?_⟩⟩
 have last:∀ D:fY,D.rt=Q->∀ s7 g4 g5,(aX (bB (a6 (a5 4) (a6 (aC dN (a6 (aC l0 (a6 (iC (a5 5) (bB (a6 (aR (a5 3) (a5 1)) a9))) a9)) a9)) a9)))) D [some (.sh (flat (bQ (some (r,bs)))) (bQ (some (r,bs)))),si n,si x,si e,some (.sh g4 (.int r)),some (.sh g5 (.tup (intz bs))),si y,s7]:=by
  rintro D rfl s7 g4 g5
  refine⟨_,rfl,_,rfl,_,rfl,_,rfl,_,_,rfl,rfl,n0,t1,rfl,intz bs,[.int (e % n)],rfl,rfl,bT _,rfl,by rw [aY]; show bs.length+1<=16000000; omega,?_⟩
  refine⟨_,bs ++ [e % n],rfl,congrArg some (app _),by rw [aU6,aX7]; omega,fun zs zp zo=>⟨⟨_,_,rfl,rfl,bT _,t2,kB _ _,trivial,fin _ _ ?_⟩,fun ns z=>by cases z⟩⟩
  rw [zp.length_eq,aU6,aX7]; omega
 have six:∀ D:fY,D.rt=Q->∀ g4 g5,(aD (bD (gQ (aM (cY (a5 6) (qC (.int 6)))) (aM (jD (aC bU (a6 (a5 5) a9)) (qC (.int 0))))) (aX (bB (a6 (a5 4) (a6 (iC (gC (a5 5) gA (gB (jV (qC (.int 1))))) (bB (a6 (b4 (cI (a6 (jV (qC (.int 1))) (a6 (a5 1) (a6 (dE (a5 1) (aR (a5 3) (pR (qC (.int 10)) (qC (.int 9))))) a9)))) (aR (bR (a5 3) (qC (.int 7))) (qC (.int 3)))) a9))) a9)))) bC)
 (aX (bB (a6 (a5 4) (a6 (aC dN (a6 (aC l0 (a6 (iC (a5 5) (bB (a6 (aR (a5 3) (a5 1)) a9))) a9)) a9)) a9))))) D [some (.sh (flat (bQ (some (r,bs)))) (bQ (some (r,bs)))),si n,si x,si e,some (.sh g4 (.int r)),some (.sh g5 (.tup (intz bs))),si y,none]:=by
  rintro D rfl g4 g5
  refine⟨_,rfl,.inl ⟨_,_,rfl,rfl,_,rfl,?_⟩⟩
  generalize decide (y=6)=d6
  show if d6=true then _ else _
  cases d6 with
  | false=>exact aN (aN (last _ rfl _ _ _))
  | true=>
  refine aO ⟨_,rfl,_,_,rfl,rfl,_,_,rfl,rfl,_,rfl,?_⟩
  generalize decide (((intz bs).length:Int) > 0)=d
  cases d with
  | false=>exact aN (last _ rfl _ _ _)
  | true=>
  have u0:=aX5 (e / 7) (show (3:Int) ≠ 0 by decide)
  have u1:=aX1 (e / 7) (show (0:Int) < 3 by decide)
  obtain ⟨Z,eZ,lZ⟩:=w5 bs none (some (-1))
  refine aO ⟨_,rfl,_,rfl,1,rfl,_,rfl,_,rfl,bT _,1,rfl,_,rfl,_,rfl,_,rfl,_,_,rfl,rfl,⟨by decide,by decide,by decide⟩,_,_,rfl,rfl,(by show (0:Int) < 10 ^ (9:Int).toNat; decide),_,_,rfl,rfl,by show 3<=1000; decide,rfl,_,rfl,_,_,rfl,rfl,⟨by decide,by decide⟩,_,_,rfl,rfl,(by show (0:Int) < 3; decide),_,_,_,rfl,rfl,U5 [-1,n,n+e % 10 ^ (9:Int).toNat] u0 u1,t1,rfl,?_⟩
  generalize [-1,n,n+e % 10 ^ (9:Int).toNat].getD (e / 7 % 3).toNat 0=v
  have ez:intz Z ++ [PV.int v]=intz (Z ++ [v]):=by rw [eQ]; rfl
  refine⟨intz Z,[.int v],congrArg PV.tup eZ,rfl,bT _,rfl,by rw [aY]; show Z.length+1<=16000000; omega,t2,?_,trivial,?_⟩
  ·show flats [PV.int r,.tup (intz Z ++ [.int v])]=true
   rw [ez]; exact kB _ _
  ·show D.rt (.tup [.int r,.tup (intz Z ++ [.int v])])
   rw [ez]
   exact fin _ _ (by rw [aU6,aX7]; omega)
 have five:∀ D:fY,D.rt=Q->∀ g4 g5,(aD (bD (aM (cY (a5 6) (qC (.int 5)))) (aX (bB (a6 (a5 4) (a6 (aC w9 (a6 (a5 5) a9)) a9)))) bC)
 (aD (bD (gQ (aM (cY (a5 6) (qC (.int 6)))) (aM (jD (aC bU (a6 (a5 5) a9)) (qC (.int 0))))) (aX (bB (a6 (a5 4) (a6 (iC (gC (a5 5) gA (gB (jV (qC (.int 1))))) (bB (a6 (b4 (cI (a6 (jV (qC (.int 1))) (a6 (a5 1) (a6 (dE (a5 1) (aR (a5 3) (pR (qC (.int 10)) (qC (.int 9))))) a9)))) (aR (bR (a5 3) (qC (.int 7))) (qC (.int 3)))) a9))) a9)))) bC)
 (aX (bB (a6 (a5 4) (a6 (aC dN (a6 (aC l0 (a6 (iC (a5 5) (bB (a6 (aR (a5 3) (a5 1)) a9))) a9)) a9)) a9)))))) D [some (.sh (flat (bQ (some (r,bs)))) (bQ (some (r,bs)))),si n,si x,si e,some (.sh g4 (.int r)),some (.sh g5 (.tup (intz bs))),si y,none]:=by
  rintro D rfl g4 g5
  refine⟨_,rfl,.inl ⟨_,_,rfl,rfl,_,rfl,?_⟩⟩
  generalize decide (y=5)=d5
  show if d5=true then _ else _
  cases d5 with
  | false=>exact aN (six _ rfl _ _)
  | true=>
  have er:(intz bs).reverse=intz bs.reverse:=by show (bs.map PV.int).reverse=bs.reverse.map PV.int; rw [List.map_reverse]
  refine aO ⟨_,rfl,_,rfl,_,rfl,bT _,t2,?_,trivial,?_⟩
  ·show flats [PV.int r,.tup (intz bs).reverse]=true
   rw [er]; exact kB _ _
  ·show D.rt (.tup [.int r,.tup (intz bs).reverse])
   rw [er]
   exact fin _ _ (by rw [List.length_reverse]; omega)
 generalize decide (y=4)=d4
 show if d4=true then _ else _
 cases d4 with
 | false=>exact aN (aN (five _ rfl _ _))
 | true=>
 refine aO ⟨_,rfl,_,_,rfl,rfl,_,_,rfl,rfl,_,rfl,?_⟩
 by_cases hz:((intz bs).length:Int) > 0
 ·rw [aU5 hz]
  have u0:=aX5 e (show ((intz bs).length:Int) ≠ 0 by omega)
  have u1:=aX1 e hz
  refine aO ⟨_,rfl,_,rfl,_,_,rfl,rfl,_,_,rfl,rfl,hz,trivial,?_⟩
  dsimp only
  generalize e % ((intz bs).length:Int)=u at u0 u1
  rw [aY] at u1
  have eA:=O4 (ns:=bs) u0
  have eB:=vE bs (show 0<=u+1 by omega)
  refine⟨_,rfl,_,rfl,_,rfl,_,rfl,_,rfl,bT _,_,rfl,_,_,rfl,rfl,⟨by decide,by decide⟩,_,rfl,_,_,rfl,rfl,n0,t1,rfl,intz (bs.take u.toNat),[.int (e / 41 % n)],congrArg PV.tup eA,rfl,bT _,rfl,by rw [aY,ba8]; show _+1<=16000000; omega,?_⟩
  have e1:intz (bs.take u.toNat) ++ [PV.int (e / 41 % n)]=intz (bs.take u.toNat ++ [e / 41 % n]):=by rw [eQ]; rfl
  rw [e1]
  have e2:intz (bs.take u.toNat ++ [e / 41 % n]) ++ intz (bs.drop (u+1).toNat)=intz (bs.take u.toNat ++ [e / 41 % n] ++ bs.drop (u+1).toNat):=by rw [<- eQ]
  have ln:(bs.take u.toNat ++ [e / 41 % n] ++ bs.drop (u+1).toNat).length<=k+1:=by
   rw [aU6,aU6,ba8,aY9,aX7]; omega
  refine⟨_,rfl,_,rfl,_,_,rfl,rfl,_,rfl,_,rfl,bT _,intz (bs.take u.toNat ++ [e / 41 % n]),intz (bs.drop (u+1).toNat),rfl,congrArg PV.tup eB,bT _,bT _,?_,t2,?_,trivial,?_⟩
  ·rw [aY,aY,<- aU6]; omega
  ·show flats [PV.int r,.tup (intz (bs.take u.toNat ++ [e / 41 % n]) ++ intz (bs.drop (u+1).toNat))]=true
   rw [e2]; exact kB _ _
  ·show Q (.tup [.int r,.tup (intz (bs.take u.toNat ++ [e / 41 % n]) ++ intz (bs.drop (u+1).toNat))])
   rw [e2]
   exact fin _ _ ln
 ·rw [aU1 hz]
  exact aN (five _ rfl _ _)
theorem aO9:∀ c:bA,bP 2 (bQ c) (bQ c)=true
 | none=>rfl
 | some (r,bs)=>by
  show ((bP 1 (.int r) (.int r) && (bP 1 (.tup (intz bs)) (.tup (intz bs)) && true)) && true)=true
  rw [uC,uA]; simp
theorem aP0:∀ c:bA,cX 2 (bQ c) (bQ c)=true
 | none=>rfl
 | some (r,bs)=>by
  show (cX 1 (.int r) (.int r) && (cX 1 (.tup (intz bs)) (.tup (intz bs)) && true))=true
  rw [uE]; rfl
theorem wG (f:PV->PV->Bool) (h:∀ c:bA,f (bQ c) (bQ c)=true):∀ cs:List bA,(((b7 cs).zip (b7 cs)).all fun p=>f p.1 p.2)=true
 | []=>rfl
 | c :: cs=>by
  show (f (bQ c) (bQ c) && (((b7 cs).zip (b7 cs)).all fun p=>f p.1 p.2))=true
  rw [h,wG f h cs]; rfl
theorem aP1 (cs:List bA):bP 3 (.lst (b7 cs)) (.lst (b7 cs))=true:=by
 show ((((b7 cs).zip (b7 cs)).all fun p=>bP 2 p.1 p.2) && (b7 cs).length == (b7 cs).length)=true
 rw [wG _ aO9]; simp
noncomputable def U6:aU:=(aD (bD (aM (q2 (i6 2 true) (a5 3) (a5 2))) (aX (qC (.bl false))) bC)
 (aD (bD (jB (aM (aC rK (a6 (a5 0) (a6 (a5 1) (a6 (a5 2) a9)))))) (aX (q2 (i6 2 false) (a5 5) (cI (a6 (qC (.bl true)) (a6 (qC (.bl true)) (a6 (qC (.bl false)) a9)))))) bC)
 (aD (b6 7 (g9 (eJ (aC bU (a6 (a5 2) a9))) [none,some 2] (bZ 0) (aM (m7 (b4 (a5 1) (a5 0)) (qC .non))) (a5 0)))
 (aX (i5 (q2 (i6 2 false) (a5 5) (cI a9)) (i5 (aC qK (a6 (a5 4) (a6 (a5 7) a9))) (q2 (i6 2 false) (a5 7) (aC rL (a6 (a5 0) (a6 (a5 1) a9))))))))))
noncomputable def oK:bV:=fun xs Q=>∃ ws ls ns cs,xs = [b9 ws ls,.tup (intz ns),.lst (b7 cs)]/\cL (ws.length:Int) ws ls/\ws.length<=40/\dR ws.length ns=true/\cs.length<=1000/\cW 60 cs/\Q (.bl true)
noncomputable def U7:aU:=(aD (b6 3 (aC nO (a6 (a5 2) a9)))
 (aD (b6 4 (qC .non))
 (aD (b6 5 (cI a9))
 (aD (vQ "HearthError" 6 (S5 4 rF (a6 (a5 0) (a6 (a5 1) (a6 (a5 3) a9)))) (b6 5 (cI (a6 (mD "NoPaper" (a5 6)) (a6 (mD "ValueError" (a5 6)) (a6 (mD "BadSet" (a5 6)) a9))))))
 U6))))
theorem U8 {ws:List Int}{ls:List (Int × Int)}{ns:List Int}{cs:List bA}{found signs:PV}{s6:Option Slot}{Q:PV->Prop} (w:cL (ws.length:Int) ws ls) (few:ws.length<=40) (hs:dR ws.length ns=true) (cl:cs.length<=1000) (cf:cW 60 cs)
  (hf:(dI ws ls ns cs=true/\found = .tup (intz ((rng ws.length).filter (bN cs)))/\signs = .lst []) ∨ (dI ws ls ns cs=false/\signs = .lst [.bl true,.bl true,.bl false])) (q:Q (.bl true)) :
  U6 { nx:=fun _=>Q .non,rt:=Q } [some (.sh (flat (b9 ws ls)) (b9 ws ls)),some (.sh (flat (.tup (intz ns))) (.tup (intz ns))),some (.sh (flat (.lst (b7 cs))) (.lst (b7 cs))),some (.sh true (.lst (b7 cs))),some (.sh true found),some (.sh true signs),s6,none]:=by
 refine⟨_,rfl,_,rfl,.inr ⟨_,_,rfl,rfl⟩,wG _ aP0 cs,_,rfl,?_⟩
 show if (!bP 3 (.lst (b7 cs)) (.lst (b7 cs)))=true then _ else _
 rw [aP1]
 refine aN ?_
 refine⟨_,rfl,_,rfl,_,rfl,ws,ls,ns,cs,rfl,w,few,cf,cl,_,rfl,?_⟩
 rcases hf with ⟨R,rfl,rfl⟩ | ⟨R,rfl⟩
 ·rw [R]
  refine aN ?_
  have el:cs.length=ws.length:=by
   unfold dI at R
   rw [aX3] at R
   exact bb3 R.1
  refine⟨_,rfl,_,_,rfl,rfl,_,rfl,by omega,by rw [cZ]; omega,by rw [dM,cZ]; omega,fun i acc=>acc=intz (((rng ws.length).take i).filter (bN cs)),rfl,?_,?_⟩
  ·rintro i y acc hy rfl
   obtain ⟨rfl,hi⟩:=fE hy
   rw [cZ] at hi
   have tk:=oJ (cs:=cs) (v8 (show i < ws.length by omega))
   rw [show (0:Int)+(i:Int)=(i:Int) by omega]
   refine⟨_,rfl,_,rfl,_,_,_,rfl,rfl,iF (by omega) (by omega),rfl,_,rfl,?_⟩
   show if (!gR (bQ (cs.getD (i:Int).toNat none)))=true then _ else _
   rw [oI,Bool.not_not,show (cs.getD (i:Int).toNat none).isSome=bN cs (i:Int) from rfl]
   cases hn:bN cs (i:Int) with
   | true=>
    rw [hn] at tk
    exact aO ⟨_,rfl,iB _ _,tk.symm⟩
   | false=>
    rw [hn] at tk
    refine aN ?_
    show _=_
    rw [tk]; exact (aX2 _).symm
  ·rintro acc rfl
   rw [dM,cZ,bd2,bc6 (by rw [jJ]; omega)]
   have wl:((rng ws.length).filter (bN cs)).length<=1000:=by
    have:=bf8 (bN cs) (rng ws.length)
    rw [jJ] at this
    omega
   refine⟨trivial,_,rfl,by show 0<=1000; decide,rfl,.inr ⟨_,_,rfl,rfl⟩,rfl,true,rfl,aO ?_⟩
   refine⟨_,rfl,_,rfl,_,_,_,rfl,.inr rfl,wl,wl,true,?_,aO ?_⟩
   ·rw [aU5 rfl]
   refine⟨_,rfl,_,rfl,_,rfl,ws,ls,ns,rfl,w,few,hs,fun ms m en mp mo=>⟨.inr ⟨_,_,rfl,rfl⟩,C8 2 _ _,trivial,?_⟩⟩
   show Q (.bl (bP 3 (.lst (intz ((rng ws.length).filter (bN cs)))) (.lst (intz ms))))
   rw [C7]
   have e:(rng ws.length).filter (bN cs)=ms:=by
    refine Q0 ((aF1 _).filter _) ?_ fun x=>?_
    ·refine (List.pairwise_and_iff.mpr ⟨mo,mp.nodup_iff.mpr (O1 hs m)⟩).imp fun {a b} h=>?_
     have h1:=h.1
     have h2:a ≠ b:=h.2
     omega
    ·rw [mp.mem_iff,aZ0]
     constructor
     ·exact fun z=>(T7 w R en x z.1).mp z.2
     ·intro z
      have hr:=iA.mpr (aF0 hs z)
      exact⟨hr,(T7 w R en x hr).mpr z⟩
   rw [aU5 e]
   exact q
 ·rw [R]
  exact aO ⟨_,rfl,by show 3<=1000; decide,rfl,.inr ⟨_,_,rfl,rfl⟩,rfl,trivial,q⟩
theorem aP2:dF U7 ["web","seeds","told","handed","found","signs","e","whole"] oK:=by
 rintro xs Q ⟨ws,ls,ns,cs,rfl,w,few,hs,cl,cf,q⟩
 refine⟨_,rfl,_,_,rfl,rfl,wD _,trivial,?_⟩
 refine⟨trivial,by show 0<=1000; decide,rfl,trivial,?_⟩
 refine⟨_,rfl,_,rfl,_,rfl,ws,ls,_,ns,cs,rfl,w,few,.inl rfl,hs,cl,fun r bs h=>aX8 (cf r bs h) (by decide),fun R=>?_,fun R=>⟨by decide,?_⟩⟩
 ·exact U8 w few hs cl cf (.inl ⟨R,rfl,rfl⟩) q
 ·refine⟨_,rfl,true,(by decide),_,rfl,true,(by decide),_,rfl,false,(by decide),by show 3<=1000; decide,rfl,trivial,?_⟩
  exact U8 w few hs cl cf (.inr ⟨R,rfl⟩) q
noncomputable def wH:aU:=(aD (b6 7 (aR (eL (dE (dE (aR (a5 4) (qC (.int 1000000007))) (eL (eL (qC (.int 7919)) (a5 6)) (a5 6))) (qC (.int 1))) (qC (.int 48271))) (qC (.int 2147483647))))
  (aD (b6 7 (bR (aR (eL (a5 7) (a5 7)) (qC (.int 2147483647))) (qC (.int 8))))
  (aD (b6 8 (aR (bR (a5 7) (qC (.int 16))) (aC bU (a6 (a5 5) a9))))
  (aD (lU 5 (a5 8) (aC rP (a6 (b4 (a5 5) (a5 8)) (a6 (a5 2) (a6 (bR (a5 7) (qC (.int 1009))) a9)))))
  (aD (bD (gQ (aM (cY (aR (a5 7) (qC (.int 16))) (qC (.int 1)))) (aM (jD (aC bU (a6 (a5 5) a9)) (qC (.int 1))))) (vW 5 (a5 8)) bC)
  (bD (aM (cY (aR (a5 7) (qC (.int 16))) (qC (.int 2)))) (fM 5 (b4 (cI (a6 (qC .non) (a6 (bB (a6 (qC (.int 1)) (a6 (bB a9) a9))) a9))) (aR (bR (a5 7) (qC (.int 41))) (qC (.int 2))))) bC))))))
noncomputable def U9:aU:=(aD (b6 2 (aC bU (a6 (b4 (a5 1) (qC (.int 0))) a9)))
 (aD (b6 3 (aC qP (a6 (a5 0) (a6 (qC (.int 1)) (a6 (a5 2) a9)))))
 (aD (b6 4 (aR (aC eR (a6 (a5 0) (a6 (qC (.int 2)) a9))) (pR (qC (.int 10)) (qC (.int 30)))))
 (aD (dX 5 (aC rO (a6 (a5 1) (a6 (a5 3) (a6 (bR (a5 4) (qC (.int 4))) a9)))))
 (aD (cQ (eJ (aR (a5 4) (qC (.int 4)))) (bZ 6)
  wH)
 (aD (dX 9 (vK (cI (a6 (qC .non) a9)) (a5 2)))
 (aD (cQ (fN (a5 3)) (bZ 10)
  (lU 9 (a5 10) (bB (a6 (qC (.int 0)) (a6 (bB a9) a9)))))
 (aX (i5 (aC oK (a6 (a5 1) (a6 (a5 3) (a6 (a5 5) a9)))) (aC oK (a6 (a5 1) (a6 (a5 3) (a6 (a5 9) a9)))))))))))))
noncomputable def wI:bV:=M9
noncomputable def V0:aU:=(aD (b6 1 (aC qO (a6 (a5 0) (a6 (qC (.int 3)) a9))))
 (aD (bD (aM (q2 (i6 2 false) (b4 (a5 1) (qC (.int 0))) (bB a9))) (b6 1 (bB (a6 (bB (a6 (qC (.int 1)) a9)) (a6 (bB a9) a9)))) bC)
 U9))
theorem cW.mono {j k:Nat}{cs:List bA} (h:cW j cs) (le:j<=k):cW k cs:=fun r bs hm=>aX8 (h r bs hm) le
theorem aP3 (cs:List bA) (j:Nat):(b7 cs).eraseIdx j=b7 (cs.eraseIdx j):=by
 induction cs generalizing j with
 | nil=>rfl
 | cons c cs ih=>
  cases j with
  | zero=>rfl
  | succ j=>exact congrArg (bQ c :: ·) (ih j)
section
variable {ws : List Int} {ls : List (Int × Int)} {ms ns : List Int} {c : Int}
noncomputable def mG (ns ws:List Int) (ls:List (Int × Int)) (ms:List Int) (c:Int) (cs:List bA) (y6 y7 y8:Option Slot):bM:=[some (.sh (flat (.scr ns)) (.scr ns)),some (.sh true (b9 ws ls)),si (ws.length:Int),some (.sh true (.tup (intz ms))),si c,some (.own (.lst (b7 cs))),y6,y7,y8,none,none]
theorem aP4 {D:fY}{cs:List bA}{i:Nat}{y7 y8:Option Slot} (pos:0 < ws.length) (i4:i < 4) (c1:0 < cs.length) (cl:cs.length<=40+i) (cf:cW (40+i) cs)
  (q:∀ cs':List bA,0 < cs'.length->cs'.length<=40+(i+1)->cW (40+(i+1)) cs'->∀ y7 y8,D.nx (mG ns ws ls ms c cs' (si (i:Int)) y7 y8)):wH D (mG ns ws ls ms c cs (si (i:Int)) y7 y8):=by
 have z1:=aX5 ((c % 1000000007+7919 * (i:Int) * (i:Int)+1) * 48271) (show (2147483647:Int) ≠ 0 by decide)
 have z2:=aX1 ((c % 1000000007+7919 * (i:Int) * (i:Int)+1) * 48271) (show (0:Int) < 2147483647 by decide)
 refine⟨_,rfl,_,_,rfl,rfl,(by show (0:Int) < 1000000007; decide),_,rfl,_,_,rfl,rfl,.inl ⟨by decide,by decide⟩,_,rfl,_,_,rfl,rfl,.inr ⟨by omega,by omega⟩,_,_,rfl,rfl,_,_,rfl,rfl,_,_,rfl,rfl,.inr ⟨by decide,by decide⟩,_,_,rfl,rfl,(by show (0:Int) < 2147483647; decide),trivial,?_⟩
 dsimp only
 generalize (c % 1000000007+7919 * (i:Int) * (i:Int)+1) * 48271 % 2147483647=u at z1 z2
 refine⟨_,rfl,_,rfl,_,_,rfl,rfl,.inl ⟨by omega,by omega⟩,_,_,rfl,rfl,(by show (0:Int) < 2147483647; decide),_,_,rfl,rfl,⟨by decide,by decide⟩,trivial,?_⟩
 dsimp only
 generalize u * u % 2147483647 / 8=m
 have lc:=cZ cs
 have p0:(0:Int) < ((b7 cs).length:Int):=by omega
 refine⟨_,rfl,_,_,rfl,rfl,⟨by decide,by decide⟩,_,rfl,_,_,rfl,rfl,_,_,rfl,rfl,p0,trivial,?_⟩
 dsimp only
 have h0:=aX5 (m / 16) (show ((b7 cs).length:Int) ≠ 0 by omega)
 have h1:=aX1 (m / 16) p0
 generalize m / 16 % ((b7 cs).length:Int)=h at h0 h1
 rw [lc] at h1
 refine⟨_,rfl,_,rfl,_,_,_,rfl,rfl,iF h0 h1,_,rfl,_,rfl,_,_,rfl,rfl,⟨by decide,by decide⟩,_,_,_,40+i,rfl,by omega,by omega,by omega,fun r bs e=>cf r bs (rG e),fun c' hc'=>⟨_,rfl,_,rfl,h,h.toNat,rfl,by rw [lc]; exact rN h0 h1,?_,?_⟩⟩
 ·trivial
 rw [rM]
 have cl':(cs.set h.toNat c').length=cs.length:=aZ1
 have cf':cW (40+(i+1)) (cs.set h.toNat c'):=(cf.mono (by omega)).set hc'
 generalize cs.set h.toNat c'=ds at cl' cf'
 have tail:∀ ds:List bA,0 < ds.length->ds.length<=40+i->cW (40+(i+1)) ds->(bD (aM (cY (aR (a5 7) (qC (.int 16))) (qC (.int 2)))) (fM 5 (b4 (cI (a6 (qC .non) (a6 (bB (a6 (qC (.int 1)) (a6 (bB a9) a9))) a9))) (aR (bR (a5 7) (qC (.int 41))) (qC (.int 2))))) bC) D (mG ns ws ls ms c ds (si (i:Int)) (si m) (si h)):=fun ds d0 d1 df=>by
  refine⟨_,rfl,_,_,rfl,rfl,(by show (0:Int) < 16; decide),.inl ⟨_,_,rfl,rfl,_,rfl,?_⟩⟩
  generalize decide (m % 16=2)=b
  show if b=true then _ else _
  cases b with
  | false=>exact aN (q ds d0 (by omega) df _ _)
  | true=>
   have u0:=aX5 (m / 41) (show (2:Int) ≠ 0 by decide)
   have u1:=aX1 (m / 41) (show (0:Int) < 2 by decide)
   refine aO ⟨_,rfl,by show 0<=1000; decide,rfl,by show 2<=1000; decide,rfl,by show 2<=1000; decide,rfl,_,rfl,_,_,rfl,rfl,⟨by decide,by decide⟩,_,_,rfl,rfl,(by show (0:Int) < 2; decide),_,_,_,rfl,rfl,iF (cs:=[none,some (1,[])]) u0 u1,?_⟩
   have he:∀ r bs,([none,some (1,[])]:List bA).getD (m / 41 % 2).toNat none=some (r,bs)->bs.length<=40:=fun r bs e=>by
    have:=rG e
    rcases aU2.mp this with z | z
    ·cases z
    ·cases aU3.mp z; exact aX0 _
   generalize ([none,some (1,[])]:List bA).getD (m / 41 % 2).toNat none=e at he
   refine⟨trivial,by rw [cZ]; omega,?_⟩
   have:=q (ds ++ [e]) (by rw [aU6,aX7]; omega) (by rw [aU6,aX7]; omega) (fun r bs hm=>by
    rcases aW8.mp hm with z | z
    ·exact df r bs z
    ·exact aX8 (he r bs (aU3.mp z).symm) (by omega)) (si m) (si h)
   unfold mG b7 at this
   rw [bd8] at this
   exact this
 refine⟨_,rfl,_,_,rfl,rfl,(by show (0:Int) < 16; decide),.inl ⟨_,_,rfl,rfl,_,rfl,?_⟩⟩
 generalize decide (m % 16=1)=b
 show if b=true then _ else _
 cases b with
 | false=>exact aN (aN (tail ds (by omega) (by omega) cf'))
 | true=>
  refine aO ⟨_,rfl,_,_,rfl,rfl,_,_,rfl,rfl,_,rfl,?_⟩
  rw [cZ]
  by_cases l1:(ds.length:Int) > 1
  ·rw [aU5 l1]
   obtain ⟨h,rfl⟩:=Int.eq_ofNat_of_zero_le h0
   have er:=List.length_eraseIdx_of_lt (l:=ds) (i:=h) (by omega)
   refine aO ⟨_,rfl,_,rfl,h,rfl,by rw [cZ]; omega,by rw [cZ]; omega,?_⟩
   rw [aP3]
   exact tail _ (by omega) (by omega) fun r bs hm=>cf' r bs (List.mem_of_mem_eraseIdx hm)
  ·rw [aU1 l1]
   exact aN (tail ds (by omega) (by omega) cf')
theorem V1 {Q:PV->Prop}{y:Option Slot} (w:cL (ws.length:Int) ws ls) (few:ws.length<=40) (pos:0 < ws.length) (q:Q (.bl true)):U9 { nx:=fun _=>Q .non,rt:=Q } [some (.sh (flat (.scr ns)) (.scr ns)),some (.sh true (b9 ws ls)),none,none,none,none,none,none,none,none,none]:=by
 refine⟨_,rfl,_,_,_,rfl,rfl,rfl,_,_,rfl,rfl,trivial,?_⟩
 rw [aY]
 refine⟨_,rfl,_,rfl,_,ns,1,_,rfl,.inl rfl,by decide,by omega,by omega,fun ms u=>⟨trivial,?_⟩⟩
 have hs:=u.set
 have lms:=qH hs
 refine⟨_,rfl,_,ns,2,rfl,.inl rfl,by decide,_,_,rfl,rfl,⟨by decide,by decide,by decide⟩,_,_,rfl,rfl,(by show (0:Int) < 10 ^ (30:Int).toNat; decide),trivial,?_⟩
 dsimp only
 generalize ns.getD (2:Int).toNat 0 % 10 ^ (30:Int).toNat=c
 refine⟨_,rfl,_,rfl,_,rfl,_,_,rfl,rfl,⟨by decide,by decide⟩,ws,ls,ms,_,rfl,w,few,hs,fun cs cl cf=>⟨rfl,wD cs,?_⟩⟩
 have v0:=aX5 c (show (4:Int) ≠ 0 by decide)
 have v1:=aX1 c (show (0:Int) < 4 by decide)
 refine⟨_,rfl,_,_,rfl,rfl,(by show (0:Int) < 4; decide),_,rfl,by omega,by omega,fun i ρ=>i<=4/\∃ cs y6 y7 y8,0 < cs.length/\cs.length<=40+i/\cW (40+i) cs/\ρ=mG ns ws ls ms c cs y6 y7 y8,⟨by omega,cs,none,none,none,by omega,by omega,cf,rfl⟩,?_,?_⟩
 ·rintro i y ρ hy ⟨_,cs,y6,y7,y8,c0,c1,cf,rfl⟩
  obtain ⟨rfl,hi⟩:=fE hy
  rw [show (0:Int)+(i:Int)=(i:Int) by omega]
  refine k9 ?_
  show wH _ (mG ns ws ls ms c cs (si (i:Int)) y7 y8)
  exact aP4 pos (by omega) c0 c1 cf fun cs' d0 d1 df y7 y8=>⟨by omega,cs',_,y7,y8,d0,d1,df,rfl⟩
 rintro ρ ⟨h4,cs,y6,y7,y8,c0,c1,cf,rfl⟩
 rw [dM] at h4 c1 cf
 refine⟨by show 1<=1000; decide,rfl,_,rfl,_,_,rfl,rfl,rfl,by omega,by omega,by show 1<=10; decide,rfl,vN _,?_⟩
 show (aD _ _) _ [_,_,_,_,_,_,_,_,_,some (Slot.own (.lst (List.replicate ((ws.length:Nat):Int).toNat [PV.non]).flatten)),_]
 rw [bd2,U1]
 refine⟨_,rfl,_,rfl,(fun z=>by cases z),fun i ρ=>∃ ds y10,ds.length=ws.length/\cW 40 ds/\ρ = [some (.sh (flat (.scr ns)) (.scr ns)),some (.sh true (b9 ws ls)),si (ws.length:Int),some (.sh true (.tup (intz ms))),si c,some (.own (.lst (b7 cs))),y6,y7,y8,some (.own (.lst (b7 ds))),y10],⟨_,none,bf7,U2 _ _,rfl⟩,?_,?_⟩
 ·rintro i y ρ hy ⟨ds,y10,dl,df,rfl⟩
  obtain ⟨o,rfl,ho⟩:=iR hy
  have oo:=(jK hs).2 o (aY4 ho)
  refine k9 ?_
  refine⟨by show 0<=1000; decide,rfl,by show 2<=1000; decide,rfl,_,rfl,_,rfl,o,o.toNat,rfl,?_,trivial,ds.set o.toNat (some (0,[])),si o,by rw [aZ1]; exact dl,df.set fun r bs e=>by cases e; exact aX0 _,?_⟩
  ·rw [cZ,dl]; exact rN oo.1 oo.2
  ·rw [<- rM]; rfl
 rintro ρ ⟨ds,y10,dl,df,rfl⟩
 refine⟨_,rfl,_,rfl,_,rfl,ws,ls,ms,cs,rfl,w,few,hs,by omega,cf.mono (by omega),_,rfl,aO ?_⟩
 exact⟨_,rfl,_,rfl,_,rfl,ws,ls,ms,ds,rfl,w,few,hs,by omega,df.mono (by decide),trivial,q⟩
theorem aP5:dF V0 ["script","web","many","seeds","cell","told","turn","mixed","spot","bare","hearth"] wI:=by
 rintro xs Q ⟨ns,rfl,hl,q⟩
 refine⟨_,rfl,ns,3,rfl,hl,by decide,fun n ws ls n0 n1 w=>⟨trivial,?_⟩⟩
 have wl:=w.many
 have w6:cL (ws.length:Int) ws ls:=⟨rfl,fun l h=>by have:=w.inn l h; omega,w.most,w.ord,w.pos⟩
 refine⟨_,rfl,_,_,_,rfl,rfl,rfl,by show 0<=1000; decide,rfl,.inl ⟨_,_,rfl,rfl⟩,uE 2 ws [],_,rfl,?_⟩
 show if bP 3 (.tup (intz ws)) (.tup (intz []))=true then _ else _
 rw [uC]
 by_cases e:ws = []
 ·rw [aU5 e]
  refine aO ⟨by show 1<=1000; decide,rfl,by show 0<=1000; decide,rfl,by show 2<=1000; decide,rfl,trivial,?_⟩
  exact V1 (y:=none) (ws:=[1]) (ls:=[]) ⟨rfl,(fun l h=>by cases h),by decide,bj6,fun v hv=>by rw [aU3.mp hv]; decide⟩ (by decide) (by decide) q
 ·rw [aU1 e]
  exact aN (V1 (y:=none) w6 (by omega) (List.length_pos_iff.mpr e) q)
end
end Core
namespace K_k16
open PySem PySem.W L2 PP Core
theorem _root_.L2.FnScope.au {N P:List Str}{s:Scope} (a:s.kind=.function:=by rfl) (b:s.isCoroutine=false:=by rfl) (c:s.isGenerator=false:=by rfl) (d:N.Nodup:=by decide +kernel) (e:N.take P.length=P:=by rfl) (f:∀ x∈P,s.names.lookup x=some .local∨s.names.lookup x=some .cell:=by decide +kernel) (g:∀ y∈s.names,y.2≠.free:=by decide +kernel):FnScope N P s:=⟨a,b,c,d,e,f,g⟩
noncomputable def bH (i:Nat):Stmt:=PySem.Challenge.pw_kindleweb_k16_whole_causes_judged.main.body.getD i (.Pass ⟨0,0,0,0⟩)
structure FK (K:Frag) (n:Str) (i:Nat) (f:Addr) (d:FuncData):Prop where
 a:nsIn K mainGlobals n=some (some (.ref f))
 F:eW K n n (bH i) f d
structure FM (K:Frag) (mg:Str->Option Value) (n:Str) (i:Nat) (f:Addr) (d:FuncData):Prop where
 F:eW K n n (bH i) f d
 m:mg n=some (.ref f)
theorem FK.M {K:Frag}{mg:Str->Option Value}{n:Str}{i:Nat}{f:Addr}{d:FuncData}{h:Heap} (z:FK K n i f d) (X:K.In h) (G:h.Ns mainGlobals mg):FM K mg n i f d:=⟨z.F,mg_of X G z.a⟩
noncomputable abbrev Hb (x:Str) (ps:List Str) (i:Nat):Prop:=∀ (kV doc pm:Value) (an:Option Addr) (cdv ct:Value) (us:List Value),us.length=ps.length->bindArgs (fnOf x x (j4 (bH i)) (eI (bH i)) (aZ (bH i)) .none kV doc pm an cdv ct) ⟨us,[]⟩=pure (ps.zip us)
theorem rQ {A:Around}{k:Nat} (hr:cG k A):A.units+3 < cLine:=by have:=hr.units; omega
section
variable {P : Program} {w : World} {K : Frag} {mg : Str → Option Value} {base : Heap} {f : Addr} {fd : FuncData} {k i : Nat} {x : Str} {ps N : List Str}
theorem Df.au {p:bV} (F:FM K mg x i f fd) (S:FnScope N ps (aZ (bH i))) (body:∀ (cdv:Value) (A:Around) (outer:List Env) (s:Shared) (H:Hp) (E:XK),cG k (A.deeper (PyProof.Rows.envOfC x (aZ (bH i)) s.heap.objs.size f cdv))->∃ t,eN (dC dW P w K mg base N x (aZ (bH i)) f cdv A outer s H E).nox (eI (bH i)) t/\∀ xs Q,p xs Q->t { nx:=fun _=>Q .non,rt:=Q } (dY N xs)) (hb:Hb x ps i:=by intro _ _ _ _ _ _ us hl; first | (obtain ⟨_,rfl⟩:=mE hl; rfl) | (obtain ⟨_,_,rfl⟩:=qX hl; rfl) | (obtain ⟨_,_,_,rfl⟩:=vU hl; rfl) | (obtain ⟨_,_,_,_,rfl⟩:=vV hl; rfl) | (obtain ⟨_,_,_,_,_,rfl⟩:=P9 hl; rfl)) (len:∀ xs Q,p xs Q->xs.length=ps.length:=by intro xs Q h; repeat (first | (obtain ⟨rfl,_⟩:=h; rfl) | (obtain ⟨_,h⟩:=h))):Df P w K mg base (k+1) x ps p:=
 Df.of F.F F.m S hb len body
theorem gG.au {p:iD} (F:FM K mg x i f fd) (S:FnScope N ps (aZ (bH i))) (t:(Str->Prop)->aU) (rd:∀ Ep xs Q,p Ep xs Q->t Ep { nx:=fun _=>Q .non,rt:=Q } (dY N xs)) (body:∀ (cdv:Value) (A:Around) (outer:List Env) (s:Shared) (H:Hp) (E:XK) (Ep:Str->Prop),cG k (A.deeper (PyProof.Rows.envOfC x (aZ (bH i)) s.heap.objs.size f cdv))->m9 (dC (e8 P w) P w K mg base N x (aZ (bH i)) f cdv A outer s H E) (EX K H Ep)->eN (dC (e8 P w) P w K mg base N x (aZ (bH i)) f cdv A outer s H E) (eI (bH i)) (t Ep)) (hb:Hb x ps i:=by intro _ _ _ _ _ _ us hl; first | (obtain ⟨_,rfl⟩:=mE hl; rfl) | (obtain ⟨_,_,rfl⟩:=qX hl; rfl) | (obtain ⟨_,_,_,rfl⟩:=vU hl; rfl) | (obtain ⟨_,_,_,_,rfl⟩:=vV hl; rfl) | (obtain ⟨_,_,_,_,_,rfl⟩:=P9 hl; rfl)) (len:∀ Ep xs Q,p Ep xs Q->xs.length=ps.length:=by intro Ep xs Q h; repeat (first | (obtain ⟨rfl,_⟩:=h; rfl) | (obtain ⟨_,h⟩:=h))):gG P w K mg base (k+1) x ps p:=
 gG.of F.F F.m S hb t len rd body
end
section
variable {P : Program} {w : World} {K : Frag} {mg : Str → Option Value} {base : Heap} {f : Addr} {fd : FuncData}
theorem rR:(["ahead","behind"]:List Str).Nodup:=by decide +kernel
noncomputable abbrev V2:Stmt:=bH 5
theorem scR:FnScope ["things"] ["things"] (aZ V2):=.au
theorem wJ {ns:List Int}{i:Nat}{x y:V} (h1:(ns.map V.int)[i]? = some x) (h2:((ns.map V.int).drop 1)[i]? = some y):∃ p q:Int,x = .int p/\y = .int q/\(ns.zip (ns.drop 1))[i]? = some (p,q):=by
 rw [aV5] at h1
 rw [<- List.map_drop,aV5] at h2
 cases e1:ns[i]? with
 | none=>rw [e1] at h1; cases h1
 | some p=>
  cases e2:(ns.drop 1)[i]? with
  | none=>rw [e2] at h2; cases h2
  | some q=>
   rw [e1] at h1; rw [e2] at h2
   exact⟨p,q,(aW4 h1).symm,(aW4 h2).symm,List.getElem?_zip_eq_some.mpr ⟨e1,e2⟩⟩
theorem aP6 (B:Bt mg) (F:eW K "rises" "rises" V2 f fd):cU P w K mg base dW 1 f fd ["things"] (K8 K):=by
 refine F.ok scR (fun vs H Q E h=>?_) (fun cdv A outer s H vs Q E hr h=>?_)
 ·obtain ⟨a,ns,rfl,_⟩:=h
  rfl
 obtain ⟨a,ns,rfl,hS,hn,q⟩:=h
 have lz:((ns.map V.int).drop 1).length<=sizeLine:=ba3 (j8 (by rw [aY9,aU7]; omega))
 have lz2:((ns.map V.int).drop 1).length<=(ns.map V.int).length:=by rw [aY9]; omega
 have lz3:(ns.zip (ns.drop 1)).length=((ns.map V.int).drop 1).length:=by rw [List.length_zip,aY9,aY9,aU7]; omega
 rcases hS with hS | hS
 ·refine⟨_,mL (mO (lJ (tQ rfl) rfl B.all PyProof.Rows.boot_all (cP (zF (N:=["ahead","behind"]) (fr:=[none,none]) rfl (dD.of rfl rfl) (al7 rfl B.zip (cP (pv 0) (cP (sO A3 (pv 0) (sN mJ) sM) dB)))
   ⟨fun _ _ _ _=>show PG _ _ (kE K 2 (fS (cT 0) (fS (cT 1) kD))) from lF rfl (gJ (eU (i:=0) rR rfl (Or.inl rfl) (.inr rfl)) (gJ (eU (i:=1) rR rfl (Or.inl rfl) (.inr rfl)) lE)),fun _ _ _ _=>p5,fun _ _ _ _=>sF oS (pv 0) (pv 1) (e9 _)⟩) dB))),?_⟩
  refine⟨_,rfl,_,rfl,1,rfl,a,_,rfl,hS,fun p hp=>?_,fun e=>?_⟩
  ·have s1:=bE hp (.tup (eC (ns.map V.int) (some 1) none))
   have hb:aH K (upd H p (.tup (eC (ns.map V.int) (some 1) none))) p ((ns.map V.int).drop 1):=aH.of (by rw [bI,tT])
   refine⟨a,p,_,_,rfl,s1.tup hS,hb,tS (A2 (s1.tup hS) hb lz2) (fun i acc _=>acc=((ns.zip (ns.drop 1)).take i).map fun (p:Int × Int)=>V.bl (decide (p.1 < p.2))) lz (fun _ _=>rfl) (fun _ _ _ _ _ h=>h) (fun i x acc D H' hi hR c hP=>?_) (fun D acc H' hD sm hDa hlen hP=>?_)⟩
   ·obtain ⟨T,x1,y1,rfl,hT,h1,h2⟩:=hR
    obtain ⟨m,k,rfl,rfl,hz⟩:=wJ h1 h2
    refine⟨T,_,rfl,aH.of hT,rfl,_,_,rfl,_,_,rfl,rfl,((Wk.refl _).set (i:=0) rfl).set (i:=1) rfl,pF ⟨_,rfl,_,rfl,_,_,rfl,rfl,c.yes (aE.refl _) ?_⟩⟩
    rw [qD hz,hP]
   ·refine⟨D,(ns.zip (ns.drop 1)).map fun (p:Int × Int)=>decide (p.1 < p.2),rfl,aK.of ?_,q _ (s1.trans sm)⟩
    rw [hDa,hP,<- lz3,bb1,bh9]; rfl
  ·have hb:aH K H a ((ns.map V.int).drop 1):=by
    have:(ns.map V.int).drop 1=ns.map V.int:=by rw [<- tT]; exact e
    rw [this]; exact hS
   refine⟨a,a,_,_,rfl,hS,hb,tS (A2 hS hb lz2) (fun i acc _=>acc=((ns.zip (ns.drop 1)).take i).map fun (p:Int × Int)=>V.bl (decide (p.1 < p.2))) lz (fun _ _=>rfl) (fun _ _ _ _ _ h=>h) (fun i x acc D H' hi hR c hP=>?_) (fun D acc H' hD sm hDa hlen hP=>?_)⟩
   ·obtain ⟨T,x1,y1,rfl,hT,h1,h2⟩:=hR
    obtain ⟨m,k,rfl,rfl,hz⟩:=wJ h1 h2
    refine⟨T,_,rfl,aH.of hT,rfl,_,_,rfl,_,_,rfl,rfl,((Wk.refl _).set (i:=0) rfl).set (i:=1) rfl,pF ⟨_,rfl,_,rfl,_,_,rfl,rfl,c.yes (aE.refl _) ?_⟩⟩
    rw [qD hz,hP]
   ·refine⟨D,(ns.zip (ns.drop 1)).map fun (p:Int × Int)=>decide (p.1 < p.2),rfl,aK.of ?_,q _ sm⟩
    rw [hDa,hP,<- lz3,bb1,bh9]; rfl
 ·refine⟨_,mL (mO (lJ (tQ rfl) rfl B.all PyProof.Rows.boot_all (cP (zF (N:=["ahead","behind"]) (fr:=[none,none]) rfl (dD.of rfl rfl) (am3 rfl B.zip (cP (pv 0) (cP (sO yG (pv 0) (sN mJ) sM) dB)))
   ⟨fun _ _ _ _=>show PG _ _ (kE K 2 (fS (cT 0) (fS (cT 1) kD))) from lF rfl (gJ (eU (i:=0) rR rfl (Or.inl rfl) (.inr rfl)) (gJ (eU (i:=1) rR rfl (Or.inl rfl) (.inr rfl)) lE)),fun _ _ _ _=>p5,fun _ _ _ _=>sF oS (pv 0) (pv 1) (e9 _)⟩) dB))),?_⟩
  refine⟨_,rfl,_,rfl,1,rfl,a,_,rfl,hS,fun p hp=>?_⟩
  have s1:=bE hp (.lst (eC (ns.map V.int) (some 1) none))
  have hb:aK K (upd H p (.lst (eC (ns.map V.int) (some 1) none))) p ((ns.map V.int).drop 1):=aK.of (by rw [bI,tT])
  refine⟨a,p,_,_,rfl,s1.seq hS,hb,tS (am4 (s1.seq hS) hb lz2) (fun i acc _=>acc=((ns.zip (ns.drop 1)).take i).map fun (p:Int × Int)=>V.bl (decide (p.1 < p.2))) lz (fun _ _=>rfl) (fun _ _ _ _ _ h=>h) (fun i x acc D H' hi hR c hP=>?_) (fun D acc H' hD sm hDa hlen hP=>?_)⟩
  ·obtain ⟨T,x1,y1,rfl,hT,h1,h2⟩:=hR
   obtain ⟨m,k,rfl,rfl,hz⟩:=wJ h1 h2
   refine⟨T,_,rfl,aH.of hT,rfl,_,_,rfl,_,_,rfl,rfl,((Wk.refl _).set (i:=0) rfl).set (i:=1) rfl,pF ⟨_,rfl,_,rfl,_,_,rfl,rfl,c.yes (aE.refl _) ?_⟩⟩
   rw [qD hz,hP]
  ·refine⟨D,(ns.zip (ns.drop 1)).map fun (p:Int × Int)=>decide (p.1 < p.2),rfl,aK.of ?_,q _ (s1.trans sm)⟩
   rw [hDa,hP,<- lz3,bb1,bh9]; rfl
noncomputable abbrev V3:Stmt:=bH 7
theorem rS:FnScope ["web","around","one","other"] ["web"] (aZ V3):=.au
theorem aP7 (F:eW K "near_lists" "near_lists" V3 f fd):cU P w K mg base dW 1 f fd ["web"] K9:=by
 refine F.ok rS (fun vs H Q E h=>?_) (fun cdv A outer s H vs Q E hr h=>?_)
 ·obtain ⟨v,ws,ls,rfl,_⟩:=h
  rfl
 obtain ⟨v,ws,ls,rfl,W,hn,hm,hin,q⟩:=h
 refine⟨_,oO (aj0 (i:=1) (N:=["want"]) (fr:=[none]) rfl (dD.of rfl rfl) (x3 (mY sR (pv 0) mJ (fun _ _=>rfl)))
   ⟨fun _ _ _ _=>eU (i:=0) (aY0 _ _) rfl (Or.inl rfl) (.inr rfl),fun _ _ _ _=>p5,fun _ _ _ _=>xO dB⟩ rS.nd rfl rfl rfl)
  (oO (x9 PassesOwn.never rfl (x3 (mY sR (pv 0) mJ (fun _ _=>rfl))) (lF (n:=2) rfl (gJ (eU (i:=2) rS.nd rfl (Or.inl rfl) (.inr rfl)) (gJ (eU (i:=3) rS.nd rfl (Or.inl rfl) (.inr rfl)) lE)) )
   (oO (lD (kF bd5 PySem.F.slot_list_append PySem.F.type_list_append nF (mY sQ (pv 1) (pv 2) (fun _ _=>rfl)) (cP (pv 3) dB)))
   (mL (lD (kF bd5 PySem.F.slot_list_append PySem.F.type_list_append nF (mY sQ (pv 1) (pv 3) (fun _ _=>rfl)) (cP (pv 2) dB))))))
  (mL (mO (pv 1)))),?_⟩
 obtain ⟨a,p,q',ys,rfl,ha,hp,hq,hL⟩:=W.at_
 have lw:(ws.map V.int).length=ws.length:=aU7 _
 refine⟨_,rfl,a,_,_,_,rfl,rfl,aH.of ha,rfl,p,rfl,⟨_,aH.of hp⟩,aj3 (aj2 (aH.of hp)) (fun i acc H'=>∃ bs:List Addr,acc=bs.map V.ref/\bs.length=i/\bs.Nodup/\∀ b ∈ bs,H b=none/\H' b=some (.lst [])) (by rw [lw]; exact ba3 (nI hn))
  (fun D hD=>⟨[],rfl,rfl,List.nodup_nil,fun _ z=>nomatch z⟩) (fun i x acc D H' hx c hPv=>?_) (fun D acc H' hD sm hDa hlen hPv=>?_)⟩
 ·obtain ⟨bs,rfl,hbl,nd,hb⟩:=hPv
  refine⟨wk0 (n:=none),pF ⟨aX0 _,fun r hr'=>?_⟩⟩
  have hrD:r ≠ D:=fun z=>by rw [z,c.acc] at hr'; cases hr'
  have hrH:H r=none:=c.same.free hr'
  refine c.yes (bE hr' _) ⟨bs ++ [r],by simp,by simp [hbl],?_,fun b hm=>?_⟩
  ·refine bh4.mpr ⟨nd,aY0 _ _,fun b hb1 b' hb2 e=>?_⟩
   rw [aU3.mp hb2] at e
   rw [e] at hb1
   rw [(hb r hb1).2] at hr'; cases hr'
  ·rcases aW8.mp hm with hm | hm
   ·have hbD:b ≠ D:=fun z=>by
     rw [z] at hm
     have:=(hb D hm).2
     rw [c.acc] at this
     have:bs.map V.ref = []:=by injection this with e1; injection e1
     have:bs = []:=List.map_eq_nil_iff.mp this
     rw [this] at hm; simp at hm
    refine⟨(hb b hm).1,?_⟩
    rw [aQ hbD,aQ (cF (hb b hm).2 hr')]
    exact (hb b hm).2
   ·rw [aU3.mp hm]
    exact⟨hrH,by rw [aQ hrD,bI]⟩
 ·obtain ⟨bs,rfl,hbl,nd,hb⟩:=hPv
  rw [lw] at hbl
  have R0:j7 H H' D bs (fun k=>b8 (ls.take 0) k):=by
   refine⟨hD,fun b hm=>⟨(hb b hm).1,fun z=>?_⟩,nd,hDa,fun k b hk=>(hb b (aY4 hk)).2,sm⟩
   rw [z] at hm
   have:=(hb D hm).2
   rw [hDa] at this
   have:bs.map V.ref = []:=by injection this with e1; injection e1
   have:bs = []:=List.map_eq_nil_iff.mp this
   rw [this] at hm; simp at hm
  have lL:=hL.length
  refine⟨_,rfl,a,_,_,_,rfl,rfl,aH.of (sm _ _ ha),rfl,q',rfl,⟨_,aH.of (sm _ _ hq)⟩,ab3 (K:=K) (a:=q') (xs:=ys) (fun i σ H2=>∃ x y:Option V,σ = [some (.ref a),some (.ref D),x,y]/\j7 H H2 D bs (fun k=>b8 (ls.take i) k))
   ⟨none,none,rfl,R0⟩ (fun i σ H2 _ ⟨_,_,_,R⟩=>aH.of (R.same _ _ hq)) ?_ ?_⟩
  ·rintro i y σ H2 hi ⟨x1,x2,rfl,R⟩
   obtain ⟨l,b,hl,rfl,hbt⟩:=hL.get hi
   have hlm:l ∈ ls:=aY4 hl
   obtain ⟨⟨h1,h2⟩,h3,h4⟩:=hin l hlm
   have k1:l.1.toNat < bs.length:=by omega
   have k2:l.2.toNat < bs.length:=by omega
   have e1:bs[l.1.toNat]? = some (bs[l.1.toNat]):=aT7 k1
   have e2:bs[l.2.toNat]? = some (bs[l.2.toNat]):=aT7 k2
   refine⟨b,_,rfl,aH.of (R.same _ _ hbt),rfl,_,_,rfl,_,_,rfl,rfl,?_⟩
   refine⟨_,rfl,_,rfl,D,_,_,.ref bs[l.1.toNat],rfl,rfl,aK.of R.row,lN h1 (by rw [aV5,e1]; rfl),kI (aK.of (R.rows _ _ e1)),_,rfl,_,_,_,rfl,rfl,R.rows _ _ e1,?_,?_⟩
   ·rw [aU7]
    have:=tM (ls.take i) (l.1.toNat:Nat)
    rw [ba8] at this
    exact j8 (by omega)
   ·have R1:=R.app e1 l.2
    refine⟨_,rfl,_,rfl,D,_,_,.ref bs[l.2.toNat],rfl,rfl,aK.of R1.row,lN h3 (by rw [aV5,e2]; rfl),kI (aK.of (R1.rows _ _ e2)),_,rfl,_,_,_,rfl,rfl,R1.rows _ _ e2,?_,?_⟩
    ·rw [aU7]
     have:=tM (ls.take i) (l.2.toNat:Nat)
     rw [ba8] at this
     split
     ·rw [aU6,aX7]; exact j8 (by omega)
     ·exact j8 (by omega)
    ·have R2:=R1.app e2 l.1
     refine⟨_,_,rfl,R2.congr fun k hk=>?_⟩
     rw [zX hl]
     have c1:(k=l.1.toNat) ↔ l.1=(k:Int):=by omega
     have c2:(k=l.2.toNat) ↔ l.2=(k:Int):=by omega
     by_cases d1:k=l.1.toNat
     ·by_cases d2:k=l.2.toNat
      ·rw [if_pos d2,if_pos d1,if_pos (c1.mp d1),if_pos (c2.mp d2)]; simp
      ·rw [if_neg d2,if_pos d1,if_pos (c1.mp d1),if_neg (fun z=>d2 (c2.mpr z))]; simp
     ·by_cases d2:k=l.2.toNat
      ·rw [if_pos d2,if_neg d1,if_neg (fun z=>d1 (c1.mpr z)),if_pos (c2.mp d2)]; simp
      ·rw [if_neg d2,if_neg d1,if_neg (fun z=>d1 (c1.mpr z)),if_neg (fun z=>d2 (c2.mpr z))]; simp
  ·
   rintro σ H2 ⟨x1,x2,rfl,R⟩
   refine⟨_,rfl,q D bs H2 hbl ?_⟩
   rw [lL,bb1] at R
   exact R
theorem aP8:FnScope ["web"] ["web"] (aZ (bH 6)):=.au
theorem aP9 (B:Bt mg) (F:FM K mg "hearths_in" 6 f fd)  : Df P w K mg base 1 "hearths_in" ["web"] kX:=
 Df.au F aP8 (fun cdv A outer s H E hr=>by
  exact⟨(J1),(aL (bG (cE B (a8 (bF (qv 0) aA) aB)))),av8⟩)
theorem aQ0:FnScope ["cause","rank"] ["cause","rank"] (aZ (bH 15)):=.au
theorem aQ1 (B:Bt mg) (F:FM K mg "is_earlier" 15 f fd)  : Df P w K mg base 1 "is_earlier" ["cause","rank"] rD:=
 Df.au F aQ0 (fun cdv A outer s H E hr=>by
  exact⟨(T3),(aL (bG (jE (ar9 (qv 0) eO) (jZ (pV (bF (qv 0) aA) (qv 1)))))),aN3⟩)
theorem aQ2:FnScope ["script","k"] ["script","k"] (aZ (bH 17)):=.au
theorem aQ3 (B:Bt mg) (F:FM K mg "_law_cell_at" 17 f fd)  : Df P w K mg base 1 "_law_cell_at" ["script","k"] eR:=
 Df.au F aQ2 (fun cdv A outer s H E hr=>by
  exact⟨(J7),(aG (bL (nX (qv 1) (cE B (a8 (qv 0) aB))) (aL (bG (bF (qv 0) (qv 1)))) bK)
   (aL (bG aA))),aw7⟩)
theorem V4:FnScope ["wants_cell","links_cell","many","most","wants","k","links","one","other"] ["wants_cell","links_cell","many","most"] (aZ (bH 18)):=.au
theorem aQ4 (B:Bt mg) (F:FM K mg "_law_web_of_digits" 18 f fd)  : Df P w K mg base 1 "_law_web_of_digits" ["wants_cell","links_cell","many","most"] oA:=
 Df.au F V4 (fun cdv A outer s H E hr=>by
  have nd:=V4.nd
  exact⟨(J8),(aG (fP (i:=4) nd (dG aB))
   (aG (dZ 5 nd (gD rfl B.range (qv 2))
    (aG (iP 4 (b5 (qv 0) (qv 3)))
    (aL (bJ (i:=0) nd (cN (qv 0) (qv 3))))))
   (aG (fP (i:=6) nd (dG aB))
   (aG (dZ 7 nd (gD rfl B.range (qv 2))
    (aL (dZ 8 nd (E5 rfl B.range (dP (qv 7) aA) (qv 2))
     (aG (bL (eG (b5 (qv 1) aA) aA) (aL (iP 6 (c8 (a8 (qv 7) (a8 (qv 8) aB))))) bK)
     (aL (bJ (i:=1) nd (cN (qv 1) aA)))))))
   (aL (bG (c8 (a8 (gU B (a8 (qv 4) aB)) (a8 (gU B (a8 (qv 6) aB)) aB))))))))),aw8⟩)
theorem V5:FnScope ["cell","many","left","row","k","number","links"] ["cell","many"] (aZ (bH 19)):=.au
theorem aQ5 (B:Bt mg) (F:FM K mg "_law_path" 19 f fd)  : Df P w K mg base 1 "_law_path" ["cell","many"] qM:=
 Df.au F V5 (fun cdv A outer s H E hr=>by
  have nd:=V5.nd
  exact⟨(L9),(aG (fP (i:=2) nd (ay4 B (qv 1)))
   (aG (fP (i:=3) nd (dG aB))
   (aG (dZ 4 nd (gD rfl B.range (qv 1))
    (aG (bJ (i:=5) nd (b5 (fD (dP (dP (b5 (qv 0) aA) (fD (qv 4) (qv 4))) aA) aA) aA))
    (aL (aA9 3 2 (b5 (cN (b5 (fD (qv 5) (qv 5)) aA) aA) (cE B (a8 (qv 2) aB)))))))
   (aG (fP (i:=6) nd (dG aB))
   (aG (dZ 4 nd (E5 rfl B.range aA (qv 1))
    (aL (iP 6 (c8 (a8 (E8 B rfl (a8 (bF (qv 3) (nW (qv 4) aA)) (a8 (bF (qv 3) (qv 4)) aB))) (a8 (uM B rfl (a8 (bF (qv 3) (nW (qv 4) aA)) (a8 (bF (qv 3) (qv 4)) aB))) aB))))))
   (aL (bG (c8 (a8 (ax9 (c8 (a8 aA aB)) (qv 1)) (a8 (gU B (a8 (K7 B (a8 (qv 6) aB)) aB)) aB)))))))))),az5⟩)
theorem aQ6:FnScope ["found"] ["found"] (aZ (bH 21)):=.au
theorem aQ7 (B:Bt mg) (F:FM K mg "_law_whole_number" 21 f fd)  : Df P w K mg base 1 "_law_whole_number" ["found"] qJ:=
 Df.au F aQ6 (fun cdv A outer s H E hr=>by
  exact⟨(K0 K),(aL (bG (jE (as9 B (qv 0)) (jZ (as0 (at0 B (qv 0))))))),ax0 (vF K).ii (vF K).ib⟩)
theorem V6:FnScope ["web","hearth","found","one","other"] ["web","hearth"] (aZ (bH 23)):=.au
theorem aQ8 (B:Bt mg) (F:FM K mg "_law_near" 23 f fd)  : Df P w K mg base 1 "_law_near" ["web","hearth"] k8:=
 Df.au F V6 (fun cdv A outer s H E hr=>by
  have nd:=V6.nd
  exact⟨(K2),(aG (fP (i:=2) nd (dG aB))
   (aG (at5 3 4 nd (i8 (bF (qv 0) aA))
    (aG (bL (eG (qv 3) (qv 1)) (aL (iP 2 (qv 4))) bK)
    (aL (bL (eG (qv 4) (qv 1)) (aL (iP 2 (qv 3))) bK))))
   (aL (bG (uL B (a8 (qv 2) aB)))))),ax2⟩)
theorem V7:FnScope ["cause","many","cell","rest","rank","some","way","at"] ["cause","many","cell"] (aZ (bH 27)):=.au
theorem aQ9 (B:Bt mg) (F:FM K mg "_law_other" 27 f fd) (rv:mg "reversed" = none):Df P w K mg base 1 "_law_other" ["cause","many","cell"] rP:=
 Df.au F V7 (fun cdv A outer s H E hr=>by
  have nd:=V7.nd
  exact⟨(U4),(aG (bJ (i:=3) nd (cN (qv 2) aA))
   (aG (bL (nZ (qv 0) eO) (aL (bG (c8 (a8 (dP aA (b5 (qv 3) aA)) (a8 (gU B (a8 (N0 B (a8 (jI (dG (a8 (b5 (qv 3) (qv 1)) (a8 (b5 (dP (qv 3) aA) (qv 1)) aB))) jG (jH (b5 (qv 2) aA))) aB)) aB)) aB))))) bK)
   (aG (O5 4 5 nd (qv 0))
   (aG (bJ (i:=6) nd (b5 (qv 2) aA))
   (aG (bL (eG (qv 6) aA) (aL (bG eO)) bK)
   (aG (bL (eG (qv 6) aA) (aL (bG (c8 (a8 (bF (dG (a8 aA (a8 (uN aA) (a8 (dP (qv 4) aA) (a8 (nW (qv 4) aA) (a8 (nW (qv 4) aA) aB)))))) (b5 (qv 3) aA)) (a8 (qv 5) aB))))) bK)
   (aG (bL (eG (qv 6) aA) (aL (bG (c8 (a8 (qv 4) (a8 (oD (qv 5) (c8 (a8 (b5 (qv 3) (qv 1)) aB))) aB))))) bK)
   (aG (bL (eG (qv 6) aA) (aL (bG (c8 (a8 (qv 4) (a8 (jI (qv 5) (jH aA) jG) aB))))) bK)
   (aG (bL (gT (kQ (eG (qv 6) aA) (kO (nY (cE B (a8 (qv 5) aB)) aA)))) (aG (bJ (i:=7) nd (b5 (qv 3) (cE B (a8 (qv 5) aB))))
    (aL (bG (c8 (a8 (qv 4) (a8 (oD (oD (jI (qv 5) jG (jH (qv 7))) (c8 (a8 (b5 (cN (qv 3) aA) (qv 1)) aB))) (jI (qv 5) (jH (dP (qv 7) aA)) jG)) aB)))))) bK)
   (aG (bL (eG (qv 6) aA) (aL (bG (c8 (a8 (qv 4) (a8 (aM9 B rv (a8 (qv 5) aB)) aB))))) bK)
   (aG (bL (gT (kQ (eG (qv 6) aA) (kO (nY (cE B (a8 (qv 5) aB)) aA)))) (aL (bG (c8 (a8 (qv 4) (a8 (oD (jI (qv 5) jG (jH (uN aA))) (c8 (a8 (bF (dG (a8 (uN aA) (a8 (qv 1) (a8 (dP (qv 1) (b5 (qv 3) (E3 aA aA))) aB)))) (b5 (cN (qv 3) aA) aA)) aB))) aB))))) bK)
   (aL (bG (c8 (a8 (qv 4) (a8 (gU B (a8 (N0 B (a8 (oD (qv 5) (c8 (a8 (b5 (qv 3) (qv 1)) aB))) aB)) aB)) aB)))))))))))))))),aO8⟩)
theorem aR0:FnScope ["web","number"] ["web","number"] (aZ (bH 8)):=.au
theorem aR1 (B:Bt mg) (F:FM K mg "is_hearth" 8 f fd) (d_hearths_in:Df P w K mg base 1 "hearths_in" ["web"] kX):Df P w K mg base 2 "is_hearth" ["web","number"] qE:=
 Df.au F aR0 (fun cdv A outer s H E hr=>by
  exact⟨(J2),(aL (bG (jE (ar8 (qv 1) aA) (jZ (pV (qv 1) (bW d_hearths_in hr (a8 (qv 0) aB))))))),av9⟩)
theorem V8:FnScope ["want","neighbours","told","is_seed","cause","rank","by"] ["want","neighbours","told","is_seed","cause"] (aZ (bH 14)):=.au
theorem aR2 (B:Bt mg) (F:FM K mg "is_right_cause" 14 f fd) (d_rises:Df P w K mg base 1 "rises" ["things"] o8) (d_is_earlier:Df P w K mg base 1 "is_earlier" ["cause","rank"] rD) (cs:vL K mg):Df P w K mg base 2 "is_right_cause" ["want","neighbours","told","is_seed","cause"] rE:=
 Df.au F V8 (fun cdv A outer s H E hr=>by
  have nd:=V8.nd
  have hu3:=rQ hr
  exact⟨(T4),(aG (bL (uI (qv 3)) (aL (bG (aN2 hu3 (qv 4) (aE4 cs)))) bK)
   (aG (bL (nZ (qv 4) eO) (aL (bG (pV (cE B (a8 (at7 (N:=["other","told"]) (fr:=[none,some 2]) (i8 (qv 1)) (fun _ _ _ _=>(o4 (bF (qv 1) (qv 0)) eO)) (fun _ _ _ _=>(qv 0))) aB)) (qv 0)))) bK)
   (aG (bJ (i:=5) nd (bF (qv 4) aA))
   (aG (bJ (i:=6) nd (bF (qv 4) aA))
   (aG (bL (gT (jY (nX (qv 5) aA) (jY (kM (cE B (a8 (qv 6) aB)) (qv 0)) (o7 (kR (kN (bW d_rises hr (a8 (qv 6) aB)))))))) (aL (bG dO)) bK)
   (aL (bG (E7 B rfl (a8 (F8 (N:=["other","neighbours","rank","told"]) (fr:=[none,some 1,some 5,some 2]) (i8 (qv 6)) (fun _ _ _ _=>(jE (F1 (qv 0) (qv 1)) (jZ (bW d_is_earlier hr (a8 (bF (qv 3) (qv 0)) (a8 (qv 2) aB))))))) aB))))))))),aN4⟩)
theorem V9:FnScope ["flow","many","way","wants","k","cell","pairs","one","other"] ["flow","many","way"] (aZ (bH 20)):=.au
theorem aR3 (B:Bt mg) (F:FM K mg "_law_web" 20 f fd) (d__law_path:Df P w K mg base 1 "_law_path" ["cell","many"] qM) (d__law_cell_at:Df P w K mg base 1 "_law_cell_at" ["script","k"] eR) (d__law_web_of_digits:Df P w K mg base 1 "_law_web_of_digits" ["wants_cell","links_cell","many","most"] oA):Df P w K mg base 2 "_law_web" ["flow","many","way"] oC:=
 Df.au F V9 (fun cdv A outer s H E hr=>by
  have nd:=V9.nd
  have hu:=ai3 hr
  exact⟨(M2),(aG (bL (gT (kQ (eG (b5 (cN (qv 2) aA) aA) aA) (kO (nY (qv 1) aA)))) (aL (bG (bW d__law_path hr (a8 (bW d__law_cell_at hr (a8 (qv 0) (a8 aA aB))) (a8 (qv 1) aB))))) bK)
   (aG (bL (gT (kQ (eG (b5 (cN (qv 2) aA) aA) aA) (kO (nX (qv 1) aA)))) (aL (bG (bW d__law_web_of_digits hr (a8 (bW d__law_cell_at hr (a8 (qv 0) (a8 aA aB))) (a8 (bW d__law_cell_at hr (a8 (qv 0) (a8 aA aB))) (a8 (qv 1) (a8 (bF (dG (a8 aA (a8 aA (a8 aA (a8 aA aB))))) (b5 (qv 2) aA)) aB))))))) bK)
   (aG (fP (i:=3) nd (dG aB))
   (aG (dZ 4 nd (gD rfl B.range (qv 1))
    (aG (bJ (i:=5) nd (bW d__law_cell_at hr (a8 (qv 0) (a8 (qv 4) aB))))
    (aL (iP 3 (bF (dG (a8 (b5 (cN (qv 5) aA) aA) (a8 (b5 (cN (qv 5) aA) aA) (a8 (b5 (cN (qv 5) aA) aA) (a8 (b5 (cN (qv 5) aA) aA) aB))))) (b5 (qv 2) aA))))))
   (aG (fP (i:=6) nd as1)
   (aG (dZ 5 nd (i8 (qv 0))
    (aL (bL (nY (qv 1) aA) (aG (bJ (i:=7) nd (b5 (qv 5) (qv 1)))
     (aG (bJ (i:=8) nd (b5 (cN (b5 (fD (b5 (qv 5) aA) aA) aA) aA) (qv 1)))
     (aL (bL (kM (qv 7) (qv 8)) (aL (as3 hu (i:=6) (c8 (a8 (E8 B rfl (a8 (qv 7) (a8 (qv 8) aB))) (a8 (uM B rfl (a8 (qv 7) (a8 (qv 8) aB))) aB))) dO)) bK)))) bK)))
   (aL (bG (c8 (a8 (gU B (a8 (qv 3) aB)) (a8 (gU B (a8 (K7 B (a8 (ay6 B rfl (a8 (qv 6) aB)) aB)) aB)) aB))))))))))),aA1⟩)
theorem W0:FnScope ["found","due","k"] ["found","due"] (aZ (bH 22)):=.au
theorem aR4 (B:Bt mg) (F:FM K mg "_law_row_is" 22 f fd) (d__law_whole_number:Df P w K mg base 1 "_law_whole_number" ["found"] qJ):Df P w K mg base 2 "_law_row_is" ["found","due"] qK:=
 Df.au F W0 (fun cdv A outer s H E hr=>by
  have nd:=W0.nd
  exact⟨(K1 K),(aG (bL (gT (jY (kR (kN (at2 B (qv 0)))) (o7 (kM (cE B (a8 (qv 0) aB)) (cE B (a8 (qv 1) aB)))))) (aL (bG dO)) bK)
   (aG (dZ 2 nd (gD rfl B.range (cE B (a8 (qv 1) aB)))
    (aL (bL (gT (jY (kR (kN (bW d__law_whole_number hr (a8 (bF (qv 0) (qv 2)) aB)))) (o7 (kM (bF (qv 0) (qv 2)) (bF (qv 1) (qv 2)))))) (aL (bG dO)) bK)))
   (aL (bG dO)))),aw9 (vF K).tt⟩)
theorem W5:FnScope ["script","at","many","cell","some","hearth","number"] ["script","at","many"] (aZ (bH 25)):=.au
theorem aR5 (B:Bt mg) (F:FM K mg "_law_seeds_by" 25 f fd) (d__law_cell_at:Df P w K mg base 1 "_law_cell_at" ["script","k"] eR):Df P w K mg base 2 "_law_seeds_by" ["script","at","many"] qP:=
 Df.au F W5 (fun cdv A outer s H E hr=>by
  have nd:=W5.nd
  exact⟨(M7),(aG (bJ (i:=3) nd (bW d__law_cell_at hr (a8 (qv 0) (a8 (qv 1) aB))))
   (aG (fP (i:=4) nd (dG aB))
   (aG (bL (eG (b5 (qv 3) aA) aA) (aG (dZ 5 nd (gD rfl B.range (qv 2))
     (aG (bJ (i:=3) nd (cN (qv 3) aA))
     (aL (bL (eG (b5 (qv 3) aA) aA) (aL (iP 4 (qv 5))) bK))))
    (aL (bG (gU B (a8 (qv 4) aB))))) bK)
   (aG (bJ (i:=3) nd (b5 (fD (dP (b5 (qv 3) aA) aA) aA) aA))
   (aG (dZ 5 nd (gD rfl B.range (qv 2))
    (aG (bJ (i:=6) nd (b5 (fD (dP (dP (qv 3) (fD (fD aA (qv 5)) (qv 5))) (qv 5)) aA) aA))
    (aL (bL (nX (b5 (cN (b5 (fD (qv 6) (qv 6)) aA) aA) aA) (dP aA (b5 (cN (qv 3) aA) aA))) (aL (iP 4 (qv 5))) bK))))
   (aL (bG (gU B (a8 (qv 4) aB))))))))),aA3⟩)
theorem W6:FnScope ["web","seeds","cell","told","hearth","rank","going","k","there","cut"] ["web","seeds","cell"] (aZ (bH 26)):=.au
theorem aR6 (B:Bt mg) (F:FM K mg "_law_made" 26 f fd) (d__law_near:Df P w K mg base 1 "_law_near" ["web","hearth"] k8):Df P w K mg base 2 "_law_made" ["web","seeds","cell"] rO:=
 Df.au F W6 (fun cdv A outer s H E hr=>by
  have nd:=W6.nd
  exact⟨(U3),(aG (fP (i:=3) nd (N8 (dG (a8 eO aB)) (cE B (a8 (bF (qv 0) aA) aB))))
   (aG (dZ 4 nd (i8 (qv 1))
    (aL (pZ (i:=3) (qv 4) (c8 (a8 aA (a8 (c8 aB) aB))))))
   (aG (bJ (i:=5) nd (dP aA (b5 (qv 2) aA)))
   (aG (bJ (i:=6) nd dO)
   (aG (E4 PassesOwn.never (uI (qv 6))
    (aG (bJ (i:=6) nd dO)
    (aL (dZ 7 nd (gD rfl B.range (cE B (a8 (qv 3) aB)))
     (aG (bJ (i:=4) nd (b5 (dP (fD (qv 7) (dP aA (fD (b5 (qv 2) aA) (uM B rfl (a8 aA (a8 (nW (cE B (a8 (qv 3) aB)) aA) aB)))))) (cN (qv 2) aA)) (cE B (a8 (qv 3) aB))))
     (aG (pY (i:=8) nd (N:=["other","told"]) (fr:=[none,some 3]) (i8 (bW d__law_near hr (a8 (qv 0) (a8 (qv 4) aB)))) (fun _ _ _ _=>(o4 (bF (qv 1) (qv 0)) eO)) (fun _ _ _ _=>(qv 0)))
     (aL (bL (gT (kQ (nZ (bF (qv 3) (qv 4)) eO) (kO (uH (cE B (a8 (qv 8) aB)) (bF (bF (qv 0) aA) (qv 4)))))) (aG (bJ (i:=9) nd (b5 (cN (qv 2) aA) (dP (cE B (a8 (qv 8) aB)) aA)))
      (aG (pZ (i:=3) (qv 4) (c8 (a8 (qv 5) (a8 (gU B (a8 (uL B (a8 (jI (aB5 (jI (qv 8) (jH (qv 9)) jG) (jI (qv 8) jG (jH (qv 9)))) jG (jH (bF (bF (qv 0) aA) (qv 4)))) aB)) aB)) aB))))
      (aG (bJ (i:=5) nd (dP (qv 5) aA))
      (aL (bJ (i:=6) nd dO))))) bK))))))))
   (aL (as2 3))))))),aO6⟩)
theorem W7:FnScope ["web","seeds","told","hearth","nears","there","rank","some","other"] ["web","seeds","told","hearth"] (aZ (bH 28)):=.au
theorem aR7 (B:Bt mg) (F:FM K mg "_law_cause_right" 28 f fd) (d__law_near:Df P w K mg base 1 "_law_near" ["web","hearth"] k8) (bs:mg "set" = none):Df P w K mg base 2 "_law_cause_right" ["web","seeds","told","hearth"] rJ:=
 Df.au F W7 (fun cdv A outer s H E hr=>by
  have nd:=W7.nd
  have hu3:=rQ hr
  exact⟨(T8),(aG (bJ (i:=4) nd (bW d__law_near hr (a8 (qv 0) (a8 (qv 3) aB))))
   (aG (bL (nZ (bF (qv 2) (qv 3)) eO) (aG (pY (i:=5) nd (N:=["other","told"]) (fr:=[none,some 2]) (i8 (qv 4)) (fun _ _ _ _=>(o4 (bF (qv 1) (qv 0)) eO)) (fun _ _ _ _=>(qv 0)))
    (aL (bG (jE (as6 (qv 3) (qv 1)) (jZ (pV (cE B (a8 (qv 5) aB)) (bF (bF (qv 0) aA) (qv 3)))))))) bK)
   (aG (O5 6 7 nd (bF (qv 2) (qv 3)))
   (aG (bL (F3 (qv 3) (qv 1)) (aL (bG (pX hu3 (c8 (a8 (qv 6) (a8 (qv 7) aB))) (c8 (a8 aA (a8 (c8 aB) aB)))))) bK)
   (aG (bL (gT (jY (nX (qv 6) aA) (jY (kM (cE B (a8 (qv 7) aB)) (bF (bF (qv 0) aA) (qv 3))) (o7 (F7 hu3 (uK B (a8 (qv 7) aB)) (aJ9 B bs rfl (a8 (qv 7) aB))))))) (aL (bG dO)) bK)
   (aG (dZ 8 nd (i8 (qv 7))
    (aL (bL (gT (jY (F4 (qv 8) (qv 4)) (jY (nZ (bF (qv 2) (qv 8)) eO) (o7 (uH (bF (bF (qv 2) (qv 8)) aA) (qv 6)))))) (aL (bG dO)) bK)))
   (aL (bG dO)))))))),aN9⟩)
theorem W8:FnScope ["web","seeds","burning","going","ahead","hearth","there"] ["web","seeds"] (aZ (bH 30)):=.au
theorem aR8 (B:Bt mg) (F:FM K mg "_law_burnt" 30 f fd) (d__law_near:Df P w K mg base 1 "_law_near" ["web","hearth"] k8):Df P w K mg base 2 "_law_burnt" ["web","seeds"] rL:=
 Df.au F W8 (fun cdv A outer s H E hr=>by
  have nd:=W8.nd
  exact⟨(U0),(aG (fP (i:=2) nd (uK B (a8 (qv 1) aB)))
   (aG (bJ (i:=3) nd dO)
   (aG (E4 PassesOwn.never (uI (qv 3))
    (aG (fP (i:=4) nd (dG aB))
    (aG (dZ 5 nd (gD rfl B.range (cE B (a8 (bF (qv 0) aA) aB)))
     (aG (pY (i:=6) nd (N:=["other","burning"]) (fr:=[none,some 2]) (i8 (bW d__law_near hr (a8 (qv 0) (a8 (qv 5) aB)))) (fun _ _ _ _=>(F3 (qv 0) (qv 1))) (fun _ _ _ _=>(qv 0)))
     (aL (bL (gT (kQ (F4 (qv 5) (qv 2)) (kO (uH (cE B (a8 (qv 6) aB)) (bF (bF (qv 0) aA) (qv 5)))))) (aL (iP 4 (qv 5))) bK))))
    (aG (at9 2 (qv 4))
    (aL (bJ (i:=3) nd (ar7 (cE B (a8 (qv 4) aB)) aA)))))))
   (aL (bG (uL B (a8 (qv 2) aB))))))),aO3⟩)
theorem aR9:FnScope ["web","numbers"] ["web","numbers"] (aZ (bH 9)):=.au
theorem aS0 (B:Bt mg) (F:FM K mg "is_set" 9 f fd) (d_rises:Df P w K mg base 1 "rises" ["things"] o8) (d_is_hearth:Df P w K mg base 2 "is_hearth" ["web","number"] qE):Df P w K mg base 3 "is_set" ["web","numbers"] qF:=
 Df.au F aR9 (fun cdv A outer s H E hr=>by
  exact⟨(J3),(aL (bG (jE (bW d_rises hr (a8 (qv 1) aB)) (jZ (E7 B rfl (a8 (F8 (N:=["number","web"]) (fr:=[none,some 0]) (i8 (qv 1)) (fun _ _ _ _=>(bW d_is_hearth hr (a8 (qv 1) (a8 (qv 0) aB))))) aB)))))),aw1⟩)
theorem W9:FnScope ["script","at","head","many"] ["script","at"] (aZ (bH 24)):=.au
theorem aS1 (B:Bt mg) (F:FM K mg "_law_web_by" 24 f fd) (d__law_cell_at:Df P w K mg base 1 "_law_cell_at" ["script","k"] eR) (d__law_web:Df P w K mg base 2 "_law_web" ["flow","many","way"] oC):Df P w K mg base 3 "_law_web_by" ["script","at"] qO:=
 Df.au F W9 (fun cdv A outer s H E hr=>by
  have nd:=W9.nd
  exact⟨(M6),(aG (bJ (i:=2) nd (bW d__law_cell_at hr (a8 (qv 0) (a8 aA aB))))
   (aG (bJ (i:=3) nd (b5 (qv 2) aA))
   (aG (bL (eG (b5 (cN (qv 2) aA) aA) aA) (aL (bJ (i:=3) nd (b5 (cN (qv 2) aA) aA))) bK)
   (aL (bG (bW d__law_web hr (a8 (jI (qv 0) (jH (qv 1)) jG) (a8 (qv 3) (a8 (cN (qv 2) aA) aB))))))))),aA2⟩)
theorem X0:FnScope ["web","seeds","told","hearth"] ["web","seeds","told"] (aZ (bH 29)):=.au
theorem aS2 (B:Bt mg) (F:FM K mg "_law_right" 29 f fd) (d__law_cause_right:Df P w K mg base 2 "_law_cause_right" ["web","seeds","told","hearth"] rJ):Df P w K mg base 3 "_law_right" ["web","seeds","told"] rK:=
 Df.au F X0 (fun cdv A outer s H E hr=>by
  have nd:=X0.nd
  exact⟨(T9),(aG (bL (kM (cE B (a8 (qv 2) aB)) (cE B (a8 (bF (qv 0) aA) aB))) (aL (bG dO)) bK)
   (aG (dZ 3 nd (gD rfl B.range (cE B (a8 (qv 2) aB)))
    (aL (bL (kR (kN (bW d__law_cause_right hr (a8 (qv 0) (a8 (qv 1) (a8 (qv 2) (a8 (qv 3) aB))))))) (aL (bG dO)) bK)))
   (aL (bG dO)))),aO0⟩)
theorem aS3:FnScope ["web","hearths"] ["web","hearths"] (aZ (bH 10)):=.au
theorem aS4 (B:Bt mg) (F:FM K mg "made_set" 10 f fd) (d_is_set:Df P w K mg base 3 "is_set" ["web","numbers"] qF) (x_BadSet:Xc K mg base "BadSet"):gG P w K mg base 4 "made_set" ["web","hearths"] qW:=
 gG.au F aS3 P8 aG3 (fun cdv A outer s H E Ep hr hX=>by
  exact (aG (bL (kR (kN (bW d_is_set hr (a8 (qv 0) (a8 (qv 1) aB))))) (aL (vP hX x_BadSet (a8 uG aB))) bK)
   (aL (bG (gU B (a8 (qv 1) aB))))))
theorem X1:FnScope ["web","seeds","told","lit","around","hearth"] ["web","seeds","told"] (aZ (bH 13)):=.au
theorem aS5 (B:Bt mg) (F:FM K mg "judged_causes" 13 f fd) (d_made_set:gG P w K mg base 4 "made_set" ["web","hearths"] qW) (d_hearths_in:Df P w K mg base 1 "hearths_in" ["web"] kX) (d_near_lists:Df P w K mg base 1 "near_lists" ["web"] vA) (d_is_right_cause:Df P w K mg base 2 "is_right_cause" ["want","neighbours","told","is_seed","cause"] rE) (x_NoPaper:Xc K mg base "NoPaper"):gG P w K mg base 5 "judged_causes" ["web","seeds","told"] rF:=
 gG.au F X1 T5 aN5 (fun cdv A outer s H E Ep hr hX=>by
  have nd:=X1.nd
  exact (aG (bJ (i:=3) nd (aF4 hX d_made_set hr (a8 (qv 0) (a8 (qv 1) aB))))
   (aG (bL (kM (cE B (a8 (qv 2) aB)) (bW d_hearths_in hr (a8 (qv 0) aB))) (aL (vP hX x_NoPaper (a8 uG aB))) bK)
   (aG (bJ (i:=4) nd (bW d_near_lists hr (a8 (qv 0) aB)))
   (aG (dZ 5 (hp:=hX.own) nd (gD rfl B.range (bW d_hearths_in hr (a8 (qv 0) aB)))
    (aL (bL (kR (kN (bW d_is_right_cause hr (a8 (bF (bF (qv 0) aA) (qv 5)) (a8 (bF (qv 4) (qv 5)) (a8 (qv 2) (a8 (F1 (qv 5) (qv 3)) (a8 (bF (qv 2) (qv 5)) aB)))))))) (aL (vP hX x_NoPaper (a8 uG aB))) bK)))
   (aL (bG (gU B (a8 (aD4 (N:=["hearth","cause"]) (fr:=[none,none]) (aD2 rfl B.enum (qv 2)) (fun _ _ _ _=>(o4 (qv 1) eO)) (fun _ _ _ _=>(qv 0))) aB)))))))))
theorem X2:FnScope ["web","seeds","told","handed","found","signs","e","whole"] ["web","seeds","told"] (aZ (bH 31)):=.au
theorem aS6 (B:Bt mg) (F:FM K mg "_law_judged_good" 31 f fd) (d_judged_causes:gG P w K mg base 5 "judged_causes" ["web","seeds","told"] rF) (d__law_right:Df P w K mg base 3 "_law_right" ["web","seeds","told"] rK) (d__law_row_is:Df P w K mg base 2 "_law_row_is" ["found","due"] qK) (d__law_burnt:Df P w K mg base 2 "_law_burnt" ["web","seeds"] rL) (cat_HearthError:vR K mg "HearthError") (is_BadSet:oG K mg "BadSet") (is_NoPaper:oG K mg "NoPaper") (is_ValueError:vT K mg):Df P w K mg base 6 "_law_judged_good" ["web","seeds","told"] oK:=
 Df.au F X2 (fun cdv A outer s H E hr=>by
  have nd:=X2.nd
  have hu3:=rQ hr
  exact⟨(U7),(aG (bJ (i:=3) nd (uK B (a8 (qv 2) aB)))
   (aG (bJ (i:=4) nd eO)
   (aG (bJ (i:=5) nd (dG aB))
   (aG (aF7 6 cat_HearthError nd (aK4 4 d_judged_causes hr nd (fun _=>(a8 (qv 0) (a8 (qv 1) (a8 (qv 3) aB))))) (fun _=>(aL (bJ (i:=5) nd (dG (a8 (O9 B is_NoPaper (qv 6)) (a8 (aG1 B is_ValueError (qv 6)) (a8 (O9 B is_BadSet (qv 6)) aB))))))))
   (aG (bL (F7 hu3 (qv 3) (qv 2)) (aL (bG dO)) bK)
   (aG (bL (kR (kN (bW d__law_right hr (a8 (qv 0) (a8 (qv 1) (a8 (qv 2) aB)))))) (aL (bG (pX hu3 (qv 5) (dG (a8 dO (a8 dO (a8 dO aB))))))) bK)
   (aG (pY (i:=7) nd (N:=["hearth","told"]) (fr:=[none,some 2]) (gD rfl B.range (cE B (a8 (qv 2) aB))) (fun _ _ _ _=>(o4 (bF (qv 1) (qv 0)) eO)) (fun _ _ _ _=>(qv 0)))
   (aL (bG (jE (pX hu3 (qv 5) (dG aB)) (jE (bW d__law_row_is hr (a8 (qv 4) (a8 (qv 7) aB))) (jZ (pX hu3 (qv 7) (bW d__law_burnt hr (a8 (qv 0) (a8 (qv 1) aB)))))))))))))))),aP2⟩)
theorem X3:FnScope ["script","web","many","seeds","cell","told","turn","mixed","spot","bare","hearth"] ["script"] (aZ (bH 32)):=.au
theorem aS7 (B:Bt mg) (F:eW K "law" "law" (bH 32) f fd) (d__law_web_by:Df P w K mg base 3 "_law_web_by" ["script","at"] qO) (d__law_seeds_by:Df P w K mg base 2 "_law_seeds_by" ["script","at","many"] qP) (d__law_cell_at:Df P w K mg base 1 "_law_cell_at" ["script","k"] eR) (d__law_made:Df P w K mg base 2 "_law_made" ["web","seeds","cell"] rO) (d__law_other:Df P w K mg base 1 "_law_other" ["cause","many","cell"] rP) (d__law_judged_good:Df P w K mg base 6 "_law_judged_good" ["web","seeds","told"] oK):cU P w K mg base dW 7 f fd ["script"] (nR K wI):=
 aA6 F X3 (fun xs Q h=>by unfold wI at h; repeat (first | (obtain ⟨rfl,_⟩:=h; rfl) | (obtain ⟨_,h⟩:=h))) (fun cdv A outer s H E hr=>by
  have nd:=X3.nd
  have hu3:=rQ hr
  exact⟨(V0),(aG (bJ (i:=1) nd (bW d__law_web_by hr (a8 (qv 0) (a8 aA aB))))
   (aG (bL (at4 hu3 (bF (qv 1) aA) (c8 aB)) (aL (bJ (i:=1) nd (c8 (a8 (c8 (a8 aA aB)) (a8 (c8 aB) aB))))) bK)
   (aG (bJ (i:=2) nd (cE B (a8 (bF (qv 1) aA) aB)))
   (aG (bJ (i:=3) nd (bW d__law_seeds_by hr (a8 (qv 0) (a8 aA (a8 (qv 2) aB)))))
   (aG (bJ (i:=4) nd (b5 (bW d__law_cell_at hr (a8 (qv 0) (a8 aA aB))) (E3 aA aA)))
   (aG (fP (i:=5) nd (bW d__law_made hr (a8 (qv 1) (a8 (qv 3) (a8 (cN (qv 4) aA) aB)))))
   (aG (dZ 6 nd (gD rfl B.range (b5 (qv 4) aA))
    (aG (bJ (i:=7) nd (b5 (fD (dP (dP (b5 (qv 4) aA) (fD (fD aA (qv 6)) (qv 6))) aA) aA) aA))
    (aG (bJ (i:=7) nd (cN (b5 (fD (qv 7) (qv 7)) aA) aA))
    (aG (bJ (i:=8) nd (b5 (cN (qv 7) aA) (cE B (a8 (qv 5) aB))))
    (aG (pZ (i:=5) (qv 8) (bW d__law_other hr (a8 (bF (qv 5) (qv 8)) (a8 (qv 2) (a8 (cN (qv 7) aA) aB)))))
    (aG (bL (gT (kQ (eG (b5 (qv 7) aA) aA) (kO (nY (cE B (a8 (qv 5) aB)) aA)))) (aL (aG9 5 (qv 8))) bK)
    (aL (bL (eG (b5 (qv 7) aA) aA) (aL (iP 5 (bF (dG (a8 eO (a8 (c8 (a8 aA (a8 (c8 aB) aB))) aB))) (b5 (cN (qv 7) aA) aA)))) bK))))))))
   (aG (fP (i:=9) nd (N8 (dG (a8 eO aB)) (qv 2)))
   (aG (dZ 10 nd (i8 (qv 3))
    (aL (pZ (i:=9) (qv 10) (c8 (a8 aA (a8 (c8 aB) aB))))))
   (aL (bG (jE (bW d__law_judged_good hr (a8 (qv 1) (a8 (qv 3) (a8 (qv 5) aB)))) (jZ (bW d__law_judged_good hr (a8 (qv 1) (a8 (qv 3) (a8 (qv 9) aB))))))))))))))))),aP5⟩)
end
set_option autoImplicit true in
theorem aS8 {l:OpenLaw}{w:World}{K:Frag}{h:Heap}{mg:Str->Option Value} (X:K.In h) (G:h.Ns mainGlobals mg) (hfa:mg "law" = some (.ref fa))
  (h0:FK K "rises" 5 f0 d0)
  (h1:FK K "hearths_in" 6 f1 d1)
  (h2:FK K "near_lists" 7 f2 d2)
  (h3:FK K "is_earlier" 15 f3 d3)
  (h4:FK K "_law_cell_at" 17 f4 d4)
  (h5:FK K "_law_web_of_digits" 18 f5 d5)
  (h6:FK K "_law_path" 19 f6 d6)
  (h7:FK K "_law_whole_number" 21 f7 d7)
  (h8:FK K "_law_near" 23 f8 d8)
  (h9:FK K "_law_other" 27 f9 d9)
  (h10:FK K "is_hearth" 8 f10 d10)
  (h11:FK K "is_right_cause" 14 f11 d11)
  (h12:FK K "_law_web" 20 f12 d12)
  (h13:FK K "_law_row_is" 22 f13 d13)
  (h14:FK K "_law_seeds_by" 25 f14 d14)
  (h15:FK K "_law_made" 26 f15 d15)
  (h16:FK K "_law_cause_right" 28 f16 d16)
  (h17:FK K "_law_burnt" 30 f17 d17)
  (h18:FK K "is_set" 9 f18 d18)
  (h19:FK K "_law_web_by" 24 f19 d19)
  (h20:FK K "_law_right" 29 f20 d20)
  (h21:FK K "made_set" 10 f21 d21)
  (h22:FK K "judged_causes" 13 f22 d22)
  (h23:FK K "_law_judged_good" 31 f23 d23)
  (a24:nsIn K mainGlobals "law" = some (some (.ref f24))) (l24:K.lookup f24=some ⟨oc24,od24,.func (fnOf "law" "law" (j4 (bH 32)) (eI (bH 32)) (aZ (bH 32)) .none kV24 dc24 pm24 an24 cd24 ct24),sl24⟩) (c24:codeIn K cd24 "law" = true) (k24:keepIn K (.ref f24)=true)
  (z_len:nsIn K mainGlobals "len" = some none)
  (z_range:nsIn K mainGlobals "range" = some none)
  (z_tuple:nsIn K mainGlobals "tuple" = some none)
  (z_list:nsIn K mainGlobals "list" = some none)
  (z_sorted:nsIn K mainGlobals "sorted" = some none)
  (z_all:nsIn K mainGlobals "all" = some none)
  (z_any:nsIn K mainGlobals "any" = some none)
  (z_zip:nsIn K mainGlobals "zip" = some none)
  (z_min:nsIn K mainGlobals "min" = some none)
  (z_max:nsIn K mainGlobals "max" = some none)
  (z_sum:nsIn K mainGlobals "sum" = some none)
  (z_isinstance:nsIn K mainGlobals "isinstance" = some none)
  (z_int:nsIn K mainGlobals "int" = some none)
  (z_bool:nsIn K mainGlobals "bool" = some none)
  (z_enumerate:nsIn K mainGlobals "enumerate" = some none)
  (z_set:nsIn K mainGlobals "set" = some none)
  (z_reversed:nsIn K mainGlobals "reversed" = some none)
  {cA cB:Addr}{odA odB:Option Addr}{slA slB:Array (Option Value)}{nA nB tA:Nat} (zc:nsIn K mainGlobals "CAUSE_OF_SEED" = some (some (.ref cA))) (lcA:K.lookup cA=some ⟨.type "tuple",odA,.seq #[.int 0 tA,.ref cB] nA,slA⟩) (lcB:K.lookup cB=some ⟨.type "tuple",odB,.seq #[] nB,slB⟩)
  {C_HearthError C_BadSet C_NoPaper:Addr}
  (aX_HE:nsIn K mainGlobals "HearthError" = some (some (.ref C_HearthError)))
  (aX_BS:nsIn K mainGlobals "BadSet" = some (some (.ref C_BadSet)))
  (aX_NP:nsIn K mainGlobals "NoPaper" = some (some (.ref C_NoPaper)))
  (zX_BW:nsIn K mainGlobals "BadWeb" = some none)
  (zX_BO:nsIn K mainGlobals "BadOrder" = some none)
  (zX_BP:nsIn K mainGlobals "BadPrices" = some none)
  (zX_BB:nsIn K mainGlobals "BadBoard" = some none)
  (zX_BD:nsIn K mainGlobals "BadDeed" = some none)
  (zX_NW:nsIn K mainGlobals "NotWood" = some none)
  (zX_NS:nsIn K mainGlobals "NoSuch" = some none)
  (zX_TM:nsIn K mainGlobals "TooMany" = some none)
  (zX_NT:nsIn K mainGlobals "NoText" = some none)
  (zX_OR:nsIn K mainGlobals "OddRound" = some none)
  (y_fg:specialIn K (.builtin "object.__class__") "__get__" = some (some (.builtin "getset_descriptor.__get__")))
  (y_ft:takesIn K (.builtin "object.__class__")=some true)
  (z_VE:nsIn K mainGlobals "ValueError" = some none)
  (y1_HE:isClsIn K C_HearthError=true)
  (y2_HE:typeIn K (.ref C_HearthError)=some (.type "type"))
  (y3_HE:findIn K (.ref C_HearthError) "__getattribute__" = some (some (.builtin "BaseException.__getattribute__")))
  (y4_HE:findIn K (.ref C_HearthError) "__getattr__" = some none)
  (y5_HE:findIn K (.ref C_HearthError) "__class__" = some (some (.builtin "object.__class__")))
  (y6_HE:mroIn K C_HearthError (.type "object")=some true)
  (y7_HE:mroIn K C_HearthError (.type "BaseException")=some true)
  (y1_BS:isClsIn K C_BadSet=true)
  (y2_BS:typeIn K (.ref C_BadSet)=some (.type "type"))
  (y3_BS:findIn K (.ref C_BadSet) "__getattribute__" = some (some (.builtin "BaseException.__getattribute__")))
  (y4_BS:findIn K (.ref C_BadSet) "__getattr__" = some none)
  (y5_BS:findIn K (.ref C_BadSet) "__class__" = some (some (.builtin "object.__class__")))
  (y6_BS:mroIn K C_BadSet (.type "object")=some true)
  (y7_BS:mroIn K C_BadSet (.type "BaseException")=some true)
  (y1_NP:isClsIn K C_NoPaper=true)
  (y2_NP:typeIn K (.ref C_NoPaper)=some (.type "type"))
  (y3_NP:findIn K (.ref C_NoPaper) "__getattribute__" = some (some (.builtin "BaseException.__getattribute__")))
  (y4_NP:findIn K (.ref C_NoPaper) "__getattr__" = some none)
  (y5_NP:findIn K (.ref C_NoPaper) "__class__" = some (some (.builtin "object.__class__")))
  (y6_NP:mroIn K C_NoPaper (.type "object")=some true)
  (y7_NP:mroIn K C_NoPaper (.type "BaseException")=some true)
  (sB_HE:subIn K (.ref C_HearthError) (.type "BaseException")=some true)
  (s_BS_HE:subIn K (.ref C_BadSet) (.ref C_HearthError)=some true)
  (s_NP_HE:subIn K (.ref C_NoPaper) (.ref C_HearthError)=some true)
  (sN_BS:subIn K (.type "NoneType") (.ref C_BadSet)=some false)
  (s_NP_BS:subIn K (.ref C_NoPaper) (.ref C_BadSet)=some false)
  (n_NP_BS:(C_NoPaper == C_BadSet)=false)
  (sN_NP:subIn K (.type "NoneType") (.ref C_NoPaper)=some false)
  (s_BS_NP:subIn K (.ref C_BadSet) (.ref C_NoPaper)=some false)
  (n_BS_NP:(C_BadSet == C_NoPaper)=false)
  (sV_BS:subIn K (.ref C_BadSet) (.type "ValueError")=some true)
  (sV_NP:subIn K (.ref C_NoPaper) (.type "ValueError")=some true)
  (q_BS:excIn K C_BadSet [.type "ValueError",.type "Exception",.type "BaseException",.type "object"] "ValueError.__new__" = true)
  (q_NP:excIn K C_NoPaper [.type "ValueError",.type "Exception",.type "BaseException",.type "object"] "ValueError.__new__" = true)
  : ∃ fd:FuncData,(∀ (s:Shared) (v:Value),BindsTo s fd ⟨[v],[]⟩ [("script",v)])/\∀ base:Heap,K.In base->base.Ns mainGlobals mg->cU l.prog w K mg base dW 7 fa fd ["script"] (qQ K):=by
 have e:=hfa.symm.trans (mg_of X G a24)
 cases e
 have F24:=ai2 (st:=bH 32) l24 c24 k24
 have m24:=mg_of X G a24
 have B:Bt mg:=⟨mg_none_of X G z_len,mg_none_of X G z_range,mg_none_of X G z_tuple,mg_none_of X G z_list,mg_none_of X G z_sorted,mg_none_of X G z_all,mg_none_of X G z_any,mg_none_of X G z_zip,mg_none_of X G z_min,mg_none_of X G z_max,mg_none_of X G z_sum,mg_none_of X G z_isinstance,mg_none_of X G z_int,mg_none_of X G z_bool,mg_none_of X G z_enumerate⟩
 have bs:=mg_none_of X G z_set
 have rv:=mg_none_of X G z_reversed
 have cs:vL K mg:=⟨cA,cB,mg_of X G zc,⟨_,_,_,lcA,rfl,rfl,(by show 2<=sizeLine; decide),.cons ⟨_,rfl⟩ (.cons rfl .nil)⟩,⟨_,_,_,lcB,rfl,rfl,aX0 _,.nil⟩⟩
 refine⟨fnOf "law" "law" (j4 (bH 32)) (eI (bH 32)) (aZ (bH 32)) .none kV24 dc24 pm24 an24 cd24 ct24,fun s v=>.of_eq rfl,fun base KB _=>?_⟩
 have XK_HearthError:l9 K C_HearthError:=⟨y1_HE,y2_HE,y3_HE,y4_HE,y5_HE,y_fg,y_ft,y6_HE,y7_HE⟩
 have XK_BadSet:l9 K C_BadSet:=⟨y1_BS,y2_BS,y3_BS,y4_BS,y5_BS,y_fg,y_ft,y6_BS,y7_BS⟩
 have XK_NoPaper:l9 K C_NoPaper:=⟨y1_NP,y2_NP,y3_NP,y4_NP,y5_NP,y_fg,y_ft,y6_NP,y7_NP⟩
 have cat_HearthError:vR K mg "HearthError":=⟨C_HearthError,mg_of X G aX_HE,⟨y1_HE,y2_HE,sB_HE⟩,fun n C h2 h1=>by
  obtain ⟨hm,hb⟩:=qV h2
  simp only [mC,aU2,aV1,aY5] at hm
  rcases hm with rfl | rfl | rfl | rfl | rfl | rfl | rfl | rfl | rfl | rfl | rfl | rfl
  ·rw [zX_BW] at h1; cases h1
  ·rw [aX_BS] at h1; cases h1; exact s_BS_HE
  ·rw [zX_BO] at h1; cases h1
  ·rw [zX_BP] at h1; cases h1
  ·rw [zX_BB] at h1; cases h1
  ·rw [zX_BD] at h1; cases h1
  ·rw [zX_NW] at h1; cases h1
  ·rw [aX_NP] at h1; cases h1; exact s_NP_HE
  ·rw [zX_NS] at h1; cases h1
  ·rw [zX_TM] at h1; cases h1
  ·rw [zX_NT] at h1; cases h1
  ·rw [zX_OR] at h1; cases h1⟩
 have is_BadSet:oG K mg "BadSet":=⟨C_BadSet,mg_of X G aX_BS,fun z=>(by cases z),(fun n C b h1 h2=>by
  obtain ⟨hm,hb⟩:=qV h2
  simp only [mC,aU2,aV1,aY5] at hm
  rcases hm with rfl | rfl | rfl | rfl | rfl | rfl | rfl | rfl | rfl | rfl | rfl | rfl
  ·rw [zX_BW] at h1; cases h1
  ·rw [aX_BS] at h1; cases h1; rw [hb,show (("BadSet" : Str) == "BadSet" || ("BadSet" : Str) == "HearthError" || ("BadSet" : Str) == "ValueError")=true by decide]; exact⟨XK_BadSet.exc,P4⟩
  ·rw [zX_BO] at h1; cases h1
  ·rw [zX_BP] at h1; cases h1
  ·rw [zX_BB] at h1; cases h1
  ·rw [zX_BD] at h1; cases h1
  ·rw [zX_NW] at h1; cases h1
  ·rw [aX_NP] at h1; cases h1; rw [hb,show (("NoPaper" : Str) == "BadSet" || ("BadSet" : Str) == "HearthError" || ("BadSet" : Str) == "ValueError")=false by decide]; exact⟨XK_NoPaper.exc,P3 XK_BadSet n_NP_BS s_NP_BS⟩
  ·rw [zX_NS] at h1; cases h1
  ·rw [zX_TM] at h1; cases h1
  ·rw [zX_NT] at h1; cases h1
  ·rw [zX_OR] at h1; cases h1),P6 XK_BadSet sN_BS⟩
 have is_NoPaper:oG K mg "NoPaper":=⟨C_NoPaper,mg_of X G aX_NP,fun z=>(by cases z),(fun n C b h1 h2=>by
  obtain ⟨hm,hb⟩:=qV h2
  simp only [mC,aU2,aV1,aY5] at hm
  rcases hm with rfl | rfl | rfl | rfl | rfl | rfl | rfl | rfl | rfl | rfl | rfl | rfl
  ·rw [zX_BW] at h1; cases h1
  ·rw [aX_BS] at h1; cases h1; rw [hb,show (("BadSet" : Str) == "NoPaper" || ("NoPaper" : Str) == "HearthError" || ("NoPaper" : Str) == "ValueError")=false by decide]; exact⟨XK_BadSet.exc,P3 XK_NoPaper n_BS_NP s_BS_NP⟩
  ·rw [zX_BO] at h1; cases h1
  ·rw [zX_BP] at h1; cases h1
  ·rw [zX_BB] at h1; cases h1
  ·rw [zX_BD] at h1; cases h1
  ·rw [zX_NW] at h1; cases h1
  ·rw [aX_NP] at h1; cases h1; rw [hb,show (("NoPaper" : Str) == "NoPaper" || ("NoPaper" : Str) == "HearthError" || ("NoPaper" : Str) == "ValueError")=true by decide]; exact⟨XK_NoPaper.exc,P4⟩
  ·rw [zX_NS] at h1; cases h1
  ·rw [zX_TM] at h1; cases h1
  ·rw [zX_NT] at h1; cases h1
  ·rw [zX_OR] at h1; cases h1),P6 XK_NoPaper sN_NP⟩
 have is_ValueError:vT K mg:=⟨mg_none_of X G z_VE,fun z=>(by cases z),(fun n C b h1 h2=>by
  obtain ⟨hm,hb⟩:=qV h2
  simp only [mC,aU2,aV1,aY5] at hm
  rcases hm with rfl | rfl | rfl | rfl | rfl | rfl | rfl | rfl | rfl | rfl | rfl | rfl
  ·rw [zX_BW] at h1; cases h1
  ·rw [aX_BS] at h1; cases h1; rw [hb,show (("BadSet" : Str) == "ValueError" || ("ValueError" : Str) == "HearthError" || ("ValueError" : Str) == "ValueError")=true by decide]; exact⟨XK_BadSet.exc,P5 sV_BS⟩
  ·rw [zX_BO] at h1; cases h1
  ·rw [zX_BP] at h1; cases h1
  ·rw [zX_BB] at h1; cases h1
  ·rw [zX_BD] at h1; cases h1
  ·rw [zX_NW] at h1; cases h1
  ·rw [aX_NP] at h1; cases h1; rw [hb,show (("NoPaper" : Str) == "ValueError" || ("ValueError" : Str) == "HearthError" || ("ValueError" : Str) == "ValueError")=true by decide]; exact⟨XK_NoPaper.exc,P5 sV_NP⟩
  ·rw [zX_NS] at h1; cases h1
  ·rw [zX_TM] at h1; cases h1
  ·rw [zX_NT] at h1; cases h1
  ·rw [zX_OR] at h1; cases h1),aG2⟩
 have x_BadSet:Xc K mg base "BadSet":=⟨C_BadSet,_,_,_,_,P0 KB (mg_of X G aX_BS) q_BS,PySem.F.excBase_ValueError,aX_BS⟩
 have x_NoPaper:Xc K mg base "NoPaper":=⟨C_NoPaper,_,_,_,_,P0 KB (mg_of X G aX_NP) q_NP,PySem.F.excBase_ValueError,aX_NP⟩
 have D0:=ay9 (aP6 (P:=l.prog) (w:=w) (base:=base) B h0.F) (h0.F.binds (ps:=["things"]) fun _ _ _ _ _ _ us hl=>by obtain ⟨_,rfl⟩:=mE hl; rfl) h0.F.kp (mg_of X G h0.a)
 have D1:=aP9 (P:=l.prog) (w:=w) (base:=base) B (h1.M X G)
 have D2:=az1 (aP7 (P:=l.prog) (w:=w) (mg:=mg) (base:=base) h2.F) (h2.F.binds (ps:=["web"]) fun _ _ _ _ _ _ us hl=>by obtain ⟨_,rfl⟩:=mE hl; rfl) h2.F.kp (mg_of X G h2.a)
 have D3:=aQ1 (P:=l.prog) (w:=w) (base:=base) B (h3.M X G)
 have D4:=aQ3 (P:=l.prog) (w:=w) (base:=base) B (h4.M X G)
 have D5:=aQ4 (P:=l.prog) (w:=w) (base:=base) B (h5.M X G)
 have D6:=aQ5 (P:=l.prog) (w:=w) (base:=base) B (h6.M X G)
 have D7:=aQ7 (P:=l.prog) (w:=w) (base:=base) B (h7.M X G)
 have D8:=aQ8 (P:=l.prog) (w:=w) (base:=base) B (h8.M X G)
 have D9:=aQ9 (P:=l.prog) (w:=w) (base:=base) B (h9.M X G)  rv
 have D10:=aR1 (P:=l.prog) (w:=w) (base:=base) B (h10.M X G) D1
 have D11:=aR2 (P:=l.prog) (w:=w) (base:=base) B (h11.M X G) D0 D3 cs
 have D12:=aR3 (P:=l.prog) (w:=w) (base:=base) B (h12.M X G) D6 D4 D5
 have D13:=aR4 (P:=l.prog) (w:=w) (base:=base) B (h13.M X G) D7
 have D14:=aR5 (P:=l.prog) (w:=w) (base:=base) B (h14.M X G) D4
 have D15:=aR6 (P:=l.prog) (w:=w) (base:=base) B (h15.M X G) D8
 have D16:=aR7 (P:=l.prog) (w:=w) (base:=base) B (h16.M X G) D8 bs
 have D17:=aR8 (P:=l.prog) (w:=w) (base:=base) B (h17.M X G) D8
 have D18:=aS0 (P:=l.prog) (w:=w) (base:=base) B (h18.M X G) D0 D10
 have D19:=aS1 (P:=l.prog) (w:=w) (base:=base) B (h19.M X G) D4 D12
 have D20:=aS2 (P:=l.prog) (w:=w) (base:=base) B (h20.M X G) D16
 have D21:=aS4 (P:=l.prog) (w:=w) (base:=base) B (h21.M X G) D18 x_BadSet
 have D22:=aS5 (P:=l.prog) (w:=w) (base:=base) B (h22.M X G) D21 D1 D2 D11 x_NoPaper
 have D23:=aS6 (P:=l.prog) (w:=w) (base:=base) B (h23.M X G) D22 D20 D13 D17 cat_HearthError is_BadSet is_NoPaper is_ValueError
 exact aA7 (aS7 B F24 D19 D14 D4 D15 D9 D23)
theorem aS9 {l:OpenLaw}{q:Program}{loose:List Str}{XP:(Str->Option Value)->Heap->Prop}{YP:World->Heap->Prop}{d:DefRec}{K:Params->Frag} (hn:l.most=some 63) (hdf:d.params.defaults = [])
  (hY:∀ (w:World) (h:Heap),YP w h->(K w.params).In h)
  (F:∀ (w:World) (mg:Str->Option Value) (fa:Addr) (h:Heap),(K w.params).In h->h.Ns mainGlobals mg->mg d.name=some (.ref fa)->
   ∃ fd:FuncData,(∀ (s:Shared) (u:Value),BindsTo s fd ⟨[u],[]⟩ [("script",u)])/\∀ base:Heap,(K w.params).In base->base.Ns mainGlobals mg->cU l.prog w (K w.params) mg base dW 7 fa fd ["script"] (qQ (K w.params))) :
  WalkO q loose XP YP l.row.toRowW d [] (fun f vs=>PySem.call f vs):=
 L2.ai0 (n:=63) (k:=7) (x:="script") (CX:=fun _=>dW) (sp:=fun w=>qQ (K w.params)) hn (by decide) hdf ⟨rfl,by decide,by decide⟩ hY F (fun _ _ a ns hl hO hS=>⟨a,ns,rfl,aA8 hO hS,hl,fun _=>rfl⟩) fun _ _ _ _ _ z=>z
end K_k16
open PySem PySem.W PyProof.Rows
theorem PySem.W.Fast.te13052408679150730464 : True := trivial
theorem PySem.W.Fast.te16555476440528808052 : True := trivial
theorem PySem.W.Fast.te5369427470323729400 : True := trivial
set_option maxRecDepth 100000 in
set_option maxHeartbeats 0 in
theorem PySem.Challenge.cw_kindleweb_k16_whole_causes_judged_holds : PySem.Challenge.rw_kindleweb_k16_whole_causes_judged.Holds := by
 w_on; o_law; k_head; (case hw => w_witness2)
 k_fill
 refine K_k16.aS9 (l := PySem.Challenge.rw_kindleweb_k16_whole_causes_judged) rfl rfl (fun w h Y => PySem.W.kIn_of Y) ?F
 case F =>
  intro w mg fa h KX G hmg
  refine' K_k16.aS8 KX G hmg ?h0 ?h1 ?h2 ?h3 ?h4 ?h5 ?h6 ?h7 ?h8 ?h9 ?h10 ?h11 ?h12 ?h13 ?h14 ?h15 ?h16 ?h17 ?h18 ?h19 ?h20 ?h21 ?h22 ?h23 ?a24 ?l24 ?c24 ?k24 ?z_len ?z_range ?z_tuple ?z_list ?z_sorted ?z_all ?z_any ?z_zip ?z_min ?z_max ?z_sum ?z_isinstance ?z_int ?z_bool ?z_enumerate ?z_set ?z_reversed ?zc ?lcA ?lcB ?aX_HE ?aX_BS ?aX_NP ?zX_BW ?zX_BO ?zX_BP ?zX_BB ?zX_BD ?zX_NW ?zX_NS ?zX_TM ?zX_NT ?zX_OR ?y_fg ?y_ft ?z_VE ?y1_HE ?y2_HE ?y3_HE ?y4_HE ?y5_HE ?y6_HE ?y7_HE ?y1_BS ?y2_BS ?y3_BS ?y4_BS ?y5_BS ?y6_BS ?y7_BS ?y1_NP ?y2_NP ?y3_NP ?y4_NP ?y5_NP ?y6_NP ?y7_NP ?sB_HE ?s_BS_HE ?s_NP_HE ?sN_BS ?s_NP_BS ?n_NP_BS ?sN_NP ?s_BS_NP ?n_BS_NP ?sV_BS ?sV_NP ?q_BS ?q_NP
  (case h0 | h1 | h2 | h3 | h4 | h5 | h6 | h7 | h8 | h9 | h10 | h11 | h12 | h13 | h14 | h15 | h16 | h17 | h18 | h19 | h20 | h21 | h22 | h23 => exact ⟨by k_is, ⟨⟨_, _, _, _, _, _, _, _, _, rfl, by k_is, by k_is⟩, by k_is⟩⟩)
  (case a24|l24|c24|k24|z_len|z_range|z_tuple|z_list|z_sorted|z_all|z_any|z_zip|z_min|z_max|z_sum|z_isinstance|z_int|z_bool|z_enumerate|z_set|z_reversed|zc|lcA|lcB|aX_HE|aX_BS|aX_NP|zX_BW|zX_BO|zX_BP|zX_BB|zX_BD|zX_NW|zX_NS|zX_TM|zX_NT|zX_OR|y_fg|y_ft|z_VE|y1_HE|y2_HE|y3_HE|y4_HE|y5_HE|y6_HE|y7_HE|y1_BS|y2_BS|y3_BS|y4_BS|y5_BS|y6_BS|y7_BS|y1_NP|y2_NP|y3_NP|y4_NP|y5_NP|y6_NP|y7_NP|sB_HE|s_BS_HE|s_NP_HE|sN_BS|s_NP_BS => k_is)
  (case n_NP_BS => decide)
  (case sN_NP|s_BS_NP => k_is)
  (case n_BS_NP => decide)
  (case sV_BS|sV_NP => k_is)
  (case q_BS|q_NP => k_exc)


