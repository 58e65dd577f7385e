import PyProof.Rows.All
import Wide.All
import OpenK.AllK
import Wide.FinOn
import Lean
import PyProof.EqAt
import PyProof.EqKinds
import PyProof.TupleCall
import PyProof.NeKinds
import PyProof.Draws
import PyProof.ZipIter
import PyProof.DictUpdate
import PyProof.AutoSeq1
import PyProof.ListRange
import PyProof.ListMulRoad
import PyProof.FactsAll.tuple_2
import PyProof.Rows.SortShell
import PyProof.EnumFor
import PyProof.EnumMake
import PyProof.EnumStmt
import PyProof.Rows.SortWalk
import KE.KDictList
import PyProof.SumAny
import PyProof.ConsumeWalk
import PyProof.WalksMore
import PyProof.Rows.TupAssign
import PyProof.ExcArgsOwn
import PySem.Challenge.RW_kindleweb_k79_whole_colours
set_option Elab.async false
set_option linter.all false
set_option maxRecDepth 100000
set_option maxHeartbeats 4000000
section
open PySem PySem.Spec PyProof.Rows
noncomputable def aK1:=@wpAny_bind
noncomputable def aK2:=@List.getElem?_eq_getElem
noncomputable def aK3:=@List.size_toArray
noncomputable def aK4:=@Nat.le_refl
noncomputable def aK5:=@Heap.get?_push_of_some
noncomputable def aK6:=@wpAny_pure
noncomputable def aK7:=@List.mem_singleton
noncomputable def aK8:=@List.getD_eq_getElem?_getD
noncomputable def aK9:=@wpS_bind
noncomputable def aL0:=@decide_eq_false
noncomputable def aL1:=@List.length_append
noncomputable def aL2:=@decide_eq_true
noncomputable def aL3:=@Nat.lt_of_lt_of_le
noncomputable def aL4:=@List.length_map
noncomputable def aL5:=@List.mem_cons_of_mem
noncomputable def aL6:=@Bool.false_ne_true
noncomputable def aL7:=@wpS_pure
noncomputable def aL8:=@List.getElem?_eq_some_iff
noncomputable def aL9:=@List.getElem?_map
noncomputable def aM1:=@List.mem_append_right
noncomputable def aM2:=@List.mem_cons_self
noncomputable def aM3:=@Heap.get?_push_size
noncomputable def aM4:=@List.mem_cons
noncomputable def aM5:=@Heap.lt_size
noncomputable def aM6:=@List.mem_append
noncomputable def aM7:=@List.append_assoc
noncomputable def aN0:=@List.getElem?_set_ne
noncomputable def aN1:=@Bool.false_eq_true
noncomputable def aN2:=@List.length_singleton
noncomputable def aN4:=@Option.some.inj
noncomputable def aN5:=@List.mem_append_left
noncomputable def aN7:=@Array.length_toList
noncomputable def aN8:=@Nat.ne_of_lt
noncomputable def aN9:=@List.take_append_drop
noncomputable def aO0:=@List.take_of_length_le
noncomputable def aO1:=@Nat.zero_le
noncomputable def aO2:=@List.pairwise_iff_getElem
noncomputable def aO3:=@decide_eq_true_eq
noncomputable def aO4:=@Nat.lt_or_ge
noncomputable def aO5:=@Bool.and_eq_true
noncomputable def aO7:=@Array.getElem_mem
noncomputable def aO8:=@List.mem_map
noncomputable def aO9:=@Array.getElem?_toList
noncomputable def aP0:=@List.mem_filter
noncomputable def aP1:=@PySem.mem_of_lookup
noncomputable def aP2:=@Nat.le_trans
noncomputable def aP3:=@List.mem_of_getElem?
noncomputable def aP4:=@List.map_cons
noncomputable def aP5:=@List.pairwise_append
noncomputable def aP6:=@List.length_cons
noncomputable def aP7:=@wpAny_newObj_type
noncomputable def aP8:=@wpAny_mono
noncomputable def aP9:=@List.getElem?_cons_succ
noncomputable def aQ0:=@List.mem_singleton_self
noncomputable def aQ1:=@PySem.W.kia_one
noncomputable def aQ2:=@List.append_nil
noncomputable def aQ3:=@List.length_set
noncomputable def aQ4:=@List.lookup_cons
noncomputable def aQ5:=@List.getElem?_set_self
noncomputable def aQ6:=@List.take_add_one
noncomputable def aQ7:=@List.getElem_of_mem
noncomputable def aQ8:=@Array.toList_append
noncomputable def aR1:=@List.length_take
noncomputable def aR2:=@beq_self_eq_true
noncomputable def aR3:=@List.pairwise_singleton
noncomputable def aR5:=@wpAny_holding
noncomputable def aR6:=@Int.toNat_natCast
noncomputable def aR7:=@if_false
noncomputable def aR8:=@wpS_forRange
noncomputable def aS0:=@List.map_append
noncomputable def aS1:=@Nat.lt_irrefl
noncomputable def aS2:=@List.getElem?_take_of_lt
noncomputable def aS3:=@List.length_drop
noncomputable def aS5:=@List.replicate_succ
noncomputable def aS6:=@Heap.get?_update_self
noncomputable def aS9:=@List.nodup_cons
noncomputable def aT0:=@wpAny_call_entry
noncomputable def aT1:=@List.all_eq_true
noncomputable def aT2:=@List.length_pos_iff
noncomputable def aT3:=@of_decide_eq_true
noncomputable def aT5:=@List.find?_cons
noncomputable def aT7:=@List.getElem_mem
noncomputable def aT8:=@decide_eq_false_iff_not
noncomputable def aT9:=@List.not_mem_nil
noncomputable def aU1:=@PyProof.Rows.callWith_type1
noncomputable def aU5:=@Nat.le_of_lt
noncomputable def aU7:=@Heap.get?_update_other
noncomputable def aU9:=@List.pairwise_map
noncomputable def aV0:=@Bool.eq_iff_iff
noncomputable def aV1:=@PyProof.Rows.slot_tuple_getitem
noncomputable def aV2:=@List.getElem?_append_left
noncomputable def aV3:=@List.perm_append_comm
noncomputable def aV4:=@builtinLookup_eq_fast
noncomputable def aV9:=@List.getElem?_of_mem
noncomputable def aW0:=@wpAny_callSpecial?_slot
noncomputable def aW1:=@List.flatten_cons
noncomputable def aW2:=@PySem.F.plainAttrs_list
noncomputable def aW3:=@beq_eq_false_iff_ne
noncomputable def aW4:=@Heap.SameBut.update
noncomputable def aW6:=@List.head?_eq_getElem?
noncomputable def aW7:=@Nat.le_of_not_lt
noncomputable def aW8:=@List.take_length
noncomputable def aW9:=@List.filter_cons
noncomputable def aX3:=@wpAny_Call_Name_kw
noncomputable def aX4:=@List.getElem?_append_right
noncomputable def aX5:=@Obj.data_mapFields
noncomputable def aX6:=@wpAny_rule
noncomputable def aX7:=@Nat.eq_or_lt_of_le
noncomputable def aX8:=@isSubtype_type
noncomputable def aX9:=@Int.emod_lt_of_pos
noncomputable def aY1:=@List.getElem?_eq_none
noncomputable def aY2:=@wpAny_execs_nil
noncomputable def aY3:=@wpAny_passesOwn
noncomputable def aY4:=@Int.emod_nonneg
noncomputable def aY6:=@wpAny_truthy_bool
noncomputable def aY7:=@Nat.ne_of_gt
noncomputable def aY8:=@wpAny_field
noncomputable def aY9:=@Int.le_refl
noncomputable def aZ0:=@wpS_mono
noncomputable def aZ1:=@List.mem_of_mem_take
noncomputable def aZ6:=@List.drop_take
noncomputable def aZ7:=@wpAny_of_eq
noncomputable def aZ8:=@True.intro
end
namespace L2
open PySem PySem.Spec PyProof.Rows
noncomputable abbrev a7:=Sum Int Str
noncomputable def jQ:a7->Value->Bool
 | .inl k,v=>Value.isInt k v
 | .inr x,v=>Value.isStrOf x v
noncomputable def P3 (w:World):a7->Int
 | .inl k=>hashInt k
 | .inr x=>hashStr w x
theorem g6:∀ {k:a7}{v:Value},jQ k v=true->(∃ i t,k=Sum.inl i/\v=Value.int i t) ∨ (∃ x t,k=Sum.inr x/\v=Value.str x t)
 | .inl i,v,h=>by
  obtain ⟨t,e⟩:=Value.isInt_shape (k:=i) (v:=v) h
  exact .inl ⟨i,t,rfl,e⟩
 | .inr x,v,h=>by
  obtain ⟨t,e⟩:=Value.isStrOf_shape (x:=x) (v:=v) h
  exact .inr ⟨x,t,rfl,e⟩
theorem P4 (i:Int) (t:Tok):jQ (.inl i) (.int i t)=true:=by simp [jQ,Value.isInt]
theorem P5 (x:Str) (t:Tok):jQ (.inr x) (.str x t)=true:=by simp [jQ,Value.isStrOf]
theorem P6 (a b:Int):decide ((Sum.inl a:a7)=Sum.inl b)=(a == b):=by
 by_cases e:a=b
 ·subst e; simp
 ·have h : ¬ (Sum.inl a:a7)=Sum.inl b:=fun q=>e (Sum.inl.inj q)
  rw [aL0 h]
  exact (aW3.mpr e).symm
theorem P7 (a b:Str):decide ((Sum.inr a:a7)=Sum.inr b)=decide (a=b):=by
 by_cases e:a=b
 ·subst e; simp
 ·have h : ¬ (Sum.inr a:a7)=Sum.inr b:=fun q=>e (Sum.inr.inj q)
  rw [aL0 h,aL0 e]
theorem P8 (a:Int) (b:Str):decide ((Sum.inl a:a7)=Sum.inr b)=false:=aL0 (fun q=>nomatch q)
theorem P9 (a:Str) (b:Int):decide ((Sum.inr a:a7)=Sum.inl b)=false:=aL0 (fun q=>nomatch q)
noncomputable def dN (prog:Program) (w:World):PySem.KeyKind prog w a7 where
 is:=jQ
 hash:=P3 w
 inj:=fun v a b ha hb=>by
  rcases g6 ha with ⟨i,t,rfl,rfl⟩ | ⟨x,t,rfl,rfl⟩
  ·rcases g6 hb with ⟨j,u,rfl,e⟩ | ⟨y,u,rfl,e⟩
   ·injection e with e1 _; rw [e1]
   ·exact nomatch e
  ·rcases g6 hb with ⟨j,u,rfl,e⟩ | ⟨y,u,rfl,e⟩
   ·exact nomatch e
   ·injection e with e1 _; rw [e1]
 byValue:=fun k v h=>by
  rcases g6 h with ⟨i,t,rfl,rfl⟩ | ⟨x,t,rfl,rfl⟩ <;> rfl
 pyHash:=fun hv h=>by
  rcases g6 hv with ⟨i,t,rfl,rfl⟩ | ⟨x,t,rfl,rfl⟩
  ·exact wpAny_pyHash_int h
  ·exact wpAny_pyHash_str h
 eqBool:=fun hu hv h=>by
  rcases g6 hu with ⟨i,t,rfl,rfl⟩ | ⟨x,t,rfl,rfl⟩
  ·rcases g6 hv with ⟨j,u,rfl,rfl⟩ | ⟨y,u,rfl,rfl⟩
   ·rw [P6] at h; exact wpAny_eqBool_int h
   ·rw [P8] at h; exact SeqAt.EqAt.int_str i t y u _ _ _ _ h
  ·rcases g6 hv with ⟨j,u,rfl,rfl⟩ | ⟨y,u,rfl,rfl⟩
   ·rw [P9] at h; exact SeqAt.EqAt.str_int x t j u _ _ _ _ h
   ·rw [P7] at h; exact wpAny_eqBool_str h
 «strs»:=fun k x t v h=>by
  rcases g6 h with ⟨i,u,rfl,e⟩ | ⟨y,u,rfl,e⟩
  ·exact nomatch e
  ·injection e with e1 _
   subst e1
   cases v <;> rfl
theorem Q0 (prog:Program) (w:World) (i:Int) (t:Tok):(dN prog w).is (.inl i) (.int i t)=true:=P4 i t
theorem Q2 (prog:Program) (w:World) (x:Str) (t:Tok):(dN prog w).is (.inr x) (.str x t)=true:=P5 x t
inductive V where
 | non | bl (b:Bool) | int (i:Int) | str (x:Str) | byt (b:Array UInt8) | flt (b:UInt64) | ref (a:Addr) | ty (n:String)
 deriving DecidableEq
noncomputable def aF:V->Value->Prop
 | .non,u=>u=Value.none
 | .bl b,u=>u=Value.bool b
 | .int i,u=>∃ t,u=Value.int i t
 | .str x,u=>∃ t,u=Value.str x t
 | .byt b,u=>∃ t,u=Value.bytes b t
 | .flt b,u=>∃ t,u=Value.float b t
 | .ref a,u=>u=Value.ref a
 | .ty n,u=>u=Value.type n
noncomputable abbrev aB:List V->List Value->Prop:=Paired aF
theorem aB.length {xs:List V}{us:List Value} (r:aB xs us):xs.length=us.length:=Paired.length r
theorem aB.get:∀ {xs:List V}{us:List Value}{i:Nat}{x:V},aB xs us->xs[i]? = some x->∃ u,us[i]? = some u/\aF x u
 | _,_,_,_,.nil,e=>by simp at e
 | _,_,0,_,.cons r _,e=>by simp at e; subst e; exact⟨_,rfl,r⟩
 | _,_,i+1,x,.cons _ t,e=>by
  obtain ⟨u,h1,h2⟩:=aB.get (i:=i) (x:=x) t (by simpa using e)
  exact⟨u,by simpa using h1,h2⟩
theorem aB.set {x:V}{u:Value} (r:aF x u):∀ {xs:List V}{us:List Value} (i:Nat),aB xs us->aB (xs.set i x) (us.set i u)
 | _,_,_,.nil=>.nil
 | _,_,0,.cons _ t=>.cons r t
 | _,_,i+1,.cons q t=>.cons q (aB.set r i t)
theorem aB.append:∀ {xs ys:List V}{us ws:List Value},aB xs us->aB ys ws->aB (xs ++ ys) (us ++ ws)
 | _,_,_,_,.nil,s=>s
 | _,_,_,_,.cons r t,s=>.cons r (aB.append t s)
theorem aB.take:∀ {xs:List V}{us:List Value} (n:Nat),aB xs us->aB (xs.take n) (us.take n)
 | _,_,0,_=>.nil
 | _,_,_+1,.nil=>.nil
 | _,_,n+1,.cons r t=>.cons r (aB.take n t)
theorem aB.drop:∀ {xs:List V}{us:List Value} (n:Nat),aB xs us->aB (xs.drop n) (us.drop n)
 | _,_,0,r=>r
 | _,_,_+1,.nil=>.nil
 | _,_,n+1,.cons _ t=>aB.drop n t
noncomputable def fG:Option V->Option Value->Prop
 | some v,some u=>aF v u
 | none,none=>True
 | _,_=>False
noncomputable def KV {κ:Type}:List (κ × V)->List (κ × Value)->Prop:=Paired fun (p:κ × V) (q:κ × Value)=>p.1=q.1/\aF p.2 q.2
noncomputable def kV:a7->V
 | .inl i=>.int i
 | .inr x=>.str x
inductive HO where
 | lst (xs:List V)
 | tup (xs:List V)
 | dK (kvs:List (a7 × V)) | dT (kvs:List (List a7 × V))
 | set (S:Int->Bool) (n:Nat)
 | ins (C dx:Addr) (fs:List (Str × V))
 | own (x:Addr)
 | xd (fs:List (Str × V))
 | met (f x:Addr)
 | rng (lo hi:Int)
 | frz (o:Obj) (u:HO)
 | tbl (ps:Array Value)
 | ext (φ:Heap->Prop)
noncomputable abbrev Hp:=Addr->Option HO
noncomputable def upd (H:Hp) (a:Addr) (o:HO):Hp:=fun b=>if b=a then some o else H b
theorem bK {H:Hp}{a:Addr}{o:HO}:upd H a o a=some o:=by unfold upd; rw [if_pos rfl]
theorem aU {H:Hp}{a b:Addr}{o:HO} (h:b ≠ a):upd H a o b=H b:=by unfold upd; rw [if_neg h]
theorem uT {H:Hp}{a b:Addr}{o u:HO} (h:H a=some o) (h':H b=some u) (d:o ≠ u):a ≠ b:=by
 intro e; subst e; rw [h] at h'; exact d (aN4 h')
theorem g7 {H:Hp}{a b:Addr}{o:HO} (h:H a=some o) (h':H b=none):a ≠ b:=by
 intro e; subst e; rw [h] at h'; cases h'
noncomputable def fH (h:Heap) (a:Addr):Prop:=∀ o,h.get? a=some o->o.dict=none
theorem fH.new (h:Heap) (o:Obj) (d:o.dict=none) (s:o.isFreed=false:=by rfl):fH (h.push o) h.objs.size:=fun u e=>by
 rw [aM3 h (o:=o) s] at e
 cases e; exact d
theorem fH.stay {h h':Heap}{a:Addr}{o:Obj} (n:fH h a) (e:h.get? a=some o) (e':h'.get? a=some o):fH h' a:=fun u hu=>by
 rw [e'] at hu; cases hu; exact n _ e
section
variable (P : Program) (w : World)
noncomputable def bA (H:Hp) (h:Heap) (a:Addr):HO->Prop
 | .lst xs=>xs.length<=sizeLine/\∃ (its:List Value) (n:Nat),aB xs its/\h.get? a=some { cls:=.type "list",data:=.seq its.toArray n }
 | .tup xs=>xs.length<=sizeLine/\∃ its:List Value,aB xs its/\IsTup h a its.toArray/\fH h a
 | .dK kvs=>kvs.length<=sizeLine/\(a == sysModules)=false/\∃ vs,KV kvs vs/\h.DictOf (dN P w) a vs
 | .dT kvs=>kvs.length<=sizeLine/\(a == sysModules)=false/\∃ xs:List (List a7 × Addr × Value),
   Paired (fun (p:List a7 × V) (q:List a7 × Addr × Value)=>p.1=q.1/\H q.2.1=some (.tup (p.1.map kV))/\aF p.2 q.2.2) kvs xs/\
   ∃ o es ep,h.get? a=some o/\o.ExactDict/\o.data = .dict es ep/\es.toList=xs.map (entryOfKey (tupleKind (dN P w)))/\(xs.map (·.1)).Nodup
 | .set S n=>h.SetOf (intKind P w) a S n
 | .ins C dx fs=>H dx=some (.own a)/\fs.length<=1000/\dx ≠ a/\h.get? a=some (PySem.W.instObj C dx)/\
   ∃ mA,h.Ns1 dx mA/\(∀ f,fG (fs.lookup f) (mA f))/\PySem.Within mA (fs.map (·.1))
 | .own _=>∃ o,h.get? a=some o
 | .xd fs=>∃ mA,h.Ns1 a mA/\∀ f,fG (fs.lookup f) (mA f)
 | .rng lo hi=>∃ t u v,h.get? a=some { cls:=.type "range",data:=.fields #[.int lo t,.int hi u,.int 1 v] }
 | .frz o u=>h.get? a=some o/\bA H h a u
 | .tbl ps=>h.get? a=some { cls:=.none,data:=.fields ps }
 | .met f x=>h.get? a=some (PySem.W.methodObj (.ref f) (.ref x))
 | .ext φ=>φ h/\(∃ o,h.get? a=some o)/\∀ h1 h2:Heap,φ h1->(∀ o,h1.get? a=some o->h2.get? a=some o)->φ h2
noncomputable def bC (H:Hp) (h:Heap):Prop:=∀ a o,H a=some o->bA P w H h a o
end
section
variable {P : Program} {w : World} {H H' : Hp} {h h' : Heap} {a : Addr} {o : HO}
theorem bA.lt (x:bA P w H h a o):a < h.objs.size:=by
 cases o with
 | lst xs=>obtain ⟨_,_,_,_,e⟩:=x; exact aM5 e
 | tup xs=>obtain ⟨_,_,_,p,_⟩:=x; exact p.lt
 | dK kvs=>obtain ⟨_,_,_,_,o,_,_,e,_⟩:=x; exact aM5 e
 | dT kvs=>obtain ⟨_,_,_,_,o,_,_,e,_⟩:=x; exact aM5 e
 | set S n=>obtain ⟨o,_,_,_,e,_⟩:=x; exact aM5 e
 | ins C dx fs=>obtain ⟨_,_,_,e,_⟩:=x; exact aM5 e
 | own y=>obtain ⟨_,e⟩:=x; exact aM5 e
 | xd fs=>obtain ⟨_,⟨_,_,_,e,_⟩,_⟩:=x; exact aM5 e
 | rng lo hi=>obtain ⟨_,_,_,e⟩:=x; exact aM5 e
 | frz ob u=>obtain ⟨e,_⟩:=x; exact aM5 e
 | tbl ps=>exact aM5 (show h.get? a=some _ from x)
 | met f y=>exact aM5 (show h.get? a=some _ from x)
 | ext φ=>obtain ⟨_,⟨_,e⟩,_⟩:=x; exact aM5 e
theorem Paired.mapP {α β:Type}{F G:α->β->Prop}:∀ {l₁:List α}{l₂:List β},Paired F l₁ l₂->(∀ a b,F a b->G a b)->Paired G l₁ l₂
 | _,_,.nil,_=>.nil
 | _,_,.cons r t,f=>.cons (f _ _ r) (Paired.mapP t f)
theorem bA.stay (x:bA P w H h a o) (k:∀ b u,(b=a ∨ H b=some (.own a))->h.get? b=some u->h'.get? b=some u)
  (ho:∀ b,H b=some (.own a)->H' b=some (.own a)) (ht:∀ b xs,H b=some (.tup xs)->H' b=some (.tup xs)):bA P w H' h' a o:=by
 induction o with
 | lst xs=>obtain ⟨z,its,n,r,e⟩:=x; exact⟨z,its,n,r,k _ _ (.inl rfl) e⟩
 | tup xs=>obtain ⟨z,its,r,⟨ob,e,c⟩,nd⟩:=x; exact⟨z,its,r,⟨ob,k _ _ (.inl rfl) e,c⟩,nd.stay e (k _ _ (.inl rfl) e)⟩
 | dK kvs=>obtain ⟨z,y,vs,r,ob,es,ep,e,c⟩:=x; exact⟨z,y,vs,r,ob,es,ep,k _ _ (.inl rfl) e,c⟩
 | dT kvs=>
  obtain ⟨z,y,xs,r,ob,es,ep,e,c⟩:=x
  exact⟨z,y,xs,Paired.mapP r fun p q z=>⟨z.1,ht _ _ z.2.1,z.2.2⟩,ob,es,ep,k _ _ (.inl rfl) e,c⟩
 | set S n=>obtain ⟨ob,es,ep,t,e,c⟩:=x; exact⟨ob,es,ep,t,k _ _ (.inl rfl) e,c⟩
 | ins C dx fs=>
  obtain ⟨d,z,ne,e,mA,⟨od,es,ep,e2,c⟩,r⟩:=x
  exact⟨ho _ d,z,ne,k _ _ (.inl rfl) e,mA,⟨od,es,ep,k _ _ (.inr d) e2,c⟩,r⟩
 | own y=>obtain ⟨ob,e⟩:=x; exact⟨ob,k _ _ (.inl rfl) e⟩
 | xd fs=>obtain ⟨mA,⟨od,es,ep,e,c⟩,r⟩:=x; exact⟨mA,⟨od,es,ep,k _ _ (.inl rfl) e,c⟩,r⟩
 | rng lo hi=>obtain ⟨t,u,v,e⟩:=x; exact⟨t,u,v,k _ _ (.inl rfl) e⟩
 | frz ob u ih=>obtain ⟨e,q⟩:=x; exact⟨k _ _ (.inl rfl) e,ih q⟩
 | tbl ps=>
  have e:h.get? a=some { cls:=.none,data:=.fields ps }:=x
  show h'.get? a=some { cls:=.none,data:=.fields ps }
  exact k a _ (.inl rfl) e
 | met f y=>
  have e:h.get? a=some (PySem.W.methodObj (.ref f) (.ref y)):=x
  show h'.get? a=some (PySem.W.methodObj (.ref f) (.ref y))
  exact k a _ (.inl rfl) e
 | ext φ=>obtain ⟨p,⟨o,e⟩,st⟩:=x; exact⟨st _ _ p fun o q=>k _ _ (.inl rfl) q,⟨o,k _ _ (.inl rfl) e⟩,st⟩
theorem bC.lt (x:bC P w H h) (e:H a=some o):a < h.objs.size:=(x a o e).lt
theorem bC.fresh (x:bC P w H h) (e:h.objs.size<=a):H a=none:=by
 cases q:H a with
 | none=>rfl
 | some u=>exact absurd (aL3 (x.lt q) e) (aS1 _)
theorem bC.kept (x:bC P w H h) (k:∀ b u,h.get? b=some u->h'.get? b=some u):bC P w H h':=fun a o e=>
 (x a o e).stay (fun b u _ q=>k b u q) (fun _ q=>q) fun _ _ q=>q
theorem bC.laid (x:bC P w H h) (k:∀ b u,h.get? b=some u->h'.get? b=some u) (hp:h.objs.size<=a) (new:bA P w (upd H a o) h' a o):bC P w (upd H a o) h':=fun b u e=>by
 have hn:=x.fresh hp
 by_cases hb:b=a
 ·subst hb; rw [bK] at e; cases e; exact new
 ·rw [aU hb] at e
  exact (x b u e).stay (fun c v _ q=>k c v q) (fun c q=>by rw [aU (g7 q hn)]; exact q) fun c xs q=>by rw [aU (g7 q hn)]; exact q
end
noncomputable def Rd (H:Hp) (a:Addr) (u:HO):Prop:=H a=some u ∨ ∃ o,H a=some (.frz o u)
theorem Rd.ok {P:Program}{w:World}{H:Hp}{h:Heap}{a:Addr}{u:HO} (r:Rd H a u) (x:bC P w H h):bA P w H h a u:=by
 rcases r with r | ⟨o,r⟩
 ·exact x a u r
 ·obtain ⟨_,q⟩:=x a _ r
  exact q
noncomputable def l0:Option HO->Prop
 | some (.lst _)=>True
 | some (.dK _)=>True
 | some (.dT _)=>True
 | some (.set _ _)=>True
 | some (.ins _ _ _)=>True
 | some (.ext _)=>True
 | _=>False
section
variable {P : Program} {w : World} {H : Hp} {h h' : Heap} {x e : Addr} {o' : HO}
theorem bC.write (ok:bC P w H h) (mu:l0 (H x)) (he:e=x ∨ H e=some (.own x)) (k:∀ b u,b ≠ e->h.get? b=some u->h'.get? b=some u) (heo:∃ u,h'.get? e=some u)
  (new:bA P w (upd H x o') h' x o'):bC P w (upd H x o') h':=fun b u q=>by
 have nown:∀ c y,H c=some (.own y)->c ≠ x:=fun c y r z=>by subst z; rw [r] at mu; exact mu
 have ntup:∀ c xs,H c=some (.tup xs)->c ≠ x:=fun c xs r z=>by subst z; rw [r] at mu; exact mu
 by_cases hb:b=x
 ·subst hb; rw [bK] at q; cases q; exact new
 ·rw [aU hb] at q
  by_cases hbe:b=e
  ·have q':H b=some (.own x):=by
    rcases he with z | z
    ·exact absurd (hbe.trans z) hb
    ·rw [hbe]; exact z
   rw [q] at q'; cases q'
   obtain ⟨v,hv⟩:=heo
   exact⟨v,by rw [hbe]; exact hv⟩
  ·refine (ok b u q).stay (fun c v hc r=>k c v ?_ r) (fun c r=>by rw [aU (nown c b r)]; exact r) fun c xs r=>by rw [aU (ntup c xs r)]; exact r
   rcases hc with rfl | hc
   ·exact hbe
   ·rintro rfl
    rcases he with z | z
    ·exact nown c b hc z
    ·rw [hc] at z; cases z; exact hb rfl
end
structure Un (fs ex:List Addr) (H H':Hp) (h h':Heap):Prop where
 keep:∀ b o,h.get? b=some o->H b=none->b ∉ fs->b ∉ ex->h'.get? b=some o
 slot:∀ b o,h.get? b=some o->H b=none->b ∈ fs->b ∉ ex->∃ sl,h'.get? b=some { o with slots:=sl }
 free:∀ b o,h.get? b=some o->H b=none->b ∉ ex->H' b=none
 there:∀ b o,h.get? b=some o->b ∉ ex->∃ o',h'.get? b=some o'
 tups:∀ b xs,H b=some (.tup xs)->H' b=some (.tup xs)
 frzs:∀ b o u,H b=some (.frz o u)->H' b=some (.frz o u)
 tbls:∀ b ps,H b=some (.tbl ps)->∃ more,H' b=some (.tbl (ps ++ more))
section
variable {fs fs' ex ex' : List Addr} {H H1 H2 : Hp} {h h1 h2 h' : Heap} {a x e : Addr} {o : HO}
theorem Un.any (u:Un fs ex H H1 h h1) {b:Addr}{ob:Obj} (q:h.get? b=some ob) (n:H b=none) (hx:b ∉ ex):∃ sl,h1.get? b=some { ob with slots:=sl }:=by
 by_cases hb:b ∈ fs
 ·exact u.slot b ob q n hb hx
 ·exact⟨ob.slots,u.keep b ob q n hb hx⟩
theorem Un.kept (k:∀ b u,h.get? b=some u->h'.get? b=some u):Un fs ex H H h h':=
 ⟨fun b ob q _ _ _=>k b ob q,fun b ob q _ _ _=>⟨ob.slots,k b ob q⟩,fun _ _ _ n _=>n,fun b ob q _=>⟨ob,k b ob q⟩,fun _ _ q=>q,fun _ _ _ q=>q,fun _ ps q=>⟨#[],by rw [q]; simp⟩⟩
theorem Un.refl:Un fs ex H H h h:=Un.kept fun _ _ q=>q
theorem Un.laid (k:∀ b u,h.get? b=some u->h'.get? b=some u) (hp:h.objs.size<=a) (hn:H a=none):Un fs ex H (upd H a o) h h' where
 keep:=fun b u q _ _ _=>k b u q
 slot:=fun b u q _ _ _=>⟨u.slots,k b u q⟩
 free:=fun b u q n _=>by rw [aU (aN8 (aL3 (aM5 q) hp))]; exact n
 there:=fun b u q _=>⟨u,k b u q⟩
 tups:=fun b xs q=>by rw [aU (g7 q hn)]; exact q
 frzs:=fun b u xs q=>by rw [aU (g7 q hn)]; exact q
 tbls:=fun b ps q=>⟨#[],by rw [aU (g7 q hn),q]; simp⟩
theorem Un.write (mu:l0 (H x)) (he:e=x ∨ H e=some (.own x)) (k:∀ b u,b ≠ e->h.get? b=some u->h'.get? b=some u) (heo:∃ u,h'.get? e=some u):Un fs ex H (upd H x o) h h':=by
 have hx:∀ b,H b=none->b ≠ x:=fun b n z=>by subst z; rw [n] at mu; exact mu
 have hb:∀ b,H b=none->b ≠ e:=fun b n z=>by
  subst z
  rcases he with r | r
  ·exact hx b n r
  ·rw [n] at r; cases r
 have hm:∀ b u,H b=some u->¬ l0 (some u)->b ≠ x:=fun b u q nm z=>by subst z; rw [q] at mu; exact nm mu
 refine⟨fun b u q n _ _=>k b u (hb b n) q,fun b u q n _ _=>⟨u.slots,k b u (hb b n) q⟩,fun b u q n _=>by rw [aU (hx b n)]; exact n,fun b u q _=>?_,
  fun b xs q=>by rw [aU (hm b _ q fun z=>z)]; exact q,fun b u xs q=>by rw [aU (hm b _ q fun z=>z)]; exact q,fun b ps q=>⟨#[],by rw [aU (hm b _ q fun z=>z),q]; simp⟩⟩
 by_cases hbe:b=e
 ·subst hbe; exact heo
 ·exact⟨u,k b u hbe q⟩
end
noncomputable def mP (h:Heap) (H:Hp):List Addr:=(List.range h.objs.size).filter fun a=>(H a).isSome
noncomputable def g8 (h:Heap) (H:Hp):Heap:=PySem.W.hideAll h (mP h H)
theorem Q3 (h:Heap) (H:Hp):(g8 h H).objs.size=h.objs.size:=PySem.W.hideAll_size _ _
theorem Q4 {h:Heap}{H:Hp}{b:Addr}{o:Obj} (e:h.get? b=some o) (n:H b=none):(g8 h H).get? b=some o:=
 PySem.W.hideAll_get _ e fun hm=>by
  have q:(H b).isSome=true:=(aP0.mp hm).2
  rw [n] at q; simp at q
theorem Q5 {h:Heap}{H:Hp}{b:Addr}{o:Obj} (e:(g8 h H).get? b=some o):h.get? b=some o/\H b=none:=by
 have e':h.get? b=some o:=PySem.W.of_hideAll (mP h H) e
 refine⟨e',?_⟩
 cases q:H b with
 | none=>rfl
 | some x=>
  have hm:b ∈ mP h H:=aP0.mpr ⟨List.mem_range.mpr (aM5 e'),by simp [q]⟩
  have z:(g8 h H).get? b=none:=PySem.W.hideAll_none (mP h H) hm
  rw [z] at e; cases e
noncomputable def Q6 (g h:Heap) (L:Addr):List (Addr × Obj):=(List.range h.objs.size).filterMap fun a=>if a=L ∨ (g.get? a).isSome=true then none else (h.get? a).map fun o=>(a,o)
noncomputable def cG (g h:Heap) (L d:Addr):List (Addr × Obj):=(Q6 g h L).filter fun p=>decide (p.1 ≠ d)
structure Mod (K:PySem.W.Frag) (mg:Str->Option Value) (base:Heap):Prop where
 kin:K.In base
 glob:base.Ns mainGlobals mg
 blt:∃ mb,base.Ns builtinsNs mb/\∀ x:Str,x ≠ "__name__"->mb x=bootBuiltins x
 nolimit:base.NoLimit
structure Cx where
 prog:Program
 w:World
 K:PySem.W.Frag
 mg:Str->Option Value
 base:Heap
 A:Around
 N:List Str
 s₀:Shared
 H₀:Hp
 env:Env
 outer:List Env
 stack:List Env
 ex:List Addr
 fn:Str->Bool
 calm:Bool
 pn:List (Addr × Obj)
 xe:Value->Shared->Prop
noncomputable def b9 (l:List Env):List Addr:=l.filterMap (·.frame)
noncomputable abbrev Cx.fs (X:Cx):List Addr:=b9 X.outer
noncomputable def eV (sc:Scope) (x:Str):Prop:=sc.names.lookup x=some .local ∨ sc.names.lookup x=some .cell ∨ sc.names.lookup x=some .free
noncomputable def fR (sc:Scope) (x:Str):Prop:=sc.names.lookup x=some .local ∨ sc.names.lookup x=some .cell
noncomputable def Q7 (env:Env) (h:Heap) (m:Str->Option Value) (x:Str) (u:Value):Prop:=
 (env.kindOf x=some .local/\m x=some u) ∨ ((env.kindOf x=some .cell ∨ env.kindOf x=some .free)/\∃ c,env.cells.lookup x=some c/\h.IsCell c (some u))
structure Cx.Ok (X:Cx):Prop where
 mod:Mod X.K X.mg X.base
 kind:X.env.scope.kind = .function
 glob:X.env.globals=mainGlobals
 blt:X.env.builtins=builtinsNs
 above:X.s₀.heap.objs.size<=X.env.locals
 inj:∀ x y c,X.env.cells.lookup x=some c->X.env.cells.lookup y=some c->x=y
 has:∀ x,(X.env.kindOf x=some .cell ∨ X.env.kindOf x=some .free)->∃ c,X.env.cells.lookup x=some c
 cab:∀ x c,X.fn x=true->X.env.cells.lookup x=some c->X.s₀.heap.objs.size<=c
 hd:X.calm=true->X.A.handled=none
 frames:X.A.frames=some X.stack
 stk:X.stack=X.outer ∨ (X.stack=X.env :: X.outer/\X.env.frame=some X.env.locals)
 exf:∀ b ∈ X.ex,b ≠ X.env.locals/\∀ x c,X.env.cells.lookup x=some c->c ≠ b
 bs:∀ b o,X.base.get? b=some o->X.s₀.heap.get? b=some o/\X.H₀ b=none
 bsz:X.base.objs.size<=X.s₀.heap.objs.size
 noex:∀ b o,X.base.get? b=some o->b ∉ X.ex
 exfs:∀ b ∈ X.ex,b ∉ X.fs
 funs:X.s₀.heap.FunFrames X.base X.outer
 frf:∀ b ∈ X.fs,X.H₀ b=none
structure a5 (X:Cx) (pins:List (Addr × Obj)) (σ:List (Option V)) (H:Hp) (s:Shared):Prop where
 ok:X.Ok
 os:s.os=X.s₀.os
 bare:AllBare s.gens
 base:Un X.fs X.ex X.H₀ H X.s₀.heap s.heap
 loc:∃ m,s.heap.Ns X.env.locals m/\∀ (i:Nat) (x:Str) (v:V),X.N[i]? = some x->σ[i]? = some (some v)->eV X.env.scope x->∃ u,aF v u/\Q7 X.env s.heap m x u
 cell:∀ x c,X.env.cells.lookup x=some c->∃ v,s.heap.IsCell c v
 free:H X.env.locals=none
 freeC:∀ x c,X.env.cells.lookup x=some c->H c=none
 pin:∀ p ∈ X.pn ++ pins,s.heap.get? p.1=some p.2/\H p.1=none/\p.1 ≠ X.env.locals/\p.1 ∉ X.fs/\∀ v,p.2.data ≠ .cell v
 hok:bC X.prog X.w H s.heap
 len:σ.length=X.N.length
section
variable {X : Cx} {pins : List (Addr × Obj)} {σ : List (Option V)} {H H' : Hp} {s : Shared} {h' : Heap}
theorem Cx.Ok.nofr (ok:X.Ok) {b:Addr}{o:Obj} (e:X.base.get? b=some o):b ∉ X.fs:=fun hb=>by
 have:=(ok.funs.mem hb).1
 rw [e] at this; cases this
theorem a5.bs (I:a5 X pins σ H s):∀ b o,X.base.get? b=some o->s.heap.get? b=some o/\H b=none:=fun b o e=>
 ⟨I.base.keep b o (I.ok.bs b o e).1 (I.ok.bs b o e).2 (I.ok.nofr e) (I.ok.noex b o e),I.base.free b o (I.ok.bs b o e).1 (I.ok.bs b o e).2 (I.ok.noex b o e)⟩
theorem a5.bk (I:a5 X pins σ H s):∀ b o,X.base.get? b=some o->s.heap.get? b=some o:=fun b o e=>(I.bs b o e).1
theorem a5.mod (I:a5 X pins σ H s):Mod X.K X.mg X.base:=I.ok.mod
theorem a5.kIn (I:a5 X pins σ H s):X.K.In s.heap:=I.ok.mod.kin.keeps I.bk
theorem a5.fr (I:a5 X pins σ H s):∃ m,Fr X.base X.env.locals s.heap m:=
 let ⟨m,hn,_⟩:=I.loc
 ⟨m,hn,I.bk,aP2 I.ok.bsz I.ok.above⟩
theorem a5.lt (I:a5 X pins σ H s):X.env.locals < s.heap.objs.size:=let ⟨_,hn,_⟩:=I.loc; hn.lt
theorem a5.sz (I:a5 X pins σ H s):X.s₀.heap.objs.size<=s.heap.objs.size:=aP2 I.ok.above (aU5 I.lt)
theorem a5.nofs (I:a5 X pins σ H s) {a:Addr} (h:s.heap.objs.size<=a):a ∉ X.fs:=fun hb=>by
 obtain ⟨_,o,ho,_⟩:=I.ok.funs.mem hb
 exact absurd (aL3 (aM5 ho) (aP2 I.sz h)) (aS1 _)
theorem a5.cne (I:a5 X pins σ H s):∀ x c,X.env.cells.lookup x=some c->c ≠ X.env.locals:=fun x c e z=>by
 obtain ⟨v,o,ho,hd⟩:=I.cell x c e
 obtain ⟨m,⟨o',es,ep,ho',hd',_⟩,_⟩:=I.loc
 rw [z,ho'] at ho; cases ho; rw [hd'] at hd; cases hd
theorem a5.funs (I:a5 X pins σ H s):s.heap.FunFrames X.base X.outer:=by
 have all:∀ (l:List Env),(∀ b ∈ b9 l,b ∈ X.fs)->X.s₀.heap.FunFrames X.base l->s.heap.FunFrames X.base l:=by
  intro l
  induction l with
  | nil=>intro _ _; trivial
  | cons env r ih=>
   intro hs hl
   obtain ⟨hk,⟨L,o,hf,hn,ho,hd⟩,hr⟩:=hl
   have hL:L ∈ X.fs:=hs L (by unfold b9; rw [List.filterMap_cons,hf]; exact aM2)
   obtain ⟨sl,e⟩:=I.base.slot L o ho (I.ok.frf L hL) hL fun z=>I.ok.exfs L z hL
   exact⟨hk,⟨L,_,hf,hn,e,hd⟩,ih (fun b hb=>hs b (by unfold b9; rw [List.filterMap_cons,hf]; exact aL5 _ hb)) hr⟩
 exact all X.outer (fun _ hb=>hb) I.ok.funs
theorem a5.stack (I:a5 X pins σ H s):s.heap.FunFrames X.base X.stack:=by
 rcases I.ok.stk with e | ⟨e,hf⟩
 ·rw [e]; exact I.funs
 ·rw [e]
  obtain ⟨m,hn,_⟩:=I.loc
  refine .cons (by rw [I.ok.kind]; decide) hf hn ?_ I.funs
  exact Heap.get?_none_of_le (aP2 I.ok.bsz I.ok.above)
theorem a5.stkSub (I:a5 X pins σ H s):∀ b ∈ b9 X.stack,b ∈ X.env.locals :: X.fs:=fun b hb=>by
 rcases I.ok.stk with e | ⟨e,hf⟩
 ·rw [e] at hb; exact aL5 _ hb
 ·rw [e] at hb
  unfold b9 at hb
  rw [List.filterMap_cons,hf] at hb
  exact hb
theorem a5.stkFree (I:a5 X pins σ H s):∀ b ∈ b9 X.stack,H b=none:=fun b hb=>by
 rcases aM4.mp (I.stkSub b hb) with e | hb
 ·rw [e]; exact I.free
 ·obtain ⟨_,o,ho,_⟩:=I.ok.funs.mem hb
  exact I.base.free b o ho (I.ok.frf b hb) fun z=>I.ok.exfs b z hb
theorem a5.step {g':Array GenState}{t':Nat}{d':Drawn}{ch:List Addr} (I:a5 X pins σ H s)
  (hch:∀ b ∈ ch,(b ∈ X.ex ∨ X.s₀.heap.objs.size<=b)/\b ≠ X.env.locals/\(∀ x c,X.env.cells.lookup x=some c->c ≠ b)/\∀ p ∈ X.pn ++ pins,p.1 ≠ b)
  (keep:∀ b o,b ≠ X.env.locals->b ∉ X.fs->b ∉ ch->s.heap.get? b=some o->H b=none->h'.get? b=some o)
  (slot:∀ b o,b ≠ X.env.locals->b ∈ X.fs->b ∉ ch->s.heap.get? b=some o->H b=none->∃ sl,h'.get? b=some { o with slots:=sl }) (free:∀ b o,b ∉ ch->s.heap.get? b=some o->H b=none->H' b=none)
  (there:∀ b o,b ∉ ch->s.heap.get? b=some o->∃ o',h'.get? b=some o')
  (tups:∀ b xs,H b=some (.tup xs)->H' b=some (.tup xs)) (frzs:∀ b o u,H b=some (.frz o u)->H' b=some (.frz o u)) (tbls:∀ b ps,H b=some (.tbl ps)->∃ more,H' b=some (.tbl (ps ++ more)))
  (ns:∀ m,s.heap.Ns X.env.locals m->h'.Ns X.env.locals m) (hok:bC X.prog X.w H' h') (hg:AllBare g') :
  a5 X pins σ H' { s with heap:=h',gens:=g',drawn:=d',toks:=t' }:=by
 have neL:∀ b o,X.s₀.heap.get? b=some o->b ≠ X.env.locals:=fun b o e=>aN8 (aL3 (aM5 e) I.ok.above)
 have neC:∀ b o,X.s₀.heap.get? b=some o->b ∉ X.ex->b ∉ ch:=fun b o e hx hb=>by
  rcases (hch b hb).1 with z | z
  ·exact hx z
  ·exact absurd (aL3 (aM5 e) z) (aS1 _)
 have cellK:∀ x c,X.env.cells.lookup x=some c->∀ v,s.heap.IsCell c v->h'.IsCell c v:=fun x c e v ⟨o,ho,hd⟩=>by
  have nch:c ∉ ch:=fun z=>(hch c z).2.2.1 x c e rfl
  by_cases hc:c ∈ X.fs
  ·obtain ⟨sl,q⟩:=slot c o (I.cne x c e) hc nch ho (I.freeC x c e)
   exact⟨_,q,hd⟩
  ·exact⟨o,keep c o (I.cne x c e) hc nch ho (I.freeC x c e),hd⟩
 refine⟨I.ok,I.os,hg,⟨fun b o e n hb hx=>?_,fun b o e n hb hx=>?_,fun b o e n hx=>?_,fun b o e hx=>?_,fun b xs e=>tups b xs (I.base.tups b xs e),fun b o xs e=>frzs b o xs (I.base.frzs b o xs e),fun b ps e=>?_⟩,?_,fun x c e=>?_,?_,fun x c e=>?_,fun p hp=>?_,hok,I.len⟩
 ·exact keep b o (neL b o e) hb (neC b o e hx) (I.base.keep b o e n hb hx) (I.base.free b o e n hx)
 ·obtain ⟨sl,e1⟩:=I.base.slot b o e n hb hx
  obtain ⟨sl',e2⟩:=slot b _ (neL b o e) hb (neC b o e hx) e1 (I.base.free b o e n hx)
  exact⟨sl',e2⟩
 ·obtain ⟨o',e1⟩:=I.base.there b o e hx
  exact free b o' (neC b o e hx) e1 (I.base.free b o e n hx)
 ·obtain ⟨o',e1⟩:=I.base.there b o e hx
  exact there b o' (neC b o e hx) e1
 ·obtain ⟨m1,e1⟩:=I.base.tbls b ps e
  obtain ⟨m2,e2⟩:=tbls b _ e1
  exact⟨m1 ++ m2,by rw [e2,Array.append_assoc]⟩
 ·obtain ⟨m,hn,hl⟩:=I.loc
  refine⟨m,ns m hn,fun i x v e1 e2 e3=>?_⟩
  obtain ⟨u,r,l⟩:=hl i x v e1 e2 e3
  refine⟨u,r,?_⟩
  rcases l with l | ⟨k,c,e,z⟩
  ·exact .inl l
  ·exact .inr ⟨k,c,e,cellK x c e _ z⟩
 ·obtain ⟨v,z⟩:=I.cell x c e
  exact⟨v,cellK x c e v z⟩
 ·obtain ⟨m,⟨o,_,_,ho,_⟩,_⟩:=I.loc
  exact free _ o (fun z=>(hch _ z).2.1 rfl) ho I.free
 ·obtain ⟨v,o,ho,hd⟩:=I.cell x c e
  exact free c o (fun z=>(hch c z).2.2.1 x c e rfl) ho (I.freeC x c e)
 ·obtain ⟨e,n,ne,nf,d⟩:=I.pin p hp
  have nch:p.1 ∉ ch:=fun z=>(hch p.1 z).2.2.2 p hp rfl
  exact⟨keep p.1 p.2 ne nf nch e n,free p.1 p.2 nch e n,ne,nf,d⟩
theorem a5.un {t':Nat} (I:a5 X pins σ H s) (u:Un X.fs [] H H' s.heap h') (hok:bC X.prog X.w H' h'):a5 X pins σ H' { s with heap:=h',toks:=t' }:=by
 obtain ⟨m,⟨o,es,ep,ho,r⟩,_⟩:=id I.loc
 obtain ⟨sl,hL⟩:=u.any ho I.free (by simp)
 exact I.step (g':=s.gens) (d':=s.drawn) (ch:=[]) (fun _ z=>nomatch z) (fun b o _ hb _ e n=>u.keep b o e n hb (by simp)) (fun b o _ hb _ e n=>u.slot b o e n hb (by simp)) (fun b o _ e n=>u.free b o e n (by simp)) (fun b o _ e=>u.there b o e (by simp)) u.tups u.frzs u.tbls (fun m' hm=>by
  obtain ⟨o',es',ep',ho',r'⟩:=hm
  rw [ho] at ho'; cases ho'
  exact⟨_,es',ep',hL,r'⟩) hok I.bare
theorem a5.call {g':Array GenState}{t':Nat}{d':Drawn}{ch:List Addr} (I:a5 X pins σ H s) (u:Un (b9 X.stack) ch H H' s.heap h') (hok:bC X.prog X.w H' h') (hg:AllBare g')
  (hch:∀ b ∈ ch,(b ∈ X.ex ∨ X.s₀.heap.objs.size<=b)/\b ≠ X.env.locals/\(∀ x c,X.env.cells.lookup x=some c->c ≠ b)/\∀ p ∈ X.pn ++ pins,p.1 ≠ b) :
  a5 X pins σ H' { s with heap:=h',gens:=g',drawn:=d',toks:=t' }:=by
 obtain ⟨m,⟨o,es,ep,ho,r⟩,_⟩:=id I.loc
 obtain ⟨sl,hL⟩:=u.any ho I.free fun z=>(hch _ z).2.1 rfl
 exact I.step (ch:=ch) hch (fun b o hL hb hc e n=>u.keep b o e n (fun z=>(aM4.mp (I.stkSub b z)).elim hL hb) hc) (fun b o _ _ hc e n=>u.any e n hc) (fun b o hc e n=>u.free b o e n hc) (fun b o hc e=>u.there b o e hc) u.tups u.frzs u.tbls (fun m' hm=>by
  obtain ⟨o',es',ep',ho',r'⟩:=hm
  rw [ho] at ho'; cases ho'
  exact⟨_,es',ep',hL,r'⟩) hok hg
theorem a5.turned {t':Nat}{it:Addr} (I:a5 X pins σ H s) (k:∀ b o,b ≠ it->s.heap.get? b=some o->h'.get? b=some o) (hn:H it=none) (hL:it ≠ X.env.locals)
  (h1:it ∈ X.ex ∨ X.s₀.heap.objs.size<=it) (h2:∀ x c,X.env.cells.lookup x=some c->c ≠ it) (h3:∀ p ∈ X.pn ++ pins,p.1 ≠ it):a5 X pins σ H { s with heap:=h',toks:=t' }:=by
 have nit:∀ b u,H b=some u->b ≠ it:=fun b u e z=>by rw [z,hn] at e; cases e
 refine I.step (g':=s.gens) (d':=s.drawn) (ch:=[it]) (fun b hb=>?_) (fun b o _ _ hc e _=>k b o (fun z=>hc (by simp [z])) e) (fun b o _ _ hc e _=>⟨o.slots,k b o (fun z=>hc (by simp [z])) e⟩) (fun _ _ _ _ n=>n)
  (fun b o hc e=>⟨o,k b o (fun z=>hc (by simp [z])) e⟩) (fun _ _ e=>e) (fun _ _ _ e=>e) (fun b ps e=>⟨#[],by rw [e]; simp⟩) (fun m hm=>?_) (fun b u e=>?_) I.bare
 ·have e:b=it:=by simpa using hb
  subst e
  exact⟨h1,hL,h2,h3⟩
 ·obtain ⟨o,es,ep,ho,r⟩:=hm
  exact⟨o,es,ep,k _ o (Ne.symm hL) ho,r⟩
 ·refine (I.hok b u e).stay (fun c v hc q=>k c v ?_ q) (fun _ q=>q) fun _ _ q=>q
  rcases hc with z | z
  ·rw [z]; exact nit b u e
  ·exact nit c _ z
theorem a5.tok (I:a5 X pins σ H s) (t:Nat):a5 X pins σ H { s with toks:=t }:=I.un (h':=s.heap) (t':=t) Un.refl I.hok
theorem a5.kept {t':Nat} (I:a5 X pins σ H s) (k:∀ b u,s.heap.get? b=some u->h'.get? b=some u):a5 X pins σ H { s with heap:=h',toks:=t' }:=I.un (Un.kept k) (I.hok.kept k)
theorem a5.laid {a:Addr}{o:HO}{t':Nat} (I:a5 X pins σ H s) (k:∀ b u,s.heap.get? b=some u->h'.get? b=some u) (hp:s.heap.objs.size<=a) (new:bA X.prog X.w (upd H a o) h' a o) :
  a5 X pins σ (upd H a o) { s with heap:=h',toks:=t' }:=I.un (Un.laid k hp (I.hok.fresh hp)) (I.hok.laid k hp new)
theorem a5.write {x e:Addr}{o:HO}{t':Nat} (I:a5 X pins σ H s) (mu:l0 (H x)) (he:e=x ∨ H e=some (.own x)) (k:∀ b u,b ≠ e->s.heap.get? b=some u->h'.get? b=some u) (heo:∃ u,h'.get? e=some u)
  (new:bA X.prog X.w (upd H x o) h' x o):a5 X pins σ (upd H x o) { s with heap:=h',toks:=t' }:=I.un (Un.write mu he k heo) (I.hok.write mu he k heo new)
theorem a5.weak {σ':List (Option V)} (I:a5 X pins σ H s) (hl:σ'.length=σ.length) (w:∀ (i:Nat) v,σ'[i]? = some (some v)->σ[i]? = some (some v)):a5 X pins σ' H s:=
 ⟨I.ok,I.os,I.bare,I.base,let ⟨m,hn,hl'⟩:=I.loc; ⟨m,hn,fun i x v e1 e2 e3=>hl' i x v e1 (w i v e2) e3⟩,I.cell,I.free,I.freeC,I.pin,I.hok,hl.trans I.len⟩
theorem a5.pins_of {pins':List (Addr × Obj)} (I:a5 X pins σ H s) (h:∀ p ∈ pins',s.heap.get? p.1=some p.2/\H p.1=none/\p.1 ≠ X.env.locals/\p.1 ∉ X.fs/\∀ v,p.2.data ≠ .cell v):a5 X pins' σ H s:=
 ⟨I.ok,I.os,I.bare,I.base,I.loc,I.cell,I.free,I.freeC,fun p hp=>(aM6.mp hp).elim (fun z=>I.pin p (aN5 _ z)) (h p),I.hok,I.len⟩
theorem pS {N:List Str} (hN:N.Nodup) {i j:Nat}{x:Str} (a:N[i]? = some x) (b:N[j]? = some x):i=j:=by
 obtain ⟨h1,e1⟩:=aL8.mp a
 obtain ⟨h2,e2⟩:=aL8.mp b
 exact (List.getElem_inj hN).mp (e1.trans e2.symm)
theorem pT {M:Model}{A:Around}{E:Value->Shared->Prop}{i:Nat}{x:Str}{v:V}{u:Value}{Q:Unit->Shared->Prop} (I:a5 X pins σ H s) (hN:X.N.Nodup) (hi:X.N[i]? = some x) (hx:fR X.env.scope x) (r:aF v u)
  (h:∀ s',a5 X pins (σ.set i (some v)) H s'->(∃ a,Heap.SameBut a s.heap s'.heap/\(a=X.env.locals ∨ X.env.cells.lookup x=some a))->Q () s') (hf:X.fn x=true ∨ X.env.scope.names.lookup x=some .local:=by first | exact .inl rfl | exact .inr rfl | assumption):wpAny M A (storeName X.env x u) Q E s:=by
 obtain ⟨m,hn,hl⟩:=id I.loc
 have hcls:(X.env.scope.kind == .class || (X.env.scope.kind == .module && X.env.locals != X.env.globals))=false:=by rw [I.ok.kind]; rfl
 have hiσ:i < σ.length:=by rw [I.len]; exact (aL8.mp hi).1
 have cne:=I.cne
 have tracked:∀ {a:Addr}{h':Heap},(∃ o,s.heap.get? a=some o/\H a=none)->Heap.SameBut a s.heap h'->bC X.prog X.w H h':=fun {a h'} ha hs b ob e=>by
  obtain ⟨_,_,hfree⟩:=ha
  refine (I.hok b ob e).stay (fun c w' hc q=>(hs.2 c ?_).trans q) (fun _ q=>q) fun _ _ q=>q
  rintro rfl
  rcases hc with rfl | hc
  ·rw [hfree] at e; cases e
  ·rw [hfree] at hc; cases hc
 rcases hx with hk | hk
 ·refine wpAny_storeName_local hk hn (fun h' hn' hs=>?_) hcls
  obtain ⟨oL,_,_,hoL,_⟩:=id hn
  refine h _ ⟨I.ok,I.os,I.bare,⟨fun b o e n hb hx=>?_,fun b o e n hb hx=>?_,I.base.free,fun b o e hx=>?_,I.base.tups,I.base.frzs,I.base.tbls⟩,⟨_,hn',fun j y v' e1 e2 e3=>?_⟩,fun y c e=>?_,I.free,I.freeC,fun p hp=>?_,tracked ⟨oL,hoL,I.free⟩ hs,by simpa using I.len⟩ ⟨_,hs,.inl rfl⟩
  ·exact (hs.2 b (aN8 (aL3 (aM5 e) I.ok.above))).trans (I.base.keep b o e n hb hx)
  ·obtain ⟨sl,e1⟩:=I.base.slot b o e n hb hx
   exact⟨sl,(hs.2 b (aN8 (aL3 (aM5 e) I.ok.above))).trans e1⟩
  ·obtain ⟨o',e1⟩:=I.base.there b o e hx
   exact⟨o',(hs.2 b (aN8 (aL3 (aM5 e) I.ok.above))).trans e1⟩
  ·by_cases hj:j=i
   ·subst hj
    rw [hi] at e1; cases e1
    rw [aQ5 hiσ] at e2
    cases e2
    exact⟨u,r,.inl ⟨hk,by simp⟩⟩
   ·rw [aN0 (Ne.symm hj)] at e2
    obtain ⟨u',r',q⟩:=hl j y v' e1 e2 e3
    refine⟨u',r',?_⟩
    rcases q with ⟨k,e⟩ | ⟨k,c,e,z⟩
    ·refine .inl ⟨k,?_⟩
     have:y ≠ x:=fun e=>hj (pS hN e1 (e ▸ hi))
     simp [this,e]
    ·exact .inr ⟨k,c,e,z.sameBut hs (cne y c e)⟩
  ·obtain ⟨w',z⟩:=I.cell y c e
   exact⟨w',z.sameBut hs (cne y c e)⟩
  ·obtain ⟨e,n,ne,nf,d⟩:=I.pin p hp
   exact⟨(hs.2 p.1 ne).trans e,n,ne,nf,d⟩
 ·have hfn:X.fn x=true:=by
   rcases hf with z | z
   ·exact z
   ·rw [z] at hk; cases hk
  obtain ⟨c,hc⟩:=I.ok.has x (.inl hk)
  obtain ⟨w',z⟩:=I.cell x c hc
  refine wpAny_storeName_cell I.ok.kind hk hc z (fun h' hc' hs=>?_)
  obtain ⟨oc,hoc,hocd⟩:=id z
  refine h { s with heap:=h' } ⟨I.ok,I.os,I.bare,⟨fun b o e n hb hx=>?_,fun b o e n hb hx=>?_,I.base.free,fun b o e hx=>?_,I.base.tups,I.base.frzs,I.base.tbls⟩,⟨m,hn.sameBut hs (Ne.symm (cne x c hc)),fun j y v' e1 e2 e3=>?_⟩,fun y c' e=>?_,I.free,I.freeC,fun p hp=>?_,tracked ⟨oc,hoc,I.freeC x c hc⟩ hs,by simpa using I.len⟩ ⟨c,hs,.inr hc⟩
  ·exact (hs.2 b (aN8 (aL3 (aM5 e) (I.ok.cab x c hfn hc)))).trans (I.base.keep b o e n hb hx)
  ·obtain ⟨sl,e1⟩:=I.base.slot b o e n hb hx
   exact⟨sl,(hs.2 b (aN8 (aL3 (aM5 e) (I.ok.cab x c hfn hc)))).trans e1⟩
  ·obtain ⟨o',e1⟩:=I.base.there b o e hx
   exact⟨o',(hs.2 b (aN8 (aL3 (aM5 e) (I.ok.cab x c hfn hc)))).trans e1⟩
  ·by_cases hj:j=i
   ·subst hj
    rw [hi] at e1; cases e1
    rw [aQ5 hiσ] at e2
    cases e2
    exact⟨u,r,.inr ⟨.inl hk,c,hc,hc'⟩⟩
   ·rw [aN0 (Ne.symm hj)] at e2
    obtain ⟨u',r',q⟩:=hl j y v' e1 e2 e3
    refine⟨u',r',?_⟩
    rcases q with q | ⟨k,c',e,z'⟩
    ·exact .inl q
    ·refine .inr ⟨k,c',e,z'.sameBut hs ?_⟩
     rintro rfl
     exact hj (pS hN e1 (I.ok.inj _ _ _ e hc ▸ hi))
  ·by_cases hcc:c'=c
   ·subst hcc; exact⟨_,hc'⟩
   ·obtain ⟨w2,z2⟩:=I.cell y c' e
    exact⟨w2,z2.sameBut hs hcc⟩
  ·obtain ⟨e,n,ne,nf,d⟩:=I.pin p hp
   refine⟨(hs.2 p.1 ?_).trans e,n,ne,nf,d⟩
   intro q
   rw [q,hoc] at e
   have q':oc=p.2:=aN4 e
   exact d w' (by rw [<- q']; exact hocd)
theorem pU {M:Model}{A:Around}{E:Value->Shared->Prop}{i:Nat}{x:Str}{v:V}{u:Value}{Q:Unit->Shared->Prop} (I:a5 X pins σ H s) (hN:X.N.Nodup) (hi:X.N[i]? = some x) (hx:fR X.env.scope x) (r:aF v u)
  (h:∀ s',a5 X pins (σ.set i (some v)) H s'->Q () s') (hf:X.fn x=true ∨ X.env.scope.names.lookup x=some .local:=by first | exact .inl rfl | exact .inr rfl | assumption):wpAny M A (storeName X.env x u) Q E s:=
 pT I hN hi hx r (fun s' I' _=>h s' I') hf
theorem a5.call' {s':Shared}{ch:List Addr} (I:a5 X pins σ H s) (ho:s'.os=s.os) (u:Un (b9 X.stack) ch H H' s.heap s'.heap) (hok:bC X.prog X.w H' s'.heap) (hg:AllBare s'.gens)
  (hch:∀ b ∈ ch,(b ∈ X.ex ∨ X.s₀.heap.objs.size<=b)/\b ≠ X.env.locals/\(∀ x c,X.env.cells.lookup x=some c->c ≠ b)/\∀ p ∈ X.pn ++ pins,p.1 ≠ b):a5 X pins σ H' s':=by
 obtain ⟨h',g',d',t',o'⟩:=s'
 have e:o'=s.os:=ho
 subst e
 exact I.call (g':=g') (t':=t') (d':=d') u hok hg hch
end
noncomputable abbrev XK:=Value->Option Addr->Hp->Prop
noncomputable abbrev St:=List (Option V)
noncomputable abbrev VK:=V->Hp->Prop
noncomputable abbrev TE:=St->Hp->VK->Prop
noncomputable abbrev TT:=St->Hp->(Bool->Hp->Prop)->Prop
noncomputable abbrev TA:=St->Hp->(List V->Hp->Prop)->Prop
structure c9 where
 nx:St->Hp->Prop
 rt:VK
 bk:St->Hp->Prop:=fun _ _=>False
 ct:St->Hp->Prop:=fun _ _=>False
noncomputable abbrev TS:=c9->St->Hp->Prop
noncomputable def EP (X:Cx) (pins:List (Addr × Obj)) (σ:St) (Q:VK) (u:Value) (s':Shared):Prop:=∃ v H',a5 X pins σ H' s'/\aF v u/\Q v H'
noncomputable def TP (X:Cx) (pins:List (Addr × Obj)) (σ:St) (Q:Bool->Hp->Prop) (b:Bool) (s':Shared):Prop:=∃ H',a5 X pins σ H' s'/\Q b H'
noncomputable def AP (X:Cx) (pins:List (Addr × Obj)) (σ:St) (Q:List V->Hp->Prop) (us:List Value) (s':Shared):Prop:=∃ vs H',a5 X pins σ H' s'/\aB vs us/\Q vs H'
noncomputable def SP (X:Cx) (pins:List (Addr × Obj)) (D:c9) (f:Flow) (s':Shared):Prop:=
 match f with
 | .next=>∃ σ' H',a5 X pins σ' H' s'/\D.nx σ' H'
 | .brk=>∃ σ' H',a5 X pins σ' H' s'/\D.bk σ' H'
 | .cont=>∃ σ' H',a5 X pins σ' H' s'/\D.ct σ' H'
 | .ret u=>∃ v σ' H',a5 X pins σ' H' s'/\aF v u/\D.rt v H'
noncomputable def PE (X:Cx) (e:Expr) (t:TE):Prop:=
 ∀ (pins:List (Addr × Obj)) (s:Shared) (σ:St) (H:Hp) (Q:VK),a5 X pins σ H s->t σ H Q->wpAny (model X.prog X.w) X.A (eval e X.env) (EP X pins σ Q) X.xe s
noncomputable def PT (X:Cx) (e:Expr) (t:TT):Prop:=
 ∀ (pins:List (Addr × Obj)) (s:Shared) (σ:St) (H:Hp) (Q:Bool->Hp->Prop),a5 X pins σ H s->t σ H Q->wpAny (model X.prog X.w) X.A (isTrue e X.env (eval e X.env)) (TP X pins σ Q) X.xe s
noncomputable def PW (X:Cx) (e:Expr) (t:TT):Prop:=
 ∀ (whole:Sem Value) (pins:List (Addr × Obj)) (s:Shared) (σ:St) (H:Hp) (Q:Bool->Hp->Prop),a5 X pins σ H s->t σ H Q->wpAny (model X.prog X.w) X.A (isTrue e X.env whole) (TP X pins σ Q) X.xe s
theorem PW.pt {X:Cx}{e:Expr}{t:TT} (h:PW X e t):PT X e t:=h _
noncomputable def PA (X:Cx) (es:List Expr) (t:TA):Prop:=
 ∀ (pos:Pos) (pins:List (Addr × Obj)) (s:Shared) (σ:St) (H:Hp) (Q:List V->Hp->Prop),a5 X pins σ H s->t σ H Q->wpAny (model X.prog X.w) X.A (spliced (backTo pos (starEach es X.env))) (AP X pins σ Q) X.xe s
noncomputable def PS (X:Cx) (st:Stmt) (t:TS):Prop:=
 ∀ (pins:List (Addr × Obj)) (s:Shared) (σ:St) (H:Hp) (D:c9),a5 X pins σ H s->t D σ H->wpAny (model X.prog X.w) X.A (exec st X.env) (SP X pins D) X.xe s
noncomputable def cP (X:Cx) (st:List Stmt) (t:TS):Prop:=
 ∀ (pins:List (Addr × Obj)) (s:Shared) (σ:St) (H:Hp) (D:c9),a5 X pins σ H s->t D σ H->wpAny (model X.prog X.w) X.A (execs st X.env) (SP X pins D) X.xe s
theorem aE {α:Type}{t:Sem α}{Q Q':α->Shared->Prop}{M:Model}{A:Around}{E:Value->Shared->Prop}{s:Shared} (h:wpAny M A t Q E s) (hQ:∀ a s,Q a s->Q' a s):wpAny M A t Q' E s:=aP8 h hQ fun _ _ x=>x
section
variable {X : Cx}
theorem bin {a b:Expr}{ta tb:TE} (ha:PE X a ta) (hb:PE X b tb) {pins:List (Addr × Obj)}{s:Shared}{σ:St}{H:Hp}{R:V->V->Hp->Prop} (I:a5 X pins σ H s) (h:ta σ H fun x H1=>tb σ H1 fun y H2=>R x y H2)
  {α:Type}{Q:α->Shared->Prop}{f:Value->Value->Sem α}
  (hf:∀ v u s2 x y H2,a5 X pins σ H2 s2->aF x v->aF y u->R x y H2->wpAny (model X.prog X.w) X.A (f v u) Q X.xe s2) :
  wpAny (model X.prog X.w) X.A (eval a X.env) (fun v s₁=>wpAny (model X.prog X.w) X.A (eval b X.env) (fun u s₂=>wpAny (model X.prog X.w) X.A (f v u) Q X.xe s₂) X.xe s₁) X.xe s:=by
 refine aE (ha pins s σ H _ I h) fun v s1 ⟨x,H1,I1,r1,q1⟩=>?_
 refine aE (hb pins s1 σ H1 _ I1 q1) fun u s2 ⟨y,H2,I2,r2,q2⟩=>?_
 exact hf v u s2 x y H2 I2 r1 r2 q2
noncomputable def fS (i:Nat):TE:=fun σ H Q=>∃ v,σ[i]? = some (some v)/\Q v H
noncomputable def tC (v:V):TE:=fun _ H Q=>Q v H
theorem g9 {i:Nat}{x:Str}{pos:Pos} (hN:X.N[i]? = some x) (hv:eV X.env.scope x) (hd:(x == ("__debug__" : Str))=false:=by decide) (hcd:(x == ("__classdict__" : Str))=false:=by decide):PE X (.Name x pos) (fS i):=by
 intro pins s σ H Q I h
 obtain ⟨v,e,h⟩:=h
 obtain ⟨m,hn,hl⟩:=I.loc
 obtain ⟨u,r,l⟩:=hl i x v hN e hv
 have fin:EP X pins σ Q u s:=⟨v,H,I,r,h⟩
 rcases l with ⟨hk,hm⟩ | ⟨hk,c,hc,hcell⟩
 ·exact wpAny_Name (wpAny_loadName_local I.ok.kind hk hn hm fin) hd
 ·rcases hk with hk | hk
  ·exact wpAny_Name (wpAny_loadName_cell I.ok.kind hk hc hcell fin) hd
  ·exact wpAny_Name (wpAny_loadName_free I.ok.kind hk hc hcell fin hcd) hd
theorem pV {i j pos}:PE X (.Constant (.int i) j pos) (tC (.int i)):=fun _ _ _ H _ I h=>wpAny_Constant_int ⟨.int i,H,I.tok _,⟨_,rfl⟩,h⟩
theorem Q8 {b j pos}:PE X (.Constant (.bool b) j pos) (tC (.bl b)):=fun _ _ _ H _ I h=>Constant_bool ⟨.bl b,H,I,rfl,h⟩
theorem Q9 {j pos}:PE X (.Constant .none j pos) (tC .non):=fun _ _ _ H _ I h=>Constant_none ⟨.non,H,I,rfl,h⟩
theorem R3 {x j pos}:PE X (.Constant (.str x) j pos) (tC (.str x)):=fun _ _ _ H _ I h=>Calls.Constant_str ⟨.str x,H,I.tok _,⟨_,rfl⟩,h⟩
noncomputable def Gl (X:Cx) (x:Str):Prop:=X.env.kindOf x=some .globalImplicit
theorem l8 {E:Value->Shared->Prop}{pins:List (Addr × Obj)}{s:Shared}{σ:St}{H:Hp}{x:Str}{u:Value}{pos:Pos}{Q:Value->Shared->Prop} (I:a5 X pins σ H s) (hg:Gl X x) (hm:X.mg x=some u) (h:Q u s)
  (hd:(x == ("__debug__" : Str))=false:=by decide):wpAny (model X.prog X.w) X.A (eval (.Name x pos) X.env) Q E s:=
 Calls.Name_function_global I.ok.kind hg (Calls.loadGlobal_global (by rw [I.ok.glob]; exact I.mod.glob.keeps I.bk) hm h) hd
theorem iM {E:Value->Shared->Prop}{pins:List (Addr × Obj)}{s:Shared}{σ:St}{H:Hp}{x:Str}{u:Value}{pos:Pos}{Q:Value->Shared->Prop} (I:a5 X pins σ H s) (hg:Gl X x) (hm:X.mg x=none) (hv:bootBuiltins x=some u) (h:Q u s)
  (hn:x ≠ "__name__":=by decide) (hd:(x == ("__debug__" : Str))=false:=by decide):wpAny (model X.prog X.w) X.A (eval (.Name x pos) X.env) Q E s:=by
 obtain ⟨mb,h1,h2⟩:=I.mod.blt
 exact Calls.Name_function_global I.ok.kind hg (Calls.loadGlobal_builtin (by rw [I.ok.glob]; exact I.mod.glob.keeps I.bk) hm (by rw [I.ok.blt]; exact h1.keeps I.bk) ((h2 x hn).trans hv) h) hd
theorem R4 {x:Str}{v:V}{u:Value}{pos:Pos} (hg:Gl X x) (hm:X.mg x=some u) (r:aF v u) (hd:(x == ("__debug__" : Str))=false:=by decide):PE X (.Name x pos) (tC v):=
 fun _ _ _ H _ I h=>l8 I hg hm ⟨v,H,I,r,h⟩ hd
theorem uU {x:Str}{v:V}{u:Value}{pos:Pos} (hg:Gl X x) (hm:X.mg x=none) (hv:bootBuiltins x=some u) (r:aF v u) (hn:x ≠ "__name__":=by decide) (hd:(x == ("__debug__" : Str))=false:=by decide):PE X (.Name x pos) (tC v):=
 fun _ _ _ H _ I h=>iM I hg hm hv ⟨v,H,I,r,h⟩ hn hd
variable {a b : Expr} {ta tb : TE} {pos : Pos}
noncomputable def PC (X:Cx) (op:CmpOp) (a b:Expr) (t:TE):Prop:=
 ∀ (pins:List (Addr × Obj)) (s:Shared) (σ:St) (H:Hp) (Q:VK),a5 X pins σ H s->t σ H Q->
  wpAny (model X.prog X.w) X.A (eval a X.env) (fun v s₁=>wpAny (model X.prog X.w) X.A (eval b X.env) (fun u s₂=>wpAny (model X.prog X.w) X.A (compareOp op v u) (EP X pins σ Q) X.xe s₂) X.xe s₁) X.xe s
noncomputable def tB (t:TE):TT:=fun σ H Q=>t σ H fun x H1=>∃ c,x = .bl c/\Q c H1
theorem uV {op:CmpOp}{t:TE} (h:PC X op a b t) (h1:behindInMarks op b=false:=by first | exact nobehind _ (by decide) (by decide) | rfl):PT X (.Compare a [op] [b] pos) (tB t):=by
 intro pins s σ H Q I hw
 refine wpAny_isTrue_Compare1 (aE (h pins s σ H _ I hw) fun v s1 h1=>aE h1 fun u s2 h2=>aE h2 fun c s3 ⟨x,H1,I1,r1,q1⟩=>?_) h1
 obtain ⟨d,rfl,q⟩:=q1
 cases r1
 exact aY6 ⟨H1,I1,q⟩
theorem R5 {e:Expr}{t:TE} (h:PE X e t) (he:∀ whole,isTrue e X.env whole=(do let v <- whole; standAt e.pos; holding [v] (truthy v)):=by intro _; rfl):PT X e (tB t):=by
 intro pins s σ H Q I hw
 refine isTrue_plain (aE (h pins s σ H _ I hw) fun v s1 ⟨x,H1,I1,r1,q1⟩=>?_) (he _)
 obtain ⟨d,rfl,q⟩:=q1
 cases r1
 exact aY6 ⟨H1,I1,q⟩
variable {tA tB' : TT} {cG : List Expr}
noncomputable def uW (t u:TT):TT:=fun σ H Q=>t σ H fun c H1=>if c=true then u σ H1 Q else Q false H1
noncomputable def uX (t u:TT):TT:=fun σ H Q=>t σ H fun c H1=>if c=true then Q true H1 else u σ H1 Q
noncomputable def uY (t:TT):TT:=fun σ H Q=>t σ H fun c H1=>Q (!c) H1
theorem R6 (ha:PT X a tA):PW X (.BoolOp .And [a] pos) tA:=by
 intro wh pins s σ H Q I h
 refine isTrue_and (aE (ha pins s σ H Q I h) fun c s1 e=>?_)
 cases c with
 | true=>exact isTrue_and_nil e
 | false=>exact e
theorem R7 (ha:PT X a tA):PW X (.BoolOp .Or [a] pos) tA:=by
 intro wh pins s σ H Q I h
 refine isTrue_or (aE (ha pins s σ H Q I h) fun c s1 e=>?_)
 cases c with
 | false=>exact isTrue_or_nil e
 | true=>exact e
theorem R8 (ha:PT X a tA) (hb:PW X (.BoolOp .And (b :: cG) pos) tB'):PW X (.BoolOp .And (a :: b :: cG) pos) (uW tA tB'):=by
 intro wh pins s σ H Q I h
 refine isTrue_and (aE (ha pins s σ H _ I h) fun c s1 ⟨H1,I1,q1⟩=>?_)
 cases c with
 | true=>exact hb wh pins s1 σ H1 Q I1 q1
 | false=>exact⟨H1,I1,q1⟩
theorem R9 (ha:PT X a tA) (hb:PW X (.BoolOp .Or (b :: cG) pos) tB'):PW X (.BoolOp .Or (a :: b :: cG) pos) (uX tA tB'):=by
 intro wh pins s σ H Q I h
 refine isTrue_or (aE (ha pins s σ H _ I h) fun c s1 ⟨H1,I1,q1⟩=>?_)
 cases c with
 | true=>exact⟨H1,I1,q1⟩
 | false=>exact hb wh pins s1 σ H1 Q I1 q1
theorem S0 (ha:PT X a tA):PT X (.UnaryOp .Not a pos) (uY tA):=by
 intro pins s σ H Q I h
 exact isTrue_not (ha pins s σ H (fun c H1=>Q (!c) H1) I h)
noncomputable def uZ (ta tb:TE):TE:=fun σ H Q=>ta σ H fun x H1=>∃ c,x = .bl c/\if c=true then tb σ H1 Q else Q (.bl false) H1
noncomputable def v0 (ta:TE):TE:=fun σ H Q=>ta σ H fun x H1=>∃ c,x = .bl c/\Q (.bl (!c)) H1
theorem S2 {op}{t:TE} (h:PE X a t):PE X (.BoolOp op [a] pos) t:=fun pins s σ H Q I hw=>BoolOp_one (h pins s σ H Q I hw)
theorem S3 (ha:PE X a ta) (hb:PE X (.BoolOp .And (b :: cG) pos) tb):PE X (.BoolOp .And (a :: b :: cG) pos) (uZ ta tb):=by
 intro pins s σ H Q I h
 refine BoolOp_and (aE (ha pins s σ H _ I h) fun v s1 ⟨x,H1,I1,r1,q1⟩=>?_)
 obtain ⟨c,rfl,q1⟩:=q1
 cases r1
 refine aY6 ?_
 cases c with
 | true=>exact hb pins s1 σ H1 Q I1 q1
 | false=>exact⟨.bl false,H1,I1,rfl,q1⟩
theorem S4 (ha:PE X a ta):PE X (.UnaryOp .Not a pos) (v0 ta):=by
 intro pins s σ H Q I h
 refine UnaryOp_ (aE (ha pins s σ H _ I h) fun v s1 ⟨x,H1,I1,r1,q1⟩=>?_)
 obtain ⟨c,rfl,q1⟩:=q1
 cases r1
 exact not_of (aY6 ⟨.bl (!c),H1,I1,rfl,q1⟩)
end
noncomputable def aR (K:PySem.W.Frag) (H:Hp) (a:Addr) (xs:List V):Prop:=
 Rd H a (.lst xs) ∨
  ∃ (o:Obj) (its:Array Value) (n:Nat),K.lookup a=some o/\o.cls = .type "list"/\o.dict=none/\o.data = .seq its n/\its.size<=sizeLine/\aB xs its.toList
noncomputable def aO (K:PySem.W.Frag) (H:Hp) (a:Addr) (xs:List V):Prop:=
 Rd H a (.tup xs) ∨
  ∃ (o:Obj) (its:Array Value) (n:Nat),K.lookup a=some o/\o.cls = .type "tuple"/\o.data = .seq its n/\its.size<=sizeLine/\aB xs its.toList
noncomputable def S5:Value->Option V
 | .none=>some .non
 | .bool b=>some (.bl b)
 | .int i _=>some (.int i)
 | .str x _=>some (.str x)
 | .bytes b _=>some (.byt b)
 | .float b _=>some (.flt b)
 | .ref a=>some (.ref a)
 | .type n=>some (.ty n)
 | _=>none
theorem aF.abs {x:V}{u:Value} (r:aF x u):S5 u=some x:=by
 cases x with
 | non=>cases r; rfl
 | bl _=>cases r; rfl
 | int _=>obtain ⟨t,rfl⟩:=r; rfl
 | str _=>obtain ⟨t,rfl⟩:=r; rfl
 | byt _=>obtain ⟨t,rfl⟩:=r; rfl
 | flt _=>obtain ⟨t,rfl⟩:=r; rfl
 | ref _=>cases r; rfl
 | ty _=>cases r; rfl
theorem aF.inj {x y:V}{u:Value} (r:aF x u) (q:aF y u):x=y:=aN4 (r.abs.symm.trans q.abs)
theorem aB.inj:∀ {xs ys:List V}{us:List Value},aB xs us->aB ys us->xs=ys
 | _,_,_,.nil,.nil=>rfl
 | _,_,_,.cons r t,.cons r' t'=>by rw [r.inj r',aB.inj t t']
section
variable {X : Cx} {pins : List (Addr × Obj)} {σ : St} {H : Hp} {s : Shared} {a : Addr} {xs ys : List V}
theorem aR.of {K:PySem.W.Frag} (h:H a=some (.lst xs)):aR K H a xs:=.inl (.inl h)
theorem aO.of {K:PySem.W.Frag} (h:H a=some (.tup xs)):aO K H a xs:=.inl (.inl h)
theorem a5.list (I:a5 X pins σ H s) (h:aR X.K H a xs):∃ its:List Value,aB xs its/\PlainL s.heap a its.toArray/\xs.length<=sizeLine:=by
 rcases h with h | ⟨o,its,n,hk,hc,hd,hs,hz,r⟩
 ·obtain ⟨z,its,n,r,e⟩:=h.ok I.hok
  exact⟨its,r,⟨_,n,e,rfl,rfl,rfl⟩,z⟩
 ·refine⟨its.toList,r,⟨o,n,I.kIn a o hk,hc,hd,by simpa using hs⟩,?_⟩
  have e:=r.length
  simp only [aN7] at e
  omega
theorem a5.tuple (I:a5 X pins σ H s) (h:aO X.K H a xs):∃ its:List Value,aB xs its/\IsTup s.heap a its.toArray/\xs.length<=sizeLine:=by
 rcases h with h | ⟨o,its,n,hk,hc,hs,hz,r⟩
 ·obtain ⟨z,its,r,p,_⟩:=h.ok I.hok
  exact⟨its,r,p,z⟩
 ·refine⟨its.toList,r,⟨o,I.kIn a o hk,hc,n,by simpa using hs⟩,?_⟩
  have e:=r.length
  simp only [aN7] at e
  omega
theorem a5.list_inj (I:a5 X pins σ H s) (h:aR X.K H a xs) (h':aR X.K H a ys):xs=ys:=by
 obtain ⟨its,r,⟨o,n,e,_,_,d⟩,_⟩:=I.list h
 obtain ⟨its',r',⟨o',n',e',_,_,d'⟩,_⟩:=I.list h'
 rw [e] at e'; cases e'
 rw [d] at d'
 injection d' with d1 _
 have:its=its':=by simpa using congrArg Array.toList d1
 subst this
 exact r.inj r'
theorem a5.tuple_inj (I:a5 X pins σ H s) (h:aO X.K H a xs) (h':aO X.K H a ys):xs=ys:=by
 obtain ⟨its,r,⟨o,e,_,n,d⟩,_⟩:=I.tuple h
 obtain ⟨its',r',⟨o',e',_,n',d'⟩,_⟩:=I.tuple h'
 rw [e] at e'; cases e'
 rw [d] at d'
 injection d' with d1 _
 have:its=its':=by simpa using congrArg Array.toList d1
 subst this
 exact r.inj r'
end
noncomputable abbrev Cx.wish (X:Cx) (E:Value->Shared->Prop):Cx:={ X with xe:=E }
noncomputable abbrev Cx.nox (X:Cx):Cx:=X.wish fun _ _=>False
theorem Cx.Ok.wish {X:Cx} (ok:X.Ok) (E:Value->Shared->Prop):(X.wish E).Ok:=
 ⟨ok.mod,ok.kind,ok.glob,ok.blt,ok.above,ok.inj,ok.has,ok.cab,ok.hd,ok.frames,ok.stk,ok.exf,ok.bs,ok.bsz,ok.noex,ok.exfs,ok.funs,ok.frf⟩
theorem Cx.Ok.unwish {X:Cx}{E:Value->Shared->Prop} (ok:(X.wish E).Ok):X.Ok:=
 ⟨ok.mod,ok.kind,ok.glob,ok.blt,ok.above,ok.inj,ok.has,ok.cab,ok.hd,ok.frames,ok.stk,ok.exf,ok.bs,ok.bsz,ok.noex,ok.exfs,ok.funs,ok.frf⟩
section
variable {X : Cx} {pins : List (Addr × Obj)} {σ : St} {H : Hp} {s : Shared} {E : Value → Shared → Prop}
theorem a5.wish (I:a5 X pins σ H s) (E:Value->Shared->Prop):a5 (X.wish E) pins σ H s:=⟨I.ok.wish E,I.os,I.bare,I.base,I.loc,I.cell,I.free,I.freeC,I.pin,I.hok,I.len⟩
theorem a5.unwish (I:a5 (X.wish E) pins σ H s):a5 X pins σ H s:=⟨I.ok.unwish,I.os,I.bare,I.base,I.loc,I.cell,I.free,I.freeC,I.pin,I.hok,I.len⟩
theorem SP.unwish {D:c9}{f:Flow}{s':Shared} (h:SP (X.wish E) pins D f s'):SP X pins D f s':=by
 cases f with
 | next=>obtain ⟨σ',H',I,q⟩:=h; exact⟨σ',H',I.unwish,q⟩
 | brk=>obtain ⟨σ',H',I,q⟩:=h; exact⟨σ',H',I.unwish,q⟩
 | cont=>obtain ⟨σ',H',I,q⟩:=h; exact⟨σ',H',I.unwish,q⟩
 | ret u=>obtain ⟨v,σ',H',I,r,q⟩:=h; exact⟨v,σ',H',I.unwish,r,q⟩
theorem cP.nox {st:List Stmt}{t:TS} (h:cP X.nox st t):cP X st t:=fun pins s σ H D I hw=>
 aP8 (h pins s σ H D (I.wish _) hw) (fun _ _ q=>q.unwish) fun _ _ z=>False.elim z
end
section
variable {X : Cx} {st : Stmt} {cG : List Stmt} {t u : TS} {e : Expr} {te : TE} {pos : Pos}
noncomputable def v3:TS:=fun D σ H=>D.nx σ H
noncomputable def v4 (t u:TS):TS:=fun D σ H=>t { D with nx:=u D } σ H
theorem S6:cP X [] v3:=fun _ _ σ H _ I h=>aY2 ⟨σ,H,I,h⟩
theorem mQ (h1:PS X st t) (h2:cP X cG u):cP X (st :: cG) (v4 t u):=by
 intro pins s σ H D I h
 refine wpAny_execs_cons (aE (h1 pins s σ H { D with nx:=u D } I h) fun f s1 q=>?_)
 cases f with
 | next=>
  obtain ⟨σ',H',I',q⟩:=q
  exact h2 pins s1 σ' H' D I' q
 | ret v=>exact q
 | brk=>exact q
 | cont=>exact q
theorem pW (h1:PS X st t):cP X [st] t:=by
 intro pins s σ H D I h
 refine wpAny_execs_cons (aE (h1 pins s σ H D I h) fun f s1 q=>?_)
 cases f with
 | next=>exact aY2 q
 | ret v=>exact q
 | brk=>exact q
 | cont=>exact q
theorem a5.quiet {pins:List (Addr × Obj)}{σ:St}{H:Hp}{s:Shared} (I:a5 X pins σ H s):interactive X.env=false:=by simp [interactive,I.ok.kind]
noncomputable def mR (te:TE):TS:=fun D σ H=>te σ H fun _ H1=>D.nx σ H1
theorem l9 (he:PE X e te) (hs:swapsWith e none pos.line X.env=pure false:=by rfl):PS X (.Expr e pos) (mR te):=by
 intro pins s σ H D I h
 exact wpAny_Expr_any (aE (he pins s σ H _ I h) fun v s1 ⟨x,H1,I1,r1,q1⟩=>⟨σ,H1,I1,q1⟩) I.quiet hs
noncomputable def pX (te:TE):TS:=fun D σ H=>te σ H D.rt
theorem pY (he:PE X e te):PS X (.Return (some e) pos) (pX te):=by
 intro pins s σ H D I h
 exact wpAny_Return_some (aE (he pins s σ H _ I h) fun v s1 ⟨x,H1,I1,r1,q1⟩=>⟨x,σ,H1,I1,r1,q1⟩)
noncomputable def v7 (c:TT) (t u:TS):TS:=fun D σ H=>c σ H fun b H1=>if b=true then t D σ H1 else u D σ H1
theorem S7 {c:Expr}{a b:List Stmt}{tc:TT} (hc:PT X c tc) (ha:cP X a t) (hb:cP X b u):PS X (.If c a b pos) (v7 tc t u):=by
 intro pins s σ H D I h
 refine wpAny_If (aE (hc pins s σ H _ I h) fun d s1 ⟨H1,I1,q1⟩=>?_)
 cases d with
 | true=>exact ha pins s1 σ H1 D I1 q1
 | false=>exact hb pins s1 σ H1 D I1 q1
noncomputable def S8:TS:=fun _ _ _=>False
theorem S9:PS X st S8:=fun _ _ _ _ _ _ h=>h.elim
end
noncomputable abbrev TG:=V->St->Hp->(St->Hp->Prop)->Prop
noncomputable abbrev iN:=List V->St->Hp->(St->Hp->Prop)->Prop
noncomputable def PG (X:Cx) (target:Expr) (t:TG):Prop:=
 ∀ (pins:List (Addr × Obj)) (s:Shared) (σ:St) (H:Hp) (v:V) (u:Value) (Q:St->Hp->Prop),a5 X pins σ H s->aF v u->t v σ H Q->
  wpAny (model X.prog X.w) X.A (assign target X.env u) (fun _ s'=>∃ σ' H',a5 X pins σ' H' s'/\Q σ' H') X.xe s
noncomputable def mS (X:Cx) (ts:List Expr) (t:iN):Prop:=
 ∀ (pins:List (Addr × Obj)) (s:Shared) (σ:St) (H:Hp) (vs:List V) (us:List Value) (Q:St->Hp->Prop),a5 X pins σ H s->aB vs us->t vs σ H Q->
  wpAny (model X.prog X.w) X.A (assignInOrder ((assignEach ts X.env).map (·.2)) us) (fun _ s'=>∃ σ' H',a5 X pins σ' H' s'/\Q σ' H') X.xe s
noncomputable abbrev pZ:=V->V->V->Hp->(Hp->Prop)->Prop
noncomputable def v8 (X:Cx) (t:pZ):Prop:=
 ∀ (pins:List (Addr × Obj)) (s:Shared) (σ:St) (H:Hp) (o i v:V) (ov iv u:Value) (Q:Hp->Prop),a5 X pins σ H s->aF o ov->aF i iv->aF v u->t o i v H Q->
  wpAny (model X.prog X.w) X.A (setItem ov iv u) (fun _ s'=>∃ H',a5 X pins σ H' s'/\Q H') X.xe s
section
variable {X : Cx} {pos : Pos}
noncomputable def dX (i:Nat):TG:=fun v σ H Q=>Q (σ.set i (some v)) H
theorem iO {i:Nat}{x:Str} (hN:X.N.Nodup) (hi:X.N[i]? = some x) (hx:fR X.env.scope x) (hf:X.fn x=true ∨ X.env.scope.names.lookup x=some .local:=by first | exact .inl rfl | exact .inr rfl | assumption):PG X (.Name x pos) (dX i):=by
 intro pins s σ H v u Q I r h
 exact wpAny_assign_Name (pU I hN hi hx r (fun s' I'=>⟨_,H,I',h⟩) hf)
noncomputable def v9:iN:=fun vs σ H Q=>vs = []/\Q σ H
noncomputable def qA (t:TG) (u:iN):iN:=fun vs σ H Q=>∃ v r,vs=v :: r/\t v σ H fun σ' H'=>u r σ' H' Q
theorem vA:mS X [] v9:=by
 intro pins s σ H vs us Q I r h
 obtain ⟨e,h⟩:=h
 subst e
 cases r
 exact assignInOrder_nil ⟨σ,H,I,h⟩
theorem mT {e:Expr}{es:List Expr}{t:TG}{u:iN} (h1:PG X e t) (h2:mS X es u)
  (hs:(assignEach (e :: es) X.env).map (·.2)=assign e X.env :: (assignEach es X.env).map (·.2):=by rfl):mS X (e :: es) (qA t u):=by
 intro pins s σ H vs us Q I r h
 obtain ⟨v,vr,e1,h⟩:=h
 subst e1
 cases r with
 | cons r rr=>
  rw [hs]
  refine assignInOrder_cons (aE (h1 pins s σ H _ _ _ I r h) fun _ s1 ⟨σ1,H1,I1,q1⟩=>?_)
  exact h2 pins s1 σ1 H1 _ _ Q I1 rr q1
noncomputable def vB (K:PySem.W.Frag) (n:Nat) (t:iN):TG:=fun v σ H Q=>∃ a xs,v = .ref a/\aO K H a xs/\xs.length=n/\t xs σ H Q
theorem vC {es:List Expr}{k:Nat}{t:iN}{n:Nat} (hc:X.calm=true) (h:mS X es t)
  (hn:(assignEach es X.env).length=n:=by rfl) (hst:(assignEach es X.env).findIdx? (·.1)=none:=by rfl):PG X (.Tuple es k pos) (vB X.K n t):=by
 intro pins s σ H v u Q I r hw
 obtain ⟨a,xs,e1,hq,hl,hw⟩:=hw
 subst e1
 cases r
 obtain ⟨its,rv,ht,hz⟩:=I.tuple hq
 refine assign_Tuple_tuple (I.ok.hd hc) ht (by simp [hn,<- hl,rv.length]) hst fun h' hx=>?_
 have I1:a5 X pins σ H { s with heap:=h' }:=I.kept (t':=s.toks) fun b o e=>hx b o (aN8 (aM5 e)) e
 exact h pins _ σ H xs _ Q I1 (by simpa using rv) hw
noncomputable def qB (to ti:TE) (t:pZ):TG:=fun v σ H Q=>to σ H fun o H1=>ti σ H1 fun i H2=>t o i v H2 fun H3=>Q σ H3
theorem T0 {o i:Expr}{to ti:TE}{t:pZ} (ho:PE X o to) (hi:PE X i ti) (hs:v8 X t)
  (ha:∀ v,assign (.Subscript o i pos) X.env v=(do
   let ov <- holding [v] (eval o X.env)
   let iv <- holding [v,ov] (eval i X.env)
   standAt pos
   holding [v,ov,iv] (setItem ov iv v)
   release [v,ov,iv] []):=by intro _; rfl):PG X (.Subscript o i pos) (qB to ti t):=by
 intro pins s σ H v u Q I r h
 rw [ha]
 refine aK1 (aR5 (aE (ho pins s σ H _ I h) fun ov s1 ⟨x,H1,I1,r1,q1⟩=>?_))
 refine aK1 (aR5 (aE (hi pins s1 σ H1 _ I1 q1) fun iv s2 ⟨y,H2,I2,r2,q2⟩=>?_))
 refine aK1 (wpAny_standAt (aK1 (aR5 (aE (hs pins s2 σ H2 x y v ov iv u _ I2 r1 r2 r q2) fun _ s3 ⟨H3,I3,q3⟩=>?_))))
 exact wpAny_release ⟨σ,H3,I3,q3⟩
noncomputable def gZ (te:TE) (g:TG):TS:=fun D σ H=>te σ H fun x H1=>g x σ H1 D.nx
theorem T1 {tg e:Expr}{te:TE}{g:TG} (he:PE X e te) (hg:PG X tg g) (hs:swapsWithSole [tg] e pos.line X.env=pure false:=by rfl) (hw:swappedStores [tg] e X.env=pure none:=by rfl)
  (h1:(assignEach [tg] X.env).map (·.2) = [assign tg X.env]:=by rfl):PS X (.Assign [tg] e pos) (gZ te g):=by
 intro pins s σ H D I h
 refine wpAny_Assign_stores (aE (he pins s σ H _ I h) fun v s1 ⟨x,H1,I1,r1,q1⟩=>?_) hs hw
 rw [h1]
 exact aE (hg pins s1 σ H1 x v _ I1 r1 q1) fun _ s2 q=>q
theorem qD {i:Nat}{x:Str}{e:Expr}{te:TE}{pos':Pos} (hN:X.N.Nodup) (hi:X.N[i]? = some x) (hx:fR X.env.scope x) (he:PE X e te) (hs:swapsWith e (some (.Name x pos')) pos.line X.env=pure false:=by rfl) (hf:X.fn x=true ∨ X.env.scope.names.lookup x=some .local:=by first | exact .inl rfl | exact .inr rfl | assumption) :
  PS X (.Assign [.Name x pos'] e pos) (gZ te (dX i)):=by
 intro pins s σ H D I h
 refine wpAny_Assign_Name (aE (he pins s σ H _ I h) fun v s1 ⟨y,H1,I1,r1,q1⟩=>?_) hs
 exact pU I1 hN hi hx r1 (fun s2 I2=>⟨_,H1,I2,q1⟩) hf
end
section
variable {X : Cx} {pos : Pos}
noncomputable def vD (c:TT) (tb:TS):TS:=fun D σ H=>∃ W:Nat->St->Hp->Prop,(∃ m,W m σ H)/\∀ m σ H,W m σ H->
 c σ H fun b H1=>if b=true then ∃ N:St->Hp->Prop,(∀ σ' H',N σ' H'->∃ m',m' < m/\W m' σ' H')/\tb { D with nx:=N,ct:=N,bk:=D.nx } σ H1 else D.nx σ H1
theorem T2 {c:Expr}{body:List Stmt}{tc:TT}{tb:TS} (hp:PassesOwn (model X.prog X.w) X.A X.env X.xe) (hc:PT X c tc) (hb:cP X body tb):PS X (.While c body [] pos) (vD tc tb):=by
 intro pins s σ H D I h
 obtain ⟨W,⟨m0,w0⟩,turn⟩:=h
 refine wpAny_While (codeAny_whileLoop (fun n s'=>∃ σ' H',a5 X pins σ' H' s'/\W n σ' H') ?_ m0 ⟨σ,H,I,w0⟩)
 rintro n s1 ⟨σ1,H1,I1,w1⟩
 refine aY3 hp (aE (hc pins s1 σ1 H1 _ I1 (turn n σ1 H1 w1)) fun b s2 ⟨H2,I2,q2⟩=>?_)
 cases b with
 | true=>
  obtain ⟨N,hN,q2⟩:=q2
  rw [if_pos rfl]
  refine aY3 hp (aE (hb pins s2 σ1 H2 _ I2 q2) fun f s3 q3=>?_)
  cases f with
  | next=>
   obtain ⟨σ3,H3,I3,n3⟩:=q3
   obtain ⟨m',hm,w3⟩:=hN σ3 H3 n3
   exact⟨m',hm,σ3,H3,I3,w3⟩
  | cont=>
   obtain ⟨σ3,H3,I3,n3⟩:=q3
   obtain ⟨m',hm,w3⟩:=hN σ3 H3 n3
   exact⟨m',hm,σ3,H3,I3,w3⟩
  | brk=>exact q3
  | ret v=>exact q3
 | false=>
  rw [if_neg aL6]
  exact aY2 ⟨σ1,H2,I2,q2⟩
end
structure It where
 go:Nat->Hp->Prop
 yld:Nat->Hp->V->Hp->Prop
 stop:Nat->Hp->Prop
noncomputable def fU (X:Cx) (pins:List (Addr × Obj)) (H:Hp) (b:Addr):Prop:=
 H b=none/\b ≠ X.env.locals/\b ∉ X.fs/\(b ∈ X.ex ∨ X.s₀.heap.objs.size<=b)/\(∀ x c,X.env.cells.lookup x=some c->c ≠ b)/\∀ p ∈ X.pn ++ pins,p.1 ≠ b
theorem a5.fpOk {X:Cx}{pins:List (Addr × Obj)}{σ:St}{H H':Hp}{s:Shared}{b:Addr} (I:a5 X pins σ H s) (hb:s.heap.objs.size<=b) (hn:H' b=none):fU X pins H' b:=by
 refine⟨hn,aY7 (aL3 I.lt hb),I.nofs hb,.inr (aP2 I.sz hb),fun x c e z=>?_,fun p hp z=>?_⟩
 ·obtain ⟨v,q⟩:=I.cell x c e
  exact absurd (aL3 q.lt (by rw [z]; exact hb)) (aS1 _)
 ·exact absurd (aL3 (aM5 (I.pin p hp).1) (by rw [z]; exact hb)) (aS1 _)
structure lA (P:Program) (w:World) (K:PySem.W.Frag) (tg:Expr) (J:It) (fp:List Addr) (it:Addr) (tn:Nat->Heap->Prop):Prop where
 mem:it ∈ fp
 obj:∀ i h,tn i h->∀ b ∈ fp,∃ o,h.get? b=some o/\∀ v,o.data ≠ .cell v
 keep:∀ i h h',tn i h->(∀ b ∈ fp,∀ o,h.get? b=some o->h'.get? b=some o)->tn i h'
 item:∀ (X:Cx),X.prog=P->X.w=w->X.K=K->X.calm=true->∀ (i:Nat) (pins:List (Addr × Obj)) (s:Shared) (σ:St) (H:Hp) (E:Value->Shared->Prop),a5 X pins σ H s->(∀ b ∈ fp,fU X pins H b)->tn i s.heap->J.go i H->
  wpAny (model P w) X.A (pyNext (.ref it)) (fun r s1=>∃ u,r=some u/\
   wpAny (model P w) X.A (letOwnedTupleGo tg (.ref it) u) (fun _ s2=>∃ x H',a5 X pins σ H' s2/\aF x u/\J.yld i H x H'/\tn (i+1) s2.heap/\∀ b ∈ fp,H' b=none) E s1) E s
 done:∀ (X:Cx),X.prog=P->X.w=w->X.K=K->X.calm=true->∀ (i:Nat) (pins:List (Addr × Obj)) (s:Shared) (σ:St) (H:Hp) (E:Value->Shared->Prop),a5 X pins σ H s->(∀ b ∈ fp,fU X pins H b)->tn i s.heap->J.stop i H->
  wpAny (model P w) X.A (pyNext (.ref it)) (fun r s1=>r=none/\a5 X pins σ H s1) E s
 self:∀ (A:Around) (i:Nat) (s:Shared) (Q:Value->Shared->Prop) (E:Value->Shared->Prop),tn i s.heap->Q (.ref it) s->wpAny (model P w) A (pyIter (.ref it)) Q E s
noncomputable abbrev TI:=St->Hp->(It->Hp->Prop)->Prop
noncomputable def vE (X:Cx) (pins:List (Addr × Obj)) (σ:St) (tg:Expr) (R:It->Hp->Prop) (itv:Value) (s2:Shared):Prop:=
 ∃ (it:Addr) (fp:List Addr) (tn:Nat->Heap->Prop) (J:It) (H':Hp),itv = .ref it/\a5 X pins σ H' s2/\lA X.prog X.w X.K tg J fp it tn/\tn 0 s2.heap/\(∀ b ∈ fp,fU X pins H' b)/\R J H'
noncomputable def PI (X:Cx) (tg iter:Expr) (wi:TI):Prop:=
 ∀ (pins:List (Addr × Obj)) (s:Shared) (σ:St) (H:Hp) (R:It->Hp->Prop),a5 X pins σ H s->wi σ H R->
  wpAny (model X.prog X.w) X.A (eval iter X.env) (fun v s1=>wpAny (model X.prog X.w) X.A (pyIter v) (vE X pins σ tg R) X.xe s1) X.xe s
theorem qE {M:Model}{A:Around}{E:Value->Shared->Prop}{s:Shared}{tg:Expr}{it:Addr}{u:Value}{o:Obj}{n:String}{vs:Array Value}{Q:Unit->Shared->Prop} (ho:s.heap.get? it=some o) (hc:o.cls = .type n) (hd:o.data = .fields vs)
    (hn : ["enumerate","zip","dict_itemiterator","dict_reverseitemiterator","odict_iterator","itertools.zip_longest","itertools.pairwise"].contains n=false) (hQ:Q () s):wpAny M A (letOwnedTupleGo tg (.ref it) u) Q E s:=by
  unfold letOwnedTupleGo
  cases tg <;> first
    | exact aK6 hQ
    | (cases u <;> first
        | exact aK6 hQ
        | (refine aK1 (wpAny_load ho ?_)
           rw [hc,hd]
           show wpAny M A (if (["enumerate","zip","dict_itemiterator","dict_reverseitemiterator","odict_iterator","itertools.zip_longest","itertools.pairwise"].contains n && vs[0]? == some (rawInt _))=true then _ else _) Q E s
           rw [if_neg (by intro h; rw [hn,Bool.false_and] at h; cases h)]
           exact aK6 hQ))
noncomputable def jR (K:PySem.W.Frag) (a:Addr):It:=
 ⟨fun i H=>∃ xs x,aR K H a xs/\xs[i]? = some x,fun i H x H'=>H'=H/\∀ xs,aR K H a xs->xs[i]? = some x,fun i H=>∃ xs,aR K H a xs/\xs.length<=i⟩
noncomputable def hB (K:PySem.W.Frag) (a:Addr):It:=
 ⟨fun i H=>∃ xs x,aO K H a xs/\xs[i]? = some x,fun i H x H'=>H'=H/\∀ xs,aO K H a xs->xs[i]? = some x,fun i H=>∃ xs,aO K H a xs/\xs.length<=i⟩
noncomputable def lB (lo:Int) (n:Nat):It:=⟨fun i _=>i < n,fun i H x H'=>H'=H/\x = .int (lo+i),fun i _=>n<=i⟩
theorem T3 {P:Program}{w:World}{K:PySem.W.Frag}{tg:Expr} (a it:Addr):lA P w K tg (jR K a) [it] it (fun i h=>h.IsListIter it a i) where
 mem:=by simp
 obj:=fun i h st b hb=>by
  have e:b=it:=by simpa using hb
  subst e
  obtain ⟨o,e,c,d⟩:=st
  exact⟨o,e,fun v z=>by rw [d] at z; cases z⟩
 keep:=fun i h h' st k=>st.at fun o e=>k it (by simp) o e
 item:=by
  intro X hP hw hK hc i pins s σ H E I hf st hg
  subst hP hw hK
  obtain ⟨xs,x,hq,hx⟩:=hg
  obtain ⟨its,rv,p,hz⟩:=I.list hq
  obtain ⟨u,hu,ru⟩:=rv.get hx
  obtain ⟨f0,f1,f2,f3,f4,f5⟩:=hf it (by simp)
  refine wpAny_pyNext_list_item st p.isList (x:=u) (by simpa using hu) fun h' st' sb=>?_
  have I1:a5 X pins σ H { s with heap:=h' }:=I.turned (t':=s.toks) (fun b o hb e=>(sb.2 b hb).trans e) f0 f1 f3 f4 f5
  obtain ⟨o,e,c,d⟩:=id st'
  exact⟨u,rfl,qE (s:={ s with heap:=h' }) e c d (by decide) ⟨x,H,I1,ru,⟨rfl,fun ys hy=>by rw [I.list_inj hy hq]; exact hx⟩,st',fun b hb=>(hf b hb).1⟩⟩
 done:=by
  intro X hP hw hK hc i pins s σ H E I hf st hg
  subst hP hw hK
  obtain ⟨xs,hq,hx⟩:=hg
  obtain ⟨its,rv,p,hz⟩:=I.list hq
  obtain ⟨f0,f1,f2,f3,f4,f5⟩:=hf it (by simp)
  have hl:=rv.length
  exact wpAny_pyNext_list_end (I.ok.hd hc) st p.isList (by simp; omega) fun h' eb=>⟨rfl,I.turned (t':=s.toks) (fun b o hb e=>eb b o hb e) f0 f1 f3 f4 f5⟩
 self:=fun _ _ _ _ _ st h=>wpAny_pyIter_listiter st h
theorem vF {P:Program}{w:World}{K:PySem.W.Frag}{tg:Expr} (a it:Addr):lA P w K tg (hB K a) [it] it (fun i h=>h.IsTupleIter it a i) where
 mem:=by simp
 obj:=fun i h st b hb=>by
  have e:b=it:=by simpa using hb
  subst e
  obtain ⟨o,e,c,d⟩:=st
  exact⟨o,e,fun v z=>by rw [d] at z; cases z⟩
 keep:=fun i h h' st k=>st.at fun o e=>k it (by simp) o e
 item:=by
  intro X hP hw hK hc i pins s σ H E I hf st hg
  subst hP hw hK
  obtain ⟨xs,x,hq,hx⟩:=hg
  obtain ⟨its,rv,p,hz⟩:=I.tuple hq
  obtain ⟨u,hu,ru⟩:=rv.get hx
  obtain ⟨f0,f1,f2,f3,f4,f5⟩:=hf it (by simp)
  refine wpAny_pyNext_tuple_item st (show s.heap.IsTuple a its.toArray from p) (x:=u) (by simpa using hu) fun h' st' sb=>?_
  have I1:a5 X pins σ H { s with heap:=h' }:=I.turned (t':=s.toks) (fun b o hb e=>(sb.2 b hb).trans e) f0 f1 f3 f4 f5
  obtain ⟨o,e,c,d⟩:=id st'
  exact⟨u,rfl,qE (s:={ s with heap:=h' }) e c d (by decide) ⟨x,H,I1,ru,⟨rfl,fun ys hy=>by rw [I.tuple_inj hy hq]; exact hx⟩,st',fun b hb=>(hf b hb).1⟩⟩
 done:=by
  intro X hP hw hK hc i pins s σ H E I hf st hg
  subst hP hw hK
  obtain ⟨xs,hq,hx⟩:=hg
  obtain ⟨its,rv,p,hz⟩:=I.tuple hq
  obtain ⟨f0,f1,f2,f3,f4,f5⟩:=hf it (by simp)
  have hl:=rv.length
  exact wpAny_pyNext_tuple_end (I.ok.hd hc) st (show s.heap.IsTuple a its.toArray from p) (by simp; omega) fun h' eb=>⟨rfl,I.turned (t':=s.toks) (fun b o hb e=>eb b o hb e) f0 f1 f3 f4 f5⟩
 self:=fun _ _ _ _ _ st h=>wpAny_pyIter_tupleiter st h
theorem T4 {P:Program}{w:World}{K:PySem.W.Frag}{tg:Expr} (it:Addr) (lo:Int) (n:Nat):lA P w K tg (lB lo n) [it] it (fun i h=>IsRangeIter h it (lo+(i:Nat) * 1) ((n:Int) - (i:Nat)) 1) where
 mem:=by simp
 obj:=fun i h st b hb=>by
  have e:b=it:=by simpa using hb
  subst e
  exact⟨_,st,fun v z=>by
   have z':Data.fields _=Data.cell v:=z
   cases z'⟩
 keep:=fun i h h' st k=>k it (by simp) _ st
 item:=by
  intro X hP hw hK hc i pins s σ H E I hf st hg
  subst hP hw hK
  obtain ⟨f0,f1,f2,f3,f4,f5⟩:=hf it (by simp)
  have W:=Walks.range (prog:=X.prog) (w:=X.w) (I.ok.hd hc) it lo 1 n
  refine W.item i s _ _ hg st fun v h' tk hv st' kk=>?_
  obtain ⟨t,rfl⟩:=hv
  have I1:a5 X pins σ H { s with heap:=h',toks:=tk }:=I.turned (fun b o hb e=>kk b o (by simpa using hb) e) f0 f1 f3 f4 f5
  refine⟨_,rfl,qE (s:={ s with heap:=h',toks:=tk }) (n:="range_iterator") st' rfl rfl (by decide) ⟨.int (lo+i),H,I1,⟨t,?_⟩,⟨rfl,rfl⟩,st',fun b hb=>(hf b hb).1⟩⟩
  rw [Int.mul_one]
 done:=by
  intro X hP hw hK hc i pins s σ H E I hf st hg
  subst hP hw hK
  obtain ⟨f0,f1,f2,f3,f4,f5⟩:=hf it (by simp)
  exact wpAny_pyNext_range_end (I.ok.hd hc) st (by have:n<=i:=hg; omega) fun h' eb=>⟨rfl,I.turned (t':=s.toks) (fun b o hb e=>eb b o hb e) f0 f1 f3 f4 f5⟩
 self:=fun _ _ _ _ _ st h=>wpAny_pyIter_rangeiter st h
section
variable {X : Cx} {tg : Expr}
noncomputable def T5 (K:PySem.W.Frag) (tl:TE):TI:=fun σ H R=>tl σ H fun x H1=>∃ a,x = .ref a/\(∃ xs,aO K H1 a xs)/\R (hB K a) H1
theorem vG {l:Expr}{tl:TE} (hl:PE X l tl):PI X tg l (T5 X.K tl):=by
 intro pins s σ H R I h
 refine aE (hl pins s σ H _ I h) fun v s1 ⟨x,H1,I1,r1,q1⟩=>?_
 obtain ⟨a,e,⟨xs,hq⟩,q⟩:=q1
 subst e
 cases r1
 obtain ⟨its,rv,p,hz⟩:=I1.tuple hq
 refine wpAny_pyIter_tuple (show s1.heap.IsTuple a its.toArray from p) ?_
 refine⟨s1.heap.objs.size,[s1.heap.objs.size],_,_,H1,rfl,I1.kept (t':=s1.toks) fun b o e=>aK5 _ e,vF a _,⟨_,aM3 _ rfl,rfl,rfl⟩,fun b hb=>?_,q⟩
 have e:b=s1.heap.objs.size:=by simpa using hb
 subst e
 exact I1.fpOk (aK4 _) (I1.hok.fresh (aK4 _))
theorem vH {pins:List (Addr × Obj)}{σ:St}{H:Hp}{s:Shared}{R:It->Hp->Prop}{E:Value->Shared->Prop}{lo hi:Int}{t u v:Tok}{tk:Nat} (I:a5 X pins σ H s) (h1 : -(2 ^ 62)<=lo) (h2:lo < 2 ^ 62) (h3 : -(2 ^ 62)<=hi) (h4:hi < 2 ^ 62)
  (q:R (lB lo (hi - lo).toNat) H):wpAny (model X.prog X.w) X.A (pyIter (.ref s.heap.objs.size)) (vE X pins σ tg R) E { s with heap:=s.heap.push { cls:=.type "range",data:=.fields #[.int lo t,.int hi u,.int 1 v] },toks:=tk }:=by
 refine wpAny_pyIter_range (IsRange.new ..) (small_one h1 h2 h3 h4) ?_
 have I1:a5 X pins σ H { s with heap:=s.heap.push { cls:=.type "range",data:=.fields #[.int lo t,.int hi u,.int 1 v] },toks:=tk }:=I.kept fun b o e=>aK5 _ e
 refine⟨(s.heap.push { cls:=.type "range",data:=.fields #[.int lo t,.int hi u,.int 1 v] }).objs.size,[(s.heap.push { cls:=.type "range",data:=.fields #[.int lo t,.int hi u,.int 1 v] }).objs.size],_,_,H,rfl,
  I1.kept (t':=tk) fun b o e=>aK5 _ e,T4 _ lo (hi - lo).toNat,?_,fun b hb=>?_,q⟩
 ·have e1:lo+((0:Nat):Int) * 1=lo:=by simp
  have e2:(((hi - lo).toNat:Nat):Int) - ((0:Nat):Int)=Builtin.Range.rangeSize lo hi 1:=by rw [rangeSize_one]; split <;> omega
  show IsRangeIter _ _ (lo+((0:Nat):Int) * 1) ((((hi - lo).toNat:Nat):Int) - ((0:Nat):Int)) 1
  rw [e1,e2]
  exact aM3 _ rfl
 ·have e:b=(s.heap.push { cls:=.type "range",data:=.fields #[.int lo t,.int hi u,.int 1 v] }).objs.size:=by simpa using hb
  subst e
  exact I1.fpOk (aK4 _) (I1.hok.fresh (aK4 _))
noncomputable def vI (ta:TA):TI:=fun σ H R=>ta σ H fun vs H1=>∃ j:Int,vs = [.int j]/\-(2 ^ 62)<=j/\j < 2 ^ 62/\R (lB 0 j.toNat) H1
noncomputable def vJ (ta:TA):TI:=fun σ H R=>ta σ H fun vs H1=>∃ i j:Int,vs = [.int i,.int j]/\(-(2 ^ 62)<=i/\i < 2 ^ 62/\-(2 ^ 62)<=j/\j < 2 ^ 62)/\R (lB i (j - i).toNat) H1
theorem T6 {a:Expr}{ta:TA}{p pos:Pos} (hg:Gl X "range") (hm:X.mg "range" = none) (ha:PA X [a] ta) (hs:starEach [a] X.env = [(false,eval a X.env)]:=by rfl):PI X tg (.Call (.Name "range" p) [a] [] pos) (vI ta):=by
 intro pins s σ H R I h
 refine Call_ (iM I hg hm boot_range (aU1 (aE (ha pos pins s σ H _ I h) fun us s1 ⟨vs,H1,I1,r1,q1⟩=>?_) hs rfl))
 obtain ⟨j,e,q1,q2,q⟩:=q1
 subst e
 cases r1 with
 | cons r rr=>
  cases rr
  obtain ⟨t,rfl⟩:=r
  exact call_range_1 (vH I1 (by omega) (by omega) q1 q2 (by simpa using q))
theorem T7 {a b:Expr}{ta:TA}{p pos:Pos} (hg:Gl X "range") (hm:X.mg "range" = none) (ha:PA X [a,b] ta) (hs:starEach [a,b] X.env = [(false,eval a X.env),(false,eval b X.env)]:=by rfl) (hs2:starEach [b] X.env = [(false,eval b X.env)]:=by rfl) :
  PI X tg (.Call (.Name "range" p) [a,b] [] pos) (vJ ta):=by
 intro pins s σ H R I h
 refine Call_ (iM I hg hm boot_range (aU1 (aE (ha pos pins s σ H _ I h) fun us s1 ⟨vs,H1,I1,r1,q1⟩=>?_) (by rw [hs,hs2]) (by rw [hs2]; rfl)))
 obtain ⟨i,j,e,⟨q1,q2,q3,q4⟩,q⟩:=q1
 subst e
 cases r1 with
 | cons r rr=>
  cases rr with
  | cons r' rr=>
   cases rr
   obtain ⟨t,rfl⟩:=r
   obtain ⟨t',rfl⟩:=r'
   exact call_range_2 (vH I1 q1 q2 q3 q4 q)
noncomputable def vK (wi:TI) (g:TG) (tb:TS):TS:=fun D σ H=>wi σ H fun J H1=>∃ W:Nat->Nat->St->Hp->Prop,(∃ m,W 0 m σ H1)/\∀ i m σ H,W i m σ H->
 (J.stop i H/\D.nx σ H) ∨ (J.go i H/\∃ N:St->Hp->Prop,(∀ σ' H',N σ' H'->∃ m',m' < m/\W (i+1) m' σ' H')/\∀ x H',J.yld i H x H'->g x σ H' fun σ2 H2=>tb { D with nx:=N,ct:=N,bk:=D.nx } σ2 H2)
noncomputable def lC (fp:List Addr) (h:Heap):List (Addr × Obj):=fp.filterMap fun b=>(h.get? b).map fun o=>(b,o)
theorem mU {fp:List Addr}{h:Heap}{b:Addr}{o:Obj} (hb:b ∈ fp) (e:h.get? b=some o):(b,o) ∈ lC fp h:=List.mem_filterMap.mpr ⟨b,hb,by rw [e]; rfl⟩
theorem T8 {fp:List Addr}{h:Heap}{p:Addr × Obj} (hp:p ∈ lC fp h):p.1 ∈ fp/\h.get? p.1=some p.2:=by
 obtain ⟨b,hb,e⟩:=List.mem_filterMap.mp hp
 cases q:h.get? b with
 | none=>rw [q] at e; cases e
 | some o=>
  rw [q] at e
  have e':(b,o)=p:=aN4 e
  subst e'
  exact⟨hb,q⟩
theorem a5.pinned {pins:List (Addr × Obj)}{σ:St}{H:Hp}{s:Shared}{fp:List Addr} (I:a5 X pins σ H s) (hf:∀ b ∈ fp,fU X pins H b) (ho:∀ b ∈ fp,∃ o,s.heap.get? b=some o/\∀ v,o.data ≠ .cell v):a5 X (pins ++ lC fp s.heap) σ H s:=
 I.pins_of fun p hp=>(aM6.mp hp).elim (fun z=>I.pin p (aM1 _ z)) fun z=>by
  obtain ⟨hb,e⟩:=T8 z
  obtain ⟨f0,f1,f2,_⟩:=hf p.1 hb
  obtain ⟨o,e',d⟩:=ho p.1 hb
  rw [e] at e'; cases e'
  exact⟨e,f0,f1,f2,d⟩
theorem a5.unpinned {pins pl:List (Addr × Obj)}{σ:St}{H:Hp}{s:Shared} (I:a5 X (pins ++ pl) σ H s):a5 X pins σ H s:=I.pins_of fun p hp=>I.pin p (aM1 _ (aN5 _ hp))
theorem vL {iter:Expr}{body:List Stmt}{wi:TI}{g:TG}{tb:TS}{pos:Pos} (hp:PassesOwn (model X.prog X.w) X.A X.env X.xe) (hc:X.calm=true) (hi:PI X tg iter wi) (hg:PG X tg g) (hb:cP X body tb)
  (hs:∀ x,foldedSetIterable iter X.env x=pure x:=by intro _; rfl):PS X (.For tg iter body [] pos) (vK wi g tb):=by
 intro pins s σ H D I h
 refine wpAny_For (aE (hi pins s σ H _ I h) fun v s1 h1=>aE h1 fun itv s2 h2=>?_) hs
 obtain ⟨it,fp,tn,J,H2,e,I2,T,st2,f2,W,⟨m0,w0⟩,turn⟩:=h2
 subst e
 have stat:∀ {H':Hp},(∀ b ∈ fp,H' b=none)->∀ b ∈ fp,fU X pins H' b:=fun hn b hb=>⟨hn b hb,(f2 b hb).2⟩
 refine codeAny_forLoop_any (fun n s'=>∃ i σ' H',a5 X pins σ' H' s'/\tn i s'.heap/\(∀ b ∈ fp,H' b=none)/\W i n σ' H') ?_ m0 ⟨0,σ,H2,I2,st2,fun b hb=>(f2 b hb).1,w0⟩
 rintro n s3 ⟨i,σ3,H3,I3,st3,fr3,w3⟩
 rcases turn i n σ3 H3 w3 with ⟨stop,qn⟩ | ⟨go,N,hN,step⟩
 ·refine aY3 hp (aE (T.done X rfl rfl rfl hc i pins s3 σ3 H3 X.xe I3 (stat fr3) st3 stop) fun r s4 ⟨hr,I4⟩=>?_)
  subst hr
  exact aY2 ⟨σ3,H3,I4,qn⟩
 ·refine aY3 hp (aE (T.item X rfl rfl rfl hc i pins s3 σ3 H3 X.xe I3 (stat fr3) st3 go) fun r s4 ⟨u,hr,h4⟩=>?_)
  subst hr
  refine aY3 hp (aE h4 fun _ s5 ⟨x,H5,I5,r5,y5,st5,fr5⟩=>?_)
  have I5':=I5.pinned (stat fr5) (T.obj _ _ st5)
  refine aY3 hp (aE (hg _ s5 σ3 H5 x u _ I5' r5 (step x H5 y5)) fun _ s6 ⟨σ6,H6,I6,q6⟩=>?_)
  refine aY3 hp (aE (hb _ s6 σ6 H6 _ I6 q6) fun f s7 q7=>?_)
  have again:∀ {σ7:St}{H7:Hp},a5 X (pins ++ lC fp s5.heap) σ7 H7 s7->N σ7 H7->∃ m,m < n/\∃ i σ' H',a5 X pins σ' H' s7/\tn i s7.heap/\(∀ b ∈ fp,H' b=none)/\W i m σ' H':=fun {σ7 H7} I7 n7=>by
   obtain ⟨m',hm,w7⟩:=hN σ7 H7 n7
   refine⟨m',hm,i+1,σ7,H7,I7.unpinned,T.keep _ _ _ st5 fun b hb o e=>(I7.pin (b,o) (aM1 _ (aM1 _ (mU hb e)))).1,fun b hb=>?_,w7⟩
   obtain ⟨o,e,d⟩:=T.obj _ _ st5 b hb
   exact (I7.pin (b,o) (aM1 _ (aM1 _ (mU hb e)))).2.1
  cases f with
  | next=>obtain ⟨σ7,H7,I7,n7⟩:=q7; exact again I7 n7
  | cont=>obtain ⟨σ7,H7,I7,n7⟩:=q7; exact again I7 n7
  | brk=>obtain ⟨σ7,H7,I7,q7⟩:=q7; exact⟨σ7,H7,I7.unpinned,q7⟩
  | ret v=>obtain ⟨x7,σ7,H7,I7,r7,q7⟩:=q7; exact⟨x7,σ7,H7,I7.unpinned,r7,q7⟩
end
theorem aJ7 {K:PySem.W.Frag}{a:Addr}{xs:List V}{g:TG}{tb:TS}{D:c9}{σ:St}{H:Hp} (Pv:Nat->St->Hp->Prop) (h0:Pv 0 σ H) (hl:∀ i σ H,i<=xs.length->Pv i σ H->aR K H a xs)
  (hs:∀ i x σ H,xs[i]? = some x->Pv i σ H->g x σ H fun σ2 H2=>tb { D with nx:=Pv (i+1),ct:=Pv (i+1),bk:=D.nx } σ2 H2) (hd:∀ σ H,Pv xs.length σ H->D.nx σ H) :
  ∃ W:Nat->Nat->St->Hp->Prop,(∃ m,W 0 m σ H)/\∀ i m σ H,W i m σ H->
   ((jR K a).stop i H/\D.nx σ H) ∨ ((jR K a).go i H/\∃ N:St->Hp->Prop,(∀ σ' H',N σ' H'->∃ m',m' < m/\W (i+1) m' σ' H')/\∀ x H',(jR K a).yld i H x H'->g x σ H' fun σ2 H2=>tb { D with nx:=N,ct:=N,bk:=D.nx } σ2 H2):=by
 refine⟨fun i m σ H=>m=xs.length - i/\i<=xs.length/\Pv i σ H,⟨xs.length,by simp,aO1 _,h0⟩,?_⟩
 rintro i m σ H ⟨rfl,hi,p⟩
 have q:=hl i σ H hi p
 by_cases hlt:i < xs.length
 ·refine .inr ⟨⟨xs,xs[i],q,by simp [hlt]⟩,Pv (i+1),fun σ' H' p'=>⟨xs.length - (i+1),by omega,rfl,hlt,p'⟩,fun x H' y=>?_⟩
  obtain ⟨e,y⟩:=y
  subst e
  exact hs i x σ _ (y xs q) p
 ·have e:i=xs.length:=by omega
  subst e
  exact .inl ⟨⟨xs,q,aK4 _⟩,hd σ H p⟩
theorem T9 {K:PySem.W.Frag}{a:Addr}{xs:List V}{g:TG}{tb:TS}{D:c9}{σ:St}{H:Hp} (Pv:Nat->St->Hp->Prop) (h0:Pv 0 σ H) (hl:∀ i σ H,i<=xs.length->Pv i σ H->aO K H a xs)
  (hs:∀ i x σ H,xs[i]? = some x->Pv i σ H->g x σ H fun σ2 H2=>tb { D with nx:=Pv (i+1),ct:=Pv (i+1),bk:=D.nx } σ2 H2) (hd:∀ σ H,Pv xs.length σ H->D.nx σ H) :
  ∃ W:Nat->Nat->St->Hp->Prop,(∃ m,W 0 m σ H)/\∀ i m σ H,W i m σ H->
   ((hB K a).stop i H/\D.nx σ H) ∨ ((hB K a).go i H/\∃ N:St->Hp->Prop,(∀ σ' H',N σ' H'->∃ m',m' < m/\W (i+1) m' σ' H')/\∀ x H',(hB K a).yld i H x H'->g x σ H' fun σ2 H2=>tb { D with nx:=N,ct:=N,bk:=D.nx } σ2 H2):=by
 refine⟨fun i m σ H=>m=xs.length - i/\i<=xs.length/\Pv i σ H,⟨xs.length,by simp,aO1 _,h0⟩,?_⟩
 rintro i m σ H ⟨rfl,hi,p⟩
 have q:=hl i σ H hi p
 by_cases hlt:i < xs.length
 ·refine .inr ⟨⟨xs,xs[i],q,by simp [hlt]⟩,Pv (i+1),fun σ' H' p'=>⟨xs.length - (i+1),by omega,rfl,hlt,p'⟩,fun x H' y=>?_⟩
  obtain ⟨e,y⟩:=y
  subst e
  exact hs i x σ _ (y xs q) p
 ·have e:i=xs.length:=by omega
  subst e
  exact .inl ⟨⟨xs,q,aK4 _⟩,hd σ H p⟩
noncomputable abbrev R2:=V->V->Hp->VK->Prop
noncomputable def bO (X:Cx) (f:Value->Value->Sem Value) (r:R2):Prop:=
 ∀ (pins:List (Addr × Obj)) (s:Shared) (σ:St) (H:Hp) (x y:V) (v u:Value) (Q:VK),a5 X pins σ H s->aF x v->aF y u->r x y H Q->
  wpAny (model X.prog X.w) X.A (f v u) (EP X pins σ Q) X.xe s
noncomputable def qF (X:Cx) (f:Value->Sem Value) (r:V->Hp->VK->Prop):Prop:=
 ∀ (pins:List (Addr × Obj)) (s:Shared) (σ:St) (H:Hp) (x:V) (v:Value) (Q:VK),a5 X pins σ H s->aF x v->r x H Q->
  wpAny (model X.prog X.w) X.A (f v) (EP X pins σ Q) X.xe s
noncomputable def cM (X:Cx) (f:Value) (r:List V->Hp->VK->Prop):Prop:=
 ∀ (pins:List (Addr × Obj)) (s:Shared) (σ:St) (H:Hp) (xs:List V) (us:List Value) (Q:VK),a5 X pins σ H s->aB xs us->r xs H Q->
  wpAny (model X.prog X.w) X.A (call f us) (EP X pins σ Q) X.xe s
noncomputable def U0 (X:Cx) (r:V->Hp->(Bool->Hp->Prop)->Prop):Prop:=
 ∀ (pins:List (Addr × Obj)) (s:Shared) (σ:St) (H:Hp) (x:V) (v:Value) (Q:Bool->Hp->Prop),a5 X pins σ H s->aF x v->r x H Q->
  wpAny (model X.prog X.w) X.A (truthy v) (TP X pins σ Q) X.xe s
noncomputable def lD (r:R2) (ta tb:TE):TE:=fun σ H Q=>ta σ H fun x H1=>tb σ H1 fun y H2=>r x y H2 Q
noncomputable def U1 (r:V->Hp->VK->Prop) (ta:TE):TE:=fun σ H Q=>ta σ H fun x H1=>r x H1 Q
noncomputable def rI (C:Int->Int->Prop) (g:Int->Int->V):R2:=fun x y H Q=>∃ i j,x = .int i/\y = .int j/\C i j/\Q (g i j) H
noncomputable def hG (g:Int->Int->V):R2:=fun x y H Q=>∃ i j,x = .int i/\y = .int j/\Q (g i j) H
noncomputable def rU (g:Int->V):V->Hp->VK->Prop:=fun x H Q=>∃ i,x = .int i/\Q (g i) H
section
variable {X : Cx} {a b c : Expr} {ta tb tc : TE} {pos : Pos}
theorem qG (ha:PE X a ta) (hb:PE X b tb) {pins:List (Addr × Obj)}{s:Shared}{σ:St}{H:Hp}{R:V->V->Hp->Prop} (I:a5 X pins σ H s)
  (h:ta σ H fun x H1=>tb σ H1 fun y H2=>R x y H2) {Q:Value->Shared->Prop}{f:Value->Value->Sem Value}
  (hf:∀ v u s2 x y H2,a5 X pins σ H2 s2->aF x v->aF y u->R x y H2->wpAny (model X.prog X.w) X.A (f v u) Q X.xe s2) :
  wpAny (model X.prog X.w) X.A (eval a X.env) (fun v s₁=>wpAny (model X.prog X.w) X.A (eval b X.env) (fun u s₂=>wpAny (model X.prog X.w) X.A (f v u) Q X.xe s₂) X.xe s₁) X.xe s:=by
 refine aE (ha pins s σ H _ I h) fun v s1 ⟨x,H1,I1,r1,q1⟩=>?_
 refine aE (hb pins s1 σ H1 _ I1 q1) fun u s2 ⟨y,H2,I2,r2,q2⟩=>?_
 exact hf v u s2 x y H2 I2 r1 r2 q2
theorem U2 {op:Operator}{r:R2} (ho:bO X (binaryOp op) r) (ha:PE X a ta) (hb:PE X b tb):PE X (.BinOp a op b pos) (lD r ta tb):=by
 intro pins s σ H Q I h
 exact wpAny_BinOp (qG ha hb I h fun v u s2 x y H2 I2 rx ry q=>ho pins s2 σ H2 x y v u Q I2 rx ry q)
theorem U3 {op:UnaryOp}{r:V->Hp->VK->Prop} (ho:qF X (unaryOp op) r) (ha:PE X a ta):PE X (.UnaryOp op a pos) (U1 r ta):=by
 intro pins s σ H Q I h
 exact UnaryOp_ (aE (ha pins s σ H _ I h) fun v s1 ⟨x,H1,I1,r1,q1⟩=>ho pins s1 σ H1 x v Q I1 r1 q1)
theorem qH {f:Value->Value->Sem Value}{C:Int->Int->Prop}{g:Int->Int->Int}
  (rule:∀ (i j:Int) (t u:Tok) (s:Shared) (Q:Value->Shared->Prop) (E:Value->Shared->Prop),C i j->Q (.int (g i j) s.toks) { s with toks:=s.toks+1 }->wpAny (model X.prog X.w) X.A (f (.int i t) (.int j u)) Q E s) :
  bO X f (rI C fun i j=>.int (g i j)):=by
 intro pins s σ H x y v u Q I rx ry h
 obtain ⟨i,j,rfl,rfl,hc,q⟩:=h
 obtain ⟨t,rfl⟩:=rx
 obtain ⟨t',rfl⟩:=ry
 exact rule i j t t' s _ _ hc ⟨.int (g i j),H,I.tok _,⟨_,rfl⟩,q⟩
theorem vM {f:Value->Value->Sem Value}{g:Int->Int->Int}
  (rule:∀ (i j:Int) (t u:Tok) (s:Shared) (Q:Value->Shared->Prop) (E:Value->Shared->Prop),Q (.int (g i j) s.toks) { s with toks:=s.toks+1 }->wpAny (model X.prog X.w) X.A (f (.int i t) (.int j u)) Q E s) :
  bO X f (hG fun i j=>.int (g i j)):=by
 intro pins s σ H x y v u Q I rx ry h
 obtain ⟨i,j,rfl,rfl,q⟩:=h
 obtain ⟨t,rfl⟩:=rx
 obtain ⟨t',rfl⟩:=ry
 exact rule i j t t' s _ _ ⟨.int (g i j),H,I.tok _,⟨_,rfl⟩,q⟩
theorem vN {f:Value->Value->Sem Value}{g:Int->Int->Bool}
  (rule:∀ (i j:Int) (t u:Tok) (s:Shared) (Q:Value->Shared->Prop) (E:Value->Shared->Prop),Q (.bool (g i j)) s->wpAny (model X.prog X.w) X.A (f (.int i t) (.int j u)) Q E s) :
  bO X f (hG fun i j=>.bl (g i j)):=by
 intro pins s σ H x y v u Q I rx ry h
 obtain ⟨i,j,rfl,rfl,q⟩:=h
 obtain ⟨t,rfl⟩:=rx
 obtain ⟨t',rfl⟩:=ry
 exact rule i j t t' s _ _ ⟨.bl (g i j),H,I,rfl,q⟩
noncomputable def qI (i j:Int):Prop:=0 < j/\j < 1073741824
noncomputable def lE (i j:Int):Prop:=(-(2 ^ 64) < i/\i < 2 ^ 64) ∨ (-(2 ^ 64) < j/\j < 2 ^ 64)
theorem lE.ok {i j:Int} (h:lE i j):IntMulOk i j:=by
 rcases h with ⟨h1,h2⟩ | ⟨h1,h2⟩
 ·exact .of_left (intBits_le_64 h1 h2)
 ·exact .of_right (intBits_le_64 h1 h2)
theorem U4:bO X (binaryOp .Add) (hG fun i j=>.int (i+j)):=vM fun _ _ _ _ _ _ _ q=>add_int q
theorem U5:bO X (binaryOp .Sub) (hG fun i j=>.int (i - j)):=vM fun _ _ _ _ _ _ _ q=>sub_int q
theorem U6:bO X (binaryOp .Mult) (rI lE fun i j=>.int (i * j)):=qH fun _ _ _ _ _ _ _ hc q=>mul_int q hc.ok
theorem U7:bO X (binaryOp .FloorDiv) (rI qI fun i j=>.int (i / j)):=qH fun i j _ _ _ _ _ hc q=>by
 have h1:(0:Int) < j:=hc.1
 have h2:j < 1073741824:=hc.2
 exact floordiv_int (by omega) (by rw [Int.fdiv_eq_ediv_of_nonneg i (by omega)]; exact q) (.inl (PyProof.noPylong_small (by omega)))
theorem U8:bO X (binaryOp .Mod) (rI (fun _ j=>0 < j) fun i j=>.int (i % j)):=qH fun i j _ _ _ _ _ hc q=>by
 have h1:(0:Int) < j:=hc
 exact mod_int' (by omega) (by rw [Int.fmod_eq_emod_of_nonneg i (by omega)]; exact q)
theorem U9 {f:Value->Sem Value}{g:Int->Int}
  (rule:∀ (i:Int) (t:Tok) (s:Shared) (Q:Value->Shared->Prop) (E:Value->Shared->Prop),Q (.int (g i) s.toks) { s with toks:=s.toks+1 }->wpAny (model X.prog X.w) X.A (f (.int i t)) Q E s) :
  qF X f (rU fun i=>.int (g i)):=by
 intro pins s σ H x v Q I rx h
 obtain ⟨i,rfl,q⟩:=h
 obtain ⟨t,rfl⟩:=rx
 exact rule i t s _ _ ⟨.int (g i),H,I.tok _,⟨_,rfl⟩,q⟩
theorem V0:qF X (unaryOp .USub) (rU fun i=>.int (-i)):=U9 fun _ _ _ _ _ q=>neg_int q
end
noncomputable def vO:V->V->Bool
 | .non,.non=>true | .non,.int _=>true | .int _,.non=>true | .non,.bl _=>true | .bl _,.non=>true | .non,.str _=>true | .str _,.non=>true
 | .int _,.int _=>true | .bl _,.bl _=>true | .str _,.str _=>true | .byt _,.byt _=>true
 | .int _,.str _=>true | .str _,.int _=>true | .bl _,.str _=>true | .str _,.bl _=>true
 | _,_=>false
noncomputable def vP:R2:=fun x y H Q=>vO x y=true/\Q (.bl (decide (x=y))) H
noncomputable def vQ:R2:=fun x y H Q=>vO x y=true/\Q (.bl (!decide (x=y))) H
theorem vR {i j:Int}:decide (V.int i=V.int j)=(i == j):=by
 rw [aV0]
 simp
theorem vS {i j:Bool}:decide (V.bl i=V.bl j)=(i == j):=by
 rw [aV0]
 simp
theorem vT {i j:Str}:decide (V.str i=V.str j)=(i == j):=by
 rw [aV0]
 simp
theorem vU {i j:Array UInt8}:decide (V.byt i=V.byt j)=(i.toList == j.toList):=by
 rw [aV0]
 cases i
 cases j
 simp
section
variable {X : Cx} {a b c : Expr} {ta tb tc : TE} {pos : Pos}
theorem bE {pins:List (Addr × Obj)}{σ:St}{H:Hp}{s:Shared}{Q:VK}{k k':Bool} (I:a5 X pins σ H s) (q:Q (.bl k) H) (e:k=k'):EP X pins σ Q (.bool k') s:=by
 subst e
 exact⟨.bl k,H,I,rfl,q⟩
theorem vV:bO X (compareOp .Eq) vP:=by
 intro pins s σ H x y v u Q I rx ry h
 obtain ⟨hs,q⟩:=h
 cases x with
 | non=>
  cases rx
  cases y with
  | non=>cases ry; exact PySem.EqNone.eq_none_none (bE I q (by simp))
  | bl j=>cases ry; exact PySem.EqNone.eq_none_bool (bE I q (by simp))
  | int j=>obtain ⟨t',rfl⟩:=ry; exact PySem.EqNone.eq_none_int (bE I q (by simp))
  | str j=>obtain ⟨t',rfl⟩:=ry; exact PySem.EqNone.eq_none_str (bE I q (by simp))
  | _=>exact absurd (show false=true from hs) aL6
 | bl i=>
  cases rx
  cases y with
  | non=>cases ry; exact PySem.EqNone.eq_bool_none (bE I q (by simp))
  | bl j=>cases ry; exact eq_bool (bE I q vS)
  | str j=>obtain ⟨t',rfl⟩:=ry; exact PySem.EqMixed.eq_bool_str (bE I q (by simp))
  | _=>exact absurd (show false=true from hs) aL6
 | int i=>
  obtain ⟨t,rfl⟩:=rx
  cases y with
  | non=>cases ry; exact PySem.EqNone.eq_int_none (bE I q (by simp))
  | int j=>obtain ⟨t',rfl⟩:=ry; exact eq_int (bE I q vR)
  | str j=>obtain ⟨t',rfl⟩:=ry; exact PySem.EqMixed.eq_int_str (bE I q (by simp))
  | _=>exact absurd (show false=true from hs) aL6
 | str i=>
  obtain ⟨t,rfl⟩:=rx
  cases y with
  | non=>cases ry; exact PySem.EqNone.eq_str_none (bE I q (by simp))
  | bl j=>cases ry; exact PySem.EqMixed.eq_str_bool (bE I q (by simp))
  | int j=>obtain ⟨t',rfl⟩:=ry; exact PySem.EqMixed.eq_str_int (bE I q (by simp))
  | str j=>obtain ⟨t',rfl⟩:=ry; exact eq_str (bE I q vT)
  | _=>exact absurd (show false=true from hs) aL6
 | byt i=>
  obtain ⟨t,rfl⟩:=rx
  cases y with
  | byt j=>obtain ⟨t',rfl⟩:=ry; exact PySem.W.eq_bytes (bE I q vU)
  | _=>exact absurd (show false=true from hs) aL6
 | _=>cases y <;> exact absurd (show false=true from hs) aL6
theorem V1:bO X (compareOp .NotEq) vQ:=by
 intro pins s σ H x y v u Q I rx ry h
 obtain ⟨hs,q⟩:=h
 cases x with
 | non=>
  cases rx
  cases y with
  | non=>cases ry; exact PySem.EqNone.ne_none_none (bE I q (by simp))
  | bl j=>cases ry; exact PySem.EqNone.ne_none_bool (bE I q (by simp))
  | int j=>obtain ⟨t',rfl⟩:=ry; exact PySem.EqNone.ne_none_int (bE I q (by simp))
  | str j=>obtain ⟨t',rfl⟩:=ry; exact PySem.EqNone.ne_none_str (bE I q (by simp))
  | _=>exact absurd (show false=true from hs) aL6
 | bl i=>
  cases rx
  cases y with
  | non=>cases ry; exact PySem.EqNone.ne_bool_none (bE I q (by simp))
  | bl j=>cases ry; exact ne_bool (bE I q (congrArg not vS))
  | str j=>obtain ⟨t',rfl⟩:=ry; exact PySem.EqMixed.ne_bool_str (bE I q (by simp))
  | _=>exact absurd (show false=true from hs) aL6
 | int i=>
  obtain ⟨t,rfl⟩:=rx
  cases y with
  | non=>cases ry; exact PySem.EqNone.ne_int_none (bE I q (by simp))
  | int j=>obtain ⟨t',rfl⟩:=ry; exact ne_int (bE I q (congrArg not vR))
  | str j=>obtain ⟨t',rfl⟩:=ry; exact PySem.EqMixed.ne_int_str (bE I q (by simp))
  | _=>exact absurd (show false=true from hs) aL6
 | str i=>
  obtain ⟨t,rfl⟩:=rx
  cases y with
  | non=>cases ry; exact PySem.EqNone.ne_str_none (bE I q (by simp))
  | bl j=>cases ry; exact PySem.EqMixed.ne_str_bool (bE I q (by simp))
  | int j=>obtain ⟨t',rfl⟩:=ry; exact PySem.EqMixed.ne_str_int (bE I q (by simp))
  | str j=>obtain ⟨t',rfl⟩:=ry; exact ne_str (bE I q (congrArg not vT))
  | _=>exact absurd (show false=true from hs) aL6
 | byt i=>
  obtain ⟨t,rfl⟩:=rx
  cases y with
  | byt j=>obtain ⟨t',rfl⟩:=ry; exact PySem.W.ne_bytes (bE I q (congrArg not vU))
  | _=>exact absurd (show false=true from hs) aL6
 | _=>cases y <;> exact absurd (show false=true from hs) aL6
theorem V3:bO X (compareOp .Lt) (hG fun i j=>.bl (decide (i < j))):=vN fun _ _ _ _ _ _ _ q=>lt_int q
theorem V4:bO X (compareOp .Gt) (hG fun i j=>.bl (decide (j < i))):=vN fun _ _ _ _ _ _ _ q=>gt_int q
theorem V5:bO X (compareOp .IsNot) (fun x y H Q=>y = .non/\Q (.bl (!decide (x = .non))) H):=by
 intro pins s σ H x y v u Q I rx ry h
 obtain ⟨rfl,q⟩:=h
 cases ry
 refine isnot_none_gen (bE I q ?_)
 cases x <;> first
  | (cases rx; rfl)
  | (obtain ⟨t,rfl⟩:=rx; rfl)
theorem hI (b:Expr) {op:CmpOp} (h:op ≠ .In:=by decide) (h2:op ≠ .NotIn:=by decide):behindInMarks op b=false:=by
 have e1:(op == CmpOp.In)=false:=by cases op <;> first | rfl | exact absurd rfl h
 have e2:(op == CmpOp.NotIn)=false:=by cases op <;> first | rfl | exact absurd rfl h2
 cases b <;> simp [behindInMarks,e1,e2]
theorem V6 {op:CmpOp}{r:R2} (ho:bO X (compareOp op) r) (ha:PE X a ta) (hb:PE X b tb) (hm:behindInMarks op b=false):PE X (.Compare a [op] [b] pos) (lD r ta tb):=by
 intro pins s σ H Q I h
 exact wpAny_Compare1 (qG ha hb I h fun v u s2 x y H2 I2 rx ry q=>ho pins s2 σ H2 x y v u Q I2 rx ry q) hm
noncomputable def V7 (t:TE):TT:=fun σ H Q=>t σ H fun x H'=>∃ k,x = .bl k/\Q k H'
theorem V8 {op:CmpOp}{r:R2} (ho:bO X (compareOp op) r) (ha:PE X a ta) (hb:PE X b tb) (hm:behindInMarks op b=false):PT X (.Compare a [op] [b] pos) (V7 (lD r ta tb)):=by
 intro pins s σ H Q I h
 refine wpAny_isTrue_Compare1 (aE (ha pins s σ H _ I h) fun v s1 ⟨x,H1,I1,r1,q1⟩=>aE (hb pins s1 σ H1 _ I1 q1) fun u s2 ⟨y,H2,I2,r2,q2⟩=>
  aE (ho pins s2 σ H2 x y v u _ I2 r1 r2 q2) fun c s3 ⟨z,H3,I3,r3,k,e,q3⟩=>?_) hm
 subst e
 cases r3
 exact aY6 ⟨H3,I3,q3⟩
noncomputable def qJ (K:PySem.W.Frag) (x:V) (H:Hp) (k:Bool):Prop:=
 match x with
 | .non=>k=false
 | .bl b=>k=b
 | .int i=>k=(i != 0)
 | .str y=>y.length<=sizeLine/\k=((y.length:Int) != 0)
 | .byt y=>y.size<=sizeLine/\k=((y.size:Int) != 0)
 | .ref p=>(∃ xs,aR K H p xs/\k = !xs.isEmpty) ∨ (∃ xs,aO K H p xs/\k = !xs.isEmpty) ∨ ∃ kvs,H p=some (.dK kvs)/\k = !kvs.isEmpty
 | _=>False
theorem V9 {κ:Type}{kvs:List (κ × V)}{vs:List (κ × Value)} (r:KV kvs vs):(!vs.isEmpty) = !kvs.isEmpty:=by
 cases r <;> rfl
theorem vW {xs:List V}{its:List Value} (r:aB xs its):(!its.toArray.isEmpty) = !xs.isEmpty:=by
 cases r <;> simp
theorem jS:(sizeLine:Nat) < 2 ^ 63:=by rw [sizeLine_eq]; decide
theorem W0:U0 X (fun x H Q=>∃ k,qJ X.K x H k/\Q k H):=by
 intro pins s σ H x v Q I rx h
 obtain ⟨k,e,q⟩:=h
 have hl:=jS
 have hs:sizeLine=16777216:=sizeLine_eq
 cases x with
 | non=>
  cases rx
  have e':k=false:=e
  subst e'
  exact truthy_none ⟨H,I,q⟩
 | bl b=>
  cases rx
  have e':k=b:=e
  subst e'
  exact aY6 ⟨H,I,q⟩
 | int i=>
  obtain ⟨t,rfl⟩:=rx
  have e':k=(i != 0):=e
  subst e'
  exact PySem.P.truthy_int ⟨H,I,q⟩
 | str y=>
  obtain ⟨t,rfl⟩:=rx
  obtain ⟨hy,e'⟩:y.length<=sizeLine/\k=((y.length:Int) != 0):=e
  subst e'
  exact PySem.P.truthy_str (by omega) ⟨H,I.tok _,q⟩
 | byt y=>
  obtain ⟨t,rfl⟩:=rx
  obtain ⟨hy,e'⟩:y.size<=sizeLine/\k=((y.size:Int) != 0):=e
  subst e'
  exact PySem.W.truthy_bytes (by omega) ⟨H,I.tok _,q⟩
 | ref p=>
  cases rx
  have e':(∃ xs,aR X.K H p xs/\k = !xs.isEmpty) ∨ (∃ xs,aO X.K H p xs/\k = !xs.isEmpty) ∨ ∃ kvs,H p=some (.dK kvs)/\k = !kvs.isEmpty:=e
  rcases e' with ⟨xs,hx,e'⟩ | ⟨xs,hx,e'⟩ | ⟨kvs,hx,e'⟩
  ·subst e'
   obtain ⟨its,r,pl,hz⟩:=I.list hx
   have hlen:=r.length
   exact wpAny_truthy_list pl.isList (by simp only [aK3]; omega) ⟨H,I.tok _,by rw [vW r]; exact q⟩
  ·subst e'
   obtain ⟨its,r,pl,hz⟩:=I.tuple hx
   have hlen:=r.length
   exact truthy_tuple pl (by simp only [aK3]; omega) ⟨H,I.tok _,by rw [vW r]; exact q⟩
  ·subst e'
   obtain ⟨hz,hS,vs,r,m⟩:kvs.length<=sizeLine/\(p == sysModules)=false/\∃ vs,KV kvs vs/\s.heap.DictOf (dN X.prog X.w) p vs:=I.hok p _ hx
   have hlen:kvs.length=vs.length:=Paired.length r
   exact wpAny_truthy_dict hS m (by omega) ⟨H,I.tok _,by rw [V9 r]; exact q⟩
 | _=>exact (show False from e).elim
theorem W5 (ha:PE X a ta) (he:∀ whole,isTrue a X.env whole=(do let v <- whole; standAt a.pos; holding [v] (truthy v))) :
  PT X a (fun σ H Q=>ta σ H fun x H'=>∃ k,qJ X.K x H' k/\Q k H'):=by
 intro pins s σ H Q I h
 exact isTrue_plain (aE (ha pins s σ H _ I h) fun v s1 ⟨x,H1,I1,r1,q1⟩=>W0 pins s1 σ H1 x v Q I1 r1 q1) (he _)
theorem hJ {x:V}{us:List Value} (r:aB [x] us):∃ u,us = [u]/\aF x u:=by
 cases r with
 | cons r1 r2=>cases r2; exact⟨_,rfl,r1⟩
theorem lF {x y:V}{us:List Value} (r:aB [x,y] us):∃ u w',us = [u,w']/\aF x u/\aF y w':=by
 cases r with
 | cons r1 r2=>
  cases r2 with
  | cons r3 r4=>cases r4; exact⟨_,_,rfl,r1,r3⟩
theorem W6 (hc:X.calm=true):cM X (.builtin "max") (fun xs H Q=>∃ i j,xs = [.int i,.int j]/\Q (.int (if j > i then j else i)) H):=by
 intro pins s σ H xs us Q I r h
 obtain ⟨i,j,rfl,q⟩:=h
 obtain ⟨u,w',rfl,⟨t,rfl⟩,⟨t',rfl⟩⟩:=lF r
 refine max_two_ints (I.ok.hd hc) fun h' tk k=>⟨_,H,I.kept k,?_,q⟩
 by_cases hj:j > i
 ·rw [if_pos hj,if_pos hj]; exact⟨_,rfl⟩
 ·rw [if_neg hj,if_neg hj]; exact⟨_,rfl⟩
theorem W7 (hc:X.calm=true):cM X (.builtin "min") (fun xs H Q=>∃ i j,xs = [.int i,.int j]/\Q (.int (if j < i then j else i)) H):=by
 intro pins s σ H xs us Q I r h
 obtain ⟨i,j,rfl,q⟩:=h
 obtain ⟨u,w',rfl,⟨t,rfl⟩,⟨t',rfl⟩⟩:=lF r
 refine min_two_ints (I.ok.hd hc) fun h' tk k=>⟨_,H,I.kept k,?_,q⟩
 by_cases hj:j < i
 ·rw [if_pos hj,if_pos hj]; exact⟨_,rfl⟩
 ·rw [if_neg hj,if_neg hj]; exact⟨_,rfl⟩
end
structure qK (h:Heap) (x dx C:Addr) (mA:Str->Option Value):Prop where
 obj:h.get? x=some (PySem.W.instObj C dx)
 ns:h.Ns1 dx mA
 ne:dx ≠ x
theorem W8 {h:Heap}{dx:Addr}{mA:Str->Option Value} (n:h.Ns1 dx mA):∃ od,h.get? dx=some od/\∀ name,PySem.W.lookIn name od=some (mA name):=by
 obtain ⟨o,es,ep,ho,hd,hk,_,hm⟩:=n
 refine⟨o,ho,fun name=>?_⟩
 have e:=hm name
 unfold nsFind findBy at e
 rw [<- Array.find?_toList] at e
 unfold PySem.W.lookIn
 rw [hd]
 dsimp only
 split
 ·rename_i y q
  rw [q] at e
  exact congrArg some e
 ·rename_i q
  rw [q] at e
  have a:es.toList.any (·.refKey)=false:=by
   rw [List.any_eq_false]
   intro y hy
   obtain ⟨z,t,hkey⟩:=hk y (Array.mem_toList_iff.mp hy)
   simp [DictEntry.refKey,hkey]
  have a' : ¬ es.toList.any (·.refKey)=true:=by rw [a]; exact aL6
  rw [if_neg a']
  exact congrArg some e
theorem qK.look {h:Heap}{x dx C:Addr}{mA:Str->Option Value} (I:qK h x dx C mA):∃ od,PySem.W.InstAt h x (PySem.W.instObj C dx) C (some od)/\∀ name,PySem.W.lookIn name od=some (mA name):=
 let ⟨od,ho,hl⟩:=W8 I.ns
 ⟨od,⟨I.obj,rfl,rfl,ho⟩,hl⟩
theorem fG.some_of {v:V}{o:Option Value} (r:fG (some v) o):∃ u,o=some u/\aF v u:=by
 cases o with
 | none=>exact (show False from r).elim
 | some u=>exact⟨u,rfl,r⟩
section
variable {P : Program} {w : World} {H H' : Hp} {h h' : Heap} {a C dx : Addr} {fs fs' : List (Str × V)}
theorem W9 (hok:bC P w H h) (e:H a=some (.ins C dx fs)):∃ mA,qK h a dx C mA/\(∀ f,fG (fs.lookup f) (mA f))/\PySem.Within mA (fs.map (·.1))/\fs.length<=1000/\H dx=some (.own a):=by
 obtain ⟨d,z,ne,ob,mA,n,r,q⟩:=(show bA P w H h a (.ins C dx fs) from hok a _ e)
 exact⟨mA,⟨ob,n,ne⟩,r,q,z,d⟩
end
structure qL (K:PySem.W.Frag) (C:Addr):Prop where
 pg:PySem.W.plainGet K C Str.empty=true
 hd:PySem.W.hasDictIn K C=true
 po:PySem.W.plainOver K C=true
 sa:PySem.W.findIn K (.ref C) "__setattr__" = some (some (.builtin "object.__setattr__"))
theorem qL.get {K:PySem.W.Frag}{C:Addr} (c:qL K C) (f:Str):PySem.W.plainGet K C f=true:=c.pg
section
variable {X : Cx} {pins : List (Addr × Obj)} {σ : St} {H : Hp} {s : Shared} {A : Around} {E : Value → Shared → Prop} {Q : Value → Shared → Prop} {c : Value} {b : Bool}
inductive dY (K:PySem.W.Frag) (H:Hp):V->Value->Prop where
 | non:dY K H .non (.type "NoneType")
 | bl (x:Bool):dY K H (.bl x) (.type "bool")
 | int (i:Int):dY K H (.int i) (.type "int")
 | str (x:Str):dY K H (.str x) (.type "str")
 | flt (x:UInt64):dY K H (.flt x) (.type "float")
 | lst {a:Addr}{xs:List V} (e:H a=some (.lst xs)):dY K H (.ref a) (.type "list")
 | frz {a:Addr}{o:Obj}{xs:List V} (e:H a=some (.frz o (.lst xs))):dY K H (.ref a) (.type "list")
 | tup {a:Addr}{xs:List V} (e:H a=some (.tup xs)):dY K H (.ref a) (.type "tuple")
 | dK {a:Addr}{kvs:List (a7 × V)} (e:H a=some (.dK kvs)):dY K H (.ref a) (.type "dict")
 | dT {a:Addr}{kvs:List (List a7 × V)} (e:H a=some (.dT kvs)):dY K H (.ref a) (.type "dict")
 | ins {a C dx:Addr}{fs:List (Str × V)} (e:H a=some (.ins C dx fs)) (cl:qL K C) (ha:PySem.W.findIn K (.ref C) "__class__" = some (some (.builtin "object.__class__")))
   (hn:PySem.W.specialIn K (.builtin "object.__class__") "__get__" = some (some (.builtin "getset_descriptor.__get__"))) (htk:PySem.W.takesIn K (.builtin "object.__class__")=some true)
   (hm:PySem.W.mroIn K C (.type "object")=some true):dY K H (.ref a) (.ref C)
theorem X0 {x:V}{u t:Value} (I:a5 X pins σ H s) (rx:aF x u) (ty:dY X.K H x t) (e:PySem.W.kitOne X.K t c=some b) (h:∀ tk,Q (.bool b) { s with toks:=tk }) :
  wpAny (model X.prog X.w) A (call (.builtin "isinstance") [u,c]) Q E s:=by
 cases ty with
 | non=>cases (show u=Value.none from rx); exact aQ1 PySem.W.kitx_none I.kIn aZ8 e (fun z=>nomatch z) h
 | bl y=>cases (show u=Value.bool y from rx); exact aQ1 PySem.W.kitx_bool I.kIn aZ8 e (fun z=>nomatch z) h
 | int i=>obtain ⟨t,q⟩:=(show ∃ t,u=Value.int i t from rx); cases q; exact aQ1 PySem.W.kitx_int I.kIn aZ8 e (fun z=>nomatch z) h
 | str y=>obtain ⟨t,q⟩:=(show ∃ t,u=Value.str y t from rx); cases q; exact aQ1 PySem.W.kitx_str I.kIn aZ8 e (fun z=>nomatch z) h
 | flt y=>obtain ⟨t,q⟩:=(show ∃ t,u=Value.float y t from rx); cases q; exact aQ1 PySem.W.kitx_float I.kIn aZ8 e (fun z=>nomatch z) h
 | @lst a xs ea=>
  cases (show u=Value.ref a from rx)
  obtain ⟨_,_,n,_,h1⟩:=(show bA X.prog X.w H s.heap a (.lst xs) from I.hok a _ ea)
  exact aQ1 PySem.W.kitx_list I.kIn ⟨_,h1,rfl⟩ e (fun z=>nomatch z) h
 | @frz a ob xs ea=>
  cases (show u=Value.ref a from rx)
  obtain ⟨_,_,_,n,_,h1⟩:=(show bA X.prog X.w H s.heap a (.frz ob (.lst xs)) from I.hok a _ ea)
  exact aQ1 PySem.W.kitx_list I.kIn ⟨_,h1,rfl⟩ e (fun z=>nomatch z) h
 | @tup a xs ea=>
  cases (show u=Value.ref a from rx)
  obtain ⟨_,_,_,p,_⟩:=(show bA X.prog X.w H s.heap a (.tup xs) from I.hok a _ ea)
  obtain ⟨o,h1,h2,_⟩:=p
  exact aQ1 PySem.W.kitx_tuple I.kIn ⟨o,h1,h2⟩ e (fun z=>nomatch z) h
 | @dK a kvs ea=>
  cases (show u=Value.ref a from rx)
  obtain ⟨_,_,vs,_,p⟩:=(show bA X.prog X.w H s.heap a (.dK kvs) from I.hok a _ ea)
  obtain ⟨o,es,ep,h1,h2,_⟩:=p
  exact aQ1 PySem.W.kitx_dict I.kIn ⟨o,h1,h2.1⟩ e (fun z=>nomatch z) h
 | @dT a kvs ea=>
  cases (show u=Value.ref a from rx)
  obtain ⟨_,_,xs,_,o,es,ep,h1,h2,_⟩:=(show bA X.prog X.w H s.heap a (.dT kvs) from I.hok a _ ea)
  exact aQ1 PySem.W.kitx_dict I.kIn ⟨o,h1,h2.1⟩ e (fun z=>nomatch z) h
 | @ins a C dx fs ea cl ha hn htk hm=>
  cases (show u=Value.ref a from rx)
  obtain ⟨mA,O,_⟩:=W9 I.hok ea
  obtain ⟨od,J,_⟩:=O.look
  exact aQ1 (PySem.W.kitx_own (cl.get _) cl.hd ha hn htk hm) I.kIn J e (fun z=>nomatch z) h
end
structure bG (k:Nat) (A:Around):Prop where
 hd:A.handled=none
 dp:A.depth+3 * k+5 < recursionLimit
 un:A.units+16 * k+200 < cLine
theorem bG.mono {j k:Nat}{A:Around} (r:bG k A) (h:j<=k):bG j A:=⟨r.hd,by have:=r.dp; omega,by have:=r.un; omega⟩
theorem bG.deeper {k:Nat}{A:Around} (r:bG (k+1) A) (env:Env):bG k (A.deeper env):=
 ⟨r.hd,by have:=r.dp; show A.depth+1+3 * k+5 < _; omega,by have:=r.un; show A.units+3+16 * k+200 < _; omega⟩
theorem bG.depth {k:Nat}{A:Around} (r:bG k A):A.depth < recursionLimit:=by have:=r.dp; omega
theorem bG.units {k:Nat}{A:Around} (r:bG k A):A.units+64 < cLine:=by have:=r.un; omega
noncomputable def jT:TA:=fun _ H Q=>Q [] H
noncomputable def iP (ta:TE) (tr:TA):TA:=fun σ H Q=>ta σ H fun x H1=>tr σ H1 fun xs H2=>Q (x :: xs) H2
section
variable {X : Cx} {e : Expr} {es : List Expr} {te : TE} {t : TA} {pos : Pos}
theorem fI:PA X [] jT:=fun _ _ _ _ H Q I h=>Calls.spliced_nil ⟨[],H,I,.nil,h⟩
theorem eI (ha:PE X e te) (hr:PA X es t) (hs:starEach (e :: es) X.env=(false,eval e X.env) :: starEach es X.env:=by rfl):PA X (e :: es) (iP te t):=by
 intro pos pins s σ H Q I h
 rw [hs]
 show wpAny _ _ (spliced ((false,eval e X.env) :: backTo pos (starEach es X.env))) _ _ s
 refine Calls.spliced_cons (aE (ha pins s σ H _ I h) fun u s1 ⟨x,H1,I1,r1,q1⟩=>?_)
 exact aE (hr pos pins s1 σ H1 _ I1 q1) fun us s2 ⟨xs,H2,I2,r2,q2⟩=>⟨x :: xs,H2,I2,.cons r1 r2,q2⟩
noncomputable def vX (t:TA):TE:=fun σ H Q=>t σ H fun xs H1=>xs.length<=sizeLine/\∀ p,H1 p=none->Q (.ref p) (upd H1 p (.tup xs))
noncomputable def vY (t:TA):TE:=fun σ H Q=>t σ H fun xs H1=>xs.length<=sizeLine/\∀ p,H1 p=none->Q (.ref p) (upd H1 p (.lst xs))
theorem X1 {x1} (h:PA X es t):PE X (.Tuple es x1 pos) (vX t):=by
 intro pins s σ H Q I hq
 refine wpAny_Tuple_spliced (aE (h pos pins s σ H _ I hq) fun us s1 ⟨xs,H1,I1,r,z,q⟩=>⟨by rw [<- r.length]; exact z,?_⟩)
 have hf:H1 s1.heap.objs.size=none:=I1.hok.fresh (aK4 _)
 refine⟨.ref s1.heap.objs.size,upd H1 s1.heap.objs.size (.tup xs),I1.laid (t':=s1.toks) (fun b u e=>aK5 _ e) (aK4 _) ?_,rfl,q _ hf⟩
 exact⟨z,us,r,⟨_,aM3 _ rfl,rfl,_,rfl⟩,fH.new _ _ rfl⟩
theorem vZ (h:PA X es t):PE X (.List es pos) (vY t):=by
 intro pins s σ H Q I hq
 refine wpAny_List_spliced (aE (h pos pins s σ H _ I hq) fun us s1 ⟨xs,H1,I1,r,z,q⟩=>⟨by rw [<- r.length]; exact z,?_⟩)
 have hf:H1 s1.heap.objs.size=none:=I1.hok.fresh (aK4 _)
 refine⟨.ref s1.heap.objs.size,upd H1 s1.heap.objs.size (.lst xs),I1.laid (t':=s1.toks) (fun b u e=>aK5 _ e) (aK4 _) ?_,rfl,q _ hf⟩
 exact⟨z,us,0,r,aM3 _ rfl⟩
end
noncomputable abbrev Sp:=List V->Hp->VK->XK->Prop
noncomputable abbrev eW:=List Env->Hp->Shared->XK->Value->Shared->Prop
structure mV (P:Program) (w:World) (K:PySem.W.Frag) (mg:Str->Option Value) (base:Heap) (A:Around) (outer:List Env) (s:Shared) (H:Hp):Prop where
 frames:A.frames=some outer
 mod:Mod K mg base
 bs:∀ b o,base.get? b=some o->s.heap.get? b=some o/\H b=none
 bsz:base.objs.size<=s.heap.objs.size
 funs:s.heap.FunFrames base outer
 frf:∀ b ∈ b9 outer,H b=none
 hok:bC P w H s.heap
 bare:AllBare s.gens
noncomputable def CE (outer:List Env) (P:Program) (w:World) (H:Hp) (s:Shared) (Q:VK) (u:Value) (s':Shared):Prop:=
 ∃ v H',s'.os=s.os/\AllBare s'.gens/\Un (b9 outer) [] H H' s.heap s'.heap/\bC P w H' s'.heap/\aF v u/\Q v H'
noncomputable def CR (CX:eW) (outer:List Env) (P:Program) (w:World) (H:Hp) (s:Shared) (Q:VK) (E:XK) (r:Result) (s':Shared):Prop:=
 match r with
 | .ok (.ret u)=>CE outer P w H s Q u s'
 | .ok _=>False
 | .error e=>CX outer H s E e s'
structure cH (P:Program) (w:World) (K:PySem.W.Frag) (mg:Str->Option Value) (base:Heap) (CX:eW) (k:Nat) (f:Addr) (fd:FuncData) (ps:List Str) (sp:Sp):Prop where
 len:∀ vs H Q E,sp vs H Q E->vs.length=ps.length
 run:∀ (A:Around) (outer:List Env) (s:Shared) (H:Hp) (args:Args) (us:List Value) (vs:List V) (Q:VK) (E:XK),bG k A->mV P w K mg base A outer s H->BindsTo s fd args (ps.zip us)->aB vs us->sp vs H Q E->
  codeAny (model P w) A (.call (.ref f) args) (CR CX outer P w H s Q E) s
theorem cH.imp {P:Program}{w:World}{K:PySem.W.Frag}{mg:Str->Option Value}{base:Heap}{CX:eW}{k:Nat}{f:Addr}{fd:FuncData}{ps:List Str}{sp sp':Sp} (F:cH P w K mg base CX k f fd ps sp)
  (h:∀ vs H Q E,sp' vs H Q E->sp vs H Q E):cH P w K mg base CX k f fd ps sp':=
 ⟨fun vs H Q E q=>F.len vs H Q E (h _ _ _ _ q),fun A outer s H args us vs Q E hr he hb hv hs=>F.run A outer s H args us vs Q E hr he hb hv (h _ _ _ _ hs)⟩
section
variable {X : Cx} {pins : List (Addr × Obj)} {σ : St} {H : Hp} {s s' : Shared}
theorem a5.env0 (I:a5 X pins σ H s):mV X.prog X.w X.K X.mg X.base X.A X.stack s H:=
 ⟨I.ok.frames,I.ok.mod,I.bs,aP2 I.ok.bsz I.sz,I.stack,I.stkFree,I.hok,I.bare⟩
theorem a5.after {Q:VK}{u:Value} (I:a5 X pins σ H s) (h:CE X.stack X.prog X.w H s Q u s'):EP X pins σ Q u s':=by
 obtain ⟨v,H',os,bare,un,hok,r,q⟩:=h
 obtain ⟨hh,g,d,t,os'⟩:=s'
 obtain rfl:os'=s.os:=os
 exact⟨v,H',I.call (h':=hh) (g':=g) (d':=d) (t':=t) (ch:=[]) un hok bare (fun b z=>absurd z (by simp)),r,q⟩
end
noncomputable def qM (sp:Sp) (dvs:List V) (E:XK) (t:TA):TE:=fun σ H Q=>t σ H fun vs H1=>sp (vs ++ dvs) H1 Q E
noncomputable def gA (K:PySem.W.Frag) (fd:FuncData) (ps:List Str) (ds:List Value):Prop:=
 ∀ (s:Shared) (us:List Value),K.In s.heap->(us ++ ds).length=ps.length->BindsTo s fd ⟨us,[]⟩ (ps.zip (us ++ ds))
theorem gA.all {K:PySem.W.Frag}{fd:FuncData}{ps:List Str} (h:∀ us:List Value,us.length=ps.length->bindArgs fd ⟨us,[]⟩=pure (ps.zip us)):gA K fd ps []:=fun s us _ hl=>by
 rw [aQ2] at hl ⊢
 exact .of_eq (h us hl)
noncomputable def lG (CX:eW) (X:Cx) (E:XK):Prop:=∀ (pins:List (Addr × Obj)) (σ:St) (H:Hp) (s:Shared) (e:Value) (s':Shared),a5 X pins σ H s->CX X.stack H s E e s'->X.xe e s'
section
variable {X : Cx} {CX : eW} {k : Nat} {f C : Addr} {fd : FuncData} {ps : List Str} {sp : Sp} {dvs : List V} {ds : List Value} {E : XK} {x m : Str} {p pos apos : Pos} {e o : Expr} {es : List Expr} {ta : TE} {t : TA}
theorem X2 {pins:List (Addr × Obj)}{σ:St}{H:Hp}{s:Shared}{Q:VK}{us:List Value}{vs:List V} (F:cH X.prog X.w X.K X.mg X.base CX k f fd ps sp) (hr:bG k X.A) (hb:gA X.K fd ps ds) (hd:aB dvs ds) (hx:lG CX X E)
  (I:a5 X pins σ H s) (r:aB vs us) (h:sp (vs ++ dvs) H Q E):wpAny (model X.prog X.w) X.A (call (.ref f) us) (EP X pins σ Q) X.xe s:=by
 have r2:aB (vs ++ dvs) (us ++ ds):=r.append hd
 have hl:(us ++ ds).length=ps.length:=by rw [<- r2.length]; exact F.len _ _ _ _ h
 refine wpAny_call (codeAny_mono (F.run X.A X.stack s H ⟨us,[]⟩ (us ++ ds) (vs ++ dvs) Q E hr I.env0 (hb s us I.kIn hl) r2 h) fun r s' hq=>?_)
 cases r with
 | error e=>exact hx pins σ H s e s' I hq
 | ok fl=>
  cases fl with
  | ret u=>exact I.after hq
  | next=>exact False.elim hq
  | brk=>exact False.elim hq
  | cont=>exact False.elim hq
theorem qN (F:cH X.prog X.w X.K X.mg X.base CX k f fd ps sp) (hr:bG k X.A) (hg:Gl X x) (hm:X.mg x=some (.ref f)) (hk:PySem.W.keepIn X.K (.ref f)=true) (hb:gA X.K fd ps ds) (hd:aB dvs ds) (hx:lG CX X E)
  (ha:PA X (e :: es) t) (hdb:(x == ("__debug__" : Str))=false:=by decide) (he:starEach (e :: es) X.env=(false,eval e X.env) :: starEach es X.env:=by rfl) (hpl:(backTo pos (starEach es X.env)).any (·.1)=false:=by rfl) :
  PE X (.Call (.Name x p) (e :: es) [] pos) (qM sp dvs E t):=by
 intro pins s σ H Q I h
 refine aX3 (l8 I hg hm ?_ hdb)
 refine PySem.W.callWith_K (h₀:=X.base) I.ok.mod.kin hk (aE (ha pos pins s σ H _ I h) fun us s1 ⟨vs,H1,I1,r,q⟩=>⟨I1.kIn,?_⟩) he hpl
 exact X2 F hr hb hd hx I1 r q
end
noncomputable def PK (X:Cx) (kws:List Keyword) (t:TA):Prop:=
 ∀ (pos:Pos) (pins:List (Addr × Obj)) (s:Shared) (σ:St) (H:Hp) (Q:List V->Hp->Prop),a5 X pins σ H s->t σ H Q->wpAny (model X.prog X.w) X.A (evalAll ((backToKw pos (keywordEach kws X.env)).map (·.2))) (AP X pins σ Q) X.xe s
structure FnScope (N P:List Str) (sc:Scope):Prop where
 kind:sc.kind = .function
 co:sc.isCoroutine=false
 gen:sc.isGenerator=false
 nd:N.Nodup
 pre:N.take P.length=P
 par:∀ x ∈ P,sc.names.lookup x=some .local ∨ sc.names.lookup x=some .cell
 nofree:∀ y ∈ sc.names,y.2 ≠ .free
theorem w4 {kindOf:Str->Option NameKind}{x:Str}:∀ {binds:List (Str × Value)}{m:Str->Option Value},(∀ v,(x,v) ∉ binds)->bindL kindOf binds m x=m x
 | [],_,_=>rfl
 | (n,v) :: r,m,h=>by
  unfold bindL
  rw [w4 fun w hw=>h w (aL5 _ hw)]
  split
  ·have:x ≠ n:=by rintro rfl; exact h v aM2
   simp [this]
  ·rfl
theorem w5 {kindOf:Str->Option NameKind}{x:Str}:∀ {binds:List (Str × Value)}{m:Str->Option Value},(∀ v,(x,v) ∉ binds)->bindC kindOf binds m x=m x
 | [],_,_=>rfl
 | (n,v) :: r,m,h=>by
  unfold bindC
  rw [w5 fun w hw=>h w (aL5 _ hw)]
  split
  ·rfl
  ·have:x ≠ n:=by rintro rfl; exact h v aM2
   simp [this]
theorem w6 {kindOf:Str->Option NameKind}{x:Str}{v:Value}:∀ {P:List Str}{vs:List Value}{i:Nat}{m:Str->Option Value},P.Nodup->P[i]? = some x->vs[i]? = some v->kindOf x=some .local->
  bindL kindOf (P.zip vs) m x=some v
 | [],_,_,_,_,h,_,_=>by simp at h
 | _ :: _,[],_,_,_,_,h,_=>by simp at h
 | p :: P,w :: vs,0,m,nd,h1,h2,hk=>by
  simp at h1 h2; subst h1; subst h2
  show bindL kindOf ((p,w) :: P.zip vs) m p=_
  unfold bindL
  rw [w4 fun v hv=>(aS9.mp nd).1 (List.of_mem_zip hv).1,if_pos hk]
  simp
 | p :: P,w :: vs,i+1,m,nd,h1,h2,hk=>by
  show bindL kindOf ((p,w) :: P.zip vs) m x=_
  unfold bindL
  exact w6 (i:=i) (aS9.mp nd).2 (by simpa using h1) (by simpa using h2) hk
theorem w9 {kindOf:Str->Option NameKind}{x:Str}{v:Value}:∀ {P:List Str}{vs:List Value}{i:Nat}{m:Str->Option Value},P.Nodup->P[i]? = some x->vs[i]? = some v->kindOf x ≠ some .local->
  bindC kindOf (P.zip vs) m x=some v
 | [],_,_,_,_,h,_,_=>by simp at h
 | _ :: _,[],_,_,_,_,h,_=>by simp at h
 | p :: P,w :: vs,0,m,nd,h1,h2,hk=>by
  simp at h1 h2; subst h1; subst h2
  show bindC kindOf ((p,w) :: P.zip vs) m p=_
  unfold bindC
  rw [w5 fun v hv=>(aS9.mp nd).1 (List.of_mem_zip hv).1,if_neg hk]
  simp
 | p :: P,w :: vs,i+1,m,nd,h1,h2,hk=>by
  show bindC kindOf ((p,w) :: P.zip vs) m x=_
  unfold bindC
  exact w9 (i:=i) (aS9.mp nd).2 (by simpa using h1) (by simpa using h2) hk
noncomputable def eY (N:List Str) (vs:List V):St:=vs.map some ++ List.replicate (N.length - vs.length) none
noncomputable def cI (CX:eW) (P:Program) (w:World) (K:PySem.W.Frag) (mg:Str->Option Value) (base:Heap) (N:List Str) (qual:Str) (scope:Scope) (f:Addr) (cd:Value) (A:Around) (outer:List Env) (s:Shared) (H:Hp) (E:XK):Cx where
 prog:=P
 w:=w
 K:=K
 mg:=mg
 base:=base
 A:=A.deeper (envOfC qual scope s.heap.objs.size f cd)
 N:=N
 s₀:=s
 H₀:=H
 env:=envOfC qual scope s.heap.objs.size f cd
 outer:=outer
 stack:=envOfC qual scope s.heap.objs.size f cd :: outer
 ex:=[]
 calm:=true
 fn:=fun _=>true
 pn:=[]
 xe:=fun e s'=>wpAny (model P w) (A.deeper (envOfC qual scope s.heap.objs.size f cd)) (leaving (envOfC qual scope s.heap.objs.size f cd) e) (fun _ s''=>CX outer H s E e s'') (fun e' s''=>CX outer H s E e' s'') s'
theorem wA {sc:Scope}{n:Nat}{x:Str} (h:sc.names.lookup x=some .cell):∃ c,(cellsFrom n sc.names []).lookup x=some c:=by
 have q:=PySem.W.cellsFrom_some sc.names n [] (.inl h)
 exact Option.isSome_iff_exists.mp q
theorem X3 {CX:eW}{P:Program}{w:World}{K:PySem.W.Frag}{mg:Str->Option Value}{base:Heap}{N ps:List Str}{qual:Str}{scope:Scope}{f:Addr}{cd:Value}{A:Around}{outer:List Env}{s s1:Shared}{H:Hp}{E:XK}{us:List Value}{vs:List V}
  (S:FnScope N ps scope) (hd:A.handled=none) (e0:mV P w K mg base A outer s H) (hl:vs.length=ps.length) (r:aB vs us)
  (x:InCallC s s.heap.objs.size (bindL (envOfC qual scope s.heap.objs.size f cd).kindOf (ps.zip us) fun _=>none) (cellsFrom (s.heap.objs.size+1) scope.names []) (bindC (envOfC qual scope s.heap.objs.size f cd).kindOf (ps.zip us) fun _=>none) s1) :
  a5 (cI CX P w K mg base N qual scope f cd A outer s H E) [] (eY N vs) H s1:=by
 have hpl:ps.length<=N.length:=by have:=congrArg List.length S.pre; rw [aR1] at this; omega
 obtain ⟨h1,tk,rfl,hk⟩:=x.done
 have noA:∀ b:Addr,b ∉ (cI CX P w K mg base N qual scope f cd A outer s H E).ex:=fun b z=>absurd (show b ∈ ([]:List Addr) from z) (by simp)
 refine⟨⟨e0.mod,S.kind,rfl,rfl,aK4 _,fun y z c h1 h2=>?_,fun y hy=>?_,fun y c _ h=>?_,fun _=>hd,Around.frames_deeper e0.frames,.inr ⟨rfl,rfl⟩,fun b z=>absurd z (noA b),e0.bs,e0.bsz,fun b _ _=>noA b,fun b z=>absurd z (noA b),e0.funs,e0.frf⟩,
  rfl,e0.bare,Un.kept hk,⟨_,x.toInCall.ns,fun i y v h1 h2 h3=>?_⟩,fun y c h=>⟨_,x.cell y c h⟩,e0.hok.fresh (aK4 _),fun y c h=>?_,fun p hp=>absurd (show p ∈ ([]:List (Addr × Obj)) from hp) (by simp),e0.hok.kept hk,?_⟩
 ·exact name_of_addr x.apart (aP1 h1) (aP1 h2)
 ·have hy:scope.names.lookup y=some .cell ∨ scope.names.lookup y=some .free:=hy
  rcases hy with hy | hy
  ·exact wA hy
  ·exact absurd rfl (S.nofree _ (aP1 hy))
 ·exact aU5 (x.above y c (aP1 h))
 ·have hi:i < vs.length:=by
   unfold eY at h2
   by_cases hi:i < vs.length
   ·exact hi
   ·rw [aX4 (by simpa using hi)] at h2
    rw [List.getElem?_replicate] at h2
    split at h2 <;> cases h2
  have ha:vs[i]? = some v:=by
   unfold eY at h2
   rw [aV2 (by simpa using hi),aL9] at h2
   cases e:vs[i]? with
   | none=>rw [e] at h2; cases h2
   | some a=>rw [e] at h2; cases h2; rfl
  obtain ⟨u,hu,rv⟩:=r.get ha
  have hp:ps[i]? = some y:=by
   rw [<- S.pre,aS2 (by omega)]; exact h1
  have ndP:ps.Nodup:=by rw [<- S.pre]; exact S.nd.sublist (List.take_sublist _ _)
  refine⟨u,rv,?_⟩
  rcases S.par y (aP3 hp) with k | k
  ·exact .inl ⟨k,w6 ndP hp hu k⟩
  ·obtain ⟨c,e⟩:=wA (n:=s.heap.objs.size+1) k
   refine .inr ⟨.inl k,c,e,?_⟩
   have q:=x.cell y c e
   rw [w9 ndP hp hu (by show scope.names.lookup y ≠ _; rw [k]; decide)] at q
   exact q
 ·exact e0.hok.fresh (aU5 (x.above y c (aP1 h)))
 ·unfold eY
  show _=N.length
  rw [aL1,aL4,List.length_replicate]
  omega
theorem wB {CX:eW}{P:Program}{w:World}{K:PySem.W.Frag}{mg:Str->Option Value}{base:Heap}{k:Nat}{f:Addr}{name qual:Str}{params:Arguments}{body:List Stmt}{scope:Scope}{dV kV doc pm cdv ct oc:Value}{an od:Option Addr}
  {osl:Array (Option Value)}{N ps:List Str}{sp:Sp} (lk:K.lookup f=some ⟨oc,od,.func (PySem.W.fnOf name qual params body scope dV kV doc pm an cdv ct),osl⟩) (hcd:PySem.W.codeIn K cdv qual=true) (S:FnScope N ps scope)
  (len:∀ vs H Q E,sp vs H Q E->vs.length=ps.length)
  (hbody:∀ (A:Around) (outer:List Env) (s:Shared) (H:Hp) (vs:List V) (Q:VK) (E:XK),bG k (A.deeper (envOfC qual scope s.heap.objs.size f cdv))->sp vs H Q E->
   ∃ t,cP (cI CX P w K mg base N qual scope f cdv A outer s H E) body t/\t { nx:=fun _ H'=>Q .non H',rt:=Q } (eY N vs) H) :
  cH P w K mg base CX (k+1) f (PySem.W.fnOf name qual params body scope dV kV doc pm an cdv ct) ps sp:=by
 refine⟨len,fun A outer s H args us vs Q E hr e0 hb r hsp=>?_⟩
 have hl:=len _ _ _ _ hsp
 have KX:K.In s.heap:=e0.mod.kin.keeps fun b o e=>(e0.bs b o e).1
 have lim:s.heap.NoLimit:=e0.mod.nolimit.keeps fun b o e=>(e0.bs b o e).1
 have hkind:∀ y ∈ ps.zip us,scope.names.lookup y.1=some .local ∨ (scope.names.lookup y.1=some .cell/\((cellsFrom (s.heap.objs.size+1) scope.names []).lookup y.1).isSome=true):=fun ⟨n,v⟩ hy=>by
  rcases S.par n (List.of_mem_zip hy).1 with q | q
  ·exact .inl q
  ·exact .inr ⟨q,PySem.W.cellsFrom_some _ _ _ (.inl q)⟩
 refine codeAny_call_function hr.depth (KX _ _ lk) rfl S.co S.gen rfl (PySem.W.codeRec_of KX hcd) (hb _ _ _ _ ?_)
 refine wpAny_newFunctionEnv_cells S.kind hkind fun env he s1 x=>?_
 subst he
 refine⟨lim.keeps x.toInCall.keep,codeAny_func ?_⟩
 obtain ⟨t,ht,hq⟩:=hbody A outer s H vs Q E (hr.deeper _) hsp
 have I:a5 (cI CX P w K mg base N qual scope f cdv A outer s H E) [] (eY N vs) H s1:=X3 S hr.hd e0 hl r x
 refine aP8 (ht [] s1 (eY N vs) H _ I hq) (fun fl s' hs=>?_) fun e s' hs=>hs
 have fin:∀ {σ':St}{H':Hp}{v:V}{u:Value},a5 (cI CX P w K mg base N qual scope f cdv A outer s H E) [] σ' H' s'->aF v u->Q v H'->CE outer P w H s Q u s':=
  fun {σ' H' v u} J rv q=>⟨v,H',J.os,J.bare,J.base,J.hok,rv,q⟩
 cases fl with
 | ret u=>
  obtain ⟨v,σ',H',J,rv,q⟩:=hs
  exact fin J rv q
 | next=>
  obtain ⟨σ',H',J,q⟩:=hs
  exact fin (v:=V.non) (u:=Value.none) J rfl q
 | brk=>
  obtain ⟨_,_,_,q⟩:=hs
  exact False.elim q
 | cont=>
  obtain ⟨_,_,_,q⟩:=hs
  exact False.elim q
section
variable {X : Cx} {x : Str} {p pos : Pos} {e : Expr} {es : List Expr} {t : TA} {id T : String} {r : List V → Hp → VK → Prop}
noncomputable def qO (r:List V->Hp->VK->Prop) (t:TA):TE:=fun σ H Q=>t σ H fun vs H1=>r vs H1 Q
theorem mW (hc:cM X (.builtin id) r) (hg:Gl X x) (hm:X.mg x=none) (hv:bootBuiltins x=some (.builtin id)) (ha:PA X (e :: es) t) (hn:x ≠ "__name__":=by decide) (hdb:(x == ("__debug__" : Str))=false:=by decide)
  (he:starEach (e :: es) X.env=(false,eval e X.env) :: starEach es X.env:=by rfl) (hpl:(backTo pos (starEach es X.env)).any (·.1)=false:=by rfl):PE X (.Call (.Name x p) (e :: es) [] pos) (qO r t):=by
 intro pins s σ H Q I h
 refine aX3 (iM I hg hm hv ?_ hn hdb)
 exact PyProof.Rows.callWith_builtin1 (aE (ha pos pins s σ H _ I h) fun us s1 ⟨vs,H1,I1,r1,q1⟩=>hc pins s1 σ H1 vs us Q I1 r1 q1) he hpl
theorem wC (hc:cM X (.type T) r) (hg:Gl X x) (hm:X.mg x=none) (hv:bootBuiltins x=some (.type T)) (ha:PA X (e :: es) t) (hn:x ≠ "__name__":=by decide) (hdb:(x == ("__debug__" : Str))=false:=by decide)
  (he:starEach (e :: es) X.env=(false,eval e X.env) :: starEach es X.env:=by rfl) (hpl:(backTo pos (starEach es X.env)).any (·.1)=false:=by rfl):PE X (.Call (.Name x p) (e :: es) [] pos) (qO r t):=by
 intro pins s σ H Q I h
 refine aX3 (iM I hg hm hv ?_ hn hdb)
 exact aU1 (aE (ha pos pins s σ H _ I h) fun us s1 ⟨vs,H1,I1,r1,q1⟩=>hc pins s1 σ H1 vs us Q I1 r1 q1) he hpl
end
end L2
namespace HT
open PySem PyProof.Rows
noncomputable def gB:List Int->List Int->Bool
 | [],[]=>false
 | [],_ :: _=>true
 | _ :: _,[]=>false
 | x :: xs,y :: ys=>if x=y then gB xs ys else decide (x < y)
theorem lH (x y:Int) (xs ys:List Int):gB (x :: xs) (y :: ys)=if x=y then gB xs ys else decide (x < y):=rfl
theorem X4:gB [] []=false:=rfl
section
variable {prog : Program} {w : World} {A : Around} {E : Value → Shared → Prop} {s : Shared}
theorem X5 {t b:Addr}{vs ws:List Value}{Q:Value->Shared->Prop} (ht:IsTup s.heap t vs.toArray) (hb:IsTup s.heap b ws.toArray) (hv:vs ≠ [])
  (h1:ws = []->Q (.ref t) s) (h2:ws ≠ []->Q (.ref s.heap.objs.size) { s with heap:=s.heap.push { cls:=.type "tuple",data:=.seq (vs ++ ws).toArray } })
  (hsz:vs.length+ws.length<=sizeLine):wpAny (model prog w) A (binaryOp .Add (.ref t) (.ref b)) Q E s:=by
 obtain ⟨⟨cls,dd,data,sl⟩,ho,hc,n,hd⟩:=id ht
 obtain ⟨⟨cls2,dd2,data2,sl2⟩,ho2,hc2,n2,hd2⟩:=id hb
 simp only at hc hd hc2 hd2
 subst hc hd hc2 hd2
 have e:vs.toArray ++ ws.toArray=(vs ++ ws).toArray:=by simp
 by_cases hw:ws = []
 ·exact concat_meets ⟨_,ho,rfl⟩ ⟨_,ho2,rfl⟩ noFill_tuple_add seq_tuple_add PySem.F.slot_tuple_add PySem.F.entry_tuple_add (PySem.F.args_tuple_add_2 _ _)
   (tuple_addW1 t b vs.toArray ws.toArray n n2 dd dd2 sl sl2 (by simpa using hv) (by simp [hw])) ⟨ho,ho2,h1 hw⟩
 ·refine concat_meets ⟨_,ho,rfl⟩ ⟨_,ho2,rfl⟩ noFill_tuple_add seq_tuple_add PySem.F.slot_tuple_add PySem.F.entry_tuple_add (PySem.F.args_tuple_add_2 _ _)
   (tuple_addW2 t b vs.toArray ws.toArray n n2 dd dd2 sl sl2 (by simpa using hv) (by simpa using hw) (by rw [aK3,aK3]; exact hsz)) ⟨ho,ho2,?_⟩
  rw [e]
  exact h2 hw
noncomputable def aM (n d:Nat):Option Int->Nat
 | none=>d
 | some v=>if v < 0 then (v+(n:Int)).toNat else min v.toNat n
theorem X6 (n d k:Nat):aM n d (some (k:Int))=min k n:=by
 show (if (k:Int) < 0 then ((k:Int)+(n:Int)).toNat else min (k:Int).toNat n)=min k n
 rw [if_neg (by omega),aR6]
theorem X7 (n d:Nat) (hd:d<=n) (o:Option Int):aM n d o<=n:=by
 cases o with
 | none=>exact hd
 | some v=>
  show (if v < 0 then (v+(n:Int)).toNat else min v.toNat n)<=n
  by_cases hv:v < 0
  ·rw [if_pos hv]; omega
  ·rw [if_neg hv]; exact Nat.min_le_right _ _
theorem wD (v:Int) (n d:Nat):(if v < 0 then max (v+(n:Int)) 0 else min v (n:Int))=((aM n d (some v):Nat):Int):=by
 show (if v < 0 then max (v+(n:Int)) 0 else min v (n:Int))=(((if v < 0 then (v+(n:Int)).toNat else min v.toNat n):Nat):Int)
 by_cases hv:v < 0
 ·simp only [if_pos hv]; omega
 ·simp only [if_neg hv]; omega
theorem X8 (lo hi:Option Int) (n:Nat):Builtin.Slice.sliceAdjust lo hi 1 (n:Int)=(((aM n 0 lo:Nat):Int),((aM n n hi:Nat):Int)):=by
 have h1 : ¬ ((1:Int) < 0):=by omega
 unfold Builtin.Slice.sliceAdjust
 simp only [h1,aR7]
 refine Prod.ext ?_ ?_
 ·cases lo with
  | none=>rfl
  | some v=>exact wD v n 0
 ·cases hi with
  | none=>rfl
  | some v=>exact wD v n n
theorem X9 (i j:Nat):Builtin.Slice.slicePlaces (i:Int) (j:Int) 1=j - i:=by
 unfold Builtin.Slice.slicePlaces
 have h1:(1:Int) > 0:=by omega
 simp only [h1,if_true,Int.ediv_one]
 split <;> omega
theorem wE {v:Value}{o:Option Int}{Q:Option Int->Shared->Prop} (p:IsPart v o) (h:Q o s):wpAny (model prog w) A (Builtin.Slice.slicePartIndex v) Q E s:=by
 cases p with
 | none=>exact slicePart_none h
 | int i t=>exact slicePart_int h
theorem wF {sl:Addr}{vl vu:Value}{lo hi:Option Int}{n:Nat}{Q:Int × Int × Nat->Shared->Prop} (hs:s.heap.IsSliceOf sl vl vu .none) (pl:IsPart vl lo) (pu:IsPart vu hi)
  (h:Q (((aM n 0 lo:Nat):Int),1,aM n n hi - aM n 0 lo) s):wpAny (model prog w) A (Builtin.Slice.sliceApplied (.ref sl) (pure (n:Int))) Q E s:=by
 obtain ⟨os,hos,hcs,hds⟩:=id hs
 unfold Builtin.Slice.sliceApplied Builtin.Slice.sliceFields
 refine aK1 (aK1 (aY8 hos hds (x:=vl) rfl (aK1 (aY8 hos hds (x:=vu) rfl (aK1 (aY8 hos hds (x:=.none) rfl (aK6 ?_)))))))
 refine aK1 (slicePart_none ?_)
 show wpAny _ _ (if ((1:Int) == 0)=true then _ else _) _ _ s
 rw [if_neg (by decide)]
 refine aK1 (wE pl (aK1 (wE pu (aK1 (aK6 ?_)))))
 show wpAny _ _ (match Builtin.Slice.sliceAdjust lo hi 1 (n:Int) with | (lo,hi)=>pure (lo,(1:Int),Builtin.Slice.slicePlaces lo hi 1)) _ _ s
 rw [X8 lo hi n]
 show wpAny _ _ (pure (((aM n 0 lo:Nat):Int),(1:Int),Builtin.Slice.slicePlaces ((aM n 0 lo:Nat):Int) ((aM n n hi:Nat):Int) 1)) _ _ s
 rw [X9]
 exact aK6 h
theorem Y0 (xs:Array Value) (i k:Nat):((List.range k).filterMap fun (m:Nat)=>xs[((i:Int)+(m:Int) * 1).toNat]?).toArray=((xs.toList.drop i).take k).toArray:=by
 have e:(fun (m:Nat)=>xs[((i:Int)+(m:Int) * 1).toNat]?)=fun m=>xs[i+m]?:=by
  funext m
  have:((i:Int)+(m:Int) * 1).toNat=i+m:=by omega
  rw [this]
 rw [e]
 have:=pick_run xs i k
 rw [List.filterMap_map] at this
 have e2:((fun x=>xs[x]?) ∘ fun x=>i+x)=fun m=>xs[i+m]?:=rfl
 rw [e2] at this
 rw [this]
theorem Y1 {t sl:Addr}{items:Array Value}{vl vu:Value}{lo hi:Option Int}{Q:Value->Shared->Prop} (ht:IsTup s.heap t items) (hs:s.heap.IsSliceOf sl vl vu .none) (pl:IsPart vl lo) (pu:IsPart vu hi)
  (hw : ¬ (aM items.size 0 lo=0/\aM items.size items.size hi=items.size))
  (h:Q (.ref s.heap.objs.size) { s with heap:=s.heap.push { cls:=.type "tuple",data:=.seq ((items.toList.drop (aM items.size 0 lo)).take (aM items.size items.size hi - aM items.size 0 lo)).toArray } })
  (hsz:items.size<=sizeLine):wpAny (model prog w) A (getItem (.ref t) (.ref sl)) Q E s:=by
 have htake:sizeOk (.seq ((items.toList.drop (aM items.size 0 lo)).take (aM items.size items.size hi - aM items.size 0 lo)).toArray):=by
  show ((items.toList.drop (aM items.size 0 lo)).take (aM items.size items.size hi - aM items.size 0 lo)).toArray.size<=sizeLine
  rw [aK3,aR1,aS3,aN7]
  omega
 have hj:aM items.size items.size hi<=items.size:=X7 _ _ (aK4 _) hi
 obtain ⟨os,hos,hcs,hds⟩:=id hs
 have hTs:s.TypeIs (.ref sl) "slice":=⟨os,hos,hcs⟩
 unfold getItem
 try with_reducible refine aR5 ?_
 first | refine aK1 (aK6 ?_) | skip
 refine aK1 (wpAny_sequenceKey ht.typeIs (by decide) ?_)
 refine aK1 (aW0 (name:=Str.ofString "__getitem__") ht.typeIs aV1
  (aT0 aV1 ht.typeIs entry_tuple_getitem ?_ (args_tuple_getitem _ _)))
 show wpAny _ _ (Builtin.Tuple.tupleItemsOf (.ref t) >>= _) _ _ s
 refine aK1 (tupleItemsOf_ ht ?_)
 refine aK1 (wpAny_typeOf hTs ?_)
 rw [if_pos (by decide)]
 refine aK1 (wF hs pl pu ?_)
 have hno : ¬ ((((aM items.size 0 lo:Nat):Int) == 0 && (1:Int) == 1 && (aM items.size items.size hi - aM items.size 0 lo) == items.size)=true):=by
  intro q
  rw [aO5,aO5] at q
  have q1:((aM items.size 0 lo:Nat):Int)=0:=eq_of_beq q.1.1
  have q2:aM items.size items.size hi - aM items.size 0 lo=items.size:=eq_of_beq q.2
  exact hw ⟨by omega,by omega⟩
 show wpAny _ _ (if (((aM items.size 0 lo:Nat):Int) == 0 && (1:Int) == 1 && (aM items.size items.size hi - aM items.size 0 lo) == items.size)=true then _ else _) _ _ s
 rw [if_neg hno,Y0]
 first
  | exact aK1 (m:=Builtin.Tuple.tupleExact _) (aP7 (aK6 ⟨_,rfl,aK6 h⟩) htake)
  | exact aK1 (m:=Builtin.Tuple.tupleExact _) (aP7 (aK1 (aK6 (aK6 ⟨_,rfl,aK6 h⟩))) htake)
  | exact aK1 (aK1 (m:=Builtin.Tuple.tupleExact _) (aP7 (aK6 (aK6 ⟨_,rfl,aK6 h⟩)) htake))
  | exact aK1 (aK1 (m:=Builtin.Tuple.tupleExact _) (aP7 (aK6 ⟨_,rfl,aK6 h⟩) htake))
end
end HT
namespace L2
open PySem PySem.Spec PyProof.Rows
noncomputable abbrev TO:=St->Hp->(Option Int->Hp->Prop)->Prop
noncomputable def PO (X:Cx) (e:Option Expr) (t:TO):Prop:=
 ∀ (pins:List (Addr × Obj)) (s:Shared) (σ:St) (H:Hp) (Q:Option Int->Hp->Prop),a5 X pins σ H s->t σ H Q->
  wpAny (model X.prog X.w) X.A (evalPart e X.env) (fun u s'=>∃ o H',a5 X pins σ H' s'/\IsPart u o/\Q o H') X.xe s
noncomputable def Y2:TO:=fun _ H Q=>Q none H
noncomputable def Y3 (t:TE):TO:=fun σ H Q=>t σ H fun x H1=>∃ i,x = .int i/\Q (some i) H1
theorem wG {ns:List Int}:∀ {us:List Value},aB (ns.map V.int) us->IntsAre us ns:=by
 induction ns with
 | nil=>intro us r; rw [List.map_nil] at r; cases r; exact .nil
 | cons n ns ih=>
  intro us r
  rw [aP4] at r
  cases r with
  | cons r1 r2=>
   obtain ⟨t,e⟩:=r1
   subst e
   exact .cons n t (ih r2)
section
variable {X : Cx} {e : Expr} {te : TE} {lo hi : Option Expr} {tl th : TO} {pos p2 : Pos}
theorem Y4:PO X none Y2:=by
 intro pins s σ H Q I h
 rw [evalPart_none]
 exact aK6 ⟨none,H,I,.none,h⟩
theorem Y5 (h:PE X e te):PO X (some e) (Y3 te):=by
 intro pins s σ H Q I hw
 rw [evalPart_some]
 refine aE (h pins s σ H _ I hw) fun u s1 ⟨x,H1,I1,r1,q1⟩=>?_
 obtain ⟨i,rfl,q⟩:=q1
 obtain ⟨t,rfl⟩:=r1
 exact⟨some i,H1,I1,.int i t,q⟩
noncomputable def hV (X:Cx) (r:V->Option Int->Option Int->Hp->VK->Prop):Prop:=
 ∀ (pins:List (Addr × Obj)) (s:Shared) (σ:St) (H:Hp) (x:V) (v vl vu:Value) (lo hi:Option Int) (sl:Addr) (Q:VK),a5 X pins σ H s->aF x v->s.heap.IsSliceOf sl vl vu .none->IsPart vl lo->IsPart vu hi->r x lo hi H Q->
  ∃ T id,typeLookup (.type T) "__getitem__" = pure (some (.builtin id))/\s.TypeIs v T/\wpAny (model X.prog X.w) X.A (getItem v (.ref sl)) (EP X pins σ Q) X.xe s
theorem hV.or {r r':V->Option Int->Option Int->Hp->VK->Prop} (h:hV X r) (h':hV X r'):hV X (fun x lo hi H Q=>r x lo hi H Q ∨ r' x lo hi H Q):=by
 intro pins s σ H x v vl vu lo hi sl Q I rx hs pl pu q
 rcases q with q | q
 ·exact h pins s σ H x v vl vu lo hi sl Q I rx hs pl pu q
 ·exact h' pins s σ H x v vl vu lo hi sl Q I rx hs pl pu q
noncomputable def Y6 (r:V->Option Int->Option Int->Hp->VK->Prop) (te:TE) (tl th:TO):TE:=fun σ H Q=>te σ H fun x H1=>tl σ H1 fun l H2=>th σ H2 fun u H3=>r x l u H3 Q
theorem Y7 {r:V->Option Int->Option Int->Hp->VK->Prop} (hr:hV X r) (he:PE X e te) (hl:PO X lo tl) (hu:PO X hi th):PE X (.Subscript e (.Slice lo hi none p2) pos) (Y6 r te tl th):=by
 intro pins s σ H Q I h
 refine Subscript_ (aE (he pins s σ H _ I h) fun v s1 ⟨x,H1,I1,r1,q1⟩=>?_)
 refine wpAny_Slice (aE (hl pins s1 σ H1 _ I1 q1) fun vl s2 ⟨l,H2,I2,pl,q2⟩=>aE (hu pins s2 σ H2 _ I2 q2) fun vu s3 ⟨u,H3,I3,pu,q3⟩=>?_)
 rw [evalPart_none]
 refine aK6 ?_
 have I4:a5 X pins σ H3 { s3 with heap:=s3.heap.push { cls:=.type "slice",data:=.fields #[vl,vu,.none] } }:=I3.kept (t':=s3.toks) fun b ob q=>aK5 _ q
 obtain ⟨T,id,hT,ht,hg⟩:=hr pins { s3 with heap:=s3.heap.push { cls:=.type "slice",data:=.fields #[vl,vu,.none] } } σ H3 x v vl vu l u s3.heap.objs.size Q I4 r1 (Heap.IsSliceOf.new ..) pl pu q3
 show wpAny (model X.prog X.w) X.A (subscriptTail e (.Slice lo hi none p2) v (.ref s3.heap.objs.size)) (EP X pins σ Q) X.xe { s3 with heap:=s3.heap.push { cls:=.type "slice",data:=.fields #[vl,vu,.none] } }
 exact tail_any (ops:=[.ref s3.heap.objs.size,v]) ht hT hg (by with_unfolding_all rfl)
noncomputable def fJ (xs:List V) (lo hi:Option Int):List V:=(xs.drop (HT.aM xs.length 0 lo)).take (HT.aM xs.length xs.length hi - HT.aM xs.length 0 lo)
theorem wH (xs:List V) (lo hi:Option Int):(fJ xs lo hi).length<=xs.length:=by
 unfold fJ
 rw [aR1,aS3]
 omega
noncomputable def Y8 (K:PySem.W.Frag):V->Option Int->Option Int->Hp->VK->Prop:=fun x lo hi H Q=>∃ a xs,x = .ref a/\aO K H a xs/\
 ¬ (HT.aM xs.length 0 lo=0/\HT.aM xs.length xs.length hi=xs.length)/\∀ p,H p=none->Q (.ref p) (upd H p (.tup (fJ xs lo hi)))
theorem Y9:hV X (Y8 X.K):=by
 intro pins s σ H x v vl vu lo hi sl Q I rx hs pl pu h
 obtain ⟨a,xs,rfl,hx,hw,q⟩:=h
 cases rx
 obtain ⟨its,r,ht,hz⟩:=I.tuple hx
 have hlen:its.toArray.size=xs.length:=by rw [aK3]; exact r.length.symm
 refine⟨"tuple",_,PyProof.Rows.slot_tuple_getitem.lookup,ht.typeIs,?_⟩
 refine HT.Y1 ht hs pl pu (by rw [hlen]; exact hw) ?_ (by rw [hlen]; exact hz)
 rw [hlen]
 refine⟨.ref s.heap.objs.size,_,I.laid (t':=s.toks) (o:=.tup (fJ xs lo hi)) (fun b ob q=>aK5 _ q) (aK4 _) ?_,rfl,q _ (I.hok.fresh (aK4 _))⟩
 exact⟨aP2 (wH xs lo hi) hz,_,(r.drop (HT.aM xs.length 0 lo)).take (HT.aM xs.length xs.length hi - HT.aM xs.length 0 lo),IsTup.new _ _,fH.new _ _ rfl⟩
noncomputable def Z0 (K:PySem.W.Frag):R2:=fun x y H Q=>∃ a b xs ys,x = .ref a/\y = .ref b/\aO K H a xs/\aO K H b ys/\xs ≠ []/\xs.length+ys.length<=sizeLine/\
 (ys = []->Q (.ref a) H)/\(ys ≠ []->∀ p,H p=none->Q (.ref p) (upd H p (.tup (xs ++ ys))))
theorem aB.nil_iff {xs:List V}{us:List Value} (r:aB xs us):us = [] ↔ xs = []:=by
 cases r with
 | nil=>simp
 | cons _ _=>simp
theorem Z1:bO X (binaryOp .Add) (Z0 X.K):=by
 intro pins s σ H x y v u Q I rx ry h
 obtain ⟨a,b,xs,ys,rfl,rfl,ha,hb,hx,hz,q1,q2⟩:=h
 cases rx
 cases ry
 obtain ⟨its,r1,p1,_⟩:=I.tuple ha
 obtain ⟨its2,r2,p2,_⟩:=I.tuple hb
 refine HT.X5 p1 p2 (fun z=>hx (r1.nil_iff.mp z)) (fun z=>⟨.ref a,H,I,rfl,q1 (r2.nil_iff.mp z)⟩) (fun z=>?_) (by rw [<- r1.length,<- r2.length]; exact hz)
 refine⟨.ref s.heap.objs.size,_,I.laid (t':=s.toks) (o:=.tup (xs ++ ys)) (fun b ob q=>aK5 _ q) (aK4 _) ?_,rfl,q2 (fun w=>z (r2.nil_iff.mpr w)) _ (I.hok.fresh (aK4 _))⟩
 exact⟨by rw [aL1]; exact hz,_,r1.append r2,IsTup.new _ _,fH.new _ _ rfl⟩
end
noncomputable def dZ (n:Nat) (i:Int):Option Nat:=if 0<=i then (if i < n then some i.toNat else none) else if -(n:Int)<=i then some (i+n).toNat else none
noncomputable def atI {α:Type} (xs:List α) (i:Int):Option α:=(dZ xs.length i).bind fun j=>xs[j]?
theorem wI {n:Nat}{i:Int}{j:Nat} (h:dZ n i=some j):seqIndex? i n=some j/\j < n/\-(n:Int)<=i/\i < n:=by
 unfold dZ at h
 by_cases h0:0<=i
 ·rw [if_pos h0] at h
  by_cases h1:i < n
  ·rw [if_pos h1] at h
   have e:i.toNat=j:=aN4 h
   exact⟨by rw [seqIndex_of h0 h1,e],by omega,by omega,h1⟩
  ·rw [if_neg h1] at h; cases h
 ·rw [if_neg h0] at h
  by_cases h1 : -(n:Int)<=i
  ·rw [if_pos h1] at h
   have e:(i+n).toNat=j:=aN4 h
   exact⟨by rw [seqIndex_neg (by omega) h1,e],by omega,h1,by omega⟩
  ·rw [if_neg h1] at h; cases h
theorem qP {α:Type}{xs:List α}{i:Int}{v:α} (h:atI xs i=some v):∃ j,seqIndex? i xs.length=some j/\xs[j]? = some v/\j < xs.length/\-(xs.length:Int)<=i/\i < xs.length:=by
 unfold atI at h
 cases e:dZ xs.length i with
 | none=>rw [e] at h; cases h
 | some j=>
  rw [e] at h
  obtain ⟨h1,h2,h3,h4⟩:=wI e
  exact⟨j,h1,h,h2,h3,h4⟩
theorem lI {α:Type}{xs:List α}{j:Nat}{v:α} (h:xs[j]? = some v):atI xs (j:Int)=some v:=by
 have hj:j < xs.length:=(aL8.mp h).1
 have e:dZ xs.length (j:Int)=some j:=by
  unfold dZ
  rw [if_pos (by omega),if_pos (by omega)]; simp
 unfold atI; rw [e]; exact h
theorem wJ {α:Type} (xs:List α) (v:α):atI (xs ++ [v]) (-1)=some v:=by
 have hl:(xs ++ [v]).length=xs.length+1:=by simp
 have e:dZ (xs ++ [v]).length (-1)=some xs.length:=by
  unfold dZ
  rw [hl,if_neg (by decide),if_pos (by omega)]
  congr 1
  omega
 unfold atI
 rw [e]
 show (xs ++ [v])[xs.length]? = some v
 simp
noncomputable def wK (b:Expr):Prop:=∀ o i,subscripted b false o i=operate [o,i] (getItem o i)
noncomputable def gD (X:Cx) (r:R2):Prop:=
 ∀ (value slice:Expr) (pins:List (Addr × Obj)) (s:Shared) (σ:St) (H:Hp) (x y:V) (v u:Value) (Q:VK),a5 X pins σ H s->aF x v->aF y u->r x y H Q->
  subscripted slice false v u=operate [v,u] (getItem v u)->wpAny (model X.prog X.w) X.A (subscriptTail value slice v u) (EP X pins σ Q) X.xe s
noncomputable def wL (X:Cx) (id:String) (r:V->List V->Hp->VK->Prop):Prop:=
 ∀ (pins:List (Addr × Obj)) (s:Shared) (σ:St) (H:Hp) (x:V) (xs:List V) (v:Value) (us:List Value) (Q:VK),a5 X pins σ H s->aF x v->aB xs us->r x xs H Q->
  wpAny (model X.prog X.w) X.A (call (.builtin id) (v :: us)) (EP X pins σ Q) X.xe s
section
variable {X : Cx} {a b : Expr} {ta tb : TE} {pos : Pos}
theorem gD.or {r r':R2} (h:gD X r) (h':gD X r'):gD X (fun x y H Q=>r x y H Q ∨ r' x y H Q):=by
 intro value slice pins s σ H x y v u Q I rx ry q hs
 rcases q with q | q
 ·exact h value slice pins s σ H x y v u Q I rx ry q hs
 ·exact h' value slice pins s σ H x y v u Q I rx ry q hs
theorem lJ {r:R2} (hr:gD X r) (ha:PE X a ta) (hb:PE X b tb) (hs:wK b):PE X (.Subscript a b pos) (lD r ta tb):=by
 intro pins s σ H Q I h
 exact Subscript_ (qG ha hb I h fun v u s2 x y H2 I2 rx ry q=>hr a b pins s2 σ H2 x y v u Q I2 rx ry q (hs _ _))
noncomputable def wM (K:PySem.W.Frag):R2:=fun x y H Q=>∃ p xs i v,x = .ref p/\y = .int i/\aR K H p xs/\atI xs i=some v/\Q v H
noncomputable def wN (K:PySem.W.Frag):R2:=fun x y H Q=>∃ p xs i v,x = .ref p/\y = .int i/\aO K H p xs/\atI xs i=some v/\Q v H
noncomputable def wO:R2:=fun x y H Q=>∃ z i c,x = .str z/\y = .int i/\z.length<=sizeLine/\atI z.cps.toList i=some c/\Q (.str ⟨#[c]⟩) H
theorem qQ:gD X (wM X.K):=by
 intro value slice pins s σ H x y v u Q I rx ry h hs
 obtain ⟨p,xs,i,z,rfl,rfl,hq,he,q⟩:=h
 cases rx
 obtain ⟨t,rfl⟩:=ry
 obtain ⟨its,r,pl,hz⟩:=I.list hq
 obtain ⟨j,h1,h2,h3,h4,h5⟩:=qP he
 obtain ⟨w,ew,rw'⟩:=r.get h2
 have hl:=r.length
 have hn:=jS
 have fin:EP X pins σ Q w s:=⟨z,H,I,rw',q⟩
 by_cases h0:0<=i
 ·have hj:i.toNat=j:=by
   rw [seqIndex_of h0 h5] at h1
   exact aN4 h1
  exact item_listR pl.isList h0 (by omega) (by rw [hj]; simpa using ew) fin hs
 ·have hj:(i+(its.toArray.size:Int)).toNat=j:=by
   rw [seqIndex_neg (by omega) h4] at h1
   rw [aK3,<- hl]
   exact aN4 h1
  exact subscriptTail_builtinR (x:=w) pl.isList.typeIs slot_list_getitem.lookup
   (wpAny_getItem_list_neg (Q:=fun r s'=>r=w/\EP X pins σ Q r s') pl.isList (by omega) (by rw [aK3] <;> omega) (by omega) (by rw [hj]; simpa using ew) ⟨rfl,fin⟩) hs
theorem qR:gD X (wN X.K):=by
 intro value slice pins s σ H x y v u Q I rx ry h hs
 obtain ⟨p,xs,i,z,rfl,rfl,hq,he,q⟩:=h
 cases rx
 obtain ⟨t,rfl⟩:=ry
 obtain ⟨its,r,pl,hz⟩:=I.tuple hq
 obtain ⟨j,h1,h2,h3,h4,h5⟩:=qP he
 obtain ⟨w,ew,rw'⟩:=r.get h2
 have hl:=r.length
 have hn:=jS
 have fin:EP X pins σ Q w s:=⟨z,H,I,rw',q⟩
 exact subscriptTail_builtinR (x:=w) pl.typeIs slot_tuple_getitem.lookup
  (getItem_tuple (j:=j) (Q:=fun r s'=>r=w/\EP X pins σ Q r s') pl (by omega) (by omega) (by rw [aK3,<- hl]; exact h1) (by simpa using ew) ⟨rfl,fin⟩) hs
theorem Z2:gD X wO:=by
 intro value slice pins s σ H x y v u Q I rx ry h hs
 obtain ⟨z,i,c,rfl,rfl,hz,he,q⟩:=h
 obtain ⟨t,rfl⟩:=rx
 obtain ⟨t',rfl⟩:=ry
 obtain ⟨j,h1,h2,h3,h4,h5⟩:=qP he
 have hl:z.cps.toList.length=z.length:=by simp [Str.length]
 rw [hl] at h1 h4 h5
 have hn:=jS
 exact tail_any (typeIs_str s z t) slot_str_getitem.lookup (getItem_str (c:=c) (by
  have e1:decide (i < -(2 ^ 63:Int))=false:=aL0 (by omega)
  have e2:decide (i >= 2 ^ 63)=false:=aL0 (by omega)
  rw [e1,e2,Bool.or_false]) (by rw [h1]; simpa using h2) ⟨.str ⟨#[c]⟩,H,I.tok _,⟨_,rfl⟩,q⟩) hs
noncomputable def wP (K:PySem.W.Frag):R2:=fun x y H Q=>wM K x y H Q ∨ wN K x y H Q ∨ wO x y H Q
theorem Z3:gD X (wP X.K):=qQ.or (qR.or Z2)
theorem Z4 (its:List Value) (n j:Nat) (u:Value):Obj.mapSeq (·.setIfInBounds j u) { cls:=.type "list",data:=.seq its.toArray n }={ cls:=.type "list",data:=.seq (its.set j u).toArray n }:=by
 simp [Obj.mapSeq]
theorem a5.lst {pins:List (Addr × Obj)}{σ:St}{H:Hp}{s:Shared}{p:Addr}{xs:List V} (I:a5 X pins σ H s) (h:H p=some (.lst xs)) :
  ∃ (its:List Value) (n:Nat),aB xs its/\s.heap.get? p=some { cls:=.type "list",data:=.seq its.toArray n }/\xs.length<=sizeLine:=by
 obtain ⟨z,its,n,r,e⟩:=I.hok p _ h
 exact⟨its,n,r,e,z⟩
theorem a5.lstUpd {pins:List (Addr × Obj)}{σ:St}{H:Hp}{s:Shared}{p:Addr}{xs ys:List V}{its its':List Value}{n n':Nat}{f:Obj->Obj} (I:a5 X pins σ H s) (h:H p=some (.lst xs))
  (ho:s.heap.get? p=some { cls:=.type "list",data:=.seq its.toArray n }) (hf:f { cls:=.type "list",data:=.seq its.toArray n }={ cls:=.type "list",data:=.seq its'.toArray n' }) (r:aB ys its') (hz:ys.length<=sizeLine) (t:Nat) :
  a5 X pins σ (upd H p (.lst ys)) { s with heap:=s.heap.update p f,toks:=t }:=by
 have e:(s.heap.update p f).get? p=some { cls:=.type "list",data:=.seq its'.toArray n' }:=by
  rw [aS6 f ho (by rw [hf] <;> rfl),hf]
 refine I.write (x:=p) (e:=p) (by rw [h]; trivial) (.inl rfl) (fun b u hb q=>(aU7 _ _ (Ne.symm hb)).trans q) ⟨_,e⟩ ?_
 exact⟨hz,its',n',r,e⟩
noncomputable def qS:V->V->V->Hp->(Hp->Prop)->Prop:=fun o i v H Q=>∃ p xs k j,o = .ref p/\i = .int k/\H p=some (.lst xs)/\dZ xs.length k=some j/\Q (upd H p (.lst (xs.set j v)))
theorem Z5:v8 X qS:=by
 intro pins s σ H o i v ov iv u Q I ro ri rv h
 obtain ⟨p,xs,k,j,rfl,rfl,hp,hj,q⟩:=h
 cases ro
 obtain ⟨t,rfl⟩:=ri
 obtain ⟨its,n,r,ho,hz⟩:=I.lst hp
 obtain ⟨h1,h2,h3,h4⟩:=wI hj
 have hl:=r.length
 have hn:=jS
 have I':a5 X pins σ (upd H p (.lst (xs.set j v))) { s with heap:=s.heap.update p (Obj.mapSeq (·.setIfInBounds j u)) }:=
  I.lstUpd hp ho (Z4 its n j u) (r.set rv j) (by rw [aQ3]; exact hz) s.toks
 by_cases h0:0<=k
 ·have hk:k.toNat=j:=by
   rw [seqIndex_of h0 h4] at h1
   exact aN4 h1
  exact PySem.W.ki_setAt ho h0 (by omega) (by rw [aK3,<- hl]; exact h4) (by rw [hk]; exact⟨_,I',q⟩)
 ·have hk:(k+(its.toArray.size:Int)).toNat=j:=by
   rw [seqIndex_neg (by omega) h3] at h1
   rw [aK3,<- hl]
   exact aN4 h1
  exact PySem.W.ki_setBack ho (by omega) (by rw [aK3,<- hl]; exact h3) (by omega) (by rw [hk]; exact⟨_,I',q⟩)
theorem Z6 (lo hi:Option Int) (n:Nat):(sliceBounds lo hi none n).1=((HT.aM n 0 lo:Nat):Int)/\(sliceBounds lo hi none n).2.1=((HT.aM n n hi:Nat):Int)/\(sliceBounds lo hi none n).2.2=1:=by
 refine⟨?_,?_,rfl⟩
 ·cases lo with
  | none=>simp [sliceBounds,HT.aM]
  | some i=>
   simp only [sliceBounds,HT.aM,Option.getD_none,show (1:Int) > 0 by decide,if_true]
   by_cases h:i < 0
   ·simp only [h,if_true] <;> omega
   ·simp only [h,aR7] <;> omega
 ·cases hi with
  | none=>simp [sliceBounds,HT.aM]
  | some i=>
   simp only [sliceBounds,HT.aM,Option.getD_none,show (1:Int) > 0 by decide,if_true]
   by_cases h:i < 0
   ·simp only [h,if_true] <;> omega
   ·simp only [h,aR7] <;> omega
theorem Z7 (its:List Value) (lo hi:Option Int):slicePick its.toArray lo hi none=((its.drop (HT.aM its.length 0 lo)).take (HT.aM its.length its.length hi - HT.aM its.length 0 lo)).toArray:=by
 obtain ⟨h1,h2,h3⟩:=Z6 lo hi its.toArray.size
 unfold slicePick
 rw [h1,h2,h3]
 simp only [sliceRange_one,pick_run,aK3] <;> rfl
noncomputable def Z8 (K:PySem.W.Frag):V->Option Int->Option Int->Hp->VK->Prop:=fun x lo hi H Q=>∃ a xs,x = .ref a/\aR K H a xs/\∀ p,H p=none->Q (.ref p) (upd H p (.lst (fJ xs lo hi)))
theorem Z9:hV X (Z8 X.K):=by
 intro pins s σ H x v vl vu lo hi sl Q I rx hs pl pu h
 obtain ⟨a,xs,rfl,hx,q⟩:=h
 cases rx
 obtain ⟨its,r,ht,hz⟩:=I.list hx
 have hlen:=r.length
 refine⟨"list",_,slot_list_getitem.lookup,ht.isList.typeIs,?_⟩
 refine wpAny_getItem_list_slice ht.isList hs pl pu .none (by simp) ?_ (by rw [aK3] <;> omega)
 rw [Z7,<- hlen]
 refine⟨.ref s.heap.objs.size,_,I.laid (t':=s.toks) (o:=.lst (fJ xs lo hi)) (fun b ob q=>aK5 _ q) (aK4 _) ?_,rfl,q _ (I.hok.fresh (aK4 _))⟩
 exact⟨aP2 (wH xs lo hi) hz,_,0,(r.drop (HT.aM xs.length 0 lo)).take (HT.aM xs.length xs.length hi - HT.aM xs.length 0 lo),aM3 _ rfl⟩
noncomputable def gE:V->Bool
 | .non=>true
 | .bl _=>true
 | .int _=>true
 | .str _=>true
 | _=>false
noncomputable def fL:V->V->Bool
 | .non,.non=>true
 | .bl a,.bl b=>a == b
 | .bl a,.int b=>(if a then 1 else 0) == b
 | .int a,.bl b=>a == (if b then 1 else 0)
 | .int a,.int b=>a == b
 | .str a,.str b=>a == b
 | _,_=>false
theorem aa0 {A:Around}{s:Shared}{y x:V}{u v:Value} (ry:aF y u) (rx:aF x v) (fy:gE y=true) (fx:gE x=true):SeqAt.EqAt A s u v (fL y x):=by
 cases y with
 | non=>
  cases ry
  cases x with
  | non=>cases rx; exact SeqAt.EqAt.same _
  | bl b=>cases rx; exact SeqAt.EqAt.none_bool b
  | int b=>obtain ⟨t,rfl⟩:=rx; exact SeqAt.EqAt.none_int b t
  | str b=>obtain ⟨t,rfl⟩:=rx; exact SeqAt.EqAt.none_str b t
  | _=>exact absurd (show false=true from fx) aL6
 | bl a=>
  cases ry
  cases x with
  | non=>cases rx; exact SeqAt.EqAt.bool_none a
  | bl b=>cases rx; exact SeqAt.EqAt.bool_bool a b
  | int b=>obtain ⟨t,rfl⟩:=rx; exact SeqAt.EqAt.bool_int a b t
  | str b=>obtain ⟨t,rfl⟩:=rx; exact SeqAt.EqAt.bool_str a b t
  | _=>exact absurd (show false=true from fx) aL6
 | int a=>
  obtain ⟨t',rfl⟩:=ry
  cases x with
  | non=>cases rx; exact SeqAt.EqAt.int_none a t'
  | bl b=>cases rx; exact SeqAt.EqAt.int_bool a t' b
  | int b=>obtain ⟨t,rfl⟩:=rx; exact SeqAt.EqAt.int_int a t' b t
  | str b=>obtain ⟨t,rfl⟩:=rx; exact SeqAt.EqAt.int_str a t' b t
  | _=>exact absurd (show false=true from fx) aL6
 | str a=>
  obtain ⟨t',rfl⟩:=ry
  cases x with
  | non=>cases rx; exact SeqAt.EqAt.str_none a t'
  | bl b=>cases rx; exact SeqAt.EqAt.str_bool a t' b
  | int b=>obtain ⟨t,rfl⟩:=rx; exact SeqAt.EqAt.str_int a t' b t
  | str b=>obtain ⟨t,rfl⟩:=rx; exact SeqAt.EqAt.str_str a t' b t
  | _=>exact absurd (show false=true from fx) aL6
 | _=>exact absurd (show false=true from fy) aL6
noncomputable def gF (x:V) (u:Value):Bool:=match u with
 | .none=>fL .non x
 | .bool b=>fL (.bl b) x
 | .int i _=>fL (.int i) x
 | .str z _=>fL (.str z) x
 | _=>false
theorem wQ {x y:V}{u:Value} (r:aF y u) (f:gE y=true):gF x u=fL y x:=by
 cases y with
 | non=>cases r; rfl
 | bl b=>cases r; rfl
 | int i=>obtain ⟨t,rfl⟩:=r; rfl
 | str z=>obtain ⟨t,rfl⟩:=r; rfl
 | _=>exact absurd (show false=true from f) aL6
theorem qT {x:V}:∀ {xs:List V}{us:List Value},aB xs us->xs.all gE=true->us.any (gF x)=xs.any fun y=>fL y x
 | _,_,.nil,_=>rfl
 | y :: xs,u :: us,.cons r t,f=>by
  rw [List.all_cons,aO5] at f
  rw [List.any_cons,List.any_cons,wQ r f.1,qT t f.2]
theorem qU {A:Around}{s:Shared}{x:V}{v:Value} (rx:aF x v) (fx:gE x=true):∀ {xs:List V}{us:List Value},aB xs us->xs.all gE=true->∀ u ∈ us,SeqAt.EqAt A s u v (gF x u)
 | _,_,.nil,_=>fun u hu=>by cases hu
 | y :: xs,u :: us,.cons r t,f=>fun u' hu=>by
  rw [List.all_cons,aO5] at f
  rcases aM4.mp hu with rfl | hu
  ·rw [wQ r f.1]; exact aa0 r rx f.1 fx
  ·exact qU rx fx t f.2 u' hu
noncomputable def lK (x:V) (xs:List V):Bool:=xs.any fun y=>fL y x
noncomputable def wR (K:PySem.W.Frag) (neg:Bool):R2:=fun x y H Q=>∃ p xs,y = .ref p/\(aR K H p xs ∨ aO K H p xs)/\gE x=true/\xs.all gE=true/\Q (.bl (if neg then !lK x xs else lK x xs)) H
theorem aa1:bO X (compareOp .In) (wR X.K false):=by
 intro pins s σ H x y v u Q I rx ry h
 obtain ⟨p,xs,rfl,hq,fx,fs,q⟩:=h
 cases ry
 rcases hq with hq | hq
 ·obtain ⟨its,r,pl,hz⟩:=I.list hq
  refine SeqAt.in_listAt (gF x) pl.isList (fun w hw=>qU rx fx r fs w (by simpa using hw)) ⟨.bl _,H,I,rfl,?_⟩
  rw [show its.toArray.any (gF x)=its.any (gF x) by simp,qT r fs]
  exact q
 ·obtain ⟨its,r,pl,hz⟩:=I.tuple hq
  refine SeqAt.in_tupleAt (gF x) pl (fun w hw=>qU rx fx r fs w (by simpa using hw)) ⟨.bl _,H,I,rfl,?_⟩
  rw [show its.toArray.any (gF x)=its.any (gF x) by simp,qT r fs]
  exact q
theorem aa2:cM X (.builtin "len") (fun xs H Q=>∃ p ys,xs = [.ref p]/\(aR X.K H p ys ∨ aO X.K H p ys)/\Q (.int ys.length) H):=by
 intro pins s σ H xs us Q I r h
 obtain ⟨p,ys,rfl,hq,q⟩:=h
 obtain ⟨u,rfl,rx⟩:=hJ r
 cases rx
 have hn:=jS
 rcases hq with hq | hq
 ·obtain ⟨its,r',pl,hz⟩:=I.list hq
  have hlen:=r'.length
  exact Calls.call_len_list pl.isList (by simp only [aK3] <;> omega) ⟨.int ys.length,H,I.tok _,⟨s.toks+1,by rw [aK3,hlen]⟩,q⟩
 ·obtain ⟨its,r',pl,hz⟩:=I.tuple hq
  have hlen:=r'.length
  exact len_tuple pl (by simp only [aK3] <;> omega) ⟨.int ys.length,H,I.tok _,⟨s.toks+1,by rw [aK3,hlen]⟩,q⟩
theorem cM.or {f:Value}{r r':List V->Hp->VK->Prop} (h:cM X f r) (h':cM X f r'):cM X f (fun xs H Q=>r xs H Q ∨ r' xs H Q):=by
 intro pins s σ H xs us Q I rs q
 rcases q with q | q
 ·exact h pins s σ H xs us Q I rs q
 ·exact h' pins s σ H xs us Q I rs q
theorem aa3:cM X (.type "tuple") (fun xs H Q=>∃ p ys,xs = [.ref p]/\((aR X.K H p ys/\∀ l,H l=none->Q (.ref l) (upd H l (.tup ys))) ∨ (aO X.K H p ys/\Q (.ref p) H))):=by
 intro pins s σ H xs us Q I r h
 obtain ⟨p,ys,rfl,h⟩:=h
 obtain ⟨u,rfl,rx⟩:=hJ r
 cases rx
 rcases h with ⟨hq,q⟩ | ⟨hq,q⟩
 ·obtain ⟨its,r',pl,hz⟩:=I.list hq
  have hlen:=r'.length
  refine call_tuple_list pl.isList (fun h' kp=>?_) (by simp only [aK3] <;> omega)
  have I1:a5 X pins σ H { s with heap:=h' }:=I.kept (t':=s.toks) kp
  have I2:a5 X pins σ (upd H h'.objs.size (.tup ys)) { s with heap:=h'.push { cls:=.type "tuple",data:=.seq its.toArray } }:=
   I1.laid (t':=s.toks) (fun b o e=>aK5 _ e) (aK4 _) (show bA X.prog X.w _ _ _ (.tup ys) from ⟨hz,its,r',IsTup.new _ _,fH.new _ _ rfl⟩)
  exact⟨.ref h'.objs.size,_,I2,rfl,q _ (I1.hok.fresh (aK4 _))⟩
 ·obtain ⟨its,r',pl,hz⟩:=I.tuple hq
  exact call_tuple_same pl ⟨.ref p,H,I,rfl,q⟩
noncomputable def eZ (K:PySem.W.Frag) (T:String) (x:V) (H:Hp):Prop:=match x with
 | .str _=>T="str"
 | .int _=>T="int"
 | .ref p=>(T="list"/\∃ xs,aR K H p xs) ∨ (T="tuple"/\∃ o,K.lookup p=some o/\o.cls = .type "tuple"/\o.dict=none) ∨
   (T="dict"/\((∃ kvs,H p=some (.dK kvs)) ∨ ∃ kvs,H p=some (.dT kvs))) ∨ (T="set"/\∃ S n,H p=some (.set S n))
 | _=>False
theorem wS {pins:List (Addr × Obj)}{σ:St}{H:Hp}{s:Shared}{T:String}{x:V}{v:Value} (I:a5 X pins σ H s) (r:aF x v) (ty:eZ X.K T x H) :
  s.TypeIs v T/\∀ a,v = .ref a->∃ ob,s.heap.get? a=some ob/\ob.dict=none:=by
 cases x with
 | str z=>
  obtain ⟨t,rfl⟩:=r
  cases (show T="str" from ty)
  exact⟨typeIs_str s z t,fun _ e=>nomatch e⟩
 | int i=>
  obtain ⟨t,rfl⟩:=r
  cases (show T="int" from ty)
  exact⟨typeIs_int s i t,fun _ e=>nomatch e⟩
 | ref p=>
  cases r
  rcases ty with ⟨rfl,xs,hq⟩ | ⟨rfl,o,hk,hc,hd⟩ | ⟨rfl,hk⟩ | ⟨rfl,S,n,hk⟩
  ·obtain ⟨its,_,pl,_⟩:=I.list hq
   refine⟨pl.isList.typeIs,fun a e=>?_⟩
   cases e
   obtain ⟨o,n,e,c,hd,_⟩:=pl
   exact⟨o,e,hd⟩
  ·refine⟨⟨o,I.kIn p o hk,hc⟩,fun a e=>?_⟩
   cases e
   exact⟨o,I.kIn _ o hk,hd⟩
  ·have z:∃ o,s.heap.get? p=some o/\o.ExactDict:=by
    rcases hk with ⟨kvs,hk⟩ | ⟨kvs,hk⟩
    ·obtain ⟨_,_,_,_,o,_,_,e,ex,_⟩:=I.hok p _ hk
     exact⟨o,e,ex⟩
    ·obtain ⟨_,_,_,_,o,_,_,e,ex,_⟩:=I.hok p _ hk
     exact⟨o,e,ex⟩
   obtain ⟨o,e,ex⟩:=z
   refine⟨⟨o,e,ex.1⟩,fun a e2=>?_⟩
   cases e2
   exact⟨o,e,ex.2.1⟩
  ·obtain ⟨o,_,_,_,e,ex,_⟩:=I.hok p _ hk
   refine⟨⟨o,e,ex.1⟩,fun a e2=>?_⟩
   cases e2
   exact⟨o,e,ex.2.1⟩
 | _=>exact False.elim ty
noncomputable def wT (K:PySem.W.Frag) (T:String) (r:V->List V->Hp->VK->Prop) (to:TE):TE:=fun σ H Q=>to σ H fun x H1=>eZ K T x H1/\r x [] H1 Q
noncomputable def qV (K:PySem.W.Frag) (T:String) (r:V->List V->Hp->VK->Prop) (to:TE) (t:TA):TE:=fun σ H Q=>to σ H fun x H1=>eZ K T x H1/\t σ H1 fun xs H2=>r x xs H2 Q
variable {o e : Expr} {es : List Expr} {to : TE} {t : TA} {name : Str} {apos cpos : Pos} {T id : String} {r : V → List V → Hp → VK → Prop}
theorem aa4 (pa:PlainAttrs T) (slot:Slot T name id) (hty:typeOf (.builtin id)=pure (.type "method_descriptor")) (hm:wL X id r) (ho:PE X o to)
  (hbase:attributeBase o name X.env (eval o X.env)=eval o X.env:=by rfl) (hline:(apos.endLine == cpos.line)=true:=by rfl):PE X (.Call (.Attribute o name apos) [] [] cpos) (wT X.K T r to):=by
 intro pins s σ H Q I h
 refine wpAny_Call_method0_late hbase hline (aE (ho pins s σ H _ I h) fun v s1 ⟨x,H1,I1,r1,ty,q1⟩=>?_)
 obtain ⟨h1,h2⟩:=wS I1 r1 ty
 exact⟨T,id,pa,slot,hty,h1,h2,Calls.callWith_builtin rfl (PySem.evalArgs_none (hm pins s1 σ H1 x [] v [] Q I1 r1 .nil q1))⟩
theorem mX (pa:PlainAttrs T) (slot:Slot T name id) (hty:typeOf (.builtin id)=pure (.type "method_descriptor")) (hm:wL X id r) (ho:PE X o to) (ha:PA X (e :: es) t)
  (hbase:attributeBase o name X.env (eval o X.env)=eval o X.env:=by rfl)
  (hfew:((backTo cpos (starEach (e :: es) X.env)).all (fun x=>!x.1) && (backToKw cpos (keywordEach [] X.env)).all (fun x=>x.1.isSome)
   && decide ((e :: es).length+([]:List Keyword).length+(if ([]:List Keyword).isEmpty then 0 else 1) < 30))=true:=by rfl)
  (hline:(apos.endLine == cpos.line)=true:=by rfl) (hs:starEach (e :: es) X.env=(false,eval e X.env) :: starEach es X.env:=by rfl) (hplain:(backTo cpos (starEach es X.env)).any (·.1)=false:=by rfl) :
  PE X (.Call (.Attribute o name apos) (e :: es) [] cpos) (qV X.K T r to t):=by
 intro pins s σ H Q I h
 refine wpAny_Call_method_late hbase hfew hline rfl (aE (ho pins s σ H _ I h) fun v s1 ⟨x,H1,I1,r1,ty,q1⟩=>?_)
 obtain ⟨h1,h2⟩:=wS I1 r1 ty
 refine⟨T,id,pa,slot,hty,h1,h2,?_⟩
 have hA:=ha cpos pins s1 σ H1 _ I1 q1
 rw [hs] at hA ⊢
 refine Calls.callWith_builtin (by show (false || (backTo cpos (starEach es X.env)).any (·.1))=false; rw [hplain] <;> rfl) (Calls.evalArgs_plain ?_)
 exact aE hA fun us s2 ⟨vs,H2,I2,r2,q2⟩=>hm pins s2 σ H2 x vs v us Q I2 r1 r2 q2
end
noncomputable def wU (X:Cx) (id:String) (r:V->List V->Hp->VK->Prop):Prop:=
 ∀ (pins:List (Addr × Obj)) (s:Shared) (σ:St) (H:Hp) (x:V) (xs:List V) (v:Value) (us:List Value) (Q:VK),a5 X pins σ H s->aF x v->aB xs us->r x xs H Q->
  wpAny (model X.prog X.w) X.A (call (.builtin id) (v :: us)) (EP X pins σ Q) X.xe s
theorem aB.one {x:V}{us:List Value} (h:aB [x] us):∃ u,us = [u]/\aF x u:=by
 cases h with
 | cons r t=>
  cases t
  exact⟨_,rfl,r⟩
theorem aB.zero:∀ {us:List Value},aB [] us->us = []
 | _,.nil=>rfl
theorem aB.dropLast {xs:List V}{us:List Value} (h:aB xs us):aB xs.dropLast us.dropLast:=by
 induction h with
 | nil=>exact .nil
 | cons r t ih=>
  cases t with
  | nil=>exact .nil
  | cons q t'=>exact .cons r ih
theorem aB.eraseIdx:∀ {xs:List V}{us:List Value} (i:Nat),aB xs us->aB (xs.eraseIdx i) (us.eraseIdx i)
 | _,_,_,.nil=>.nil
 | _,_,0,.cons _ t=>t
 | _,_,i+1,.cons r t=>.cons r (aB.eraseIdx i t)
theorem aB.reverse {xs:List V}{us:List Value} (h:aB xs us):aB xs.reverse us.reverse:=by
 induction h with
 | nil=>exact .nil
 | cons r t ih=>rw [List.reverse_cons,List.reverse_cons]; exact aB.append ih (.cons r .nil)
theorem aB.rep {xs:List V}{us:List Value} (h:aB xs us):∀ k:Nat,aB (List.replicate k xs).flatten (List.replicate k us).flatten
 | 0=>.nil
 | k+1=>by
  rw [aS5,aS5,aW1,aW1]
  exact aB.append h (aB.rep h k)
theorem aa5 {α:Type} (l:List α):l.eraseIdx (l.length - 1)=l.dropLast:=by
 induction l with
 | nil=>rfl
 | cons a r ih=>
  cases r with
  | nil=>rfl
  | cons b r=>
   have e:(a :: b :: r).length - 1=((b :: r).length - 1)+1:=by
    have h1:(a :: b :: r).length=r.length+2:=rfl
    have h2:(b :: r).length=r.length+1:=rfl
    omega
   rw [e,List.eraseIdx_cons_succ,ih]
   all_goals rfl
theorem wV (its:List Value):∀ (k:Nat) (acc:List Value),
  List.foldl (fun x1 x2=>x1 ++ x2) acc.toArray (List.replicate k its.toArray)=(acc ++ (List.replicate k its).flatten).toArray
 | 0,acc=>by simp
 | k+1,acc=>by
  have e:acc.toArray ++ its.toArray=(acc ++ its).toArray:=by simp
  have e2:(acc ++ its) ++ (List.replicate k its).flatten=acc ++ (List.replicate (k+1) its).flatten:=by
   rw [aS5,aW1,aM7]
  rw [<- e2,<- wV its k (acc ++ its),<- e,aS5,List.foldl_cons]
section
variable {X : Cx} {pins : List (Addr × Obj)} {σ : St} {H : Hp} {s : Shared} {l b : Addr} {xs ys zs : List V}
theorem a5.lset {its its':List Value}{n:Nat}{f:Array Value->Array Value}{t':Nat} (I:a5 X pins σ H s) (hH:H l=some (.lst xs))
  (e:s.heap.get? l=some { cls:=.type "list",data:=.seq its.toArray n }) (hf:f its.toArray=its'.toArray) (hv:aB ys its') (hz:ys.length<=sizeLine) :
  a5 X pins σ (upd H l (.lst ys)) { s with heap:=s.heap.update l (Obj.mapSeq f),toks:=t' }:=by
 have q:=PySem.IsL.update e f
 rw [hf] at q
 refine I.write (x:=l) (e:=l) (by rw [hH]; exact trivial) (.inl rfl) (fun b' u hb hu=>(aU7 s.heap (Obj.mapSeq f) (Ne.symm hb)).trans hu) ⟨_,q⟩ ?_
 exact⟨hz,its',_,hv,q⟩
theorem a5.lnew {its:List Value}{t':Nat} (I:a5 X pins σ H s) (hv:aB ys its) (hz:ys.length<=sizeLine) :
  a5 X pins σ (upd H s.heap.objs.size (.lst ys)) { s with heap:=s.heap.push { cls:=.type "list",data:=.seq its.toArray },toks:=t' }:=
 I.laid (fun _ _ q=>aK5 _ q) (aK4 _) ⟨hz,its,0,hv,aM3 _ rfl⟩
theorem a5.fresh (I:a5 X pins σ H s):H s.heap.objs.size=none:=I.hok.fresh (aK4 _)
theorem a5.lstM (I:a5 X pins σ H s) (hH:H l=some (.lst xs)):xs.length<=sizeLine/\∃ (its:List Value) (n:Nat),aB xs its/\xs.length=its.length/\s.heap.get? l=some { cls:=.type "list",data:=.seq its.toArray n }:=by
 obtain ⟨z,its,n,r,e⟩:=I.hok l _ hH
 exact⟨z,its,n,r,r.length,e⟩
theorem aa6 {n:Nat} (h:n<=sizeLine):Builtin.List.listTooLong n=false:=by
 unfold Builtin.List.listTooLong
 exact aL0 (by omega)
end
section
variable {X : Cx}
noncomputable def qW:V->List V->Hp->VK->Prop:=fun x vs H Q=>∃ l xs y,x = .ref l/\vs = [y]/\H l=some (.lst xs)/\xs.length < sizeLine/\Q .non (upd H l (.lst (xs ++ [y])))
theorem lM:wU X "list.append" qW:=by
 intro pins s σ H x vs v us Q I rx rv h
 obtain ⟨l,xs,y,rfl,rfl,hH,hz,q⟩:=h
 cases rx
 obtain ⟨u,rfl,ru⟩:=rv.one
 obtain ⟨z,its,n,r,hl,e⟩:=I.lstM hH
 refine call_meets F.slot_list_append ⟨_,e,rfl⟩ F.entry_list_append (F.args_list_append_2 _ _) (PySem.list_append l its.toArray n u (by rw [aK3]; omega)) ⟨e,?_⟩
 refine⟨.non,_,I.lset (its':=its ++ [u]) hH e (by simp) (r.append (.cons ru .nil)) ?_,rfl,q⟩
 rw [aL1,aN2]
 omega
noncomputable def wW:V->List V->Hp->VK->Prop:=fun x vs H Q=>∃ l xs y,x = .ref l/\vs = []/\H l=some (.lst xs)/\xs[xs.length - 1]? = some y/\Q y (upd H l (.lst xs.dropLast))
theorem aa7:wU X "list.pop" wW:=by
 intro pins s σ H x vs v us Q I rx rv h
 obtain ⟨l,xs,y,rfl,rfl,hH,hy,q⟩:=h
 cases rx
 have hus:=rv.zero
 subst hus
 obtain ⟨z,its,n,r,hl,e⟩:=I.lstM hH
 obtain ⟨u,hu,ru⟩:=r.get hy
 have hy':its.toArray[its.toArray.size - 1]? = some u:=by
  show its.toArray[its.length - 1]? = some u
  rw [<- aO9,<- hl]
  exact hu
 refine call_meets F.slot_list_pop ⟨_,e,rfl⟩ F.entry_list_pop (F.args_list_pop_1 _) (MeetsSeq.list_pop_last l its.toArray n u hy' (by rw [aK3]; omega)) ⟨e,?_⟩
 refine⟨y,_,I.lset (its':=its.dropLast) hH e ?_ r.dropLast ?_,ru,q⟩
 ·show its.toArray.eraseIdxIfInBounds (its.toArray.size - 1)=its.dropLast.toArray
  rw [aK3,List.eraseIdxIfInBounds_toArray,aa5]
 ·rw [List.length_dropLast]
  omega
noncomputable def wX:R2:=fun x y H Q=>∃ l k xs,x = .ref l/\y = .int k/\H l=some (.lst xs)/\-(2 ^ 63)<=k/\k < 2 ^ 63/\xs.length * k.toNat<=sizeLine/\
 ∀ p,H p=none->Q (.ref p) (upd H p (.lst (List.replicate k.toNat xs).flatten))
theorem aa8 {α:Type} (xs:List α) (k:Nat):(List.replicate k xs).flatten.length=k * xs.length:=by
 induction k with
 | zero=>simp
 | succ k ih=>rw [aS5,aW1,aL1,ih,Nat.succ_mul,Nat.add_comm]
theorem aa9:bO X (binaryOp .Mult) wX:=by
 intro pins s σ H x y v u Q I rx ry h
 obtain ⟨l,k,xs,rfl,rfl,hH,h1,h2,hz,q⟩:=h
 cases rx
 obtain ⟨t,rfl⟩:=ry
 obtain ⟨z,its,n,r,hl,e⟩:=I.lstM hH
 have hlen:its.toArray.size * k.toNat<=sizeLine:=by rw [aK3,<- hl]; exact hz
 have hcap : ¬ its.toArray.size * k.toNat > (2 ^ 63 - 1) / 8:=by
  have:(sizeLine:Nat)<=(2 ^ 63 - 1) / 8:=by decide
  omega
 have hfit : ¬ (!Builtin.List.listFitsIndex k)=true:=by
  rw [fitsIndex_both h1 h2]
  exact aL6
 have hlong : ¬ Builtin.List.listTooLong (its.toArray.size * k.toNat)=true:=by
  rw [aa6 hlen]
  exact aL6
 have hnew:List.foldl (fun x1 x2=>x1 ++ x2) #[] (List.replicate (if its.toArray.isEmpty=true then 0 else k.toNat) its.toArray)=(List.replicate k.toNat its).flatten.toArray:=by
  have f0:∀ m:Nat,List.foldl (fun x1 x2=>x1 ++ x2) #[] (List.replicate m its.toArray)=(List.replicate m its).flatten.toArray:=fun m=>by
   have:=wV its m []
   rw [List.nil_append] at this
   exact this
  rw [f0]
  cases its with
  | nil=>simp
  | cons a r'=>rw [if_neg (by simp)]
 refine wpAny_binaryOp_repeat_ref (T:="list") (U:="int") (by decide) ⟨_,e,rfl⟩ (fun s'=>typeIs_int s' k t) noFill_list_mul F.fills_int_mul F.slot_int_rmul repeat_list F.slot_int_index.lookup
  (call_meets F.slot_int_rmul (typeIs_int s k t) F.entry_int_rmul (F.args_int_rmul_2 _ _) (int___rmul___int_list k t l its.toArray n)
   ⟨e,rfl,⟨_,e,rfl⟩,call_meets F.slot_list_mul ⟨_,e,rfl⟩ F.entry_list_mul (F.args_list_mul_2 _ _) (AutoListH.list___mul___list_int_3 l its.toArray n k t hfit hcap hlong) ⟨e,?_⟩⟩)
 rw [hnew]
 exact⟨.ref _,_,I.lnew (t':=s.toks) (r.rep k.toNat) (by rw [aa8,Nat.mul_comm]; exact hz),rfl,q _ I.fresh⟩
end
section
variable {κ : Type} [DecidableEq κ]
noncomputable def dO (kvs:List (κ × V)) (k:κ):Option V:=(kvs.find? fun kv=>decide (kv.1=k)).map (·.2)
noncomputable def dP (kvs:List (κ × V)) (k:κ) (v:V):List (κ × V):=
 if (kvs.any fun kv=>decide (kv.1=k))=true then kvs.map (fun kv=>if kv.1=k then (kv.1,v) else kv) else kvs ++ [(k,v)]
theorem qX {p:κ × V}{r:List (κ × V)}{k:κ} (e:p.1=k):dO (p :: r) k=some p.2:=by simp [dO,aT5,e]
theorem qY {p:κ × V}{r:List (κ × V)}{k:κ} (e : ¬ p.1=k):dO (p :: r) k=dO r k:=by simp [dO,aT5,e]
theorem wY (k:κ):∀ kvs:List (κ × V),(kvs.any fun kv=>decide (kv.1=k))=(dO kvs k).isSome
 | []=>rfl
 | p :: r=>by
  rw [List.any_cons]
  by_cases e:p.1=k
  ·simp only [qX e,aL2 e,Bool.true_or,Option.isSome_some]
  ·rw [qY e,aL0 e,Bool.false_or]; exact wY k r
theorem wZ (kvs:List (κ × V)) (k:κ) (v:V):(dP kvs k v).length<=kvs.length+1:=by
 unfold dP
 split
 ·rw [aL4]; omega
 ·rw [aL1,aP6,List.length_nil]; omega
theorem fG.isSome_eq {o:Option V}{u:Option Value} (r:fG o u):o.isSome=u.isSome:=by
 cases o with
 | none=>cases u with
  | none=>rfl
  | some _=>exact (show False from r).elim
 | some _=>cases u with
  | none=>exact (show False from r).elim
  | some _=>rfl
theorem KV.val {kvs:List (κ × V)}{vs:List (κ × Value)} (r:KV kvs vs) (k:κ):fG (dO kvs k) (valueAt vs k):=by
 unfold KV at r
 induction r with
 | nil=>exact aZ8
 | @cons p q ps qs h t ih=>
  obtain ⟨h1,h2⟩:=h
  by_cases e:p.1=k
  ·have e':q.1=k:=h1.symm.trans e
   have b:valueAt (q :: qs) k=some q.2:=by simp [valueAt,aT5,e']
   rw [qX e,b]; exact h2
  ·have e' : ¬ q.1=k:=fun z=>e (h1.trans z)
   have b:valueAt (q :: qs) k=valueAt qs k:=by simp [valueAt,aT5,e']
   rw [qY e,b]; exact ih
theorem KV.any {kvs:List (κ × V)}{vs:List (κ × Value)} (r:KV kvs vs) (k:κ):(kvs.any fun kv=>decide (kv.1=k))=vs.any fun kv=>decide (kv.1=k):=by
 unfold KV at r
 induction r with
 | nil=>rfl
 | cons h t ih=>rw [List.any_cons,List.any_cons,ih,h.1]
theorem KV.repl {kvs:List (κ × V)}{vs:List (κ × Value)} (r:KV kvs vs) (k:κ) {y:V}{u:Value} (ry:aF y u) :
  KV (kvs.map fun kv=>if kv.1=k then (kv.1,y) else kv) (vs.map fun kv=>if kv.1=k then (kv.1,u) else kv):=by
 unfold KV at r ⊢
 induction r with
 | nil=>exact .nil
 | @cons p q ps qs h t ih=>
  rw [aP4,aP4]
  refine .cons ?_ ih
  obtain ⟨h1,h2⟩:=h
  by_cases e:p.1=k
  ·rw [if_pos e,if_pos (h1.symm.trans e)]; exact⟨h1,ry⟩
  ·rw [if_neg e,if_neg (fun z=>e (h1.trans z))]; exact⟨h1,h2⟩
theorem KV.put {kvs:List (κ × V)}{vs:List (κ × Value)} (r:KV kvs vs) (k:κ) {y:V}{u:Value} (ry:aF y u):KV (dP kvs k y) (stored vs k u):=by
 unfold dP stored
 rw [r.any k]
 by_cases e:(vs.any fun kv=>decide (kv.1=k))=true
 ·rw [if_pos e,if_pos e]; exact r.repl k ry
 ·rw [if_neg e,if_neg e]; exact Paired.snoc r ⟨rfl,ry⟩
theorem KV.length {kvs:List (κ × V)}{vs:List (κ × Value)} (r:KV kvs vs):kvs.length=vs.length:=Paired.length r
end
theorem lN {P:Program}{w:World}{k:a7}{u:Value} (r:aF (kV k) u):(dN P w).is k u=true:=by
 cases k with
 | inl i=>obtain ⟨t,e⟩:=(show ∃ t,u=Value.int i t from r); subst e; exact Q0 P w i t
 | inr x=>obtain ⟨t,e⟩:=(show ∃ t,u=Value.str x t from r); subst e; exact Q2 P w x t
theorem x3 {P:Program}{w:World}:∀ {ks:List a7}{us:List Value},aB (ks.map kV) us->ItemsAre (dN P w) ks us
 | [],_,r=>by rw [List.map_nil] at r; cases r; exact .nil
 | k :: ks,_,r=>by
  rw [aP4] at r
  cases r with
  | cons h t=>exact .cons (lN h) (x3 t)
noncomputable abbrev KT (H:Hp):List (List a7 × V)->List (List a7 × Addr × Value)->Prop:=Paired fun p q=>p.1=q.1/\H q.2.1=some (.tup (p.1.map kV))/\aF p.2 q.2.2
theorem KT.val {H:Hp}{kvs:List (List a7 × V)}{xs:List (List a7 × Addr × Value)} (r:KT H kvs xs) (k:List a7):fG (dO kvs k) ((atKey xs k).map (·.2)):=by
 induction r with
 | nil=>exact aZ8
 | @cons p q ps qs h t ih=>
  obtain ⟨h1,_,h2⟩:=h
  by_cases e:p.1=k
  ·have e':q.1=k:=h1.symm.trans e
   have b:atKey (q :: qs) k=some q.2:=by simp [atKey,aT5,e']
   rw [qX e,b]; exact h2
  ·have e' : ¬ q.1=k:=fun z=>e (h1.trans z)
   have b:atKey (q :: qs) k=atKey qs k:=by simp [atKey,aT5,e']
   rw [qY e,b]; exact ih
theorem KT.repl {H:Hp}{kvs:List (List a7 × V)}{xs:List (List a7 × Addr × Value)} (r:KT H kvs xs) (k:List a7) {y:V}{u:Value} (ry:aF y u) :
  KT H (kvs.map fun kv=>if kv.1=k then (kv.1,y) else kv) (xs.map (putAt k u)):=by
 induction r with
 | nil=>exact .nil
 | @cons p q ps qs h t ih=>
  rw [aP4,aP4]
  refine .cons ?_ ih
  obtain ⟨h1,h2,h3⟩:=h
  unfold putAt
  by_cases e:p.1=k
  ·rw [if_pos e,if_pos (h1.symm.trans e)]; exact⟨h1,h2,ry⟩
  ·rw [if_neg e,if_neg (fun z=>e (h1.trans z))]; exact⟨h1,h2,h3⟩
theorem KT.put {H:Hp}{kvs:List (List a7 × V)}{xs:List (List a7 × Addr × Value)} (r:KT H kvs xs) (k:List a7) {b:Addr}{y:V}{u:Value} (hb:H b=some (.tup (k.map kV))) (ry:aF y u) :
  KT H (dP kvs k y) (storedH xs k b u):=by
 have e:(kvs.any fun kv=>decide (kv.1=k))=(atKey xs k).isSome:=by
  rw [wY,(r.val k).isSome_eq,Option.isSome_map]
 unfold dP storedH
 rw [e]
 by_cases q:(atKey xs k).isSome=true
 ·rw [if_pos q,if_pos q]; exact r.repl k ry
 ·rw [if_neg q,if_neg q]; exact Paired.snoc r ⟨rfl,hb,ry⟩
theorem KT.keeps {H H':Hp}{kvs:List (List a7 × V)}{xs:List (List a7 × Addr × Value)} (r:KT H kvs xs) (ht:∀ b ys,H b=some (.tup ys)->H' b=some (.tup ys)):KT H' kvs xs:=
 Paired.mapP r fun _ _ z=>⟨z.1,ht _ _ z.2.1,z.2.2⟩
section
variable {P : Program} {w : World} {H : Hp} {h : Heap} {a : Addr}
theorem x4 {u:HO} (ok:bC P w H h) (e:Rd H a u):bA P w H h a u:=e.ok ok
theorem iQ {kvs:List (a7 × V)} (ok:bC P w H h) (e:Rd H a (.dK kvs)):kvs.length<=sizeLine/\(a == sysModules)=false/\∃ vs,KV kvs vs/\h.DictOf (dN P w) a vs:=
 show bA P w H h a (.dK kvs) from x4 ok e
theorem ab0 {kvs:List (a7 × V)} (ok:bC P w H h) (e:H a=some (.dK kvs)):kvs.length<=sizeLine/\(a == sysModules)=false/\∃ vs,KV kvs vs/\h.DictOf (dN P w) a vs:=iQ ok (.inl e)
theorem jU {ks:List a7} (ok:bC P w H h) (e:H a=some (.tup (ks.map kV))):(tupleKind (dN P w)).is h ks a:=by
 obtain ⟨_,its,r,⟨o,h1,h2,n,h3⟩,_⟩:=(show bA P w H h a (.tup (ks.map kV)) from ok a _ e)
 exact⟨o,its.toArray,n,h1,h2,h3,by simpa using x3 r⟩
theorem jV {kvs:List (List a7 × V)} (ok:bC P w H h) (e:Rd H a (.dT kvs)):kvs.length<=sizeLine/\(a == sysModules)=false/\
  ∃ xs,KT H kvs xs/\h.DictOfH (tupleKind (dN P w)) a xs:=by
 obtain ⟨z,y,xs,r,o,es,ep,h1,h2,h3,h4,h5⟩:=(show bA P w H h a (.dT kvs) from x4 ok e)
 refine⟨z,y,xs,r,o,es,ep,h1,h2,h3,h4,fun x hx=>?_,h5⟩
 have all:∀ {l:List (List a7 × V)}{m:List (List a7 × Addr × Value)},KT H l m->∀ x ∈ m,(tupleKind (dN P w)).is h x.1 x.2.1:=by
  intro l m q
  induction q with
  | nil=>intro x hx; exact nomatch hx
  | @cons p q ps qs hq t ih=>
   intro x hx
   rcases aM4.mp hx with e | hx
   ·subst e
    exact jU ok (by rw [<- hq.1]; exact hq.2.1)
   ·exact ih x hx
 exact all r x hx
theorem x5 {kvs:List (List a7 × V)} (ok:bC P w H h) (e:H a=some (.dT kvs)):kvs.length<=sizeLine/\(a == sysModules)=false/\
  ∃ xs,KT H kvs xs/\h.DictOfH (tupleKind (dN P w)) a xs:=jV ok (.inl e)
end
noncomputable def e8 (H:Hp) (a:Addr) (y:V) (r:Option V):Prop:=
 (∃ kvs k,Rd H a (.dK kvs)/\y=kV k/\r=dO kvs k) ∨ ∃ kvs k b,Rd H a (.dT kvs)/\y = .ref b/\H b=some (.tup (k.map kV))/\r=dO kvs k
noncomputable def hZ (H:Hp) (a:Addr) (y v:V) (H':Hp):Prop:=
 (∃ kvs k,H a=some (.dK kvs)/\y=kV k/\kvs.length < sizeLine/\H'=upd H a (.dK (dP kvs k v))) ∨
 ∃ kvs k b,H a=some (.dT kvs)/\y = .ref b/\H b=some (.tup (k.map kV))/\kvs.length < sizeLine/\H'=upd H a (.dT (dP kvs k v))
theorem e8.k {H:Hp}{a:Addr}{kvs:List (a7 × V)}{k:a7} (e:H a=some (.dK kvs)):e8 H a (kV k) (dO kvs k):=.inl ⟨kvs,k,.inl e,rfl,rfl⟩
theorem e8.t {H:Hp}{a b:Addr}{kvs:List (List a7 × V)}{k:List a7} (e:H a=some (.dT kvs)) (eb:H b=some (.tup (k.map kV))):e8 H a (.ref b) (dO kvs k):=.inr ⟨kvs,k,b,.inl e,rfl,eb,rfl⟩
theorem hZ.k {H:Hp}{a:Addr}{kvs:List (a7 × V)}{k:a7}{v:V} (e:H a=some (.dK kvs)) (hl:kvs.length < sizeLine):hZ H a (kV k) v (upd H a (.dK (dP kvs k v))):=.inl ⟨kvs,k,e,rfl,hl,rfl⟩
theorem hZ.t {H:Hp}{a b:Addr}{kvs:List (List a7 × V)}{k:List a7}{v:V} (e:H a=some (.dT kvs)) (eb:H b=some (.tup (k.map kV))) (hl:kvs.length < sizeLine) :
  hZ H a (.ref b) v (upd H a (.dT (dP kvs k v))):=.inr ⟨kvs,k,b,e,rfl,eb,hl,rfl⟩
section
variable {X : Cx} {pins : List (Addr × Obj)} {σ : St} {H : Hp} {s : Shared} {a : Addr} {y v : V} {u r : Value} {o : Option V} {A : Around} {E : Value → Shared → Prop}
theorem a5.big (I:a5 X pins σ H s):sysModules < s.heap.objs.size:=by
 have h:mainGlobals < s.heap.objs.size:=(I.mod.glob.keeps I.bk).lt
 exact Nat.lt_trans (by decide) h
theorem ab1 {Q:Value->Shared->Prop} (hu:A.units+1 < cLine) (I:a5 X pins σ H s) (g:e8 H a y (some v)) (ry:aF y u) (h:∀ w' s',a5 X pins σ H s'->aF v w'->Q w' s') :
  wpAny (model X.prog X.w) A (getItem (.ref a) u) Q E s:=by
 rcases g with ⟨kvs,k,e,ey,l⟩ | ⟨kvs,k,b,e,ey,eb,l⟩
 ·subst ey
  obtain ⟨z,hd,vs,rel,dd⟩:=iQ I.hok e
  obtain ⟨w',hw,rw'⟩:=fG.some_of (v:=v) (o:=valueAt vs k) (by rw [l]; exact rel.val k)
  exact wpAny_getItem_of (lN ry) dd.mapOf hw (h w' _ (I.tok _) rw')
 ·subst ey
  cases (show u=Value.ref b from ry)
  obtain ⟨z,hd,xs,rel,dd⟩:=jV I.hok e
  obtain ⟨w',hw,rw'⟩:=fG.some_of (v:=v) (o:=(atKey xs k).map (·.2)) (by rw [l]; exact rel.val k)
  obtain ⟨p,hp,hp2⟩:=Option.map_eq_some_iff.mp hw
  refine wpAny_getItem_heap (tupleKind_room_in1 hu) (jU I.hok eb) dd hp ?_
  rw [hp2]
  exact h w' _ (I.tok _) rw'
theorem ab2 {Q:Value->Shared->Prop} (hu:A.units+1 < cLine) (I:a5 X pins σ H s) (g:e8 H a y o) (ry:aF y u) (h:∀ s',a5 X pins σ H s'->Q (.bool o.isSome) s') :
  wpAny (model X.prog X.w) A (compareOp .In u (.ref a)) Q E s:=by
 rcases g with ⟨kvs,k,e,ey,l⟩ | ⟨kvs,k,b,e,ey,eb,l⟩
 ·subst ey
  obtain ⟨z,hd,vs,rel,dd⟩:=iQ I.hok e
  refine wpAny_in_of (lN ry) hd dd.mapOf ?_
  rw [<- (rel.val k).isSome_eq,<- l]
  exact h _ (I.tok _)
 ·subst ey
  cases (show u=Value.ref b from ry)
  obtain ⟨z,hd,xs,rel,dd⟩:=jV I.hok e
  refine wpAny_in_heap (tupleKind_room_in1 hu) (jU I.hok eb) hd dd ?_
  have q:=(rel.val k).isSome_eq
  rw [Option.isSome_map] at q
  rw [<- q,<- l]
  exact h _ (I.tok _)
theorem ab3 {Q:Value->Shared->Prop} (hu:A.units+1 < cLine) (I:a5 X pins σ H s) (g:e8 H a y o) (ry:aF y u) (h:∀ s',a5 X pins σ H s'->Q (.bool (!o.isSome)) s') :
  wpAny (model X.prog X.w) A (compareOp .NotIn u (.ref a)) Q E s:=by
 rcases g with ⟨kvs,k,e,ey,l⟩ | ⟨kvs,k,b,e,ey,eb,l⟩
 ·subst ey
  obtain ⟨z,hd,vs,rel,dd⟩:=iQ I.hok e
  refine wpAny_notIn_of (lN ry) hd dd.mapOf ?_
  rw [<- (rel.val k).isSome_eq,<- l]
  exact h _ (I.tok _)
 ·subst ey
  cases (show u=Value.ref b from ry)
  obtain ⟨z,hd,xs,rel,dd⟩:=jV I.hok e
  refine wpAny_notIn_heap (tupleKind_room_in1 hu) (jU I.hok eb) hd dd ?_
  have q:=(rel.val k).isSome_eq
  rw [Option.isSome_map] at q
  rw [<- q,<- l]
  exact h _ (I.tok _)
theorem qZ {h':Heap}{t':Nat}{ob:HO} (I:a5 X pins σ H s) (mu:l0 (H a)) (hs:Heap.SameBut a s.heap h') (he:∃ q,h'.get? a=some q) (new:bA X.prog X.w (upd H a ob) h' a ob) :
  a5 X pins σ (upd H a ob) { s with heap:=h',toks:=t' }:=
 I.write (x:=a) (e:=a) mu (.inl rfl) (fun b q hb z=>(hs.2 b hb).trans z) he new
theorem ab4 {P:Program}{w:World}{H':Hp}{h':Heap}{kvs:List (a7 × V)}{vs:List (a7 × Value)} (z:kvs.length<=sizeLine) (hd:(a == sysModules)=false) (rel:KV kvs vs) (dd:h'.DictOf (dN P w) a vs) :
  bA P w H' h' a (.dK kvs):=⟨z,hd,vs,rel,dd⟩
theorem ab5 {H':Hp}{Q:Unit->Shared->Prop} (hu:A.units+1 < cLine) (I:a5 X pins σ H s) (g:hZ H a y v H') (ry:aF y u) (rv:aF v r) (h:∀ s',a5 X pins σ H' s'->Q () s') :
  wpAny (model X.prog X.w) A (setItem (.ref a) u r) Q E s:=by
 rcases g with ⟨kvs,k,e,ey,l,eH⟩ | ⟨kvs,k,b,e,ey,eb,l,eH⟩
 ·subst ey eH
  obtain ⟨z,hd,vs,rel,dd⟩:=ab0 I.hok e
  have hz:vs.length<=sizeLine:=by rw [<- rel.length]; exact z
  have hl:(dP kvs k v).length<=sizeLine:=by have:=wZ kvs k v; omega
  refine wpAny_setItem_pairs (hsz:=hz) (lN ry) dd fun h' dd' hs=>h _ ?_
  have he:∃ q,h'.get? a=some q:=let ⟨q,_,_,hq,_⟩:=dd'; ⟨q,hq⟩
  exact qZ I (by rw [e]; exact aZ8) hs he (ab4 hl hd (rel.put k rv) dd')
 ·subst ey eH
  cases (show u=Value.ref b from ry)
  obtain ⟨z,hd,xs,rel,dd⟩:=x5 I.hok e
  have hz:xs.length<=sizeLine:=by rw [<- Paired.length rel]; exact z
  have hl:(dP kvs k v).length<=sizeLine:=by have:=wZ kvs k v; omega
  refine wpAny_setItem_heap (hsz:=hz) (tupleKind_room_in1 hu) (jU I.hok eb) dd fun h' dd' hs=>h _ ?_
  obtain ⟨q,es,ep,hq,h2,h3,h4,_,h5⟩:=dd'
  refine qZ I (by rw [e]; exact aZ8) hs ⟨q,hq⟩ ⟨hl,hd,_,(rel.put k eb rv).keeps fun c ys ec=>?_,q,es,ep,hq,h2,h3,h4,h5⟩
  rw [aU (uT ec e (fun z=>nomatch z))]
  exact ec
end
section
variable {X : Cx} {pins : List (Addr × Obj)} {σ : St} {H : Hp} {s : Shared} {a : Addr} {kvs : List (a7 × V)} {k : a7} {u : Value} {A : Around} {E : Value → Shared → Prop}
theorem ab6 {Q:Value->Shared->Prop} (I:a5 X pins σ H s) (e:Rd H a (.dK kvs)) (h:∀ t s',a5 X pins σ H s'->Q (.int kvs.length t) s'):wpAny (model X.prog X.w) A (call (.builtin "len") [.ref a]) Q E s:=by
 obtain ⟨z,hd,vs,rel,dd⟩:=iQ I.hok e
 refine call_len_dict hd dd (by rw [<- rel.length]; rw [sizeLine_eq] at z; omega) ?_
 rw [<- rel.length]
 exact h _ _ (I.tok _)
end
noncomputable def r6 (i:Expr):Prop:=∀ ov iv,subscripted i false ov iv=operate [ov,iv] (getItem ov iv)
theorem ab7 {prog:Program}{w:World}{A:Around}{E:Value->Shared->Prop}{s:Shared}{env:Env}{value slice:Expr}{pos:Pos}{T id:String}{Q:Value->Shared->Prop}
  (hl:typeLookup (.type T) "__getitem__" = pure (some (.builtin id))) (hs:r6 slice)
  (h:wpAny (model prog w) A (eval value env) (fun o s₁=>wpAny (model prog w) A (eval slice env) (fun i s₂=>s₂.TypeIs o T/\wpAny (model prog w) A (getItem o i) Q E s₂) E s₁) E s) :
  wpAny (model prog w) A (eval (.Subscript value slice pos) env) Q E s:=by
 refine Subscript_ (aP8 h (fun o s₁ h₁=>aP8 h₁ (fun i s₂ h₂=>?_) fun _ _ x=>x) fun _ _ x=>x)
 obtain ⟨hT,h₂⟩:=h₂
 unfold subscriptTail
 refine aK1 ?_
 rw [getitemInPython_of_ne hT.not_modules]
 refine aK1 (wpAny_specialOf hT hl ?_)
 have fin:wpAny (model prog w) A (subscripted slice false o i) (fun r s₃=>wpAny (model prog w) A (letTemporaryGo value o r >>= fun _=>pure r) Q E s₃) E s₂:=by
  rw [hs o i]
  exact wpAny_operating (aP8 h₂ (fun r s₃ h₃=>aK1 (wpAny_letTemporaryGo (aK6 h₃))) fun _ _ x=>x)
 first
  | exact aK6 (aK1 fin)
  | exact aK1 (aK6 (aK1 fin))
  | exact aK1 fin
theorem ab8 {X:Cx}{pins:List (Addr × Obj)}{σ:St}{H:Hp}{s:Shared}{a:Addr}{y:V}{o:Option V} (I:a5 X pins σ H s) (g:e8 H a y o):s.TypeIs (.ref a) "dict":=by
 rcases g with ⟨kvs,k,e,_,_⟩ | ⟨kvs,k,b,e,_,_,_⟩
 ·obtain ⟨_,_,vs,_,dd⟩:=iQ I.hok e
  exact dd.typeIs
 ·obtain ⟨_,_,xs,_,dd⟩:=jV I.hok e
  exact dd.typeIs
noncomputable def x6 (td ty:TE):TE:=fun σ H Q=>td σ H fun x H1=>ty σ H1 fun y H2=>∃ a v,x = .ref a/\e8 H2 a y (some v)/\Q v H2
noncomputable def x8 (ty td:TE):TE:=fun σ H Q=>ty σ H fun y H1=>td σ H1 fun x H2=>∃ a o,x = .ref a/\e8 H2 a y o/\Q (.bl o.isSome) H2
noncomputable def x9 (ty td:TE):TE:=fun σ H Q=>ty σ H fun y H1=>td σ H1 fun x H2=>∃ a o,x = .ref a/\e8 H2 a y o/\Q (.bl (!o.isSome)) H2
noncomputable def r9 (td ty tv:TE):TS:=fun D σ H=>tv σ H fun v H1=>td σ H1 fun x H2=>ty σ H2 fun y H3=>∃ a H4,x = .ref a/\hZ H3 a y v H4/\D.nx σ H4
section
variable {X : Cx} {o i e value : Expr} {pos pos' tpos : Pos} {td ty tv : TE}
theorem ab9 (hu:X.A.units+1 < cLine) (ho:PE X o td) (hi:PE X i ty) (hs:r6 i):PE X (.Subscript o i pos) (x6 td ty):=by
 intro pins s σ H Q I h
 refine ab7 PySem.F.slot_dict_getitem.lookup hs (aE (ho pins s σ H _ I h) fun u s1 ⟨x,H1,I1,rx,q1⟩=>aE (hi pins s1 σ H1 _ I1 q1) fun iv s2 ⟨y,H2,I2,ry,a,v,ex,g,q2⟩=>?_)
 subst ex
 obtain rfl:u=Value.ref a:=rx
 exact⟨ab8 I2 g,ab1 hu I2 g ry fun w' s3 I3 rw'=>⟨v,H2,I3,rw',q2⟩⟩
theorem ac0 (hu:X.A.units+1 < cLine) (hi:PE X i ty) (ho:PE X o td):PC X .In i o (x8 ty td):=by
 intro pins s σ H Q I h
 refine aE (hi pins s σ H _ I h) fun iv s1 ⟨y,H1,I1,ry,q1⟩=>aE (ho pins s1 σ H1 _ I1 q1) fun u s2 ⟨x,H2,I2,rx,a,ov,ex,g,q2⟩=>?_
 subst ex
 obtain rfl:u=Value.ref a:=rx
 exact ab2 hu I2 g ry fun s3 I3=>⟨.bl ov.isSome,H2,I3,rfl,q2⟩
theorem ac1 (hu:X.A.units+1 < cLine) (hi:PE X i ty) (ho:PE X o td):PC X .NotIn i o (x9 ty td):=by
 intro pins s σ H Q I h
 refine aE (hi pins s σ H _ I h) fun iv s1 ⟨y,H1,I1,ry,q1⟩=>aE (ho pins s1 σ H1 _ I1 q1) fun u s2 ⟨x,H2,I2,rx,a,ov,ex,g,q2⟩=>?_
 subst ex
 obtain rfl:u=Value.ref a:=rx
 exact ab3 hu I2 g ry fun s3 I3=>⟨.bl (!ov.isSome),H2,I3,rfl,q2⟩
theorem xA (hu:X.A.units+1 < cLine) (ho:PE X o td) (hi:PE X i ty) (hv:PE X value tv) (hs:swapsWith value (some (.Subscript o i pos')) pos.line X.env=pure false) :
  PS X (.Assign [.Subscript o i pos'] value pos) (r9 td ty tv):=by
 intro pins s σ H D I h
 refine wpAny_Assign_Subscript (aE (hv pins s σ H _ I h) fun r s1 ⟨v,H1,I1,rv,q1⟩=>aE (ho pins s1 σ H1 _ I1 q1) fun u s2 ⟨x,H2,I2,rx,q2⟩=>aE (hi pins s2 σ H2 _ I2 q2) fun iv s3 ⟨y,H3,I3,ry,a,H4,ex,g,q3⟩=>?_) hs
 subst ex
 obtain rfl:u=Value.ref a:=rx
 exact ab5 hu I3 g ry rv fun s4 I4=>⟨σ,H4,I4,q3⟩
end
theorem ac2 {P:Program}{w:World}{H:Hp} (h:Heap) (hb:sysModules < h.objs.size):bA P w H (h.push { cls:=.type "dict",data:=.dict #[] }) h.objs.size (.dK []):=
 ⟨aO1 _,aW3.mpr (Ne.symm (aN8 hb)),[],.nil,Heap.DictOf.new h⟩
theorem ac3 {P:Program}{w:World}{H:Hp} (h:Heap) (hb:sysModules < h.objs.size):bA P w H (h.push { cls:=.type "dict",data:=.dict #[] }) h.objs.size (.dT []):=
 ⟨aO1 _,aW3.mpr (Ne.symm (aN8 hb)),[],.nil,_,#[],0,aM3 _ rfl,⟨rfl,rfl,rfl⟩,rfl,rfl,List.nodup_nil⟩
noncomputable def xB:TE:=fun _ H Q=>∀ p,H p=none->Q (.ref p) (upd H p (.dK []))
noncomputable def xC:TE:=fun _ H Q=>∀ p,H p=none->Q (.ref p) (upd H p (.dT []))
section
variable {X : Cx} {pos : Pos}
theorem ac4:PE X (.Dict [] [] pos) xB:=fun pins s σ H Q I h=>
 wpAny_Dict_empty ⟨.ref s.heap.objs.size,_,I.laid (a:=s.heap.objs.size) (o:=.dK []) (t':=s.toks) (fun _ _ q=>aK5 _ q) (aK4 _) (ac2 s.heap I.big),rfl,h _ (I.hok.fresh (aK4 _))⟩
theorem ac5:PE X (.Dict [] [] pos) xC:=fun pins s σ H Q I h=>
 wpAny_Dict_empty ⟨.ref s.heap.objs.size,_,I.laid (a:=s.heap.objs.size) (o:=.dT []) (t':=s.toks) (fun _ _ q=>aK5 _ q) (aK4 _) (ac3 s.heap I.big),rfl,h _ (I.hok.fresh (aK4 _))⟩
end
structure M1 (X:Cx) (o:Expr) (m:Str) (apos:Pos) (e:Expr) (cpos:Pos):Prop where
 base:attributeBase o m X.env (eval o X.env)=eval o X.env
 few:((backTo cpos (starEach [e] X.env)).all (fun x=>!x.1) && (backToKw cpos (keywordEach [] X.env)).all (fun x=>x.1.isSome)
  && decide (([e]:List Expr).length+([]:List Keyword).length+(if ([]:List Keyword).isEmpty then 0 else 1) < 30))=true
 line:(apos.endLine == cpos.line)=true
 trees:backTo cpos (starEach [e] X.env) = [(false,eval e X.env)]
structure M2 (X:Cx) (o:Expr) (m:Str) (apos:Pos) (e f:Expr) (cpos:Pos):Prop where
 base:attributeBase o m X.env (eval o X.env)=eval o X.env
 few:((backTo cpos (starEach [e,f] X.env)).all (fun x=>!x.1) && (backToKw cpos (keywordEach [] X.env)).all (fun x=>x.1.isSome)
  && decide (([e,f]:List Expr).length+([]:List Keyword).length+(if ([]:List Keyword).isEmpty then 0 else 1) < 30))=true
 line:(apos.endLine == cpos.line)=true
 trees:backTo cpos (starEach [e,f] X.env) = [(false,eval e X.env),(false,eval f X.env)]
noncomputable def xD (H:Hp) (a:Addr):Prop:=(∃ kvs,Rd H a (.dK kvs)) ∨ ∃ kvs,Rd H a (.dT kvs)
theorem ac6 {X:Cx}{pins:List (Addr × Obj)}{σ:St}{H:Hp}{s:Shared}{a:Addr} (I:a5 X pins σ H s) (d:xD H a) :
  s.TypeIs (.ref a) "dict"/\(∀ b,Value.ref a = .ref b->∃ ob,s.heap.get? b=some ob/\ob.dict=none)/\(a == sysModules)=false:=by
 rcases d with ⟨kvs,e⟩ | ⟨kvs,e⟩
 ·obtain ⟨_,hd,vs,_,dd⟩:=iQ I.hok e
  refine⟨dd.typeIs,fun b q=>?_,hd⟩
  cases q
  obtain ⟨ob,_,_,h1,h2,_⟩:=dd
  exact⟨ob,h1,h2.2.1⟩
 ·obtain ⟨_,hd,xs,_,dd⟩:=jV I.hok e
  refine⟨dd.typeIs,fun b q=>?_,hd⟩
  cases q
  obtain ⟨ob,_,_,h1,h2,_⟩:=dd
  exact⟨ob,h1,h2.2.1⟩
end L2
namespace Att
open PySem PySem.W PySem.Calls PyProof.Rows
theorem ac7 {P:Params}{h:Heap}:∀ (ns:List Int) (vs:List Value),WellAll P h vs (ns.map WData.int)->IntsAre vs ns:=by
 intro ns
 induction ns with
 | nil=>
  intro vs w
  rw [List.map_nil] at w
  cases w
  exact .nil
 | cons n ns ih=>
  intro vs w
  rw [aP4] at w
  cases w with
  | cons a b=>
   cases a
   exact .cons _ _ (ih _ b)
theorem xE {l:OpenLaw}{n:Nat} (hn:l.most=some n) {P:Params}{h:Heap}{args:List WData}{vals:List Value}
  (hpre:l.row.toRowW.claim.pre args=true) (hwl:WellAll P h vals args) :
  ∃ a vs ns,vals = [Value.ref a]/\args = [WData.list (ns.map WData.int)]/\h.get? a=some { cls:=.type "list",data:=.seq vs.toArray }/\IntsAre vs ns/\ns.length<=n:=by
 have hsh:WShape.hasAll [] args [.list .int]=true:=(pre_splitW hpre).1
 have hc:l.pre.holds [] { args:=args }=true:=(pre_splitW hpre).2
 obtain ⟨d,r,rfl,h1,h2⟩:=hasAllW_cons hsh
 obtain rfl:=hasAllW_nil h2
 obtain ⟨xs,rfl,h3⟩:=hasW_list h1
 obtain ⟨ns,rfl⟩:=items_int h3
 have hlen:ns.length<=n:=by
  unfold OpenLaw.pre at hc
  have h4:(WTm.not (.lt (.lit (.int (n:Int))) (.len (.arg 0)))).holds [] { args:=[.list (ns.map .int)] }=true:=by
   have h4:=(holds_andW hc).1
   rw [hn] at h4
   exact h4
  have h5:=condW_of h4 (w_not (w_lt w_lit (w_len_list (w_arg rfl))))
  rw [aL4] at h5
  refine aW7 fun q=>?_
  have q':(n:Int) < ((ns.length:Nat):Int):=by omega
  first
   | (rw [aL2 q'] at h5; exact absurd h5 (by decide))
   | (simp at h5; omega)
 cases hwl with
 | cons w1 w2=>
  cases w2
  cases w1 with
  | list ho hall=>exact⟨_,_,ns,rfl,rfl,ho,ac7 ns _ hall,hlen⟩
theorem xF (l:OpenLaw) (args:List WData):l.row.toRowW.claim.post args (.bool true) args=true:=
 postW_of (r:=l.row.toRowW) (X:=(true == true))
  (show WShape.has [] (.bool true) .bool=true by first | rfl | decide | simp [WShape.has,WShape.arms,WShape.armsAll])
  (show (WTm.eq .res (.lit (.bool true))).value [] { args:=args,res:=some (.bool true),after:=args }=some (.bool (true == true)) from w_eq_bool (w_res rfl) w_lit) rfl
theorem aJ8 {l:OpenLaw}{n:Nat}{q:Program}{loose:List Str}{XP:(Str->Option Value)->Heap->Prop}{YP:World->Heap->Prop}{d:DefRec}{x:Str}
  (hn:l.most=some n) (hdf:d.params.defaults = [])
  (hbind:∀ pm cd doc v:Value,bindArgs (docDef d.name d.params d.body d.scope pm cd doc) ⟨[v],[]⟩=pure [(x,v)])
  (hx:d.scope.names.lookup x=some .local ∨ d.scope.names.lookup x=some .cell)
  (hk:d.scope.kind = .function) (hco:d.scope.isCoroutine=false) (hgen:d.scope.isGenerator=false)
  (body:∀ (w:World) (s₀ s₁ s:Shared) (mg mb:Str->Option Value) (fa:Addr) (o:Obj) (pm cd doc:Value) (a:Addr) (vs:List Value) (ns:List Int),
   Ground q loose [] XP w s₀ mg mb s₁.heap->YP w s₁.heap->
   s₁.heap.get? fa=some o->o.data = .func (docDef d.name d.params d.body d.scope pm cd doc)->s₁.heap.CodeRec cd d.name->mg d.name=some (.ref fa)->
   s₁.heap.get? a=some { cls:=.type "list",data:=.seq vs.toArray }->IntsAre vs ns->ns.length<=n->
   s.gens = #[]->s.os=s₁.os->
   Fr s₁.heap s₁.heap.objs.size s.heap (bindL (envOfC d.name d.scope s₁.heap.objs.size fa cd).kindOf [(x,.ref a)] fun _=>none)->
   Cl s₁.heap.objs.size (cellsFrom (s₁.heap.objs.size+1) d.scope.names []) s.heap (bindC (envOfC d.name d.scope s₁.heap.objs.size fa cd).kindOf [(x,.ref a)] fun _=>none)->
   wpAny (model l.prog w) (callerA.deeper (envOfC d.name d.scope s₁.heap.objs.size fa cd)) (execs d.body (envOfC d.name d.scope s₁.heap.objs.size fa cd))
    (fun f s'=>f = .ret (.bool true)/\OldK s₁.heap s'.heap/\s'.os=s₁.os/\AllBare s'.gens) (fun _ _=>False) s) :
  WalkO q loose XP YP l.row.toRowW d [] (fun f vs=>PySem.call f vs):=by
 intro w s₀ s₁ mg mb G Y fa o pm cd doc dV kV ho hd hcd hD hmg hg args vals as hpre hlay hrd hwl hlo
 obtain rfl:dV = .none:=Dflts.none hD hdf
 obtain rfl:kV = .none:=Dflts.noKw hD
 obtain ⟨a,vs,ns,rfl,rfl,hobj,hints,hlen⟩:=xE hn hpre hwl
 refine enter_call ?_
 refine call_cells_ret (o:=o) (by rw [depth_caller]; decide) ho (fd_plain hd) G.T.nolimit hcd (hbind pm cd doc (.ref a)) (fun y hy=>?_) (fun h₁ tk F X=>?_) hco hgen hk
 ·obtain rfl:y=(x,Value.ref a):=aK7.mp hy
  rcases hx with e | e
  ·exact .inl e
  ·exact .inr ⟨e,cellsFrom_some _ _ _ (.inl e)⟩
 ·refine aP8 (body w s₀ s₁ { s₁ with heap:=h₁,toks:=tk } mg mb fa o pm cd doc a vs ns G Y ho (fd_plain hd) hcd hmg hobj hints hlen hg rfl F X) (fun f s' hq=>?_) (fun _ _ hq=>hq)
  obtain ⟨rfl,h2,h3,h4⟩:=hq
  exact⟨.inl ⟨.bool true,.bool true,[],rfl,fun _=>rfl,.bool true,xF l _,fun _=>⟨List.Pairwise.nil,fun _ hm=>(nomatch hm)⟩⟩,h2,h3,h4⟩
theorem ac8 {l:OpenLaw}{n:Nat}{q:Program}{loose:List Str}{XP:(Str->Option Value)->Heap->Prop}{YP:World->Heap->Prop}{d:DefRec}
  (hn:l.most=some n) (hdf:d.params.defaults = [])
  (call:∀ (w:World) (s₀ s₁:Shared) (mg mb:Str->Option Value) (fa:Addr) (o:Obj) (pm cd doc:Value) (a:Addr) (vs:List Value) (ns:List Int),
   Ground q loose [] XP w s₀ mg mb s₁.heap->YP w s₁.heap->
   s₁.heap.get? fa=some o->o.data = .func (docDef d.name d.params d.body d.scope pm cd doc)->s₁.heap.CodeRec cd d.name->mg d.name=some (.ref fa)->
   s₁.heap.get? a=some { cls:=.type "list",data:=.seq vs.toArray }->IntsAre vs ns->ns.length<=n->s₁.gens = #[]->
   codeAny (model l.prog w) callerA (.call (.ref fa) ⟨[.ref a],[]⟩) (fun r s'=>r = .ok (.ret (.bool true))/\OldK s₁.heap s'.heap/\s'.os=s₁.os/\AllBare s'.gens) s₁) :
  WalkO q loose XP YP l.row.toRowW d [] (fun f vs=>PySem.call f vs):=by
 intro w s₀ s₁ mg mb G Y fa o pm cd doc dV kV ho hd hcd hD hmg hg args vals as hpre hlay hrd hwl hlo
 obtain rfl:dV = .none:=Dflts.none hD hdf
 obtain rfl:kV = .none:=Dflts.noKw hD
 obtain ⟨a,vs,ns,rfl,rfl,hobj,hints,hlen⟩:=xE hn hpre hwl
 refine enter_call (codeAny_mono (call w s₀ s₁ mg mb fa o pm cd doc a vs ns G Y ho (fd_plain hd) hcd hmg hobj hints hlen hg) fun r s' hq=>?_)
 obtain ⟨rfl,h2,h3,h4⟩:=hq
 exact⟨.inl ⟨.bool true,.bool true,[],rfl,fun _=>rfl,.bool true,xF l _,fun _=>⟨List.Pairwise.nil,fun _ hm=>(nomatch hm)⟩⟩,h2,h3,h4⟩
end Att
namespace L2
open PySem PySem.Spec PyProof.Rows
theorem xG:∀ {vs:List Value}{ns:List Int},IntsAre vs ns->aB (ns.map V.int) vs
 | _,_,.nil=>.nil
 | _,_,.cons n t h=>.cons ⟨t,rfl⟩ (xG h)
noncomputable def mY (H:Hp):Prop:=∀ b,H b=none ∨ ∃ o xs,H b=some (.frz o (.lst xs))
theorem ac9 {P:Program}{w:World}{K:PySem.W.Frag}{mg mb:Str->Option Value}{CX:eW}{k:Nat}{fa a:Addr}{fd:FuncData}{x:Str}{sp:Sp}{s₁:Shared}{vs:List Value}{ns:List Int}
  (KX:K.In s₁.heap) (hns:s₁.heap.Ns mainGlobals mg) (hb:s₁.heap.Ns builtinsNs mb) (hbb:∀ x:Str,x ≠ "__name__"->mb x=bootBuiltins x) (hlim:s₁.heap.NoLimit) (hg:s₁.gens = #[])
  (ha:s₁.heap.get? a=some { cls:=.type "list",data:=.seq vs.toArray }) (hi:IntsAre vs ns) (hl:ns.length<=sizeLine) (hr:bG k callerA)
  (F:∀ base:Heap,K.In base->base.Ns mainGlobals mg->cH P w K mg base CX k fa fd [x] sp) (hbind:∀ (s:Shared) (u:Value),BindsTo s fd ⟨[u],[]⟩ [(x,u)])
  (hsp:∀ H:Hp,mY H->aR K H a (ns.map V.int)->sp [.ref a] H (fun v _=>v = .bl true) fun _ _ _=>False)
  (hCX:∀ H e s',CX [] H s₁ (fun _ _ _=>False) e s'->False) :
  codeAny (model P w) callerA (.call (.ref fa) ⟨[.ref a],[]⟩) (fun r s'=>r = .ok (.ret (.bool true))/\OldK s₁.heap s'.heap/\s'.os=s₁.os/\AllBare s'.gens) s₁:=by
 have rv:=xG hi
 have lenV:=hi.length
 have core:∀ H:Hp,mY H->aR K H a (ns.map V.int)->bC P w H s₁.heap->(∀ b,H b ≠ none->b=a)->(H a ≠ none->K.lookup a=none)->
   codeAny (model P w) callerA (.call (.ref fa) ⟨[.ref a],[]⟩) (fun r s'=>r = .ok (.ret (.bool true))/\OldK s₁.heap s'.heap/\s'.os=s₁.os/\AllBare s'.gens) s₁:=by
  intro H hO hS hok hA hK
  have base_of:∀ {b:Addr}{o:Obj},s₁.heap.get? b=some o->H b=none->(g8 s₁.heap H).get? b=some o:=fun e n=>Q4 e n
  have noA:∀ {b:Addr}{o:Obj}{es:Array DictEntry}{ep:Nat},s₁.heap.get? b=some o->o.data = .dict es ep->H b=none:=fun {b o es ep} e d=>by
   cases q:H b with
   | none=>rfl
   | some u=>
    have e':b=a:=hA b (by rw [q]; simp)
    subst e'
    rw [ha] at e; cases e
    have d':Data.seq vs.toArray _=Data.dict es ep:=d
    cases d'
  have nsK:∀ {b:Addr}{m:Str->Option Value},s₁.heap.Ns b m->(g8 s₁.heap H).Ns b m:=fun {b m} ⟨o,es,ep,e,d,r⟩=>⟨o,es,ep,base_of e (noA e d),d,r⟩
  have hKb:K.In (g8 s₁.heap H):=fun b o e=>base_of (KX b o e) (by
   cases q:H b with
   | none=>rfl
   | some u=>
    have e':b=a:=hA b (by rw [q]; simp)
    subst e'
    rw [hK (by rw [q]; simp)] at e; cases e)
  have hM:Mod K mg (g8 s₁.heap H):=⟨hKb,nsK hns,⟨mb,nsK hb,hbb⟩,let ⟨mc,h1,h2⟩:=hlim; ⟨mc,nsK h1,h2⟩⟩
  have e0:mV P w K mg (g8 s₁.heap H) callerA [] s₁ H:=⟨rfl,hM,fun b o e=>Q5 e,Nat.le_of_eq (Q3 _ _),trivial,fun b hb=>absurd (show b ∈ ([]:List Addr) from hb) (by simp),hok,.of_eq hg⟩
  refine codeAny_mono ((F _ hKb (nsK hns)).run callerA [] s₁ H ⟨[.ref a],[]⟩ [.ref a] [.ref a] _ _ hr e0 (hbind s₁ (.ref a)) (.cons rfl .nil) (hsp H hO hS)) fun r s' h=>?_
  cases r with
  | error e=>exact (hCX H e s' h).elim
  | ok fl=>
   cases fl with
   | next=>exact False.elim h
   | brk=>exact False.elim h
   | cont=>exact False.elim h
   | ret u=>
    obtain ⟨v,H',os,bare,un,hok',r',q⟩:=h
    have q':v = .bl true:=q
    subst q'
    obtain rfl:u=Value.bool true:=r'
    refine⟨rfl,OldK.of_keep fun b o e=>?_,os,bare⟩
    cases q:H b with
    | none=>exact un.keep b o e q (by intro z; exact absurd (show b ∈ ([]:List Addr) from z) (by simp)) (by simp)
    | some u=>
     rcases hO b with z | ⟨ob,xs,z⟩
     ·rw [q] at z; cases z
     ·have z2:=un.frzs b ob _ z
      obtain ⟨e1,_⟩:=hok b _ z
      obtain ⟨e2,_⟩:=hok' b _ z2
      rw [e] at e1; cases e1
      exact e2
 cases hk:K.lookup a with
 | some o=>
  have e:=KX a o hk
  rw [ha] at e
  cases e
  refine core (fun _=>none) (fun _=>.inl rfl) (.inr ⟨_,vs.toArray,_,hk,rfl,rfl,rfl,by rw [aK3,lenV]; exact hl,by simpa using rv⟩) (fun b u z=>by have z':(none:Option HO)=some u:=z; cases z') (fun b z=>absurd rfl z) fun z=>absurd rfl z
 | none=>
  refine core (fun b=>if b=a then some (.frz { cls:=.type "list",data:=.seq vs.toArray } (.lst (ns.map V.int))) else none) (fun b=>?_) (.inl (.inr ⟨{ cls:=.type "list",data:=.seq vs.toArray },if_pos rfl⟩)) (fun b u z=>?_) (fun b z=>?_) fun _=>hk
  ·by_cases hb:b=a
   ·exact .inr ⟨_,_,if_pos hb⟩
   ·exact .inl (if_neg hb)
  ·by_cases hb:b=a
   ·have z':=(if_pos hb).symm.trans z
    cases z'
    subst hb
    exact⟨ha,by rw [aL4]; exact hl,vs,_,rv,ha⟩
   ·have z':=(if_neg hb).symm.trans z
    cases z'
  ·by_cases hb:b=a
   ·exact hb
   ·exact absurd (if_neg hb) z
theorem ad0 {l:PySem.W.OpenLaw}{n k:Nat}{q:Program}{loose:List Str}{XP:(Str->Option Value)->Heap->Prop}{YP:World->Heap->Prop}{d:DefRec}{K:Params->PySem.W.Frag}{CX:World->eW}{sp:World->Sp}{x:Str}
  (hn:l.most=some n) (hn2:n<=sizeLine) (hdf:d.params.defaults = []) (hr:bG k callerA)
  (hY:∀ (w:World) (h:Heap),YP w h->(K w.params).In h)
  (F:∀ (w:World) (mg:Str->Option Value) (fa:Addr) (h:Heap),(K w.params).In h->h.Ns mainGlobals mg->mg d.name=some (.ref fa)->
   ∃ fd:FuncData,(∀ (s:Shared) (u:Value),BindsTo s fd ⟨[u],[]⟩ [(x,u)])/\
    ∀ base:Heap,(K w.params).In base->base.Ns mainGlobals mg->cH l.prog w (K w.params) mg base (CX w) k fa fd [x] (sp w))
  (hsp:∀ (w:World) (H:Hp) (a:Addr) (ns:List Int),ns.length<=n->mY H->aR (K w.params) H a (ns.map V.int)->sp w [.ref a] H (fun v _=>v = .bl true) fun _ _ _=>False)
  (hCX:∀ (w:World) (H:Hp) (s:Shared) (e:Value) (s':Shared),CX w [] H s (fun _ _ _=>False) e s'->False) :
  PySem.W.WalkO q loose XP YP l.row.toRowW d [] (fun f vs=>PySem.call f vs):=by
 refine Att.ac8 hn hdf fun w s₀ s₁ mg mb fa o pm cd doc a vs ns G Y ho hd hcd hmg hobj hints hlen hg=>?_
 have KX:=hY w _ Y
 obtain ⟨fd,hb,hF⟩:=F w mg fa _ KX G.T.g hmg
 exact ac9 KX G.T.g G.T.b G.T.builtins G.T.nolimit hg hobj hints (aP2 hlen hn2) hr hF hb (fun H hO hS=>hsp w H a ns hlen hO hS) fun H e s'=>hCX w H s₁ e s'
noncomputable def gG (s:Stmt):Arguments:=match s with
 | .FunctionDef _ a _ _ _ _ _ _ _ _=>a
 | _=>{ posonlyargs:=[],args:=[],vararg:=none,kwonlyargs:=[],kw_defaults:=[],kwarg:=none,defaults:=[] }
noncomputable def dE (s:Stmt):List Stmt:=match s with
 | .FunctionDef _ _ b _ _ _ _ _ _ _=>b
 | _=>[]
noncomputable def aS (s:Stmt):Scope:=match s with
 | .FunctionDef _ _ _ _ _ _ sc _ _ _=>sc
 | _=>{ kind:=.function,names:=[],isGenerator:=false,isCoroutine:=false }
noncomputable abbrev dF:eW:=fun _ _ _ _ _ _=>False
noncomputable abbrev E0:XK:=fun _ _ _=>False
theorem ad1 {X:Cx}:lG dF X E0:=fun _ _ _ _ _ _ _ h=>h.elim
structure e9 (K:PySem.W.Frag) (x qual:Str) (st:Stmt) (f:Addr) (fd:FuncData):Prop where
 ex:∃ (oc:Value) (od:Option Addr) (kV doc pm:Value) (an:Option Addr) (cdv ct:Value) (osl:Array (Option Value)),
  fd=PySem.W.fnOf x qual (gG st) (dE st) (aS st) .none kV doc pm an cdv ct/\K.lookup f=some ⟨oc,od,.func fd,osl⟩/\PySem.W.codeIn K cdv qual=true
 kp:PySem.W.keepIn K (.ref f)=true
section
variable {P : Program} {w : World} {K : PySem.W.Frag} {mg : Str → Option Value} {base : Heap}
theorem e9.ok {x qual:Str}{st:Stmt}{f:Addr}{fd:FuncData}{N ps:List Str}{k:Nat}{sp:Sp} (F:e9 K x qual st f fd) (S:FnScope N ps (aS st)) (len:∀ vs H Q E,sp vs H Q E->vs.length=ps.length)
  (hbody:∀ (cdv:Value) (A:Around) (outer:List Env) (s:Shared) (H:Hp) (vs:List V) (Q:VK) (E:XK),bG k (A.deeper (envOfC qual (aS st) s.heap.objs.size f cdv))->sp vs H Q E->
   ∃ t,cP (cI dF P w K mg base N qual (aS st) f cdv A outer s H E).nox (dE st) t/\t { nx:=fun _ H'=>Q .non H',rt:=Q } (eY N vs) H):cH P w K mg base dF (k+1) f fd ps sp:=by
 obtain ⟨oc,od,kV,doc,pm,an,cdv,ct,osl,rfl,lk,hcd⟩:=F.ex
 refine wB lk hcd S len fun A outer s H vs Q E hr hsp=>?_
 obtain ⟨t,h,q⟩:=hbody cdv A outer s H vs Q E hr hsp
 exact⟨t,h.nox,q⟩
theorem e9.binds {x qual:Str}{st:Stmt}{f:Addr}{fd:FuncData}{ps:List Str} (F:e9 K x qual st f fd)
  (h:∀ (kV doc pm:Value) (an:Option Addr) (cdv ct:Value) (us:List Value),us.length=ps.length->bindArgs (PySem.W.fnOf x qual (gG st) (dE st) (aS st) .none kV doc pm an cdv ct) ⟨us,[]⟩=pure (ps.zip us)):gA K fd ps []:=by
 obtain ⟨oc,od,kV,doc,pm,an,cdv,ct,osl,rfl,lk,hcd⟩:=F.ex
 exact .all (h kV doc pm an cdv ct)
theorem ad2 {x qual:Str}{st:Stmt}{f:Addr}{oc:Value}{od an:Option Addr}{osl:Array (Option Value)}{kV doc pm cdv ct:Value} (l:K.lookup f=some ⟨oc,od,.func (PySem.W.fnOf x qual (gG st) (dE st) (aS st) .none kV doc pm an cdv ct),osl⟩)
  (c:PySem.W.codeIn K cdv qual=true) (k:PySem.W.keepIn K (.ref f)=true):e9 K x qual st f (PySem.W.fnOf x qual (gG st) (dE st) (aS st) .none kV doc pm an cdv ct):=⟨⟨oc,od,kV,doc,pm,an,cdv,ct,osl,rfl,l,c⟩,k⟩
end
theorem mZ {A:Around}{k:Nat} (hr:bG k A):A.units+1 < cLine:=Nat.lt_of_le_of_lt (Nat.add_le_add_left (by decide:1<=64) _) hr.units
theorem xH {n:Nat} (h:n<=1000):n < sizeLine:=Nat.lt_of_le_of_lt h (by decide)
section
variable {X : Cx}
theorem pv (i:Nat) {x:Str}{pos:Pos} (hN:X.N[i]? = some x:=by rfl) (hv:eV X.env.scope x:=by first | exact Or.inl rfl | exact Or.inr (Or.inl rfl) | exact Or.inr (Or.inr rfl)) (hd:(x == ("__debug__" : Str))=false:=by decide)
  (hcd:(x == ("__classdict__" : Str))=false:=by decide):PE X (.Name x pos) (fS i):=g9 hN hv hd hcd
theorem ad3:cM X (.builtin "len") (fun xs H Q=>∃ a kvs,xs = [V.ref a]/\H a=some (.dK kvs)/\Q (.int kvs.length) H):=by
 intro pins s σ H xs us Q I r h
 obtain ⟨a,kvs,rfl,ha,q⟩:=h
 obtain ⟨u,rfl,ru⟩:=hJ r
 cases ru
 exact ab6 I (.inl ha) fun t s' I'=>⟨.int kvs.length,H,I',⟨t,rfl⟩,q⟩
end
theorem aW {A B:Prop} (h:B):if false=true then A else B:=by
 rw [if_neg aL6]
 exact h
theorem bB {A B:Prop} (h:A):if true=true then A else B:=by
 rw [if_pos rfl]
 exact h
noncomputable def a8 (H H':Hp):Prop:=∀ b o,H b=some o->H' b=some o
theorem a8.refl (H:Hp):a8 H H:=fun _ _ h=>h
theorem a8.trans {H H1 H2:Hp} (a:a8 H H1) (b:a8 H1 H2):a8 H H2:=fun c o h=>b c o (a c o h)
theorem a8.free {H H':Hp} (e:a8 H H') {l:Addr} (h:H' l=Option.none):H l=Option.none:=by
 cases q:H l with
 | none=>rfl
 | some o=>
  rw [e l o q] at h
  cases h
noncomputable def cY (cells:List (Str × Addr)):List (Str × NameKind)->List (Str × Addr)->List (Str × Addr)
 | [],cs=>cs
 | (n,k) :: r,cs=>cY cells r (if k == .free then (n,(cells.lookup n).getD 0) :: cs else cs)
theorem rA {env:Env}:∀ (ns:List (Str × NameKind)) (cs:List (Str × Addr)),(∀ x ∈ ns,x.2 = .free->∃ c,env.cells.lookup x.1=some c)->
  (forIn ns cs (fun (x:Str × NameKind) r=>(match x with
   | (name,kind)=>if (kind == .free)=true then (do let y <- cellOf env name; pure (ForInStep.yield ((name,y) :: r))) else pure (ForInStep.yield r)):_->_->Sem _))=(pure (cY env.cells ns cs):Sem (List (Str × Addr)))
 | [],cs,_=>by rw [List.forIn_nil]; rfl
 | (n,k) :: r,cs,h=>by
  rw [List.forIn_cons]
  have hr:∀ x ∈ r,x.2 = .free->∃ c,env.cells.lookup x.1=some c:=fun x hx=>h x (aL5 _ hx)
  cases hk:(k == NameKind.free) with
  | true=>
   have e:k = .free:=by simpa using hk
   obtain ⟨c,hc⟩:=h (n,k) aM2 e
   simp only [hk,if_true]
   have e1:cellOf env n=pure c:=by unfold cellOf; rw [hc]
   rw [e1]
   show ((pure c >>= fun y=>pure (ForInStep.yield ((n,y) :: cs))) >>= _:Sem _)=_
   rw [pure_bind,pure_bind]
   have:=rA (env:=env) r ((n,c) :: cs) hr
   refine this.trans ?_
   unfold cY
   simp only [hk,if_true,hc,Option.getD_some]
   cases r <;> rfl
  | false=>
   simp only [hk,aN1,aR7]
   rw [pure_bind]
   have:=rA (env:=env) r cs hr
   refine this.trans ?_
   conv=>rhs; unfold cY
   simp only [hk,aN1,aR7]
theorem rB {scope:Scope}{env:Env} (h:∀ x ∈ scope.names,x.2 = .free->∃ c,env.cells.lookup x.1=some c):closureFor scope env=pure (cY env.cells scope.names []):=by
 have e:=rA (env:=env) scope.names [] h
 unfold closureFor
 rw [show (pure (cY env.cells scope.names []):Sem (List (Str × Addr)))=(pure (cY env.cells scope.names []) >>= pure) by rw [pure_bind]]
 rw [<- e]
theorem n4 {cells:List (Str × Addr)}:∀ (ns:List (Str × NameKind)) (cs:List (Str × Addr)) {x:Str}{c:Addr},(∀ y ∈ ns,y.2 = .free->∃ c,cells.lookup y.1=some c)->
  (∀ x c,cs.lookup x=some c->cells.lookup x=some c)->(cY cells ns cs).lookup x=some c->cells.lookup x=some c
 | [],cs,x,c,_,hc,h=>hc x c h
 | (n,k) :: r,cs,x,c,hn,hc,h=>by
  unfold cY at h
  have hr:∀ y ∈ r,y.2 = .free->∃ c,cells.lookup y.1=some c:=fun y hy=>hn y (aL5 _ hy)
  cases hk:(k == NameKind.free) with
  | false=>
   simp only [hk,aN1,aR7] at h
   exact n4 r cs hr hc h
  | true=>
   simp only [hk,if_true] at h
   refine n4 r _ hr (fun y d e=>?_) h
   obtain ⟨c0,h0⟩:=hn (n,k) aM2 (by simpa using hk)
   have h0:cells.lookup n=some c0:=h0
   rw [h0] at e
   rw [aQ4] at e
   by_cases hyn:y=n
   ·subst hyn
    simp only [aR2,Option.getD_some] at e
    rw [h0]; exact e
   ·have:(y == n)=false:=aW3.mpr hyn
    simp only [this] at e
    exact hc y d e
theorem rC {cells:List (Str × Addr)}:∀ (ns:List (Str × NameKind)) (cs:List (Str × Addr)) {x:Str},((x,NameKind.free) ∈ ns ∨ ∃ c,cs.lookup x=some c)->∃ c,(cY cells ns cs).lookup x=some c
 | [],cs,x,h=>by
  rcases h with h | h
  ·simp at h
  ·exact h
 | (n,k) :: r,cs,x,h=>by
  unfold cY
  refine rC r _ ?_
  rcases h with h | ⟨c,h⟩
  ·rcases aM4.mp h with e | e
   ·cases e
    exact .inr ⟨_,by simp [aQ4]; rfl⟩
   ·exact .inl e
  ·right
   cases hk:(k == NameKind.free) with
   | false=>exact⟨c,by simpa [hk] using h⟩
   | true=>
    simp only [if_true]
    rw [aQ4]
    by_cases hxn:(x == n)=true
    ·simp only [hxn]; exact⟨_,rfl⟩
    ·simp only [Bool.eq_false_iff.mpr hxn]; exact⟨c,h⟩
theorem n5 {env:Env}:∀ {names:List (Str × NameKind)}{x:Str}{k:NameKind},(names.map fun (n,k)=>if (k == NameKind.free && env.scope.kind == .function && env.kindOf n == some .cell) then (n,NameKind.cell) else (n,k)).lookup x=some k->
  names.lookup x=some k ∨ (names.lookup x=some .free/\k = .cell)
 | [],_,_,h=>by simp at h
 | (n,q) :: r,x,k,h=>by
  have ih:=@n5 env r x k
  rw [aP4] at h
  by_cases hx:(x == n)=true
  ·have e:x=n:=by simpa using hx
   subst e
   by_cases hc:(q == NameKind.free && env.scope.kind == .function && env.kindOf x == some .cell)=true
   ·simp only [hc,if_true,aQ4,aR2] at h
    have hq:q = .free:=by simp at hc; exact hc.1.1
    exact .inr ⟨by simp [aQ4,hq],(aN4 h).symm⟩
   ·simp only [hc,aN1,aR7,aQ4,aR2] at h
    exact .inl (by simp [aQ4]; exact aN4 h)
  ·have hx':(x == n)=false:=Bool.eq_false_iff.mpr hx
   have h':(r.map fun (n,k)=>if (k == NameKind.free && env.scope.kind == .function && env.kindOf n == some .cell) then (n,NameKind.cell) else (n,k)).lookup x=some k:=by
    by_cases hc:(q == NameKind.free && env.scope.kind == .function && env.kindOf n == some .cell)=true
    ·simp only [hc,if_true,aQ4,hx'] at h; exact h
    ·simp only [hc,aN1,aR7,aQ4,hx'] at h; exact h
   simp only [aQ4,hx']
   exact ih h'
noncomputable def eB (fr:List (Option Nat)) (σ:St):St:=fr.map fun o=>o.bind fun j=>(σ[j]?).join
noncomputable def Wk (σ₁ σ₂:St):Prop:=σ₁.length=σ₂.length/\∀ (i:Nat) v,σ₁[i]? = some (some v)->σ₂[i]? = some (some v)
theorem Wk.refl (σ:St):Wk σ σ:=⟨rfl,fun _ _ h=>h⟩
theorem Wk.set {σ τ:St}{i:Nat}{v:V} (h:Wk σ τ) (hi:σ[i]? = some none):Wk σ (τ.set i (some v)):=by
 refine⟨by rw [aQ3]; exact h.1,fun j w e=>?_⟩
 by_cases hj:j=i
 ·subst hj; rw [hi] at e; cases e
 ·rw [aN0 (Ne.symm hj)]; exact h.2 j w e
theorem gH:∀ (ns:List (Str × NameKind)) (n:Nat) (cs:List (Str × Addr)),cellsFrom n ns cs=cellsFrom n ns [] ++ cs
 | [],_,_=>rfl
 | (x,k) :: r,n,cs=>by
  unfold cellsFrom
  split
  ·rw [gH r (n+1) ((x,n) :: cs),gH r (n+1) [(x,n)]]; simp
  ·exact gH r n cs
theorem rD:∀ (ns:List (Str × NameKind)) (n:Nat) {x:Str}{c:Addr},(x,c) ∈ cellsFrom n ns []->(x,NameKind.cell) ∈ ns
 | [],_,_,_,h=>by simp [cellsFrom] at h
 | (y,k) :: r,n,x,c,h=>by
  unfold cellsFrom at h
  split at h
  ·rename_i hk
   rw [gH] at h
   rcases aM6.mp h with z | z
   ·exact aL5 _ (rD r _ z)
   ·rw [aK7] at z
    cases z
    have:k = .cell:=by simpa using hk
    rw [this]; exact aM2
  ·exact aL5 _ (rD r _ h)
theorem n6:∀ (ns:List (Str × NameKind)) (n:Nat) {x:Str},(x,NameKind.cell) ∈ ns->∃ c,(x,c) ∈ cellsFrom n ns []
 | (y,k) :: r,n,x,h=>by
  unfold cellsFrom
  rcases aM4.mp h with z | z
  ·cases z
   rw [if_pos (by rfl),gH]
   exact⟨n,aM1 _ (by simp)⟩
  ·split
   ·obtain ⟨c,hc⟩:=n6 r (n+1) z
    rw [gH]
    exact⟨c,aN5 _ hc⟩
   ·exact n6 r n z
theorem rE {α:Type}:∀ {l:List (Str × α)}{x:Str}{c:α},(x,c) ∈ l->∃ d,l.lookup x=some d
 | (y,v) :: r,x,c,h=>by
  rw [aQ4]
  cases hb:x == y with
  | true=>exact⟨v,rfl⟩
  | false=>
   rcases aM4.mp h with z | z
   ·cases z; simp at hb
   ·exact rE z
theorem n9 {α:Type}{x:Str}:∀ (l r:List (Str × α)),(l ++ r).lookup x=(match l.lookup x with | some v=>some v | none=>r.lookup x)
 | [],_=>rfl
 | (y,v) :: l,r=>by
  rw [List.cons_append,aQ4,aQ4]
  cases hb:x == y with
  | true=>rfl
  | false=>exact n9 l r
noncomputable def fA (X:Cx) (scope:Scope) (C:Addr):List (Str × Addr):=cellsFrom (C+1) scope.names (cY X.env.cells scope.names [])
theorem iR {X:Cx}{scope:Scope}{C:Addr}{x:Str}{c:Addr} (h:(fA X scope C).lookup x=some c) :
  (x,c) ∈ cellsFrom (C+1) scope.names [] ∨ ((∀ d,(x,d) ∉ cellsFrom (C+1) scope.names [])/\(cY X.env.cells scope.names []).lookup x=some c):=by
 unfold fA at h
 rw [gH,n9] at h
 cases e:(cellsFrom (C+1) scope.names []).lookup x with
 | some v=>rw [e] at h; cases h; exact .inl (aP1 e)
 | none=>
  rw [e] at h
  refine .inr ⟨fun d hd=>?_,h⟩
  obtain ⟨d',z⟩:=rE hd
  rw [e] at z; cases z
theorem ad4 {X:Cx}{scope:Scope}{C:Addr}{x:Str}{c:Addr} (hn:(x,NameKind.cell) ∉ scope.names) (h:(cY X.env.cells scope.names []).lookup x=some c):(fA X scope C).lookup x=some c:=by
 unfold fA
 rw [gH,n9]
 cases e:(cellsFrom (C+1) scope.names []).lookup x with
 | some v=>exact absurd (rD _ _ (aP1 e)) hn
 | none=>exact h
theorem xI {X:Cx}{scope:Scope}{C:Addr}{x:Str} (h:(x,NameKind.cell) ∈ scope.names ∨ ∃ c,(cY X.env.cells scope.names []).lookup x=some c):∃ c,(fA X scope C).lookup x=some c:=by
 unfold fA
 rw [gH,n9]
 cases e:(cellsFrom (C+1) scope.names []).lookup x with
 | some v=>exact⟨v,rfl⟩
 | none=>
  rcases h with h | h
  ·obtain ⟨c,hc⟩:=n6 scope.names (C+1) h
   obtain ⟨d,hd⟩:=rE hc
   rw [e] at hd; cases hd
  ·exact h
noncomputable def cA (X:Cx) (scope:Scope) (N:List Str) (s:Shared) (H:Hp) (C:Addr) (fp:List Addr) (E:Value->Shared->Prop):Cx:=
 { X with N:=N,s₀:=s,H₀:=H,env:=compEnvC scope (fA X scope C) C X.env,outer:=X.stack,ex:=fp,fn:=fun x=>scope.names.lookup x == some .cell,pn:=[],xe:=E }
structure dG (X:Cx) (scope:Scope) (N:List Str) (fr:List (Option Nat)):Prop where
 kind:scope.kind = .function
 own:∀ y ∈ scope.names,y.2 = .cell->scope.names.lookup y.1=some .cell
 names:∀ y ∈ scope.names,y.2 = .local->scope.names.lookup y.1=some .local
 free:∀ y ∈ scope.names,y.2 = .free->X.env.scope.names.lookup y.1=some .cell ∨ X.env.scope.names.lookup y.1=some .free
 len:fr.length=N.length
 from_:∀ (i j:Nat),fr[i]? = some (some j)->∃ x,N[i]? = some x/\X.N[j]? = some x/\scope.names.lookup x=some .free
section
variable {X : Cx} {pins : List (Addr × Obj)} {σ : St} {H : Hp} {s : Shared} {scope : Scope} {N : List Str} {fr : List (Option Nat)}
theorem dG.cells (S:dG X scope N fr) (I:a5 X pins σ H s):∀ y ∈ scope.names,y.2 = .free->∃ c,X.env.cells.lookup y.1=some c:=fun y hy hk=>I.ok.has y.1 (S.free y hy hk)
theorem ad5 {C D:Addr}{fp:List Addr}{E:Value->Shared->Prop}{h1:Heap}{tk:Nat}{m:Str->Option Value} (S:dG X scope N fr) (I:a5 X pins σ H s)
  (hf:∀ b ∈ fp,fU X pins H b) (hfl:∀ b ∈ fp,b < s.heap.objs.size) (hD:s.heap.objs.size<=D) (hC:s.heap.objs.size<=C) (hDC:D < C)
  (old:∀ b o,s.heap.get? b=some o->h1.get? b=some o) (hns:h1.Ns C m) (hacc:h1.get? D=some { cls:=.type "list",data:=.seq #[] 0 }) (hco:CellsOk h1 (C+1) (cellsFrom (C+1) scope.names [])) :
  a5 (cA X scope N s H C fp E) [] (eB fr σ) (upd H D (.lst [])) { s with heap:=h1,toks:=tk }:=by
 have hHD:H D=none:=I.hok.fresh hD
 have cl:=S.cells I
 have cs:∀ {x:Str}{c:Addr},(cY X.env.cells scope.names []).lookup x=some c->X.env.cells.lookup x=some c:=fun {x c} h=>n4 scope.names [] cl (fun _ _ z=>by simp at z) h
 have clt:∀ {x:Str}{c:Addr},X.env.cells.lookup x=some c->c < s.heap.objs.size:=fun {x c} h=>by obtain ⟨v,z⟩:=I.cell x c h; exact z.lt
 have nge:∀ {x:Str}{c:Addr},(x,c) ∈ cellsFrom (C+1) scope.names []->C < c:=fun {x c} h=>(hco.empty x c h).2
 refine⟨⟨I.ok.mod,?_,I.ok.glob,I.ok.blt,hC,?_,?_,?_,I.ok.hd,I.ok.frames,.inl rfl,?_,I.bs,aP2 I.ok.bsz I.sz,?_,?_,I.stack,I.stkFree⟩,rfl,I.bare,Un.laid old hD hHD,⟨m,hns,?_⟩,?_,?_,?_,fun p hp=>absurd (show p ∈ ([]:List (Addr × Obj)) from hp) (by simp),?_,?_⟩
 ·exact S.kind
 ·intro x y c h1 h2
  rcases iR h1 with a | ⟨_,a⟩ <;> rcases iR h2 with b | ⟨_,b⟩
  ·exact name_of_addr hco.apart a b
  ·exact absurd (aL3 (Nat.lt_trans (nge a) (clt (cs b))) hC) (aS1 _)
  ·exact absurd (aL3 (Nat.lt_trans (nge b) (clt (cs a))) hC) (aS1 _)
  ·exact I.ok.inj x y c (cs a) (cs b)
 ·intro x hx
  have hx:(relabel scope X.env).names.lookup x=some .cell ∨ (relabel scope X.env).names.lookup x=some .free:=hx
  have fin:(x,NameKind.free) ∈ scope.names->∃ c,(fA X scope C).lookup x=some c:=fun z=>xI (.inr (rC scope.names [] (.inl z)))
  rcases hx with hx | hx
  ·rcases n5 hx with z | z
   ·exact xI (.inl (aP1 z))
   ·exact fin (aP1 z.1)
  ·rcases n5 hx with z | z
   ·exact fin (aP1 z)
   ·exact absurd z.2 (by decide)
 ·intro x c hx h
  have hx:(scope.names.lookup x == some NameKind.cell)=true:=hx
  have hx:scope.names.lookup x=some .cell:=by simpa using hx
  rcases iR h with a | ⟨a,_⟩
  ·exact aP2 hC (aU5 (nge a))
  ·obtain ⟨d,hd⟩:=n6 scope.names (C+1) (aP1 hx)
   exact absurd hd (a d)
 ·intro b hb
  refine⟨aN8 (aL3 (hfl b hb) hC),fun x c e=>?_⟩
  rcases iR e with a | ⟨_,a⟩
  ·exact aY7 (Nat.lt_trans (aL3 (hfl b hb) hC) (nge a))
  ·exact (hf b hb).2.2.2.2.1 x c (cs a)
 ·intro b o e hb
  rcases (hf b hb).2.2.2.1 with z | z
  ·exact I.ok.noex b o e z
  ·exact absurd (aL3 (aM5 e) (aP2 I.ok.bsz z)) (aS1 _)
 ·intro b hb z
  rcases aM4.mp (I.stkSub b z) with e | e
  ·exact (hf b hb).2.1 e
  ·exact (hf b hb).2.2.1 e
 ·intro i x v e1 e2 e3
  have e2:(fr.map fun o=>o.bind fun j=>(σ[j]?).join)[i]? = some (some v):=e2
  rw [aL9] at e2
  cases ef:fr[i]? with
  | none=>rw [ef] at e2; cases e2
  | some o=>
   rw [ef] at e2
   cases o with
   | none=>cases e2
   | some j=>
    have e2:some ((σ[j]?).join)=some (some v):=e2
    have ej:σ[j]? = some (some v):=by
     cases q:σ[j]? with
     | none=>rw [q] at e2; cases e2
     | some w=>rw [q] at e2; cases w with
      | none=>cases e2
      | some w=>cases e2; rfl
    obtain ⟨y,a1,a2,a4⟩:=S.from_ i j ef
    have e1:N[i]? = some x:=e1
    rw [e1] at a1
    cases a1
    have a3:(x,NameKind.free) ∈ scope.names:=aP1 a4
    have vis:eV X.env.scope x:=(S.free _ a3 rfl).elim (fun z=>.inr (.inl z)) fun z=>.inr (.inr z)
    obtain ⟨m0,hn0,hl0⟩:=I.loc
    obtain ⟨u,r,l⟩:=hl0 j x v a2 ej vis
    refine⟨u,r,.inr ⟨?_,?_⟩⟩
    ·have e3:(relabel scope X.env).names.lookup x=some .local ∨ (relabel scope X.env).names.lookup x=some .cell ∨ (relabel scope X.env).names.lookup x=some .free:=e3
     rcases e3 with z | z | z
     ·rcases n5 z with y | y
      ·rw [a4] at y; cases y
      ·exact absurd y.2 (by decide)
     ·exact .inl z
     ·exact .inr z
    ·obtain ⟨c,hc⟩:=rC (cells:=X.env.cells) scope.names [] (x:=x) (.inl a3)
     refine⟨c,ad4 (fun z=>by have:=S.own _ z rfl; rw [a4] at this; cases this) hc,?_⟩
     have hc':=cs hc
     have S1:=S.free (x,.free) a3 rfl
     rcases l with ⟨k,_⟩ | ⟨_,c2,hc2,z⟩
     ·have k:X.env.scope.names.lookup x=some .local:=k
      rcases S1 with q | q <;> (have q:X.env.scope.names.lookup x=_:=q; rw [k] at q; cases q)
     ·rw [hc'] at hc2; cases hc2
      obtain ⟨oc,ho,hd⟩:=z
      exact⟨oc,old c oc ho,hd⟩
 ·intro x c e
  rcases iR e with a | ⟨_,a⟩
  ·exact⟨_,(hco.empty x c a).1⟩
  ·obtain ⟨v,oc,ho,hd⟩:=I.cell x c (cs a)
   exact⟨v,oc,old c oc ho,hd⟩
 ·show upd H D (.lst []) C=none
  rw [aU (aY7 hDC)]; exact I.hok.fresh hC
 ·intro x c e
  show upd H D (.lst []) c=none
  rcases iR e with a | ⟨_,a⟩
  ·rw [aU (aY7 (Nat.lt_trans hDC (nge a)))]; exact I.hok.fresh (aP2 hC (aU5 (nge a)))
  ·have q:=cs a
   rw [aU (aN8 (aL3 (clt q) hD))]
   exact I.freeC x c q
 ·exact I.hok.laid old hD ⟨aO1 _,[],0,.nil,hacc⟩
 ·show (eB fr σ).length=N.length
  unfold eB; rw [aL4]; exact S.len
end
noncomputable def iS (X:Cx) (ifs:List Expr) (t:TT):Prop:=
 ∀ (pins:List (Addr × Obj)) (s:Shared) (σ:St) (H:Hp) (Q:Bool->Hp->Prop),a5 X pins σ H s->t σ H Q->
  wpAny (model X.prog X.w) X.A (forIn ifs true fun c r=>if r=true then do let ok <- isTrue c X.env (eval c X.env); pure (ForInStep.yield ok) else pure (ForInStep.yield r)) (TP X pins σ Q) X.xe s
noncomputable def rF:TT:=fun _ H Q=>Q true H
theorem xJ {X:Cx}:iS X [] rF:=fun _ _ _ H _ I h=>wpAny_tests_nil ⟨H,I,h⟩
theorem xK {X:Cx}{c:Expr}{t:TT} (h:PT X c t):iS X [c] t:=fun pins s σ H Q I hq=>wpAny_tests_one (h pins s σ H Q I hq)
section
variable {prog : Program} {w : World} {A : Around}
noncomputable def rG (prog:Program) (w:World) (A:Around) (elt tg:Expr) (ifs:List Expr) (it acc:Value) (env:Env) (lost:Value->Shared->Prop) (stop next:Shared->Prop) (s:Shared):Prop:=
 let M:=model prog w
 let tests:Sem Bool:=forIn ifs true fun c r=>if r=true then do let ok <- isTrue c env (eval c env); pure (ForInStep.yield ok) else pure (ForInStep.yield r)
 let put:Shared->Prop:=wpAny M A (eval elt env) (fun x=>wpAny M A (call (.builtin "list.append") [acc,x]) (fun _=>next) lost) lost
 let taken:Value->Shared->Prop:=fun v=>wpAny M A (letOwnedTupleGo tg it v) (fun _=>wpAny M A (assign tg env v) (fun _=>wpAny M A tests (fun ok s'=>if ok=true then put s' else next s') lost) lost) lost
 wpAny M A (pyNext it) (fun r s'=>match r with
  | none=>stop s'
  | some v=>taken v s') lost s
theorem ad6 {R:Result->Shared->Prop}{s:Shared}{elt tg iter:Expr}{ifs:List Expr}{scope:Scope}{pos:Pos}{it acc:Value}{env:Env} (I:Nat->Shared->Prop)
  (turn:∀ n s,I n s->rG prog w A elt tg ifs it acc env (notedBy (model prog w) A env fun e=>R (.error e)) (R (.ok .next)) (fun s'=>∃ m,m < n/\I m s') s) (n:Nat) (h:I n s) :
  codeAny (model prog w) A (.compLoop (.ListComp elt [⟨tg,iter,ifs,0⟩] scope pos) 0 it acc env) R s:=by
 apply codeAny_loop rfl I _ n h
 intro k s1 h1
 change wpAny _ A ((compTurn _ 0 it acc env).onRaise (fun x=>do noteFrame x env; theTreesLotGoes x)) _ _ s1
 apply wpAny_noted
 rw [compTurn_list]
 have t:=turn k s1 h1
 unfold rG at t
 apply aK1
 apply wpAny_standAt
 apply aK1
 refine aP8 t (fun r s2 h2=>?_) fun _ _ z=>z
 cases r with
 | none=>exact aK6 h2
 | some v=>
  apply aK1
  refine aP8 h2 (fun _ s3 h3=>?_) fun _ _ z=>z
  apply aK1
  refine aP8 h3 (fun _ s4 h4=>?_) fun _ _ z=>z
  apply aK1
  refine aP8 h4 (fun ok s5 h5=>?_) fun _ _ z=>z
  cases ok with
  | false=>exact aK6 ⟨rfl,h5⟩
  | true=>
   apply aK1
   apply aK1
   refine aP8 h5 (fun x s6 h6=>?_) fun _ _ z=>z
   apply aK1
   exact aP8 h6 (fun _ s7 h7=>aK6 (aK6 ⟨rfl,h7⟩)) fun _ _ z=>z
end
noncomputable def nA (g:TG) (tc:TT) (te:TE) (σ0:St) (J:It) (D:Addr) (Q:VK) (W:Nat->Nat->List V->Hp->Prop):Prop:=
 ∀ i m acc H',W i m acc H'->H' D=some (.lst acc)/\((J.stop i H'/\Q (.ref D) H') ∨ (J.go i H'/\∀ x H2,J.yld i H' x H2->g x σ0 H2 fun σ2 H3=>Wk σ0 σ2/\tc σ2 H3 fun b H4=>
  if b=true then te σ2 H4 fun v H5=>H5 D=some (.lst acc)/\acc.length < sizeLine/\∃ m',m' < m/\W (i+1) m' (acc ++ [v]) (upd H5 D (.lst (acc ++ [v]))) else ∃ m',m' < m/\W (i+1) m' acc H4))
noncomputable def ad7 (wi:TI) (fr:List (Option Nat)) (g:TG) (tc:TT) (te:TE):TE:=fun σ H Q=>wi σ H fun J H1=>∀ D,H1 D=none->
 ∃ W:Nat->Nat->List V->Hp->Prop,(∃ m,W 0 m [] (upd H1 D (.lst [])))/\nA g tc te (eB fr σ) J D Q W
section
variable {M : Model} {A : Around} {E : Value → Shared → Prop} {s : Shared}
theorem ad8 {scope:Scope}{globals:Addr}{cl:List (Str × Addr)}{qual:Str}{func:Option Addr}{code:Value}{builtins:Addr}{outer:Env}{Q:Env->Shared->Prop}
  (hQ:∀ h',h'.Ns s.heap.objs.size (fun _=>none)->(∀ b o,s.heap.get? b=some o->h'.get? b=some o)->CellsOk h' (s.heap.objs.size+1) (cellsFrom (s.heap.objs.size+1) scope.names [])->
   Q (newEnv scope s.heap.objs.size globals (cellsFrom (s.heap.objs.size+1) scope.names cl) qual func code (some outer) builtins) { s with heap:=h' }) :
  wpAny M A (newFunctionEnv scope globals cl [] qual func code (some outer) builtins) Q E s:=by
 simp only [newFunctionEnv,Option.isSome_some,if_true]
 refine aK1 (wpAny_alloc ?_)
 refine aK1 (wpAny_layCells _ (fun name kind cells=>by cases hkc:kind == NameKind.cell <;> simp [hkc]) _ _ _ _ ?_)
 have ok:=cellsFrom_ok scope.names (s.heap.push { cls:=.type "dict",data:=.dict #[] }) (s.heap.objs.size+1) [] ⟨fun _ _ hm=>(nomatch hm),List.Pairwise.nil⟩ (by rw [Heap.size_push]; exact aK4 _)
 rw [Heap.size_push] at ok
 rw [show ({ s with heap:=s.heap.push { cls:=.type "dict",data:=.dict #[] } }:Shared).heap.objs.size=s.heap.objs.size+1 from Heap.size_push ..]
 rw [List.forIn_nil]
 refine aK1 (aK6 (aK6 (hQ _ ((Heap.Ns.new s.heap (.type "dict")).keeps (pushCells_keeps _ _)) (fun b o e=>pushCells_keeps _ _ b o (aK5 _ e)) ok)))
end
section
variable {X : Cx} {pins : List (Addr × Obj)} {σ : St} {H : Hp} {s : Shared} {scope : Scope} {N : List Str} {fr : List (Option Nat)} {tg iter elt : Expr} {ifs : List Expr} {pos : Pos} {wi : TI} {g : TG} {tc : TT} {te : TE}
structure lO (X:Cx) (scope:Scope) (N:List Str) (tg:Expr) (ifs:List Expr) (elt:Expr) (s:Shared) (H:Hp) (g:TG) (tc:TT) (te:TE):Prop where
 tg:∀ (C:Addr) (fp:List Addr),PG (cA X scope N s H C fp fun _ _=>False) tg g
 ifs:∀ (C:Addr) (fp:List Addr),iS (cA X scope N s H C fp fun _ _=>False) ifs tc
 elt:∀ (C:Addr) (fp:List Addr),PE (cA X scope N s H C fp fun _ _=>False) elt te
structure rH (X:Cx) (scope:Scope) (N:List Str) (tg:Expr) (ifs:List Expr) (elt:Expr) (g:TG) (tc:TT) (te:TE):Prop where
 tg:∀ (s:Shared) (H:Hp) (C:Addr) (fp:List Addr),PG (cA X scope N s H C fp fun _ _=>False) tg g
 ifs:∀ (s:Shared) (H:Hp) (C:Addr) (fp:List Addr),iS (cA X scope N s H C fp fun _ _=>False) ifs tc
 elt:∀ (s:Shared) (H:Hp) (C:Addr) (fp:List Addr),PE (cA X scope N s H C fp fun _ _=>False) elt te
theorem rH.at (B:rH X scope N tg ifs elt g tc te) (s:Shared) (H:Hp):lO X scope N tg ifs elt s H g tc te:=⟨B.tg s H,B.ifs s H,B.elt s H⟩
theorem ad9 {C:Addr}{fp:List Addr}{E:Value->Shared->Prop}{pins':List (Addr × Obj)}{σ':St}{H':Hp}{s':Shared} (I:a5 X pins σ H s) (hf:∀ b ∈ fp,fU X pins H b) (I':a5 (cA X scope N s H C fp E) pins' σ' H' s'):a5 X pins σ H' s':=
 I.call' (ch:=fp) I'.os I'.base I'.hok I'.bare fun b hb=>⟨(hf b hb).2.2.2.1,(hf b hb).2.1,(hf b hb).2.2.2.2.1,(hf b hb).2.2.2.2.2⟩
theorem rJ {Rr:Value->Addr->Result->Shared->Prop}{J:It}{fp:List Addr}{it:Addr}{tn:Nat->Heap->Prop}{Q:VK}
  (hc:X.calm=true) (S:dG X scope N fr) (B:lO X scope N tg ifs elt s H g tc te) (I:a5 X pins σ H s) (T:lA X.prog X.w X.K tg J fp it tn) (hst:tn 0 s.heap) (hf:∀ b ∈ fp,fU X pins H b)
  (h:∀ D,H D=none->∃ W:Nat->Nat->List V->Hp->Prop,(∃ m,W 0 m [] (upd H D (.lst [])))/\nA g tc te (eB fr σ) J D Q W)
  (hend:∀ (D C:Addr) (s':Shared) (H':Hp) (m:Str->Option Value),s.heap.objs.size<=C->s.heap.objs.size<=D->a5 X pins σ H' s'->s'.heap.Ns C m->H' C=none->Q (.ref D) H'->Rr (.ref D) C (.ok .next) s') :
  wpAny (model X.prog X.w) X.A (newList []) (fun acc s₃=>wpAny (model X.prog X.w) X.A (newFunctionEnv scope X.env.globals (cY X.env.cells scope.names []) [] X.env.qual none .none (some X.env)) (fun cenv s₄=>
   codeAny (model X.prog X.w) X.A (.compStart (.ListComp elt [⟨tg,iter,ifs,0⟩] scope pos) 0 (.ref it) acc { cenv with scope:=relabel scope X.env }) (Rr acc cenv.locals) s₄) X.xe s₃) X.xe s:=by
 refine aP7 (ad8 (fun h₁ hns₁ keep₁ hco₁=>?_))
 dsimp only at hns₁ keep₁ hco₁ ⊢
 generalize hH2:s.heap.push { cls:=.type "list",dict:=none,data:=.seq ([]:List Value).toArray }=H2 at hns₁ keep₁ hco₁ ⊢
 have hC:H2.objs.size=s.heap.objs.size+1:=by rw [<- hH2,Heap.size_push]
 have hDC:s.heap.objs.size < H2.objs.size:=by rw [hC]; exact Nat.lt_succ_self _
 have hCle:s.heap.objs.size<=H2.objs.size:=by rw [hC]; exact Nat.le_succ _
 have old:∀ b o,s.heap.get? b=some o->h₁.get? b=some o:=fun b o e=>keep₁ b o (hH2 ▸ aK5 _ e)
 have hacc:h₁.get? s.heap.objs.size=some { cls:=.type "list",data:=.seq #[] 0 }:=keep₁ _ _ (hH2 ▸ aM3 _ rfl)
 have hfl:∀ b ∈ fp,b < s.heap.objs.size:=fun b hb=>by obtain ⟨o,e,_⟩:=T.obj _ _ hst b hb; exact aM5 e
 obtain ⟨W,⟨m0,w0⟩,turn⟩:=h s.heap.objs.size (I.hok.fresh (aK4 _))
 have st1:tn 0 h₁:=T.keep _ _ _ hst fun b _ o e=>old b o e
 have fr0:∀ b ∈ fp,upd H s.heap.objs.size (.lst []) b=none:=fun b hb=>by rw [aU (aN8 (hfl b hb))]; exact (hf b hb).1
 have stat:∀ {H':Hp},(∀ b ∈ fp,H' b=none)->∀ b ∈ fp,fU (cA X scope N s H H2.objs.size fp fun _ _=>False) [] H' b:=fun {H'} hn b hb=>by
  have f:=hf b hb
  refine⟨hn b hb,aN8 (aL3 (hfl b hb) hCle),fun z=>?_,.inl hb,fun x c e=>(iR e).elim (fun z=>aY7 (Nat.lt_trans (aL3 (hfl b hb) hCle) (hco₁.empty x c z).2)) fun z=>f.2.2.2.2.1 x c (n4 scope.names [] (S.cells I) (fun _ _ z=>by simp at z) z.2),fun p hp=>absurd (show p ∈ ([]:List (Addr × Obj)) from hp) (by simp)⟩
  rcases aM4.mp (I.stkSub b z) with e | e
  ·exact f.2.1 e
  ·exact f.2.2.1 e
 generalize hX:cA X scope N s H H2.objs.size fp (fun _ _=>False)=Y at stat
 have I0:a5 Y [] (eB fr σ) (upd H s.heap.objs.size (.lst [])) { s with heap:=h₁ }:=hX ▸ ad5 S I hf hfl (aK4 _) hCle hDC old hns₁ hacc hco₁
 have bt:PG Y tg g:=hX ▸ B.tg H2.objs.size fp
 have bi:iS Y ifs tc:=hX ▸ B.ifs H2.objs.size fp
 have be:PE Y elt te:=hX ▸ B.elt H2.objs.size fp
 have eP:Y.prog=X.prog:=by rw [<- hX]; rfl
 have ew:Y.w=X.w:=by rw [<- hX]; rfl
 have eK:Y.K=X.K:=by rw [<- hX]; rfl
 have eA:Y.A=X.A:=by rw [<- hX]; rfl
 have eE:Y.env=compEnvC scope (fA X scope H2.objs.size) H2.objs.size X.env:=by rw [<- hX]; rfl
 have eX:Y.xe=fun _ _=>False:=by rw [<- hX]; rfl
 have ec:Y.calm=true:=by rw [<- hX]; exact hc
 have never:∀ {E:Value->Shared->Prop} (e:Value) (s':Shared),Y.xe e s'->E e s':=fun {E} e s' z=>by rw [eX] at z; exact z.elim
 have out:∀ {pins' σ' H' s'},a5 Y pins' σ' H' s'->a5 X pins σ H' s':=fun {_ _ _ _} I'=>ad9 (C:=H2.objs.size) (E:=fun _ _=>False) (scope:=scope) (N:=N) I hf (hX ▸ I')
 have loop:codeAny (model X.prog X.w) X.A (.compLoop (.ListComp elt [⟨tg,iter,ifs,0⟩] scope pos) 0 (.ref it) (.ref s.heap.objs.size) (compEnvC scope (fA X scope H2.objs.size) H2.objs.size X.env))
   (Rr (.ref s.heap.objs.size) H2.objs.size) { s with heap:=h₁ }:=by
  refine ad6 (fun n s'=>∃ i acc H',a5 Y [] (eB fr σ) H' s'/\tn i s'.heap/\(∀ b ∈ fp,H' b=none)/\W i n acc H') ?_ m0 ⟨0,[],_,I0,st1,fr0,w0⟩
  rintro n s3 ⟨i,acc,H3,I3,st3,fr3,w3⟩
  unfold rG
  dsimp only
  obtain ⟨hD3,step⟩:=turn i n acc H3 w3
  rcases step with ⟨stop,qn⟩ | ⟨go,step⟩
  ·have z:=T.done Y eP ew eK ec i [] s3 _ H3 (notedBy (model X.prog X.w) X.A (compEnvC scope (fA X scope H2.objs.size) H2.objs.size X.env) fun e s'=>Rr (.ref s.heap.objs.size) H2.objs.size (.error e) s') I3 (stat fr3) st3 stop
   rw [eA] at z
   refine aE z fun r s4 ⟨hr,I4⟩=>?_
   subst hr
   obtain ⟨m4,hn4,_⟩:=I4.loc
   rw [eE] at hn4
   have f4:=I4.free
   rw [eE] at f4
   exact hend _ _ s4 H3 m4 hCle (aK4 _) (out I4) hn4 f4 qn
  ·have z:=T.item Y eP ew eK ec i [] s3 _ H3 (notedBy (model X.prog X.w) X.A (compEnvC scope (fA X scope H2.objs.size) H2.objs.size X.env) fun e s'=>Rr (.ref s.heap.objs.size) H2.objs.size (.error e) s') I3 (stat fr3) st3 go
   rw [eA] at z
   refine aE z fun r s4 ⟨u,hr,h4⟩=>?_
   subst hr
   refine aE h4 fun _ s5 ⟨x,H5,I5,r5,y5,st5,fr5⟩=>?_
   have I5':=I5.pinned (stat fr5) (T.obj _ _ st5)
   have q1:=bt _ s5 _ H5 x u _ I5' r5 (step x H5 y5)
   rw [eP,ew,eA,eE] at q1
   refine aP8 q1 (fun _ s6 ⟨σ6,H6,I6,wk,q6⟩=>?_) never
   have q2:=bi _ s6 σ6 H6 _ I6 q6
   rw [eP,ew,eA,eE] at q2
   refine aP8 q2 (fun b s7 ⟨H7,I7,q7⟩=>?_) never
   have again:∀ {H8:Hp}{s8:Shared}{acc':List V},a5 Y ([] ++ lC fp s5.heap) σ6 H8 s8->(∃ m',m' < n/\W (i+1) m' acc' H8)->∃ m,m < n/\∃ i acc H',a5 Y [] (eB fr σ) H' s8/\tn i s8.heap/\(∀ b ∈ fp,H' b=none)/\W i m acc H':=fun {H8 s8 acc'} I8 n8=>by
    obtain ⟨m',hm,w8⟩:=n8
    refine⟨m',hm,i+1,acc',H8,(I8.unpinned).weak wk.1 wk.2,T.keep _ _ _ st5 fun b hb o e=>(I8.pin (b,o) (aM1 _ (aM1 _ (mU hb e)))).1,fun b hb=>?_,w8⟩
    obtain ⟨o,e,d⟩:=T.obj _ _ st5 b hb
    exact (I8.pin (b,o) (aM1 _ (aM1 _ (mU hb e)))).2.1
   cases b with
   | false=>
    rw [if_neg aL6] at q7 ⊢
    exact again I7 q7
   | true=>
    rw [if_pos rfl] at q7 ⊢
    have q3:=be _ s7 σ6 H7 _ I7 q7
    rw [eP,ew,eA,eE] at q3
    refine aP8 q3 (fun v s8 ⟨y,H8,I8,r8,hD8,hz8,q8⟩=>?_) never
    have q4:=lM _ s8 σ6 H8 (.ref s.heap.objs.size) [y] (.ref s.heap.objs.size) [v] (fun _ H9=>∃ m',m' < n/\W (i+1) m' (acc ++ [y]) H9) I8 rfl (.cons r8 .nil) ⟨_,_,_,rfl,rfl,hD8,hz8,q8⟩
    rw [eP,ew,eA] at q4
    exact aP8 q4 (fun _ s9 ⟨_,H9,I9,_,q9⟩=>again I9 q9) never
 exact codeAny_compStart_list loop (T.self _ 0 _ _ _ st1 loop)
end
section
variable {X : Cx} {scope : Scope} {N : List Str} {fr : List (Option Nat)} {tg iter elt : Expr} {ifs : List Expr} {pos : Pos} {wi : TI} {g : TG} {tc : TT} {te : TE}
theorem a5.drop {pins:List (Addr × Obj)}{σ:St}{H H':Hp}{s s':Shared}{C:Addr}{h':Heap} (I0:a5 X pins σ H s) (hC:s.heap.objs.size<=C) {σ':St} (I:a5 X pins σ' H' s') (hn:H' C=none) (sb:Heap.SameBut C s'.heap h'):a5 X pins σ' H' { s' with heap:=h' }:=by
 refine I.turned (t':=s'.toks) (it:=C) (fun b o hb e=>(sb.2 b hb).trans e) hn (aY7 (aL3 I0.lt hC)) (.inr (aP2 I0.sz hC)) (fun x c e z=>?_) fun p hp z=>?_
 ·obtain ⟨v,q⟩:=I0.cell x c e
  exact absurd (aL3 q.lt (by rw [z]; exact hC)) (aS1 _)
 ·exact absurd (aL3 (aM5 (I0.pin p hp).1) (by rw [z]; exact hC)) (aS1 _)
theorem ae0 {i:Nat}{x:Str}{px spos:Pos} (hc:X.calm=true) (S:dG X scope N fr) (hi:PI X tg iter wi) (B:rH X scope N tg ifs elt g tc te) (hN:X.N.Nodup) (hix:X.N[i]? = some x) (hx:X.env.scope.names.lookup x=some .local)
  (hsw:swapsWith (.ListComp elt [⟨tg,iter,ifs,0⟩] scope pos) (some (.Name x px)) spos.line X.env=pure true) (hs:∀ x,foldedSetIterable iter X.env x=pure x:=by intro _; rfl) :
  PS X (.Assign [.Name x px] (.ListComp elt [⟨tg,iter,ifs,0⟩] scope pos) spos) (gZ (ad7 wi fr g tc te) (dX i)):=by
 intro pins s σ H D I h
 rw [exec_Assign_Name_used _ _ _ _ hsw]
 refine aK1 (wpAny_standAt (aK1 ?_))
 show wpAny _ _ (do let _ <- comprehension (.ListComp elt [⟨tg,iter,ifs,0⟩] scope pos) scope X.env _ (newList []) false (eval iter X.env) (some (assign (.Name x px) X.env))) _ _ s
 refine aK1 (aP8 (wpAny_comprehension_free (Q:=fun _ s'=>SP X pins D .next s') (use:=some (assign (.Name x px) X.env)) rfl hs (rB (S.cells I)) S.kind S.names (aE (hi pins s σ H _ I h) fun v s1 h1=>aE h1 fun itv s2 h2=>?_))
  (fun _ s' hq=>aK6 (aK6 hq)) fun _ _ e=>e)
 obtain ⟨it,fp,tn,J,H2,e,I2,T,st2,f2,hW⟩:=h2
 subst e
 refine rJ (Rr:=fun acc C=>compPost (model X.prog X.w) X.A X.xe (some (assign (.Name x px) X.env)) (fun _ s'=>SP X pins D .next s') acc C) hc S (B.at _ _) I2 T st2 f2 hW ?_
 intro D' C s' H' m hC hD I' hns hHC q
 refine wpAny_assign_Name (pT I' hN hix (.inl hx) (v:=.ref D') rfl (fun s'' I'' sb=>?_) (.inr hx))
 obtain ⟨a,sb,ha⟩:=sb
 have hCa:C ≠ a:=by
  rcases ha with z | z
  ·rw [z]; exact aY7 (aL3 I2.lt hC)
  ·intro e; subst e
   obtain ⟨v,q⟩:=I2.cell x _ z
   exact absurd (aL3 q.lt hC) (aS1 _)
 exact⟨m,hns.sameBut sb hCa,fun h' sb'=>⟨_,H',I2.drop hC I'' hHC sb',q⟩⟩
variable {gh : Hp → TG} {tch : Hp → TT} {teh : Hp → TE}
noncomputable def rK (wi:TI) (fr:List (Option Nat)) (gh:Hp->TG) (tch:Hp->TT) (teh:Hp->TE):TE:=fun σ H Q=>wi σ H fun J H1=>∀ D,H1 D=none->
 ∃ W:Nat->Nat->List V->Hp->Prop,(∃ m,W 0 m [] (upd H1 D (.lst [])))/\nA (gh H1) (tch H1) (teh H1) (eB fr σ) J D Q W
theorem xL (hc:X.calm=true) (S:dG X scope N fr) (hi:PI X tg iter wi) (B:∀ (s:Shared) (H:Hp),lO X scope N tg ifs elt s H (gh H) (tch H) (teh H))
  (hs:∀ x,foldedSetIterable iter X.env x=pure x:=by intro _; rfl):PE X (.ListComp elt [⟨tg,iter,ifs,0⟩] scope pos) (rK wi fr gh tch teh):=by
 intro pins s σ H Q I h
 rw [eval_ListComp]
 refine wpAny_comprehension_free (use:=none) rfl hs (rB (S.cells I)) S.kind S.names (aE (hi pins s σ H _ I h) fun v s1 h1=>aE h1 fun itv s2 h2=>?_)
 obtain ⟨it,fp,tn,J,H2,e,I2,T,st2,f2,hW⟩:=h2
 subst e
 refine rJ (Rr:=fun acc C=>compPost (model X.prog X.w) X.A X.xe none (EP X pins σ Q) acc C) hc S (B _ _) I2 T st2 f2 hW ?_
 intro D C s' H' m hC hD I' hns hHC q
 exact⟨m,hns,fun h' sb=>⟨.ref D,H',I2.drop hC I' hHC sb,rfl,q⟩⟩
theorem ae1 {i:Nat}{x:Str}{px spos:Pos} (hc:X.calm=true) (S:dG X scope N fr) (hi:PI X tg iter wi) (B:∀ (s:Shared) (H:Hp),lO X scope N tg ifs elt s H (gh H) (tch H) (teh H)) (hN:X.N.Nodup) (hix:X.N[i]? = some x) (hx:X.env.scope.names.lookup x=some .local)
  (hsw:swapsWith (.ListComp elt [⟨tg,iter,ifs,0⟩] scope pos) (some (.Name x px)) spos.line X.env=pure true) (hs:∀ x,foldedSetIterable iter X.env x=pure x:=by intro _; rfl) :
  PS X (.Assign [.Name x px] (.ListComp elt [⟨tg,iter,ifs,0⟩] scope pos) spos) (gZ (rK wi fr gh tch teh) (dX i)):=by
 intro pins s σ H D I h
 rw [exec_Assign_Name_used _ _ _ _ hsw]
 refine aK1 (wpAny_standAt (aK1 ?_))
 show wpAny _ _ (do let _ <- comprehension (.ListComp elt [⟨tg,iter,ifs,0⟩] scope pos) scope X.env _ (newList []) false (eval iter X.env) (some (assign (.Name x px) X.env))) _ _ s
 refine aK1 (aP8 (wpAny_comprehension_free (Q:=fun _ s'=>SP X pins D .next s') (use:=some (assign (.Name x px) X.env)) rfl hs (rB (S.cells I)) S.kind S.names (aE (hi pins s σ H _ I h) fun v s1 h1=>aE h1 fun itv s2 h2=>?_))
  (fun _ s' hq=>aK6 (aK6 hq)) fun _ _ e=>e)
 obtain ⟨it,fp,tn,J,H2,e,I2,T,st2,f2,hW⟩:=h2
 subst e
 refine rJ (Rr:=fun acc C=>compPost (model X.prog X.w) X.A X.xe (some (assign (.Name x px) X.env)) (fun _ s'=>SP X pins D .next s') acc C) hc S (B _ _) I2 T st2 f2 hW ?_
 intro D' C s' H' m hC hD I' hns hHC q
 refine wpAny_assign_Name (pT I' hN hix (.inl hx) (v:=.ref D') rfl (fun s'' I'' sb=>?_) (.inr hx))
 obtain ⟨a,sb,ha⟩:=sb
 have hCa:C ≠ a:=by
  rcases ha with z | z
  ·rw [z]; exact aY7 (aL3 I2.lt hC)
  ·intro e; subst e
   obtain ⟨v,q⟩:=I2.cell x _ z
   exact absurd (aL3 q.lt hC) (aS1 _)
 exact⟨m,hns.sameBut sb hCa,fun h' sb'=>⟨_,H',I2.drop hC I'' hHC sb',q⟩⟩
end
theorem bH {H:Hp}{p:Addr} (h:H p=none) (o:HO):a8 H (upd H p o):=fun b u q=>by rw [aU (g7 q h)]; exact q
theorem a8.tup {K:PySem.W.Frag}{H H':Hp}{a:Addr}{xs:List V} (e:a8 H H') (h:aO K H a xs):aO K H' a xs:=by
 rcases h with (h | ⟨o,h⟩) | h
 ·exact .inl (.inl (e _ _ h))
 ·exact .inl (.inr ⟨o,e _ _ h⟩)
 ·exact .inr h
structure xM (H:Hp) (J:It) (xs:List V):Prop where
 go:∀ i H',a8 H H'->i < xs.length->J.go i H'
 yld:∀ i H' x H2,a8 H H'->J.yld i H' x H2->i < xs.length->xs[i]? = some x/\H2=H'
 stop:∀ H',a8 H H'->J.stop xs.length H'
theorem ae2 {K:PySem.W.Frag}{H:Hp}{a:Addr}{xs:List V} (h:aO K H a xs):xM H (hB K a) xs:=
 ⟨fun i H' e hi=>⟨xs,xs[i],e.tup h,by simp [hi]⟩,fun i H' x H2 e y hi=>⟨y.2 xs (e.tup h),y.1⟩,fun H' e=>⟨xs,e.tup h,aK4 _⟩⟩
noncomputable def CW (H1:Hp) (D:Addr) (n:Nat) (Pv:Nat->List V->Hp->Prop):Nat->Nat->List V->Hp->Prop:=fun i m acc H'=>m=n - i/\i<=n/\acc.length<=i/\a8 H1 H'/\H' D=some (.lst acc)/\Pv i acc H'
noncomputable def xN (H1:Hp) (D:Addr) (n:Nat) (Pv:Nat->List V->Hp->Prop) (i:Nat) (acc:List V) (v:V) (H5:Hp):Prop:=H5 D=some (.lst acc)/\acc.length < sizeLine/\∃ m',m' < n - i/\CW H1 D n Pv (i+1) m' (acc ++ [v]) (upd H5 D (.lst (acc ++ [v])))
noncomputable def CNo (H1:Hp) (D:Addr) (n:Nat) (Pv:Nat->List V->Hp->Prop) (i:Nat) (acc:List V) (H4:Hp):Prop:=∃ m',m' < n - i/\CW H1 D n Pv (i+1) m' acc H4
structure rL (H1:Hp) (D:Addr) (n i:Nat) (acc:List V) (H':Hp):Prop where
 lt:i < n
 few:acc.length<=i
 sz:n<=sizeLine
 same:a8 H1 H'
 new:H1 D=none
 acc:H' D=some (.lst acc)
theorem rL.yes {H1:Hp}{D:Addr}{n i:Nat}{acc:List V}{H' H5:Hp}{Pv:Nat->List V->Hp->Prop}{v:V} (c:rL H1 D n i acc H') (s:a8 H' H5) (p:Pv (i+1) (acc ++ [v]) (upd H5 D (.lst (acc ++ [v])))):xN H1 D n Pv i acc v H5:=by
 refine⟨s _ _ c.acc,Nat.lt_of_le_of_lt c.few (aL3 c.lt c.sz),_,?_,rfl,c.lt,?_,fun b o e=>?_,bK,p⟩
 ·have:=c.lt; omega
 ·rw [aL1,aN2]; exact Nat.succ_le_succ c.few
 ·rw [aU (g7 e c.new)]; exact s _ _ (c.same _ _ e)
theorem ae3 {H1:Hp}{J:It}{xs:List V}{g:TG}{tc:TT}{te:TE}{σ0:St}{Q:VK} (O:xM H1 J xs) (Pv:Nat->List V->Hp->Prop) (hn:xs.length<=sizeLine)
  (h0:∀ D,H1 D=none->Pv 0 [] (upd H1 D (.lst [])))
  (hs:∀ i x acc D H',xs[i]? = some x->rL H1 D xs.length i acc H'->Pv i acc H'->g x σ0 H' fun σ2 H3=>Wk σ0 σ2/\tc σ2 H3 fun b H4=>
   if b=true then te σ2 H4 fun v H5=>xN H1 D xs.length Pv i acc v H5 else CNo H1 D xs.length Pv i acc H4)
  (hd:∀ D acc H',H1 D=none->a8 H1 H'->H' D=some (.lst acc)->acc.length<=xs.length->Pv xs.length acc H'->Q (.ref D) H') :
  ∀ D,H1 D=none->∃ W:Nat->Nat->List V->Hp->Prop,(∃ m,W 0 m [] (upd H1 D (.lst [])))/\nA g tc te σ0 J D Q W:=by
 intro D hD
 refine⟨CW H1 D xs.length Pv,⟨xs.length,rfl,aO1 _,aK4 _,bH hD _,bK,h0 D hD⟩,?_⟩
 rintro i m acc H' ⟨rfl,hi,ha,sm,hDa,p⟩
 refine⟨hDa,?_⟩
 by_cases hlt:i < xs.length
 ·refine .inr ⟨O.go i H' sm hlt,fun x H2 y=>?_⟩
  obtain ⟨hx,e⟩:=O.yld i H' x H2 sm y hlt
  subst e
  exact hs i x acc D H2 hx ⟨hlt,ha,hn,sm,hD,hDa⟩ p
 ·have e:i=xs.length:=by omega
  subst e
  exact .inl ⟨O.stop H' sm,hd D acc H' hD sm hDa ha p⟩
end L2
namespace Srt
open PySem PySem.W PyProof.Rows
noncomputable abbrev G (p:Array Nat) (i:Nat):Nat:=p.getD i 0
noncomputable def PP (n:Nat) (p:Array Nat):Prop:=p.toList.Perm (List.range n)
structure xO (c:Nat->Nat->Bool):Prop where
 asym:∀ {i j},c i j=true->c j i=false
 ntr:∀ {i j k},c i j=false->c j k=false->c i k=false
section
variable {c : Nat → Nat → Bool} (O : xO c)
noncomputable def Le (c:Nat->Nat->Bool) (i j:Nat):Prop:=c j i=false
include O
theorem le_refl (i:Nat):Le c i i:=by
 unfold Le
 cases h:c i i with
 | false=>rfl
 | true=>have:=O.asym h; rw [h] at this; exact this
theorem le_trans {i j k:Nat} (h1:Le c i j) (h2:Le c j k):Le c i k:=O.ntr h2 h1
end
end Srt
namespace L2
open PySem PySem.Spec PyProof.Rows
theorem rM:∀ {xs:List V}{us:List Value} (i:Nat),i < xs.length->aB xs us->aF (xs.getD i .non) (us.getD i Value.none)
 | _,_,_,h,.nil=>by simp at h
 | _,_,0,_,.cons r _=>by simpa using r
 | _,_,i+1,h,.cons _ t=>by
  have:=rM i (by simpa using h) t
  simpa using this
theorem nB {α:Type}:∀ l:List α,(l.zip l).map (·.2)=l
 | []=>rfl
 | a :: l=>by
  show a :: ((l.zip l).map (·.2))=a :: l
  rw [nB l]
theorem ae4 {prog:Program}{w:World}{A:Around}{E:Value->Shared->Prop}{s:Shared}{a:Addr}{vs:List Value}{n:Nat}{P:PySem.Fin->Shared->Prop} (e:s.heap.get? a=some (seqObj "list" vs.toArray n)) (few:vs.length < 2)
  (q:P (.done (.ret .none)) { s with heap:=sortedHeap s.heap a vs vs.toArray }):wpAny (model prog w) A (Builtin.«list.sort» ⟨[.ref a],[]⟩) P E s:=by
 have big:vs.length<=sizeLine:=aP2 (aU5 few) (by decide)
 have la:=aM5 e
 have c:vs.toArray.size < 2:=by simpa using few
 have same:(arrOf (SortSt.mk' general' (vs.toArray.zip vs.toArray) #[] 7 none)).map (·.2)=vs.toArray:=by
  change (vs.toArray.zip vs.toArray).map (·.2)=vs.toArray
  apply Array.ext'
  simpa using nB vs
 obtain ⟨k,ek⟩:∃ k,(s.heap.update a (Obj.mapSeq fun _=>#[])).get? a=some (seqObj "list" #[] k):=⟨_,get?_update_seq e fun _=>#[]⟩
 have there:(((s.heap.update a (Obj.mapSeq fun _=>#[])).push (seqObj "tuple" vs.toArray 0)).push (seqObj "list" #[] 0)).get? a=some (seqObj "list" #[] k):=
  aK5 _ (aK5 _ ek)
 rw [list_sort_plain]
 apply aK1
 apply listItems_at e rfl
 apply aK1
 refine listUpdate_at e rfl ?_ (by simpa using big) (aO1 _)
 apply aK1
 apply seqEpoch_at ek rfl
 apply aK1
 refine wpAny_newTuple ?_ big
 apply aK1
 refine wpAny_newList ?_ (aO1 _)
 apply aR5
 simp only [c,if_true,StateT.run_pure]
 apply aK1
 apply aK6
 apply aK1
 apply aK6
 apply aK1
 apply seqEpoch_at there rfl
 apply aK1
 refine listUpdate_at there rfl ?_ (aO1 _) (by rw [same,aK3]; exact Nat.le_succ_of_le big)
 rw [same]
 simp only [bne_self_eq_false,aN1,aR7]
 exact aK6 q
theorem ae5 {prog:Program}{w:World}{A:Around}{E:Value->Shared->Prop}{s:Shared}{l:Addr}{vs:List Value}{Q:Value->Shared->Prop} (hl:s.heap.IsList l vs.toArray) (few:vs.length < 2)
  (q:Q (.ref (s.heap.objs.size+1)) { s with heap:=sortedAll s.heap vs vs.toArray }):wpAny (model prog w) A (call (.builtin "sorted") [.ref l]) Q E s:=by
 have big:vs.length<=sizeLine:=aP2 (aU5 few) (by decide)
 apply Calls.call_function_entry kind_sorted plain_sorted entry_sorted (args_sorted1 _)
 simp only [Builtin.«sorted»]
 apply aK1 (m:=checkCount "sorted" 1 1 _)
 apply aK6
 apply aK1
 refine collect_list hl ?_ big
 apply aK1
 refine wpAny_newList ?_ big
 have one:((s.heap.push (seqObj "list" #[] 0)).update s.heap.objs.size (Obj.mapSeq (· ++ vs.toArray))).objs.size=s.heap.objs.size+1:=(Heap.size_update _ _ _).trans (size_push' _ _)
 have at1:(((s.heap.push (seqObj "list" #[] 0)).update s.heap.objs.size (Obj.mapSeq (· ++ vs.toArray))).push (seqObj "list" vs.toArray 0)).get? (s.heap.objs.size+1)=some (seqObj "list" vs.toArray 0):=one ▸ aM3 _ rfl
 change wpAny _ _ _ _ _ { s with heap:=((s.heap.push (seqObj "list" #[] 0)).update s.heap.objs.size (Obj.mapSeq (· ++ vs.toArray))).push (seqObj "list" vs.toArray 0) }
 rw [one]
 apply aK1
 apply aR5
 refine aT0 slot_list_sort ⟨_,at1,rfl⟩ entry_list_sort ?_ (args_list_sort _)
 refine ae4 at1 few ⟨_,rfl,?_⟩
 exact aK6 ⟨_,rfl,q⟩
noncomputable def xP (H:Hp):V->List Int
 | .ref b=>match H b with
  | some (.tup xs)=>xs.map fun x=>match x with
   | .int i=>i
   | _=>0
  | _=>[]
 | _=>[]
section
variable {prog : Program} {w : World} {A : Around} {s : Shared} {Q : Bool → Shared → Prop}
theorem xQ:∀ {us ws:List Value}{xs ys:List Int} (i:Nat),IntsAre us xs->IntsAre ws ys->Q (HT.gB xs ys) s->PySem.W.KatLex prog w A true (decide (us.length < ws.length)) Q (us.zip ws) i s
 | _,_,_,_,_,.nil,.nil,h=>h
 | _,_,_,_,_,.nil,.cons _ _ _,h=>h
 | _,_,_,_,_,.cons _ _ _,.nil,h=>h
 | _,_,_,_,i,.cons (vs:=us) x t hx,.cons (vs:=ws) y u hy,h=>by
  refine PySem.W.kat_cons (wpAny_eqBool_int ?_)
  rw [HT.lH] at h
  by_cases e:x=y
  ·rw [if_pos e] at h
   have eb:(x == y)=true:=by simpa using e
   rw [eb]
   refine PySem.W.kat_yes ?_
   have e2:decide ((Value.int x t :: us).length < (Value.int y u :: ws).length)=decide (us.length < ws.length):=by simp
   rw [e2]
   exact xQ (i+1) hx hy h
  ·rw [if_neg e] at h
   have eb:(x == y)=false:=by simpa using e
   rw [eb]
   refine PySem.W.kat_no ?_
   cases hi:(true && i == 0) with
   | true=>exact PySem.W.kat_lt_int h
   | false=>exact PySem.W.kat_one _ _ (lt_int h)
end
end L2
namespace Raw
open PySem PySem.W PySem.Calls PyProof.Rows
noncomputable def fB (h:Heap) (d:Addr) (es:Array DictEntry) (ep:Nat):Prop:=∃ o,h.get? d=some o/\o.ExactDict/\o.data = .dict es ep
theorem fB.ty {s:Shared}{d:Addr}{es:Array DictEntry}{ep:Nat} (x:fB s.heap d es ep):s.TypeIs (.ref d) "dict":=x.elim fun o y=>⟨o,y.1,y.2.1.1⟩
theorem fB.lt {h:Heap}{d:Addr}{es:Array DictEntry}{ep:Nat} (x:fB h d es ep):d < h.objs.size:=x.elim fun _ y=>aM5 y.1
theorem fB.keep {h h':Heap}{d:Addr}{es:Array DictEntry}{ep:Nat} (x:fB h d es ep) (k:∀ o,h.get? d=some o->h'.get? d=some o):fB h' d es ep:=x.elim fun o y=>⟨o,k o y.1,y.2⟩
section
variable {prog : Program} {w : World} {A : Around} {E : Value → Shared → Prop} {s : Shared} {d it : Addr} {es : Array DictEntry} {ep i : Nat}
theorem made (far:(d == sysModules)=false) (x:fB s.heap d es ep) {Q:Value->Shared->Prop}
  (q:Q (.ref s.heap.objs.size) { s with heap:=s.heap.push { cls:=.type "dict_keyiterator",data:=.fields #[.ref d,.int 0 0,.int es.size 0,.int ep 0] } }):wpAny (model prog w) A (pyIter (.ref d)) Q E s:=by
 have T:=x.ty
 obtain ⟨o,e1,e2,e3⟩:=x
 apply wpAny_pyIter_slot T PySem.F.slot_dict_iter
 apply aT0 PySem.F.slot_dict_iter T PySem.F.entry_dict_iter _ (PySem.F.args_dict_iter_1 _)
 simp only [Builtin.«dict.__iter__»,Builtin.Dict.dictSlotNone]
 apply aK1
 apply aK1
 apply wpAny_notOrdered_dict T
 apply aK6
 change wpAny _ _ (Builtin.Dict.showsAll d >>= _) _ _ s
 have far':Builtin.Dict.showsAll d=pure ():=by
  unfold Builtin.Dict.showsAll
  simp only [far,aN1,aR7]
 rw [far',pure_bind]
 apply aK1
 apply wpAny_dictEntries e1 e3
 apply aK1
 apply wpAny_dictEpoch e1 e3
 apply aK1
 refine aP7 (aK6 ?_)
 refine⟨.ref s.heap.objs.size,rfl,"dict_keyiterator",_,⟨_,aM3 _ rfl,rfl⟩,PySem.F.slot_dict_keyiterator_next.lookup,?_⟩
 simpa only [rawInt] using q
theorem turn (hh:A.handled=none) (hi:s.heap.IsKeyIter it d i es.size ep) (x:fB s.heap d es ep) {Q:Option Value->Shared->Prop}
  (yes:∀ (lt:i < es.size) h',h'.IsKeyIter it d (i+1) es.size ep->Heap.SameBut it s.heap h'->Q (some es[i].key) { s with heap:=h' })
  (no:es.size<=i->∀ h',Heap.ExtBut it s.heap h'->Q none { s with heap:=h' }):wpAny (model prog w) A (pyNext (.ref it)) Q E s:=by
 have T:=hi.typeIs
 obtain ⟨oi,f1,f2,f3⟩:=hi
 obtain ⟨o,e1,e2,e3⟩:=x
 have slot:=PySem.F.slot_dict_keyiterator_next
 have plain:Builtin.Dict_items.ownsTuple "dict_keyiterator" = false:=by decide
 have isref:(Value.ref d == Value.none)=false:=rfl
 have nn : ¬ (i:Int) < 0:=by omega
 unfold pyNext
 apply aK1
 apply wpAny_attempt
 apply aW0 (name:=Str.ofString "__next__") T slot
 apply aT0 slot T PySem.F.entry_dict_keyiterator_next _ (PySem.F.args_dict_keyiterator_next_1 _)
 apply aK1
 apply aK6
 apply aK1
 apply aK1
 apply aK1
 first
  | apply wpAny_typeNameOfWhole_keyiter T
  | apply wpAny_typeNameOf_keyiter T
 apply aK6
 apply aK1
 apply wpAny_fieldsOf f1 f3
 simp only [plain,aN1,aR7]
 change wpAny _ _ (if (Value.ref d == Value.none)=true then _ else _) _ _ s
 have adr:Builtin.Dict_items.addrOf (Value.ref d)=pure d:=rfl
 simp only [isref,aN1,aR7,adr,pure_bind]
 apply aK1
 apply wpAny_dictEntries e1 e3
 simp only [bne_self_eq_false,aN1,aR7]
 apply aK1
 apply wpAny_dictEpoch e1 e3
 simp only [bne_self_eq_false,aN1,aR7]
 apply aK6
 simp only [nn,aR7,aR6]
 by_cases lt:i < es.size
 ·simp only [Array.getElem?_eq_getElem lt]
  apply aK1
  apply aK1
  first
   | apply wpAny_typeNameOfWhole_keyiter T
   | apply wpAny_typeNameOf_keyiter T
  apply aK6
  apply aK1
  apply wpAny_isOneOf_keyiter T
  change wpAny _ _ (setField (.ref it) 1 (rawInt ((i:Int)+1)) >>= _) _ _ s
  apply aK1
  refine wpAny_setField f1 f3 (by simp) ?_
  have again:(s.heap.update it (Obj.mapFields (·.setIfInBounds 1 (rawInt ((i:Int)+1))))).IsKeyIter it d (i+1) es.size ep:=by
   refine⟨_,aS6 _ f1 (Obj.isFreed_of_fields (aX5 f3 _)),?_,?_⟩
   ·rw [Obj.cls_mapFields]; exact f2
   ·rw [aX5 f3]; simp [rawInt]
  apply aK1
  apply aR5
  apply aK1
  refine wpAny_isOneOf_keyiter (s:={ s with heap:=s.heap.update it (Obj.mapFields (·.setIfInBounds 1 (rawInt ((i:Int)+1)))) }) again.typeIs ?_
  change wpAny _ _ (pure es[i].key) _ _ _
  apply aK6
  apply aK6
  exact⟨es[i].key,rfl,aK6 (yes lt _ again (aW4 ..))⟩
 ·have ge:es.size<=i:=aW7 lt
  simp only [Array.getElem?_eq_none ge]
  apply aK1
  apply aK1
  first
   | apply wpAny_typeNameOfWhole_keyiter T
   | apply wpAny_typeNameOf_keyiter T
  apply aK6
  change wpAny _ _ (setField (.ref it) 0 .none >>= _) _ _ s
  apply aK1
  refine wpAny_setField f1 f3 (by simp) ?_
  apply aK1
  simp only [newExc,newTuple]
  apply aK1
  refine aP7 ?_ (by size_fits)
  apply aK1
  refine aZ7 (a:=Value.none) (by first | rfl | (simp only [firstArgMember]; rfl)) ?_
  refine aP7 ?_ (by size_fits)
  unfold raiseNew
  apply aK1
  apply wpAny_handled
  have quiet:A.in1.handled=none:=hh
  rw [quiet]
  refine wpAny_throw ?_
  apply aK1
  refine wpAny_isInstance (T:="StopIteration") (b:=true) ⟨_,aM3 _ rfl,rfl⟩ isSubtype_stop ?_
  exact aK6 (no ge _ (((aW4 ..).extBut.push _).push _))
theorem ae6 (hh:A.handled=none) (ne:d ≠ it):Walks prog w A it [it,d] [it] es.size (fun i v=>∃ lt:i < es.size,es[i].key=v) (fun i h=>h.IsKeyIter it d i es.size ep/\fB h d es ep) where
 sub:=by intro b hb; rw [aK7.mp hb]; exact aM2
 frame:=by
  intro i h h' st hk
  exact⟨st.1.at (hk it aM2),st.2.keep (hk d (aL5 _ aM2))⟩
 item:=by
  intro i s Q E lt st hQ
  refine turn hh st.1 st.2 (fun lt' h' again sb=>?_) fun ge=>absurd lt (Nat.not_lt.mpr ge)
  exact hQ _ h' s.toks ⟨lt',rfl⟩ ⟨again,st.2.keep fun o e=>sb.extBut d o ne e⟩ fun b o hb e=>sb.extBut b o (fun z=>hb (aK7.mpr z)) e
 done:=by
  intro s Q E st hQ
  refine turn hh st.1 st.2 (fun lt=>absurd lt (aS1 _)) fun _ h' eb=>?_
  exact hQ h' s.toks fun b o hb e=>eb b o (fun z=>hb (aK7.mpr z)) e
 self:=by intro i s Q E st hQ; exact wpAny_pyIter_keyiter st.1 hQ
theorem ae7 (far:(d == sysModules)=false):KdlSrc prog w "dict" d d es.size (fun i v=>∃ lt:i < es.size,es[i].key=v) (fun h=>fB h d es ep) where
 type:=fun _ x=>x.ty
 there:=fun _ x=>⟨x.lt,x.lt⟩
 keep:=fun _ _ x k=>x.keep (k d (.inl rfl))
 notList:=by decide
 notTuple:=by decide
 hint:=fun _ _ _ _ x q=>kdl_hint_dict x.ty q
 iter:=fun _ _ hh x=>⟨_,_,fun _ _ q=>made far x q,ae6 hh (aN8 x.lt),⟨_,aM3 _ rfl,rfl,rfl⟩,x.keep fun o e=>aK5 _ e⟩
end
end Raw
namespace L2
open PySem PySem.Spec PyProof.Rows
section
variable {X : Cx} {pins : List (Addr × Obj)} {σ : St} {H : Hp} {s : Shared} {a : Addr}
noncomputable def nC (H:Hp) (y:V) (k:List a7):Prop:=∃ q,y = .ref q/\H q=some (.tup (k.map kV))
theorem ae8 {kvs:List (List a7 × V)} (I:a5 X pins σ H s) (h:H a=some (.dT kvs)):∃ es ep ys,Raw.fB s.heap a es ep/\(a == sysModules)=false/\Paired (nC H) ys (kvs.map (·.1))/\aB ys (es.toList.map (·.key))/\kvs.length<=sizeLine:=by
 obtain ⟨z,far,xs,rel,o,es,ep,e1,e2,e3,e4,nd⟩:=(show bA X.prog X.w H s.heap a (.dT kvs) from I.hok a _ h)
 refine⟨es,ep,xs.map fun q=>V.ref q.2.1,⟨o,e1,e2,e3⟩,far,?_,?_,z⟩
 ·clear e4 nd h z
  induction rel with
  | nil=>exact .nil
  | cons r rs ih=>exact .cons ⟨_,rfl,r.2.1⟩ ih
 ·rw [e4]
  clear rel e4 nd
  induction xs with
  | nil=>exact .nil
  | cons q qs ih=>exact .cons rfl ih
theorem ae9 {es:Array DictEntry}{acc:Array Value} (h:ItemsOf (fun i v=>∃ lt:i < es.size,es[i].key=v) acc es.size):acc.toList=es.toList.map (·.key):=by
 apply List.ext_getElem?
 intro j
 have h1:=h.1
 by_cases hj:j < es.size
 ·have hj':j < acc.size:=by rw [h1]; exact hj
  obtain ⟨_,e⟩:=h.2 j acc[j] (by simp [hj'])
  rw [aL9]
  simp [hj,hj',e]
 ·have hj' : ¬ j < acc.size:=by rw [h1]; exact hj
  rw [aL9]
  simp [aW7 hj,aW7 hj']
theorem af0 (hc:X.calm=true):cM X (.type "list") (fun xs H Q=>∃ a kvs,xs = [.ref a]/\H a=some (.dT kvs)/\∀ l ys,H l=none->Paired (nC H) ys (kvs.map (·.1))->Q (.ref l) (upd H l (.lst ys))):=by
 intro pins s σ H xs us Q I r h
 obtain ⟨a,kvs,rfl,ha,q⟩:=h
 obtain ⟨u,rfl,ru⟩:=hJ r
 cases ru
 obtain ⟨es,ep,ys,rd,far,pk,vk,z⟩:=ae8 I ha
 have hl:=vk.length
 have hl2:=pk.length
 rw [aL4] at hl hl2
 have hsz:es.toList.length=es.size:=aN7
 refine PySem.W.kdl_call (Raw.ae7 far) (I.ok.hd hc) rd (by omega) fun h' tk acc c kp e it=>?_
 refine⟨.ref s.heap.objs.size,_,I.laid (t':=tk) kp (aK4 _) (show bA X.prog X.w _ h' _ (.lst ys) from ⟨by omega,acc.toList,c,by rw [ae9 it]; exact vk,by simpa using e⟩),rfl,q _ ys (I.hok.fresh (aK4 _)) pk⟩
end
section
variable {X : Cx}
theorem af1:cM X (.builtin "isinstance") (fun xs H Q=>∃ x t n b,xs = [x,.ty n]/\dY X.K H x t/\PySem.W.kitOne X.K t (.type n)=some b/\Q (.bl b) H):=by
 intro pins s σ H xs us Q I r h
 obtain ⟨x,t,n,b,rfl,ty,e,q⟩:=h
 obtain ⟨u,u',rfl,ru,ru'⟩:=lF r
 cases ru'
 exact X0 I ru ty e fun tk=>⟨.bl b,H,I.tok tk,rfl,q⟩
end
noncomputable def xR (outer:List (Str × NameKind)) (XN:List Str) (names:List (Str × NameKind)) (N:List Str) (fr:List (Option Nat)):Bool:=
 names.all (fun y=>!(y.2 == .cell) || names.lookup y.1 == some .cell) && names.all (fun y=>!(y.2 == .local) || names.lookup y.1 == some .local) &&
 names.all (fun y=>!(y.2 == .free) || (outer.lookup y.1 == some .cell || outer.lookup y.1 == some .free)) && fr.length == N.length &&
 (fr.zip N).all (fun p=>match p.1 with
  | none=>true
  | some j=>XN[j]? == some p.2 && names.lookup p.2 == some .free)
theorem dG.of {X:Cx}{scope:Scope}{N:List Str}{fr:List (Option Nat)} (hk:scope.kind = .function) (h:xR X.env.scope.names X.N scope.names N fr=true):dG X scope N fr:=by
 unfold xR at h
 simp only [aO5] at h
 obtain ⟨⟨⟨⟨h1,h2⟩,h3⟩,h4⟩,h5⟩:=h
 refine⟨hk,fun y hy e=>?_,fun y hy e=>?_,fun y hy e=>?_,by simpa using h4,fun i j e=>?_⟩
 ·have:=aT1.mp h1 y hy
  rw [e] at this; simpa using this
 ·have:=aT1.mp h2 y hy
  rw [e] at this; simpa using this
 ·have:=aT1.mp h3 y hy
  rw [e] at this; simpa using this
 ·have hl:fr.length=N.length:=by simpa using h4
  have hi:i < fr.length:=(aL8.mp e).1
  have m:(some j,N[i]'(by omega)) ∈ fr.zip N:=by
   have:(fr.zip N)[i]? = some (some j,N[i]'(by omega)):=by
    rw [List.getElem?_zip_eq_some]
    exact⟨e,by simp⟩
   exact aP3 this
  have:=aT1.mp h5 _ m
  simp only [aO5,beq_iff_eq] at this
  exact⟨N[i]'(by omega),by simp,this.1,this.2⟩
theorem wk0 {n:Option V}{r:St}{v:V}:Wk (none :: r) (some v :: r):=(Wk.refl (none :: r)).set (i:=0) rfl
noncomputable def jW (H:Hp) (ys:List V) (ls:List (Int × Int)):Prop:=Paired (fun y l=>∃ b,y = .ref b/\H b=some (.tup [.int l.1,.int l.2])) ys ls
structure xS (H:Hp) (v:V) (ws:List Int) (ls:List (Int × Int)):Prop where
 at_:∃ a p q ys,v = .ref a/\H a=some (.tup [.ref p,.ref q])/\H p=some (.tup (ws.map V.int))/\H q=some (.tup ys)/\jW H ys ls
theorem jW.get {H:Hp}:∀ {ys:List V}{ls:List (Int × Int)}{i:Nat}{y:V},jW H ys ls->ys[i]? = some y->∃ l b,ls[i]? = some l/\y = .ref b/\H b=some (.tup [.int l.1,.int l.2])
 | _,_,_,_,.nil,e=>by simp at e
 | _,_,0,_,.cons (b:=l) ⟨b,h1,h2⟩ _,e=>by simp at e; subst e; exact⟨l,b,rfl,h1,h2⟩
 | _,_,i+1,_,.cons _ t,e=>by
  obtain ⟨l,b,h1,h2⟩:=jW.get (i:=i) t (by simpa using e)
  exact⟨l,b,by simpa using h1,h2⟩
noncomputable def aG (ls:List (Int × Int)) (k:Int):List Int:=ls.flatMap fun l=>(if l.1=k then [l.2] else []) ++ (if l.2=k then [l.1] else [])
theorem af2 (ls:List (Int × Int)) (l:Int × Int) (k:Int):aG (ls ++ [l]) k=aG ls k ++ ((if l.1=k then [l.2] else []) ++ (if l.2=k then [l.1] else [])):=by
 unfold aG; rw [List.flatMap_append]; simp
theorem af3 {ls:List (Int × Int)}{i:Nat}{l:Int × Int} (h:ls[i]? = some l) (k:Int):aG (ls.take (i+1)) k=aG (ls.take i) k ++ ((if l.1=k then [l.2] else []) ++ (if l.2=k then [l.1] else [])):=by
 rw [aQ6,h]; exact af2 _ _ _
structure gI (H H':Hp) (r:Addr) (bs:List Addr) (f:Nat->List Int):Prop where
 new:H r=none
 news:∀ b ∈ bs,H b=none/\b ≠ r
 nd:bs.Nodup
 row:H' r=some (.lst (bs.map V.ref))
 rows:∀ (k:Nat) (b:Addr),bs[k]? = some b->H' b=some (.lst ((f k).map V.int))
 same:a8 H H'
theorem gI.congr {H H':Hp}{r:Addr}{bs:List Addr}{f g:Nat->List Int} (h:gI H H' r bs f) (e:∀ k,k < bs.length->f k=g k):gI H H' r bs g:=
 ⟨h.new,h.news,h.nd,h.row,fun k b hb=>by rw [<- e k (aL8.mp hb).1]; exact h.rows k b hb,h.same⟩
theorem gI.app {H H':Hp}{r:Addr}{bs:List Addr}{f:Nat->List Int} (h:gI H H' r bs f) {k:Nat}{b:Addr} (hb:bs[k]? = some b) (x:Int) :
  gI H (upd H' b (.lst ((f k).map V.int ++ [V.int x]))) r bs (fun j=>if j=k then f j ++ [x] else f j):=by
 have hm:b ∈ bs:=aP3 hb
 refine⟨h.new,h.news,h.nd,by rw [aU (Ne.symm (h.news b hm).2)]; exact h.row,fun j c hc=>?_,fun c o e=>by rw [aU (g7 e (h.news b hm).1)]; exact h.same c o e⟩
 by_cases hj:j=k
 ·subst hj
  rw [hb] at hc; cases hc
  rw [bK,if_pos rfl]; simp
 ·rw [if_neg hj]
  have ne:c ≠ b:=fun z=>by
   subst z
   obtain ⟨i1,e1⟩:=aL8.mp hb
   obtain ⟨i2,e2⟩:=aL8.mp hc
   refine hj (Nat.le_antisymm (aW7 fun z=>?_) (aW7 fun z=>?_))
   ·exact aO2.mp h.nd _ _ i1 i2 z (e1.trans e2.symm)
   ·exact aO2.mp h.nd _ _ i2 i1 z (e2.trans e1.symm)
  rw [aU ne]; exact h.rows j c hc
theorem xT (ls:List (Int × Int)) (k:Int):(aG ls k).length<=2 * ls.length:=by
 induction ls with
 | nil=>exact aK4 _
 | cons l r ih=>
  have e:aG (l :: r) k=((if l.1=k then [l.2] else []) ++ (if l.2=k then [l.1] else [])) ++ aG r k:=rfl
  rw [e,aL1,aL1,aP6]
  have h1:(if l.1=k then [l.2] else []).length<=1:=by split <;> simp
  have h2:(if l.2=k then [l.1] else []).length<=1:=by split <;> simp
  omega
theorem nD {α:Type}{xs:List α}{i:Int}{v:α} (h0:0<=i) (h:xs[i.toNat]? = some v):atI xs i=some v:=by
 have:=lI h
 rwa [show ((i.toNat:Nat):Int)=i by omega] at this
theorem gJ {n:Nat} (h:n<=16000000):n < sizeLine:=by rw [sizeLine_eq]; omega
theorem af4 {σ:St}{H:Hp}{A B:Hp->Prop} (h:A H):rF σ H fun b H4=>if b=true then A H4 else B H4:=by
 show if true=true then A H else B H
 rw [if_pos rfl]; exact h
theorem lP {K:PySem.W.Frag}{H:Hp}{p:Addr}{xs:List V} (h:aR K H p xs):eZ K "list" (.ref p) H:=.inl ⟨rfl,xs,h⟩
noncomputable def lQ (H:Hp) (y:V):Int × Int:=match xP H y with
 | [a,b]=>(a,b)
 | _=>(0,0)
theorem nE {H:Hp}:∀ {zs:List V},(∀ y ∈ zs,∃ b,y = .ref b/\H b=some (.tup [.int (lQ H y).1,.int (lQ H y).2])/\xP H y = [(lQ H y).1,(lQ H y).2])->jW H zs (zs.map (lQ H))
 | [],_=>.nil
 | y :: zs,h=>by
  obtain ⟨b,e,hb,_⟩:=h y aM2
  exact .cons ⟨b,e,hb⟩ (nE fun z hz=>h z (aL5 _ hz))
theorem rN {l:Int × Int}{k x:Int}:x ∈ (if l.1=k then [l.2] else []) ++ (if l.2=k then [l.1] else []) ↔ (l.1=k/\x=l.2) ∨ (l.2=k/\x=l.1):=by
 rw [aM6]
 by_cases h1:l.1=k <;> by_cases h2:l.2=k <;> simp [h1,h2]
theorem cQ {ls:List (Int × Int)}{k x:Int}:x ∈ aG ls k ↔ (k,x) ∈ ls ∨ (x,k) ∈ ls:=by
 unfold aG
 rw [List.mem_flatMap]
 constructor
 ·rintro ⟨l,hl,hx⟩
  rcases rN.mp hx with ⟨h1,h2⟩ | ⟨h1,h2⟩
  ·left; rw [<- h1,h2]; exact hl
  ·right; rw [<- h1,h2]; exact hl
 ·rintro (h | h)
  ·exact⟨_,h,rN.mpr (.inl ⟨rfl,rfl⟩)⟩
  ·exact⟨_,h,rN.mpr (.inr ⟨rfl,rfl⟩)⟩
theorem nF {ls:List (Int × Int)}{k x:Int} (h:x ∈ aG ls k):k ∈ aG ls x:=cQ.mpr (cQ.mp h).symm
end L2
namespace HT
open PySem PyProof.Rows
section
variable {prog : Program} {w : World} {A : Around} {E : Value → Shared → Prop} {s : Shared}
theorem af5 {t sl:Addr}{items:Array Value}{vl vu:Value}{lo hi:Option Int}{Q:Value->Shared->Prop} (ht:IsTup s.heap t items) (hs:s.heap.IsSliceOf sl vl vu .none) (pl:IsPart vl lo) (pu:IsPart vu hi)
  (h1:aM items.size 0 lo=0) (h2:aM items.size items.size hi=items.size) (h:Q (.ref t) s):wpAny (model prog w) A (getItem (.ref t) (.ref sl)) Q E s:=by
 obtain ⟨o,e1,e2,e3⟩:=id hs
 have T:s.TypeIs (.ref sl) "slice":=⟨o,e1,e2⟩
 unfold getItem
 try with_reducible refine aR5 ?_
 first | refine aK1 (aK6 ?_) | skip
 apply aK1
 apply wpAny_sequenceKey ht.typeIs (by decide)
 apply aK1
 apply aW0 (name:=Str.ofString "__getitem__") ht.typeIs aV1
 apply aT0 aV1 ht.typeIs entry_tuple_getitem _ (args_tuple_getitem _ _)
 change wpAny _ _ (Builtin.Tuple.tupleItemsOf (.ref t) >>= _) _ _ s
 apply aK1
 apply tupleItemsOf_ ht
 apply aK1
 apply wpAny_typeOf T
 rw [if_pos (by decide)]
 apply aK1
 apply wF hs pl pu
 rw [h1,h2]
 have yes:((((0:Nat):Int) == 0 && (1:Int) == 1 && (items.size - 0) == items.size)=true):=by simp
 change wpAny _ _ (if ((((0:Nat):Int) == 0 && (1:Int) == 1 && (items.size - 0) == items.size)=true) then _ else _) _ _ s
 rw [if_pos yes]
 apply aK1
 unfold Builtin.Tuple.tupleIsExact
 apply aK1
 apply wpAny_typeOf ht.typeIs
 apply aK6
 change wpAny _ _ (rule "tuple.getitem.whole" >>= fun _=>ret (Value.ref t)) _ _ s
 apply aK1
 apply aX6
 exact aK6 ⟨_,rfl,aK6 h⟩
end
end HT
namespace L2
open PySem PySem.Spec PyProof.Rows
section
variable {X : Cx}
noncomputable def af6 (K:PySem.W.Frag):V->Option Int->Option Int->Hp->VK->Prop:=fun x lo hi H Q=>∃ a xs,x = .ref a/\aO K H a xs/\(∀ p,H p=none->Q (.ref p) (upd H p (.tup (fJ xs lo hi))))/\(fJ xs lo hi=xs->Q (.ref a) H)
theorem af7:hV X (af6 X.K):=by
 intro pins s σ H x v vl vu lo hi sl Q I rx hs pl pu h
 obtain ⟨a,xs,ex,hx,q1,q2⟩:=h
 by_cases hw:HT.aM xs.length 0 lo=0/\HT.aM xs.length xs.length hi=xs.length
 ·subst ex
  cases rx
  obtain ⟨its,r,ht,hz⟩:=I.tuple hx
  have hlen:its.toArray.size=xs.length:=by rw [aK3]; exact r.length.symm
  refine⟨"tuple",_,PyProof.Rows.slot_tuple_getitem.lookup,ht.typeIs,?_⟩
  refine HT.af5 ht hs pl pu (by rw [hlen]; exact hw.1) (by rw [hlen]; exact hw.2) ⟨.ref a,H,I,rfl,q2 ?_⟩
  unfold fJ
  rw [hw.1,hw.2]
  simp
 ·exact Y9 pins s σ H x v vl vu lo hi sl Q I rx hs pl pu ⟨a,xs,ex,hx,hw,q1⟩
end
end L2
namespace PP
open PySem L2
inductive PV where
 | non | bl (b:Bool) | int (i:Int) | str (x:Str) | tup (xs:List PV) | lst (xs:List PV)
 | dK (kvs:List (a7 × PV)) | dT (kvs:List (List a7 × PV)) | scr (ns:List Int) | kt (xs:List PV) | exc (c:Str) | fK (kvs:List (a7 × PV)) | fT (kvs:List (List a7 × PV))
mutual
noncomputable def flat:PV->Bool
 | .tup xs=>flats xs
 | .lst _=>false
 | .dK _=>false
 | .dT _=>false
 | .non=>true
 | .bl _=>true
 | .int _=>true
 | .str _=>true
 | .scr _=>true
 | .kt xs=>flats xs
 | .exc _=>true
 | .fK _=>false
 | .fT _=>false
noncomputable def flats:List PV->Bool
 | []=>true
 | x :: r=>flat x && flats r
end
noncomputable def gK (K:PySem.W.Frag) (H:Hp) (a:Addr) (ns:List Int):Prop:=(∃ o,H a=some (.frz o (.lst (ns.map V.int)))) ∨
  ∃ (o:Obj) (its:Array Value) (n:Nat),K.lookup a=some o/\o.cls = .type "list"/\o.dict=none/\o.data = .seq its n/\its.size<=sizeLine/\aB (ns.map V.int) its.toList
noncomputable def jX (K:PySem.W.Frag) (a:Addr) (us:List V):Prop:=∃ (o:Obj) (its:Array Value) (n:Nat),K.lookup a=some o/\o.cls = .type "tuple"/\o.data = .seq its n/\its.size<=sizeLine/\aB us its.toList
mutual
inductive a9 (K:PySem.W.Frag) (M:Addr->Prop) (H:Hp):V->PV->Prop
 | non:a9 K M H .non .non
 | bl (b:Bool):a9 K M H (.bl b) (.bl b)
 | int (i:Int):a9 K M H (.int i) (.int i)
 | str (x:Str):a9 K M H (.str x) (.str x)
 | tup {a:Addr}{us:List V}{xs:List PV}:H a=some (.tup us)->Reps K M H us xs->a9 K M H (.ref a) (.tup xs)
 | lst {a:Addr}{us:List V}{xs:List PV}:M a->H a=some (.lst us)->Reps K M H us xs->a9 K M H (.ref a) (.lst xs)
 | dK {a:Addr}{kvs:List (a7 × V)}{ps:List (a7 × PV)}:M a->H a=some (.dK kvs)->kvs.map (·.1)=ps.map (·.1)->Reps K M H (kvs.map (·.2)) (ps.map (·.2))->a9 K M H (.ref a) (.dK ps)
 | dT {a:Addr}{kvs:List (List a7 × V)}{ps:List (List a7 × PV)}:M a->H a=some (.dT kvs)->kvs.map (·.1)=ps.map (·.1)->Reps K M H (kvs.map (·.2)) (ps.map (·.2))->a9 K M H (.ref a) (.dT ps)
 | scr {a:Addr}{ns:List Int}:gK K H a ns->a9 K M H (.ref a) (.scr ns)
 | kt {a:Addr}{us:List V}{xs:List PV}:jX K a us->Reps K M H us xs->a9 K M H (.ref a) (.kt xs)
 | exc {a C:Addr}{o:Obj}{c:Str}:H a=some (.frz o (.own a))->PySem.W.nsIn K mainGlobals c=some (some (.ref C))->o.cls = .ref C->a9 K M H (.ref a) (.exc c)
 | fK {a:Addr}{o:Obj}{kvs:List (a7 × V)}{ps:List (a7 × PV)}:H a=some (.frz o (.dK kvs))->kvs.map (·.1)=ps.map (·.1)->Reps K M H (kvs.map (·.2)) (ps.map (·.2))->a9 K M H (.ref a) (.fK ps)
 | fT {a:Addr}{o:Obj}{kvs:List (List a7 × V)}{ps:List (List a7 × PV)}:H a=some (.frz o (.dT kvs))->kvs.map (·.1)=ps.map (·.1)->Reps K M H (kvs.map (·.2)) (ps.map (·.2))->a9 K M H (.ref a) (.fT ps)
inductive Reps (K:PySem.W.Frag) (M:Addr->Prop) (H:Hp):List V->List PV->Prop
 | nil:Reps K M H [] []
 | cons {v:V}{x:PV}{vs:List V}{xs:List PV}:a9 K M H v x->Reps K M H vs xs->Reps K M H (v :: vs) (x :: xs)
end
structure fM (M M':Addr->Prop) (H H':Hp):Prop where
 lst:∀ a us,M a->H a=some (.lst us)->M' a/\H' a=some (.lst us)
 dK:∀ a kvs,M a->H a=some (.dK kvs)->M' a/\H' a=some (.dK kvs)
 dT:∀ a kvs,M a->H a=some (.dT kvs)->M' a/\H' a=some (.dT kvs)
 tup:∀ a us,H a=some (.tup us)->H' a=some (.tup us)
 frz:∀ a o u,H a=some (.frz o u)->H' a=some (.frz o u)
theorem gK.keep {K:PySem.W.Frag}{H H':Hp}{a:Addr}{ns:List Int} (k:∀ a o u,H a=some (.frz o u)->H' a=some (.frz o u)) (h:gK K H a ns):gK K H' a ns:=
 h.elim (fun ⟨o,e⟩=>.inl ⟨o,k _ _ _ e⟩) .inr
mutual
theorem a9.keep {K:PySem.W.Frag}{M M':Addr->Prop}{H H':Hp} (k:fM M M' H H'):∀ {v:V}{x:PV},a9 K M H v x->a9 K M' H' v x
 | _,_,.non=>.non
 | _,_,.bl b=>.bl b
 | _,_,.int i=>.int i
 | _,_,.str x=>.str x
 | _,_,.tup h r=>.tup (k.tup _ _ h) (Reps.keep k r)
 | _,_,.lst m h r=>.lst (k.lst _ _ m h).1 (k.lst _ _ m h).2 (Reps.keep k r)
 | _,_,.dK m h e r=>.dK (k.dK _ _ m h).1 (k.dK _ _ m h).2 e (Reps.keep k r)
 | _,_,.dT m h e r=>.dT (k.dT _ _ m h).1 (k.dT _ _ m h).2 e (Reps.keep k r)
 | _,_,.scr h=>.scr (h.keep k.frz)
 | _,_,.kt h r=>.kt h (Reps.keep k r)
 | _,_,.exc h e c=>.exc (k.frz _ _ _ h) e c
 | _,_,.fK h e r=>.fK (k.frz _ _ _ h) e (Reps.keep k r)
 | _,_,.fT h e r=>.fT (k.frz _ _ _ h) e (Reps.keep k r)
theorem Reps.keep {K:PySem.W.Frag}{M M':Addr->Prop}{H H':Hp} (k:fM M M' H H'):∀ {vs:List V}{xs:List PV},Reps K M H vs xs->Reps K M' H' vs xs
 | _,_,.nil=>.nil
 | _,_,.cons r t=>.cons (a9.keep k r) (Reps.keep k t)
end
mutual
theorem a9.flat {K:PySem.W.Frag}{M M':Addr->Prop}{H:Hp}{v:V}{x:PV} (f:flat x=true) (r:a9 K M H v x):a9 K M' H v x:=by
 cases r with
 | non=>exact .non
 | bl b=>exact .bl b
 | int i=>exact .int i
 | str x=>exact .str x
 | tup h r=>exact .tup h (Reps.flat (by unfold PP.flat at f; exact f) r)
 | lst m h r=>unfold PP.flat at f; cases f
 | dK m h e r=>unfold PP.flat at f; cases f
 | dT m h e r=>unfold PP.flat at f; cases f
 | scr h=>exact .scr h
 | kt h r=>exact .kt h (Reps.flat (by unfold PP.flat at f; exact f) r)
 | exc h e c=>exact .exc h e c
 | fK h e r=>unfold PP.flat at f; cases f
 | fT h e r=>unfold PP.flat at f; cases f
theorem Reps.flat {K:PySem.W.Frag}{M M':Addr->Prop}{H:Hp}{vs:List V}{xs:List PV} (f:flats xs=true) (r:Reps K M H vs xs):Reps K M' H vs xs:=by
 cases r with
 | nil=>exact .nil
 | cons r t=>
  unfold PP.flats at f
  rw [aO5] at f
  exact .cons (a9.flat f.1 r) (Reps.flat f.2 t)
end
theorem fM.same {M M':Addr->Prop}{H H':Hp} (s:a8 H H') (m:∀ a,M a->M' a):fM M M' H H':=
 ⟨fun a _ h e=>⟨m a h,s _ _ e⟩,fun a _ h e=>⟨m a h,s _ _ e⟩,fun a _ h e=>⟨m a h,s _ _ e⟩,fun _ _ e=>s _ _ e,fun _ _ _ e=>s _ _ e⟩
theorem a9.same {K:PySem.W.Frag}{M M':Addr->Prop}{H H':Hp}{v:V}{x:PV} (r:a9 K M H v x) (s:a8 H H') (m:∀ a,M a->M' a):a9 K M' H' v x:=r.keep (.same s m)
theorem Reps.same {K:PySem.W.Frag}{M M':Addr->Prop}{H H':Hp}{v:List V}{x:List PV} (r:Reps K M H v x) (s:a8 H H') (m:∀ a,M a->M' a):Reps K M' H' v x:=r.keep (.same s m)
noncomputable def i4:HO->Bool
 | .lst _=>true
 | .dK _=>true
 | .dT _=>true
 | _=>false
theorem fM.upd {M M':Addr->Prop}{H:Hp}{a:Addr}{o o':HO} (h:H a=some o') (mu:i4 o'=true) (m:∀ b,M b->b ≠ a/\M' b):fM M M' H (upd H a o):=
 ⟨fun b _ hb e=>⟨(m b hb).2,by rw [aU (m b hb).1]; exact e⟩,fun b _ hb e=>⟨(m b hb).2,by rw [aU (m b hb).1]; exact e⟩,fun b _ hb e=>⟨(m b hb).2,by rw [aU (m b hb).1]; exact e⟩,
  fun b _ e=>by rw [aU (fun z=>by rw [z,h] at e; cases e; cases mu)]; exact e,
  fun b _ _ e=>by rw [aU (fun z=>by rw [z,h] at e; cases e; cases mu)]; exact e⟩
theorem Reps.length {K:PySem.W.Frag}{M:Addr->Prop}{H:Hp}:∀ {vs:List V}{xs:List PV},Reps K M H vs xs->vs.length=xs.length
 | _,_,.nil=>rfl
 | _,_,.cons _ t=>congrArg (· + 1) t.length
theorem Reps.get {K:PySem.W.Frag}{M:Addr->Prop}{H:Hp}:∀ {vs:List V}{xs:List PV}{i:Nat}{v:V},Reps K M H vs xs->vs[i]? = some v->∃ x,xs[i]? = some x/\a9 K M H v x
 | _,_,_,_,.nil,e=>by simp at e
 | _,_,0,_,.cons r _,e=>by simp at e; subst e; exact⟨_,rfl,r⟩
 | _,_,i+1,v,.cons _ t,e=>by
  rw [aP9] at e
  obtain ⟨x,h1,h2⟩:=t.get e
  exact⟨x,by rw [aP9]; exact h1,h2⟩
theorem Reps.at {K:PySem.W.Frag}{M:Addr->Prop}{H:Hp}:∀ {vs:List V}{xs:List PV}{i:Nat}{x:PV},Reps K M H vs xs->xs[i]? = some x->∃ v,vs[i]? = some v/\a9 K M H v x
 | _,_,_,_,.nil,e=>by simp at e
 | _,_,0,_,.cons r _,e=>by simp at e; subst e; exact⟨_,rfl,r⟩
 | _,_,i+1,v,.cons _ t,e=>by
  rw [aP9] at e
  obtain ⟨x,h1,h2⟩:=t.at e
  exact⟨x,by rw [aP9]; exact h1,h2⟩
theorem Reps.append {K:PySem.W.Frag}{M:Addr->Prop}{H:Hp}:∀ {vs:List V}{xs:List PV}{us:List V}{ys:List PV},Reps K M H vs xs->Reps K M H us ys->Reps K M H (vs ++ us) (xs ++ ys)
 | _,_,_,_,.nil,s=>s
 | _,_,_,_,.cons r t,s=>.cons r (t.append s)
theorem Reps.set {K:PySem.W.Frag}{M:Addr->Prop}{H:Hp}{v:V}{x:PV} (q:a9 K M H v x):∀ (i:Nat) {vs:List V}{xs:List PV},Reps K M H vs xs->Reps K M H (vs.set i v) (xs.set i x)
 | _,_,_,.nil=>.nil
 | 0,_,_,.cons r t=>.cons q t
 | i+1,_,_,.cons r t=>.cons r (Reps.set q i t)
theorem Reps.take {K:PySem.W.Frag}{M:Addr->Prop}{H:Hp}:∀ (n:Nat) {vs:List V}{xs:List PV},Reps K M H vs xs->Reps K M H (vs.take n) (xs.take n)
 | 0,_,_,_=>by simp; exact .nil
 | _+1,_,_,.nil=>.nil
 | n+1,_,_,.cons r t=>.cons r (Reps.take n t)
theorem Reps.drop {K:PySem.W.Frag}{M:Addr->Prop}{H:Hp}:∀ (n:Nat) {vs:List V}{xs:List PV},Reps K M H vs xs->Reps K M H (vs.drop n) (xs.drop n)
 | 0,_,_,r=>r
 | _+1,_,_,.nil=>.nil
 | n+1,_,_,.cons _ t=>Reps.drop n t
theorem Reps.eraseIdx {K:PySem.W.Frag}{M:Addr->Prop}{H:Hp}:∀ (n:Nat) {vs:List V}{xs:List PV},Reps K M H vs xs->Reps K M H (vs.eraseIdx n) (xs.eraseIdx n)
 | _,_,_,.nil=>.nil
 | 0,_,_,.cons _ t=>t
 | n+1,_,_,.cons r t=>.cons r (Reps.eraseIdx n t)
noncomputable abbrev intz (ns:List Int):List PV:=ns.map PV.int
theorem Reps.intz {K:PySem.W.Frag}{M:Addr->Prop}{H:Hp}:∀ (ns:List Int),Reps K M H (ns.map V.int) (intz ns)
 | []=>.nil
 | n :: r=>.cons (.int n) (Reps.intz r)
theorem Reps.ofInts {K:PySem.W.Frag}{M:Addr->Prop}{H:Hp}:∀ {ns:List Int}{us:List V},Reps K M H us (PP.intz ns)->us=ns.map V.int
 | [],_,.nil=>rfl
 | n :: r,_,.cons q t=>by
  cases q
  rw [Reps.ofInts t]; rfl
theorem eJ:∀ (ns:List Int),flats (intz ns)=true
 | []=>rfl
 | n :: r=>by show (flat (.int n) && flats (intz r))=true; rw [eJ r]; rfl
inductive Tg | rd | sh | nw | fr
inductive Slot | sh (g:Bool) (x:PV) | own (x:PV)
noncomputable def Slot.val:Slot->PV
 | .sh _ x=>x
 | .own x=>x
noncomputable def Slot.tag:Slot->Tg
 | .sh true _=>.nw
 | .sh false _=>.sh
 | .own _=>.rd
noncomputable abbrev aX:=List (Option Slot)
noncomputable def Ms (H0:Hp) (W:Addr->Prop):Bool->Addr->Prop
 | false,a=>¬ W a
 | true,a=>¬ W a/\H0 a=none
noncomputable def Mg (H0:Hp) (W:Addr->Prop) (Hs:Hp):Tg->Addr->Prop
 | .rd,_=>True
 | .sh,a=>¬ W a
 | .nw,a=>¬ W a/\H0 a=none
 | .fr,a=>Hs a=none
noncomputable def fN (K:PySem.W.Frag) (M:Addr->Prop) (H:Hp) (a:Addr):PV->Prop
 | .lst xs=>∃ us,H a=some (.lst us)/\Reps K M H us xs
 | .dK ps=>∃ kvs,H a=some (.dK kvs)/\kvs.map (·.1)=ps.map (·.1)/\Reps K M H (kvs.map (·.2)) (ps.map (·.2))
 | .dT ps=>∃ kvs,H a=some (.dT kvs)/\kvs.map (·.1)=ps.map (·.1)/\Reps K M H (kvs.map (·.2)) (ps.map (·.2))
 | _=>False
noncomputable def xV (K:PySem.W.Frag) (H0:Hp) (W:Addr->Prop) (H:Hp) (v:V):Slot->Prop
 | .sh g x=>a9 K (Ms H0 W g) H v x
 | .own x=>∃ a,v = .ref a/\W a/\fN K (Ms H0 W true) H a x
structure PX (K:PySem.W.Frag) (H0:Hp) (W:Addr->Prop) (σ:St) (ρ:aX) (H:Hp):Prop where
 len:ρ.length=σ.length
 same:a8 H0 H
 wm:∀ a,W a->H0 a=none/\∃ o,H a=some o/\i4 o=true
 sl:∀ (i:Nat) (m:Slot),ρ[i]? = some (some m)->∃ v,σ[i]? = some (some v)/\xV K H0 W H v m
 dis:∀ (i j:Nat) (x y:PV) (a:Addr),ρ[i]? = some (some (.own x))->ρ[j]? = some (some (.own y))->σ[i]? = some (some (.ref a))->σ[j]? = some (some (.ref a))->i=j
theorem fN.keep {K:PySem.W.Frag}{M M':Addr->Prop}{H H':Hp}{a:Addr} (k:fM M M' H H') (ha:∀ o,H a=some o->H' a=some o):∀ {x:PV},fN K M H a x->fN K M' H' a x
 | .lst _,⟨us,e,r⟩=>⟨us,ha _ e,r.keep k⟩
 | .dK _,⟨us,e,q,r⟩=>⟨us,ha _ e,q,r.keep k⟩
 | .dT _,⟨us,e,q,r⟩=>⟨us,ha _ e,q,r.keep k⟩
theorem fN.at {K:PySem.W.Frag}{M:Addr->Prop}{H:Hp}{a:Addr}:∀ {x:PV},fN K M H a x->∃ o,H a=some o/\i4 o=true
 | .lst _,⟨us,e,r⟩=>⟨_,e,rfl⟩
 | .dK _,⟨us,e,q,r⟩=>⟨_,e,rfl⟩
 | .dT _,⟨us,e,q,r⟩=>⟨_,e,rfl⟩
theorem fN.rep {K:PySem.W.Frag}{M M':Addr->Prop}{H:Hp}{a:Addr} (m:∀ b,M b->M' b) (ha:M' a):∀ {x:PV},fN K M H a x->a9 K M' H (.ref a) x
 | .lst _,⟨us,e,r⟩=>.lst ha e (r.same (a8.refl _) m)
 | .dK _,⟨us,e,q,r⟩=>.dK ha e q (r.same (a8.refl _) m)
 | .dT _,⟨us,e,q,r⟩=>.dT ha e q (r.same (a8.refl _) m)
section
variable {K : PySem.W.Frag} {H0 : Hp} {W W' : Addr → Prop} {σ : St} {ρ : aX} {H H' : Hp}
theorem PX.mono (p:PX K H0 W σ ρ H) (s:a8 H H'):PX K H0 W σ ρ H':=by
 refine⟨p.len,p.same.trans s,fun a h=>⟨(p.wm a h).1,let ⟨o,e,m⟩:=(p.wm a h).2; ⟨o,s _ _ e,m⟩⟩,fun i m h=>?_,p.dis⟩
 obtain ⟨v,e,r⟩:=p.sl i m h
 refine⟨v,e,?_⟩
 cases m with
 | sh g x=>exact a9.same r s fun _ z=>z
 | own x=>
  obtain ⟨a,e1,e2,r⟩:=r
  exact⟨a,e1,e2,r.keep (.same s fun _ z=>z) fun _ z=>s _ _ z⟩
theorem PX.new (p:PX K H0 W σ ρ H) {a:Addr} (h:H a=none) : ¬ W a/\H0 a=none:=
 ⟨fun z=>(by obtain ⟨_,o,e,_⟩:=p.wm a z; rw [h] at e; cases e),p.same.free h⟩
theorem Mg.back {g:Tg}{H1:Hp} (s:a8 H H1) {a:Addr} (h:Mg H0 W H1 g a):Mg H0 W H g a:=by
 cases g with
 | fr=>exact s.free h
 | rd=>exact h
 | sh=>exact h
 | nw=>exact h
end
noncomputable abbrev PK:=PV->Tg->Prop
noncomputable abbrev aA:=aX->PK->Prop
noncomputable abbrev bM:=aX->(Bool->Prop)->Prop
noncomputable abbrev cB:=aX->(List (PV × Tg)->Prop)->Prop
inductive fO (K:PySem.W.Frag) (H0:Hp) (W:Addr->Prop) (Hs H:Hp):List V->List (PV × Tg)->Prop
 | nil:fO K H0 W Hs H [] []
 | cons {v:V}{x:PV}{g:Tg}{vs:List V}{xs:List (PV × Tg)}:a9 K (Mg H0 W Hs g) H v x->fO K H0 W Hs H vs xs->fO K H0 W Hs H (v :: vs) ((x,g) :: xs)
noncomputable def nG (K:PySem.W.Frag) (H0:Hp) (W:Addr->Prop) (H:Hp) (Q:PK) (Q':VK):Prop:=∀ v H' x g,a8 H H'->a9 K (Mg H0 W H g) H' v x->Q x g->Q' v H'
noncomputable def LE (X:Cx) (t:aA):TE:=fun σ H Q'=>∃ (W:Addr->Prop) (ρ:aX) (Q:PK),PX X.K X.H₀ W σ ρ H/\t ρ Q/\nG X.K X.H₀ W H Q Q'
noncomputable def LT (X:Cx) (t:bM):TT:=fun σ H Q'=>∃ (W:Addr->Prop) (ρ:aX) (Q:Bool->Prop),PX X.K X.H₀ W σ ρ H/\t ρ Q/\∀ b H',a8 H H'->Q b->Q' b H'
noncomputable def LA (X:Cx) (t:cB):TA:=fun σ H Q'=>∃ (W:Addr->Prop) (ρ:aX) (Q:List (PV × Tg)->Prop),PX X.K X.H₀ W σ ρ H/\t ρ Q/\∀ vs H' xs,a8 H H'->fO X.K X.H₀ W H H' vs xs->Q xs->Q' vs H'
theorem fO.same {K:PySem.W.Frag}{H0:Hp}{W:Addr->Prop}{Hs Hs' H H':Hp} (s:a8 H H') (b:a8 Hs' Hs):∀ {vs:List V}{xs:List (PV × Tg)},fO K H0 W Hs H vs xs->fO K H0 W Hs' H' vs xs
 | _,_,.nil=>.nil
 | _,_,.cons r t=>.cons (r.same s fun _ z=>Mg.back b z) (t.same s b)
theorem fO.any {K:PySem.W.Frag}{H0:Hp}{W:Addr->Prop}{Hs H:Hp}:∀ {vs:List V}{xs:List (PV × Tg)},fO K H0 W Hs H vs xs->Reps K (fun _=>True) H vs (xs.map (·.1))
 | _,_,.nil=>.nil
 | _,_,.cons r t=>.cons (r.same (a8.refl _) fun _ _=>trivial) t.any
noncomputable def Nw:Tg->PV->Prop
 | .fr,_=>True
 | .nw,_=>True
 | _,x=>flat x=true
section
variable {K : PySem.W.Frag} {H0 Hs H : Hp} {W : Addr → Prop} {σ : St} {ρ : aX}
theorem Nw.rep {g:Tg}{x:PV}{v:V} (px:PX K H0 W σ ρ Hs) (n:Nw g x) (r:a9 K (Mg H0 W Hs g) H v x):a9 K (Ms H0 W true) H v x:=by
 cases g with
 | fr=>exact r.same (a8.refl _) fun a z=>px.new z
 | nw=>exact r.same (a8.refl _) fun a z=>z
 | sh=>exact r.flat n
 | rd=>exact r.flat n
theorem xW {v:V}{m:Slot} (r:xV K H0 W H v m):a9 K (Mg H0 W Hs m.tag) H v m.val:=by
 cases m with
 | sh g x=>
  cases g with
  | true=>exact a9.same r (a8.refl _) fun _ z=>z
  | false=>exact a9.same r (a8.refl _) fun _ z=>z
 | own x=>
  obtain ⟨a,rfl,_,r⟩:=r
  exact r.rep (fun _ _=>trivial) trivial
end
section
variable {X : Cx} {σ : St} {H : Hp} {Q' : VK} {ta tb : aA}
noncomputable def a6 (i:Nat):aA:=fun ρ Q=>∃ m,ρ[i]? = some (some m)/\Q m.val m.tag
noncomputable def qC (x:PV):aA:=fun _ Q=>Q x .fr
theorem af8 {i:Nat} (h:LE X (a6 i) σ H Q'):fS i σ H Q':=by
 obtain ⟨W,ρ,Q,px,⟨m,e,q⟩,k⟩:=h
 obtain ⟨v,ev,r⟩:=px.sl i m e
 exact⟨v,ev,k v H _ _ (a8.refl _) (xW r) q⟩
theorem nH {x:PV}{v:V} (hr:∀ M,a9 X.K M H v x) (h:LE X (qC x) σ H Q'):tC v σ H Q':=by
 obtain ⟨W,ρ,Q,px,q,k⟩:=h
 exact k v H _ _ (a8.refl _) (hr _) q
noncomputable def dH (X:Cx) (R:PV->Tg->PV->Tg->PK->Prop) (r:R2):Prop:=∀ (W:Addr->Prop) (Hs H:Hp) (u v:V) (x y:PV) (g g':Tg) (Q:PK) (Q':VK),a8 Hs H->
 (∀ a,Hs a=none->¬ W a/\X.H₀ a=none)->a9 X.K (Mg X.H₀ W Hs g) H u x->a9 X.K (Mg X.H₀ W Hs g') H v y->R x g y g' Q->(∀ w H' z gz,a8 H H'->a9 X.K (Mg X.H₀ W Hs gz) H' w z->Q z gz->Q' w H')->r u v H Q'
noncomputable def q2 (R:PV->Tg->PV->Tg->PK->Prop) (ta tb:aA):aA:=fun ρ Q=>ta ρ fun x g=>tb ρ fun y g'=>R x g y g' Q
theorem nI {R:PV->Tg->PV->Tg->PK->Prop}{r:R2} (c:dH X R r) (h:LE X (q2 R ta tb) σ H Q'):lD r (LE X ta) (LE X tb) σ H Q':=by
 obtain ⟨W,ρ,Q,px,q,k⟩:=h
 refine⟨W,ρ,_,px,q,fun u H1 x g s1 r1 q1=>⟨W,ρ,_,px.mono s1,q1,fun v H2 y g' s2 r2 q2=>?_⟩⟩
 exact c W H H2 u v x y g g' Q Q' (s1.trans s2) (fun a z=>px.new z) (r1.same s2 fun _ z=>z) (r2.same (a8.refl _) fun _ z=>Mg.back s1 z) q2 fun w H' z gz s3 r3 q3=>k w H' z gz ((s1.trans s2).trans s3) r3 q3
noncomputable def RI (C:Int->Int->Prop) (f:Int->Int->PV):PV->Tg->PV->Tg->PK->Prop:=fun x _ y _ Q=>∃ i j,x = .int i/\y = .int j/\C i j/\Q (f i j) .fr
noncomputable def fV (f:Int->Int->PV):PV->Tg->PV->Tg->PK->Prop:=fun x _ y _ Q=>∃ i j,x = .int i/\y = .int j/\Q (f i j) .fr
theorem rO {C:Int->Int->Prop}{f:Int->Int->Int}:dH X (RI C fun i j=>.int (f i j)) (rI C fun i j=>.int (f i j)):=by
 rintro W Hs H u v x y g g' Q Q' s n r1 r2 ⟨i,j,rfl,rfl,c,q⟩ k
 cases r1; cases r2
 exact⟨i,j,rfl,rfl,c,k _ _ _ _ (a8.refl _) (.int _) q⟩
theorem xX {f:Int->Int->Int}:dH X (fV fun i j=>.int (f i j)) (hG fun i j=>.int (f i j)):=by
 rintro W Hs H u v x y g g' Q Q' s n r1 r2 ⟨i,j,rfl,rfl,q⟩ k
 cases r1; cases r2
 exact⟨i,j,rfl,rfl,k _ _ _ _ (a8.refl _) (.int _) q⟩
theorem xY {f:Int->Int->Bool}:dH X (fV fun i j=>.bl (f i j)) (hG fun i j=>.bl (f i j)):=by
 rintro W Hs H u v x y g g' Q Q' s n r1 r2 ⟨i,j,rfl,rfl,q⟩ k
 cases r1; cases r2
 exact⟨i,j,rfl,rfl,k _ _ _ _ (a8.refl _) (.bl _) q⟩
noncomputable def iT (neg:Bool):PV->Tg->PV->Tg->PK->Prop:=fun x _ y _ Q=>(∃ i j,x = .int i/\y = .int j/\Q (.bl (if neg=true then !decide (i=j) else decide (i=j))) .fr) ∨ (∃ i j,x = .bl i/\y = .bl j/\Q (.bl (if neg=true then !decide (i=j) else decide (i=j))) .fr)
theorem xZ (i j:Int):decide (V.int i=V.int j)=decide (i=j):=by
 rw [aV0,aO3,aO3]; exact⟨fun z=>V.int.inj z,fun z=>congrArg V.int z⟩
theorem y8 (i j:Bool):decide (V.bl i=V.bl j)=decide (i=j):=by
 rw [aV0,aO3,aO3]; exact⟨fun z=>V.bl.inj z,fun z=>congrArg V.bl z⟩
theorem y9:dH X (iT false) vP:=by
 rintro W Hs H u v x y g g' Q Q' s n r1 r2 (⟨i,j,rfl,rfl,q⟩ | ⟨i,j,rfl,rfl,q⟩) k
 ·cases r1; cases r2
  exact⟨rfl,by rw [xZ]; exact k _ _ _ _ (a8.refl _) (.bl _) q⟩
 ·cases r1; cases r2
  exact⟨rfl,by rw [y8]; exact k _ _ _ _ (a8.refl _) (.bl _) q⟩
theorem af9:dH X (iT true) vQ:=by
 rintro W Hs H u v x y g g' Q Q' s n r1 r2 (⟨i,j,rfl,rfl,q⟩ | ⟨i,j,rfl,rfl,q⟩) k
 ·cases r1; cases r2
  exact⟨rfl,by rw [xZ]; exact k _ _ _ _ (a8.refl _) (.bl _) q⟩
 ·cases r1; cases r2
  exact⟨rfl,by rw [y8]; exact k _ _ _ _ (a8.refl _) (.bl _) q⟩
noncomputable def aV (t:aA):bM:=fun ρ Q=>t ρ fun x _=>∃ b,x = .bl b/\Q b
theorem nJ {t:aA}{Q':Bool->Hp->Prop} (h:LT X (aV t) σ H Q'):LE X t σ H fun x H'=>∃ k,x = .bl k/\Q' k H':=by
 obtain ⟨W,ρ,Q,px,q,k⟩:=h
 refine⟨W,ρ,_,px,q,?_⟩
 rintro v H1 x g s r ⟨b,rfl,q⟩
 cases r
 exact⟨b,rfl,k _ _ s q⟩
noncomputable def jY (t u:bM):bM:=fun ρ Q=>t ρ fun c=>if c=true then u ρ Q else Q false
noncomputable def iU (t u:bM):bM:=fun ρ Q=>t ρ fun c=>if c=true then Q true else u ρ Q
noncomputable def jZ (t:bM):bM:=fun ρ Q=>t ρ fun c=>Q (!c)
variable {t u : bM} {Qb : Bool → Hp → Prop}
theorem ag0 (h:LT X (jY t u) σ H Qb):uW (LT X t) (LT X u) σ H Qb:=by
 obtain ⟨W,ρ,Q,px,q,k⟩:=h
 refine⟨W,ρ,_,px,q,fun b H1 s1 q1=>?_⟩
 cases b with
 | true=>exact bB ⟨W,ρ,Q,px.mono s1,by simpa using q1,fun b H2 s2 q2=>k _ _ (s1.trans s2) q2⟩
 | false=>exact aW (k _ _ s1 (by simpa using q1))
theorem ag1 (h:LT X (iU t u) σ H Qb):uX (LT X t) (LT X u) σ H Qb:=by
 obtain ⟨W,ρ,Q,px,q,k⟩:=h
 refine⟨W,ρ,_,px,q,fun b H1 s1 q1=>?_⟩
 cases b with
 | false=>exact aW ⟨W,ρ,Q,px.mono s1,by simpa using q1,fun b H2 s2 q2=>k _ _ (s1.trans s2) q2⟩
 | true=>exact bB (k _ _ s1 (by simpa using q1))
theorem ag2 (h:LT X (jZ t) σ H Qb):uY (LT X t) σ H Qb:=by
 obtain ⟨W,ρ,Q,px,q,k⟩:=h
 exact⟨W,ρ,_,px,q,fun b H1 s1 q1=>k _ _ s1 q1⟩
noncomputable def lR (ta tb:aA):aA:=fun ρ Q=>ta ρ fun x _=>∃ c,x = .bl c/\if c=true then tb ρ Q else Q (.bl false) .fr
noncomputable def rP (ta:aA):aA:=fun ρ Q=>ta ρ fun x _=>∃ c,x = .bl c/\Q (.bl (!c)) .fr
theorem nG.back {K:PySem.W.Frag}{H0:Hp}{W:Addr->Prop}{H H1:Hp}{Q:PK} (k:nG K H0 W H Q Q') (s:a8 H H1):nG K H0 W H1 Q Q':=fun v H' x g s' r q=>k v H' x g (s.trans s') (r.same (a8.refl _) fun _ z=>Mg.back s z) q
theorem ag3 (h:LE X (lR ta tb) σ H Q'):uZ (LE X ta) (LE X tb) σ H Q':=by
 obtain ⟨W,ρ,Q,px,q,k⟩:=h
 refine⟨W,ρ,_,px,q,?_⟩
 rintro v H1 x g s1 r ⟨c,rfl,q⟩
 cases r
 refine⟨c,rfl,?_⟩
 cases c with
 | true=>exact bB ⟨W,ρ,Q,px.mono s1,by simpa using q,k.back s1⟩
 | false=>exact aW (k _ _ _ _ s1 (.bl _) (by simpa using q))
theorem ag4 (h:LE X (rP ta) σ H Q'):v0 (LE X ta) σ H Q':=by
 obtain ⟨W,ρ,Q,px,q,k⟩:=h
 refine⟨W,ρ,_,px,q,?_⟩
 rintro v H1 x g s1 r ⟨c,rfl,q⟩
 cases r
 exact⟨c,rfl,k _ _ _ _ s1 (.bl _) q⟩
noncomputable def aI:cB:=fun _ Q=>Q []
noncomputable def aC (te:aA) (tr:cB):cB:=fun ρ Q=>te ρ fun x g=>tr ρ fun xs=>Q ((x,g) :: xs)
variable {Qa : List V → Hp → Prop} {tr : cB}
theorem ag5 (h:LA X aI σ H Qa):jT σ H Qa:=by
 obtain ⟨W,ρ,Q,px,q,k⟩:=h
 exact k _ _ _ (a8.refl _) .nil q
theorem ag6 (h:LA X (aC ta tr) σ H Qa):iP (LE X ta) (LA X tr) σ H Qa:=by
 obtain ⟨W,ρ,Q,px,q,k⟩:=h
 refine⟨W,ρ,_,px,q,fun v H1 x g s1 r1 q1=>⟨W,ρ,_,px.mono s1,q1,fun vs H2 xs s2 r2 q2=>?_⟩⟩
 exact k _ _ _ (s1.trans s2) (.cons (r1.same s2 fun _ z=>z) (r2.same (a8.refl _) s1)) q2
noncomputable def i5 (t:cB):aA:=fun ρ Q=>t ρ fun xs=>xs.length<=1000/\flats (xs.map (·.1))=true/\Q (.tup (xs.map (·.1))) .fr
noncomputable def i6 (t:cB):aA:=fun ρ Q=>t ρ fun xs=>xs.length<=1000/\flats (xs.map (·.1))=true/\Q (.lst (xs.map (·.1))) .fr
theorem fO.length {K:PySem.W.Frag}{H0:Hp}{W:Addr->Prop}{Hs H:Hp}:∀ {vs:List V}{xs:List (PV × Tg)},fO K H0 W Hs H vs xs->vs.length=xs.length
 | _,_,.nil=>rfl
 | _,_,.cons _ t=>congrArg (· + 1) t.length
theorem rQ {n:Nat} (h:n<=1000):n<=sizeLine:=aU5 (xH h)
theorem ag7 (h:LE X (i5 tr) σ H Q'):vX (LA X tr) σ H Q':=by
 obtain ⟨W,ρ,Q,px,q,k⟩:=h
 refine⟨W,ρ,_,px,q,?_⟩
 rintro vs H1 xs s1 r ⟨hl,n,q⟩
 refine⟨by rw [r.length]; exact rQ hl,fun p hp=>k _ _ _ .fr (s1.trans (bH hp _)) (.tup bK ?_) q⟩
 exact (r.any.flat n).same (bH hp _) fun _ z=>z
theorem ag8 (h:LE X (i6 tr) σ H Q'):vY (LA X tr) σ H Q':=by
 obtain ⟨W,ρ,Q,px,q,k⟩:=h
 refine⟨W,ρ,_,px,q,?_⟩
 rintro vs H1 xs s1 r ⟨hl,n,q⟩
 refine⟨by rw [r.length]; exact rQ hl,fun p hp=>k _ _ _ .fr (s1.trans (bH hp _)) (.lst (s1.free hp) bK ?_) q⟩
 exact (r.any.flat n).same (bH hp _) fun _ z=>z
noncomputable def gL (X:Cx) (R:List PV->(PV->Prop)->Prop) (r:List V->Hp->VK->Prop):Prop:=∀ (H:Hp) (vs:List V) (xs:List PV) (Q:PV->Prop) (Q':VK),Reps X.K (fun _=>True) H vs xs->R xs Q->
 (∀ w H' z,a8 H H'->a9 X.K (fun a=>H a=none) H' w z->Q z->Q' w H')->r vs H Q'
noncomputable def aK (R:List PV->(PV->Prop)->Prop) (t:cB):aA:=fun ρ Q=>t ρ fun xs=>R (xs.map (·.1)) fun z=>Q z .fr
theorem yA {R:List PV->(PV->Prop)->Prop}{r:List V->Hp->VK->Prop} (c:gL X R r) (h:LE X (aK R tr) σ H Q'):qO r (LA X tr) σ H Q':=by
 obtain ⟨W,ρ,Q,px,q,k⟩:=h
 refine⟨W,ρ,_,px,q,fun vs H1 xs s1 r1 q1=>c H1 vs _ _ Q' r1.any q1 fun w H' z s2 r2 q2=>k w H' z .fr (s1.trans s2) (r2.same (a8.refl _) fun _ z=>s1.free z) q2⟩
end
structure fC where
 nx:aX->Prop
 rt:PV->Prop
 bk:aX->Prop:=fun _=>False
 ct:aX->Prop:=fun _=>False
noncomputable abbrev aJ:=fC->aX->Prop
noncomputable def Ev (W:Addr->Prop) (H:Hp) (W':Addr->Prop) (H':Hp):Prop:=∀ b o,H b=some o->¬ W b->H' b=some o/\¬ W' b
theorem Ev.trans {W W1 W2:Addr->Prop}{H H1 H2:Hp} (a:Ev W H W1 H1) (b:Ev W1 H1 W2 H2):Ev W H W2 H2:=fun c o h n=>let ⟨h1,n1⟩:=a c o h n; b c o h1 n1
theorem Ev.same {W:Addr->Prop}{H H':Hp} (s:a8 H H'):Ev W H W H':=fun c o h n=>⟨s _ _ h,n⟩
theorem Ev.refl (W:Addr->Prop) (H:Hp):Ev W H W H:=Ev.same (a8.refl _)
structure lS (X:Cx) (W:Addr->Prop) (H:Hp) (D':fC) (D:c9):Prop where
 nx:∀ W' σ' H' ρ',Ev W H W' H'->PX X.K X.H₀ W' σ' ρ' H'->D'.nx ρ'->D.nx σ' H'
 rt:∀ v H' x,a8 X.H₀ H'->a9 X.K (fun a=>X.H₀ a=none) H' v x->D'.rt x->D.rt v H'
 bk:∀ W' σ' H' ρ',Ev W H W' H'->PX X.K X.H₀ W' σ' ρ' H'->D'.bk ρ'->D.bk σ' H'
 ct:∀ W' σ' H' ρ',Ev W H W' H'->PX X.K X.H₀ W' σ' ρ' H'->D'.ct ρ'->D.ct σ' H'
theorem lS.step {X:Cx}{W W1:Addr->Prop}{H H1:Hp}{D':fC}{D:c9} (k:lS X W H D' D) (e:Ev W H W1 H1):lS X W1 H1 D' D:=
 ⟨fun W' σ' H' ρ' e'=>k.nx W' σ' H' ρ' (e.trans e'),k.rt,fun W' σ' H' ρ' e'=>k.bk W' σ' H' ρ' (e.trans e'),fun W' σ' H' ρ' e'=>k.ct W' σ' H' ρ' (e.trans e')⟩
noncomputable def LS (X:Cx) (t:aJ):TS:=fun D σ H=>∃ (W:Addr->Prop) (ρ:aX) (D':fC),PX X.K X.H₀ W σ ρ H/\t D' ρ/\lS X W H D' D
theorem eL {α:Type}{l:List α}{i j:Nat}{a b:α} (h:(l.set i a)[j]? = some b):(j=i/\i < l.length/\b=a) ∨ (j ≠ i/\l[j]? = some b):=by
 by_cases e:j=i
 ·subst e
  have hl:j < (l.set j a).length:=(aL8.mp h).1
  rw [aQ3] at hl
  rw [aQ5 hl] at h
  exact .inl ⟨rfl,hl,(aN4 h).symm⟩
 ·rw [aN0 (Ne.symm e)] at h
  exact .inr ⟨e,h⟩
section
variable {K : PySem.W.Frag} {H0 : Hp} {W W' : Addr → Prop} {σ : St} {ρ : aX} {H H' Hs : Hp}
theorem PX.setSh {i:Nat}{v:V}{g:Bool}{x:PV} (p:PX K H0 W σ ρ H) (r:a9 K (Ms H0 W g) H v x):PX K H0 W (σ.set i (some v)) (ρ.set i (some (.sh g x))) H:=by
 refine⟨by rw [aQ3,aQ3]; exact p.len,p.same,p.wm,fun j m h=>?_,fun j k y z a h1 h2 h3 h4=>?_⟩
 ·rcases eL h with ⟨rfl,hl,e⟩ | ⟨hne,h⟩
  ·cases e
   rw [p.len] at hl
   exact⟨v,aQ5 hl,r⟩
  ·obtain ⟨u,e,q⟩:=p.sl j m h
   exact⟨u,by rw [aN0 (Ne.symm hne)]; exact e,q⟩
 ·rcases eL h1 with ⟨_,_,e⟩ | ⟨n1,h1⟩
  ·cases e
  ·rcases eL h2 with ⟨_,_,e⟩ | ⟨n2,h2⟩
   ·cases e
   ·rw [aN0 (Ne.symm n1)] at h3
    rw [aN0 (Ne.symm n2)] at h4
    exact p.dis j k y z a h1 h2 h3 h4
theorem PX.setNone {i:Nat}{o:Option V} (p:PX K H0 W σ ρ H):PX K H0 W (σ.set i o) (ρ.set i none) H:=by
 refine⟨by rw [aQ3,aQ3]; exact p.len,p.same,p.wm,fun j m h=>?_,fun j k y z a h1 h2 h3 h4=>?_⟩
 ·rcases eL h with ⟨rfl,hl,e⟩ | ⟨hne,h⟩
  ·cases e
  ·obtain ⟨u,e,q⟩:=p.sl j m h
   exact⟨u,by rw [aN0 (Ne.symm hne)]; exact e,q⟩
 ·rcases eL h1 with ⟨_,_,e⟩ | ⟨n1,h1⟩
  ·cases e
  ·rcases eL h2 with ⟨_,_,e⟩ | ⟨n2,h2⟩
   ·cases e
   ·rw [aN0 (Ne.symm n1)] at h3
    rw [aN0 (Ne.symm n2)] at h4
    exact p.dis j k y z a h1 h2 h3 h4
noncomputable def k4 (W:Addr->Prop) (a:Addr):Addr->Prop:=fun b=>W b ∨ b=a
theorem rR {g:Bool}{a b:Addr} (n:b ≠ a) (h:Ms H0 W g b):Ms H0 (k4 W a) g b:=by
 cases g with
 | true=>exact⟨fun z=>z.elim h.1 n,h.2⟩
 | false=>exact fun z=>z.elim h n
theorem PX.setOwn {i:Nat}{a:Addr}{x:PV} (p:PX K H0 W σ ρ Hs) (s:a8 Hs H) (ha:Hs a=none) (r:fN K (Ms H0 (k4 W a) true) H a x):PX K H0 (k4 W a) (σ.set i (some (.ref a))) (ρ.set i (some (.own x))) H:=by
 have old:∀ b o,Hs b=some o->b ≠ a:=fun b o e z=>by rw [z,ha] at e; cases e
 have kp:∀ g,fM (Ms H0 W g) (Ms H0 (k4 W a) g) Hs H:=fun g=>⟨fun b _ m e=>⟨rR (old _ _ e) m,s _ _ e⟩,fun b _ m e=>⟨rR (old _ _ e) m,s _ _ e⟩,fun b _ m e=>⟨rR (old _ _ e) m,s _ _ e⟩,fun _ _ e=>s _ _ e,fun _ _ _ e=>s _ _ e⟩
 have wa : ¬ W a:=(p.new ha).1
 refine⟨by rw [aQ3,aQ3]; exact p.len,p.same.trans s,fun b z=>?_,fun j m h=>?_,fun j k y z b h1 h2 h3 h4=>?_⟩
 ·rcases z with z | rfl
  ·obtain ⟨h1,o,h2,h3⟩:=p.wm b z
   exact⟨h1,o,s _ _ h2,h3⟩
  ·exact⟨(p.new ha).2,r.at⟩
 ·rcases eL h with ⟨rfl,hl,e⟩ | ⟨hne,h⟩
  ·cases e
   rw [p.len] at hl
   exact⟨_,aQ5 hl,a,rfl,.inr rfl,r⟩
  ·obtain ⟨u,e,q⟩:=p.sl j m h
   refine⟨u,by rw [aN0 (Ne.symm hne)]; exact e,?_⟩
   cases m with
   | sh g y=>exact a9.keep (kp g) q
   | own y=>
    obtain ⟨b,e1,e2,q⟩:=q
    exact⟨b,e1,.inl e2,q.keep (kp true) fun o z=>s _ _ z⟩
 ·have ne:∀ {j:Nat}{y:PV},ρ[j]? = some (some (.own y))->σ[j]? ≠ some (some (.ref a)):=fun {j y} h1 h2=>by
   obtain ⟨u,e,c,e1,e2,_⟩:=p.sl j _ h1
   rw [h2] at e
   cases e
   cases e1
   exact wa e2
  rcases eL h1 with ⟨e1,l1,_⟩ | ⟨n1,h1⟩
  ·rcases eL h2 with ⟨e2,_,_⟩ | ⟨n2,h2⟩
   ·rw [e1,e2]
   ·rw [e1,aQ5 (by rw [<- p.len]; exact l1)] at h3
    rw [aN0 (Ne.symm n2)] at h4
    cases h3
    exact absurd h4 (ne h2)
  ·rw [aN0 (Ne.symm n1)] at h3
   rcases eL h2 with ⟨e2,l2,_⟩ | ⟨n2,h2⟩
   ·rw [e2,aQ5 (by rw [<- p.len]; exact l2)] at h4
    cases h4
    exact absurd h3 (ne h1)
   ·rw [aN0 (Ne.symm n2)] at h4
    exact p.dis j k y z b h1 h2 h3 h4
theorem Ev.own {a:Addr} (s:a8 Hs H) (ha:Hs a=none):Ev W Hs (k4 W a) H:=fun b o e n=>⟨s _ _ e,fun z=>z.elim n fun z=>by rw [z,ha] at e; cases e⟩
theorem iV {g:Bool}{a b:Addr} (wa:W a) (h:Ms H0 W g b):b ≠ a:=by
 cases g with
 | true=>exact fun z=>h.1 (by rw [z]; exact wa)
 | false=>exact fun z=>h (by rw [z]; exact wa)
theorem PX.updOwn {i:Nat}{a:Addr}{x y:PV}{o:HO} (p:PX K H0 W σ ρ H) (hi:ρ[i]? = some (some (.own x))) (ha:σ[i]? = some (some (.ref a))) (wa:W a) (mu:i4 o=true) (r:fN K (Ms H0 W true) (upd H a o) a y) :
  PX K H0 W σ (ρ.set i (some (.own y))) (upd H a o):=by
 obtain ⟨w0,o',e',mu'⟩:=p.wm a wa
 have kp:∀ g,fM (Ms H0 W g) (Ms H0 W g) H (upd H a o):=fun g=>.upd e' mu' fun b m=>⟨iV wa m,m⟩
 refine⟨by rw [aQ3]; exact p.len,fun b u e=>by rw [aU (fun z=>by rw [z,w0] at e; cases e)]; exact p.same _ _ e,fun b z=>?_,fun j m h=>?_,fun j k y' z b h1 h2 h3 h4=>?_⟩
 ·by_cases e:b=a
  ·subst e; exact⟨w0,o,bK,mu⟩
  ·obtain ⟨h1,o2,h2,h3⟩:=p.wm b z
   exact⟨h1,o2,by rw [aU e]; exact h2,h3⟩
 ·rcases eL h with ⟨rfl,hl,e⟩ | ⟨hne,h⟩
  ·cases e
   exact⟨_,ha,a,rfl,wa,r⟩
  ·obtain ⟨u,e,q⟩:=p.sl j m h
   refine⟨u,e,?_⟩
   cases m with
   | sh g y=>exact a9.keep (kp g) q
   | own y=>
    obtain ⟨b,e1,e2,q⟩:=q
    have hb:b ≠ a:=fun z=>by
     subst e1
     rw [z] at e
     exact hne (p.dis j i _ _ a h hi e ha)
    exact⟨b,e1,e2,q.keep (kp true) fun o z=>by rw [aU hb]; exact z⟩
 ·have g1:∃ y,ρ[j]? = some (some (.own y)):=by
   rcases eL h1 with ⟨e,_,_⟩ | ⟨_,h⟩
   ·exact⟨x,by rw [e]; exact hi⟩
   ·exact⟨_,h⟩
  have g2:∃ y,ρ[k]? = some (some (.own y)):=by
   rcases eL h2 with ⟨e,_,_⟩ | ⟨_,h⟩
   ·exact⟨x,by rw [e]; exact hi⟩
   ·exact⟨_,h⟩
  obtain ⟨y1,g1⟩:=g1
  obtain ⟨y2,g2⟩:=g2
  exact p.dis j k y1 y2 b g1 g2 h3 h4
theorem Ev.upd {a:Addr}{o:HO} (wa:W a):Ev W H W (upd H a o):=fun b u e n=>⟨by rw [aU (fun z=>n (by rw [z]; exact wa))]; exact e,n⟩
end
section
variable {X : Cx} {σ : St} {H : Hp} {D : c9} {te : aA} {t u : aJ}
noncomputable def cR:aJ:=fun D ρ=>D.nx ρ
noncomputable def aN (t u:aJ):aJ:=fun D ρ=>t { D with nx:=u D } ρ
theorem ag9 (h:LS X cR D σ H):v3 D σ H:=by
 obtain ⟨W,ρ,D',px,q,k⟩:=h
 exact k.nx W σ H ρ (Ev.refl _ _) px q
theorem ah0 (h:LS X (aN t u) D σ H):v4 (LS X t) (LS X u) D σ H:=by
 obtain ⟨W,ρ,D',px,q,k⟩:=h
 exact⟨W,ρ,_,px,q,fun W' σ' H' ρ' e px' q'=>⟨W',ρ',D',px',q',k.step e⟩,k.rt,k.bk,k.ct⟩
noncomputable def yB:Tg->PV->Bool
 | .fr,_=>true
 | .nw,_=>true
 | _,x=>flat x
noncomputable def yC:Tg->PV->Prop
 | .rd,x=>flat x=true
 | _,_=>True
theorem ah1 {K:PySem.W.Frag}{H0 Hs H:Hp}{W:Addr->Prop}{σ:St}{ρ:aX}{g:Tg}{x:PV}{v:V} (px:PX K H0 W σ ρ Hs) (n:yC g x) (r:a9 K (Mg H0 W Hs g) H v x):a9 K (Ms H0 W (yB g x)) H v x:=by
 cases g with
 | fr=>exact Nw.rep (g:=.fr) px trivial r
 | nw=>exact Nw.rep (g:=.nw) px trivial r
 | sh=>
  show a9 K (Ms H0 W (flat x)) H v x
  cases e:flat x with
  | true=>exact r.flat e
  | false=>exact r.same (a8.refl _) fun _ z=>z
 | rd=>exact r.flat n
noncomputable def bJ (i:Nat) (te:aA):aJ:=fun D ρ=>te ρ fun x g=>yC g x/\D.nx (ρ.set i (some (.sh (yB g x) x)))
theorem yD {i:Nat} (h:LS X (bJ i te) D σ H):gZ (LE X te) (dX i) D σ H:=by
 obtain ⟨W,ρ,D',px,q,k⟩:=h
 refine⟨W,ρ,_,px,q,?_⟩
 rintro v H1 x g s r ⟨n,q⟩
 exact k.nx W _ H1 _ (Ev.same s) ((px.mono s).setSh (ah1 px n r)) q
noncomputable def yE:PV->Bool
 | .lst xs=>flats xs
 | .dK ps=>flats (ps.map (·.2))
 | .dT ps=>flats (ps.map (·.2))
 | _=>false
theorem ah2 {K:PySem.W.Frag}{M:Addr->Prop}{H:Hp}{v:V}{x:PV} (r:a9 K M H v x) (o:yE x=true):∃ a,v = .ref a/\M a/\∀ M',fN K M' H a x:=by
 cases r with
 | lst m e r=>exact⟨_,rfl,m,fun _=>⟨_,e,r.flat o⟩⟩
 | dK m e q r=>exact⟨_,rfl,m,fun _=>⟨_,e,q,r.flat o⟩⟩
 | dT m e q r=>exact⟨_,rfl,m,fun _=>⟨_,e,q,r.flat o⟩⟩
 | _=>cases o
noncomputable def iW (i:Nat) (te:aA):aJ:=fun D ρ=>te ρ fun x g=>g = .fr/\yE x=true/\D.nx (ρ.set i (some (.own x)))
theorem ah3 {i:Nat} (h:LS X (iW i te) D σ H):gZ (LE X te) (dX i) D σ H:=by
 obtain ⟨W,ρ,D',px,q,k⟩:=h
 refine⟨W,ρ,_,px,q,?_⟩
 rintro v H1 x g s r ⟨rfl,o,q⟩
 obtain ⟨a,rfl,m,w⟩:=ah2 r o
 exact k.nx _ _ H1 _ (Ev.own s m) (px.setOwn s m (w _)) q
noncomputable def bW (te:aA):aJ:=fun D ρ=>te ρ fun x g=>Nw g x/\D.rt x
theorem ah4 (h:LS X (bW te) D σ H):pX (LE X te) D σ H:=by
 obtain ⟨W,ρ,D',px,q,k⟩:=h
 refine⟨W,ρ,_,px,q,?_⟩
 rintro v H1 x g s r ⟨n,q⟩
 exact k.rt v H1 x (px.same.trans s) ((Nw.rep px n r).same (a8.refl _) fun _ z=>z.2) q
noncomputable def Slot.nw:Slot->Prop
 | .own _=>True
 | .sh true _=>True
 | .sh false x=>flat x=true
noncomputable def nK (i:Nat):aJ:=fun D ρ=>∃ m,ρ[i]? = some (some m)/\m.nw/\D.rt m.val
theorem ah5 {i:Nat} (h:LS X (nK i) D σ H):pX (fS i) D σ H:=by
 obtain ⟨W,ρ,D',px,⟨m,hi,n,q⟩,k⟩:=h
 obtain ⟨v,ev,r⟩:=px.sl i _ hi
 refine⟨v,ev,k.rt v H _ px.same ?_ q⟩
 cases m with
 | own x=>
  obtain ⟨a,rfl,wa,r⟩:=r
  exact r.rep (fun _ z=>z.2) (px.wm a wa).1
 | sh g x=>
  cases g with
  | true=>exact a9.same r (a8.refl _) fun _ z=>z.2
  | false=>exact a9.flat n r
noncomputable def cN (c:bM) (t u:aJ):aJ:=fun D ρ=>c ρ fun b=>if b=true then t D ρ else u D ρ
theorem ah6 {c:bM} (h:LS X (cN c t u) D σ H):v7 (LT X c) (LS X t) (LS X u) D σ H:=by
 obtain ⟨W,ρ,D',px,q,k⟩:=h
 refine⟨W,ρ,_,px,q,fun b H1 s q1=>?_⟩
 cases b with
 | true=>exact bB ⟨W,ρ,D',px.mono s,by simpa using q1,k.step (Ev.same s)⟩
 | false=>exact aW ⟨W,ρ,D',px.mono s,by simpa using q1,k.step (Ev.same s)⟩
noncomputable def lT (c:bM) (tb:aJ):aJ:=fun D ρ=>∃ I:Nat->aX->Prop,(∃ m,I m ρ)/\∀ m ρ',I m ρ'->c ρ' fun b=>if b=true then tb { D with nx:=fun ρ2=>∃ m',m' < m/\I m' ρ2,ct:=fun ρ2=>∃ m',m' < m/\I m' ρ2,bk:=D.nx } ρ' else D.nx ρ'
theorem ah7 {c:bM}{tb:aJ} (h:LS X (lT c tb) D σ H):vD (LT X c) (LS X tb) D σ H:=by
 obtain ⟨W,ρ,D',px,⟨I,⟨m0,i0⟩,turn⟩,k⟩:=h
 refine⟨fun m σ2 H2=>∃ W2 ρ2,PX X.K X.H₀ W2 σ2 ρ2 H2/\Ev W H W2 H2/\I m ρ2,⟨m0,W,ρ,px,Ev.refl _ _,i0⟩,?_⟩
 rintro m σ2 H2 ⟨W2,ρ2,px2,e2,i2⟩
 refine⟨W2,ρ2,_,px2,turn m ρ2 i2,fun b H3 s3 q3=>?_⟩
 cases b with
 | true=>
  refine bB ⟨fun σ4 H4=>∃ W4 ρ4,PX X.K X.H₀ W4 σ4 ρ4 H4/\Ev W H W4 H4/\∃ m',m' < m/\I m' ρ4,fun σ4 H4 ⟨W4,ρ4,a,b,m',c,d⟩=>⟨m',c,W4,ρ4,a,b,d⟩,W2,ρ2,_,px2.mono s3,by simpa using q3,?_⟩
  have e3:Ev W H W2 H3:=e2.trans (Ev.same s3)
  exact⟨fun W' σ' H' ρ' e p q=>⟨W',ρ',p,e3.trans e,q⟩,k.rt,fun W' σ' H' ρ' e p q=>k.nx W' σ' H' ρ' (e3.trans e) p q,fun W' σ' H' ρ' e p q=>⟨W',ρ',p,e3.trans e,q⟩⟩
 | false=>exact aW (k.nx W2 σ2 H3 ρ2 (e2.trans (Ev.same s3)) (px2.mono s3) (by simpa using q3))
end
theorem lim {n:Nat} (h:n<=16000000):n<=sizeLine:=aU5 (gJ h)
theorem a9.sqT {K:PySem.W.Frag}{M:Addr->Prop}{H:Hp}{v:V}{xs:List PV} (r:a9 K M H v (.tup xs)):∃ a us,v = .ref a/\H a=some (.tup us)/\Reps K M H us xs:=by
 cases r with
 | tup e r=>exact⟨_,_,rfl,e,r⟩
theorem a9.sqL {K:PySem.W.Frag}{M:Addr->Prop}{H:Hp}{v:V}{xs:List PV} (r:a9 K M H v (.lst xs)):∃ a us,v = .ref a/\M a/\H a=some (.lst us)/\Reps K M H us xs:=by
 cases r with
 | lst m e r=>exact⟨_,_,rfl,m,e,r⟩
theorem gK.sqL {K:PySem.W.Frag}{H:Hp}{a:Addr}{ns:List Int} (h:gK K H a ns):aR K H a (ns.map V.int):=h.elim (fun z=>.inl (.inr z)) .inr
noncomputable def k6:PV->Option (List PV)
 | .tup xs=>some xs
 | .lst xs=>some xs
 | .scr ns=>some (intz ns)
 | .kt xs=>some xs
 | _=>none
theorem a9.seq {K:PySem.W.Frag}{M:Addr->Prop}{H:Hp}{v:V}{x:PV}{xs:List PV} (r:a9 K M H v x) (e:k6 x=some xs):∃ a us,v = .ref a/\(aR K H a us ∨ aO K H a us)/\Reps K M H us xs:=by
 cases r with
 | tup h r=>cases e; exact⟨_,_,rfl,.inr (aO.of h),r⟩
 | lst m h r=>cases e; exact⟨_,_,rfl,.inl (aR.of h),r⟩
 | scr h=>cases e; exact⟨_,_,rfl,.inl h.sqL,Reps.intz _⟩
 | kt h r=>cases e; exact⟨_,_,rfl,.inr (.inr h),r⟩
 | _=>cases e
section
variable {X : Cx} {σ : St} {H : Hp} {D : c9} {te ti to : aA} {t u : aJ} {Q' : VK}
theorem _root_.PP.PX.updL {K:PySem.W.Frag}{H0:Hp}{W:Addr->Prop}{σ:St}{ρ:aX}{H:Hp}{i:Nat}{a:Addr}{x:PV}{us:List V}{ys:List PV} (p:PX K H0 W σ ρ H) (hi:ρ[i]? = some (some (.own x))) (ha:σ[i]? = some (some (.ref a))) (wa:W a) (r:Reps K (Ms H0 W true) (upd H a (.lst us)) us ys) :
  PX K H0 W σ (ρ.set i (some (.own (.lst ys)))) (upd H a (.lst us)):=p.updOwn hi ha wa rfl (y:=.lst ys) ⟨us,bK,r⟩
noncomputable def k7 (i:Nat) (te:aA):aJ:=fun D ρ=>∃ xs,ρ[i]? = some (some (.own (.lst xs)))/\te ρ fun x g=>Nw g x/\xs.length < 16000000/\D.nx (ρ.set i (some (.own (.lst (xs ++ [x])))))
theorem ah8 {i:Nat} (h:LS X (k7 i te) D σ H):mR (qV X.K "list" qW (fS i) (iP (LE X te) jT)) D σ H:=by
 obtain ⟨W,ρ,D',px,⟨xs,hi,q⟩,k⟩:=h
 obtain ⟨v,ev,a,rfl,wa,us,ea,r⟩:=px.sl i _ hi
 refine⟨_,ev,lP (aR.of ea),W,ρ,_,px,q,?_⟩
 rintro w H1 x g s rx ⟨n,hl,q⟩
 have ea1:=s _ _ ea
 refine⟨a,us,w,rfl,rfl,ea1,gJ (by rw [r.length]; omega),?_⟩
 refine k.nx W σ _ _ ((Ev.same s).trans (Ev.upd wa)) ((px.mono s).updL hi ev wa ?_) q
 exact ((r.same s fun _ z=>z).append (.cons (Nw.rep px n rx) .nil)).keep (.upd ea1 rfl fun b m=>⟨iV wa m,m⟩)
noncomputable def rS (to te:aA):aJ:=fun D ρ=>to ρ fun x g=>∃ xs,g = .fr/\x = .lst xs/\xs.length < 16000000/\te ρ fun _ _=>D.nx ρ
theorem ah9 (h:LS X (rS to te) D σ H):mR (qV X.K "list" qW (LE X to) (iP (LE X te) jT)) D σ H:=by
 obtain ⟨W,ρ,D',px,q,k⟩:=h
 refine⟨W,ρ,_,px,q,?_⟩
 rintro v H1 x g s1 r1 ⟨xs,rfl,rfl,hl,q1⟩
 obtain ⟨a,us,rfl,m,ea,r⟩:=r1.sqL
 refine⟨lP (aR.of ea),W,ρ,_,px.mono s1,q1,fun w H2 y gy s2 r2 q2=>?_⟩
 refine⟨a,us,w,rfl,rfl,s2 _ _ ea,gJ (by rw [r.length]; omega),?_⟩
 have S:a8 H (upd H2 a (.lst (us ++ [w]))):=fun b o e=>by
  rw [aU (fun z=>by rw [z,show H a=none from m] at e; cases e)]
  exact s2 _ _ (s1 _ _ e)
 exact k.nx W σ _ ρ (Ev.same S) (px.mono S) q2
noncomputable def nL (i:Nat) (tk te:aA):aJ:=fun D ρ=>te ρ fun x g=>∃ xs,ρ[i]? = some (some (.own (.lst xs)))/\tk ρ fun y _=>∃ n j,y = .int n/\dZ xs.length n=some j/\Nw g x/\D.nx (ρ.set i (some (.own (.lst (xs.set j x)))))
theorem ai0 {i:Nat}{tk:aA} (h:LS X (nL i tk te) D σ H):gZ (LE X te) (qB (fS i) (LE X tk) qS) D σ H:=by
 obtain ⟨W,ρ,D',px,q,k⟩:=h
 refine⟨W,ρ,_,px,q,?_⟩
 rintro w H1 x g s rx ⟨xs,hi,q1⟩
 obtain ⟨v,ev,a,rfl,wa,us,ea,r⟩:=(px.mono s).sl i _ hi
 refine⟨_,ev,W,ρ,_,px.mono s,q1,?_⟩
 rintro kv H2 y gy s2 ry ⟨n,j,rfl,hj,nw,q2⟩
 cases ry
 have ea2:=s2 _ _ ea
 refine⟨a,us,n,j,rfl,rfl,ea2,by rw [r.length]; exact hj,?_⟩
 refine k.nx W σ _ _ ((Ev.same (s.trans s2)).trans (Ev.upd wa)) ((px.mono (s.trans s2)).updL hi ev wa ?_) q2
 exact (Reps.set ((Nw.rep px nw rx).same s2 fun _ z=>z) j (r.same s2 fun _ z=>z)).keep (.upd ea2 rfl fun b m=>⟨iV wa m,m⟩)
noncomputable def nM (i j:Nat):aJ:=fun D ρ=>∃ xs y,ρ[i]? = some (some (.own (.lst (xs ++ [y]))))/\D.nx ((ρ.set i (some (.own (.lst xs)))).set j (some (.sh true y)))
theorem Reps.snoc_inv {K:PySem.W.Frag}{M:Addr->Prop}{H:Hp}{us:List V}{xs:List PV}{y:PV} (r:Reps K M H us (xs ++ [y])):∃ vs v,us=vs ++ [v]/\Reps K M H vs xs/\a9 K M H v y:=by
 have l:=r.length
 have h1:=r.take xs.length
 have h2:=r.drop xs.length
 rw [List.take_left] at h1
 rw [List.drop_left] at h2
 generalize hd:us.drop xs.length=ds at h2
 cases h2 with
 | cons q t=>
  cases t
  exact⟨_,_,by rw [<- hd,aN9],h1,q⟩
theorem ai1 {i j:Nat} (h:LS X (nM i j) D σ H):gZ (wT X.K "list" wW (fS i)) (dX j) D σ H:=by
 obtain ⟨W,ρ,D',px,⟨xs,y,hi,q⟩,k⟩:=h
 obtain ⟨v,ev,a,rfl,wa,us,ea,r⟩:=px.sl i _ hi
 obtain ⟨vs,w,rfl,r1,ry⟩:=r.snoc_inv
 refine⟨_,ev,lP (aR.of ea),a,_,w,rfl,rfl,ea,by simp,?_⟩
 rw [List.dropLast_concat]
 have kp:fM (Ms X.H₀ W true) (Ms X.H₀ W true) H (upd H a (.lst vs)):=.upd ea rfl fun b m=>⟨iV wa m,m⟩
 exact k.nx W _ _ _ (Ev.upd wa) ((px.updL hi ev wa (r1.keep kp)).setSh (ry.keep kp)) q
end
theorem Reps.atI {K:PySem.W.Frag}{M:Addr->Prop}{H:Hp}{us:List V}{xs:List PV}{i:Int}{z:PV} (r:Reps K M H us xs) (h:L2.atI xs i=some z):∃ v,L2.atI us i=some v/\a9 K M H v z:=by
 unfold L2.atI at h ⊢
 rw [r.length]
 cases e:dZ xs.length i with
 | none=>rw [e] at h; cases h
 | some j=>rw [e] at h; exact r.at h
section
variable {X : Cx} {σ : St} {H : Hp} {Q' : VK} {ta tb te : aA} {tr : cB}
noncomputable def rT:PV->Tg->PV->Tg->PK->Prop:=fun x g y _ Q=>∃ xs i z,k6 x=some xs/\y = .int i/\L2.atI xs i=some z/\Q z g
theorem ai2:dH X rT (wP X.K):=by
 rintro W Hs H u v x y g g' Q Q' s n r1 r2 ⟨xs,i,z,e,rfl,hz,q⟩ k
 cases r2
 obtain ⟨a,us,rfl,hs,r⟩:=r1.seq e
 obtain ⟨v,hv,rv⟩:=r.atI hz
 rcases hs with hs | hs
 ·exact .inl ⟨a,us,i,v,rfl,rfl,hs,hv,k v H z g (a8.refl _) rv q⟩
 ·exact .inr (.inl ⟨a,us,i,v,rfl,rfl,hs,hv,k v H z g (a8.refl _) rv q⟩)
noncomputable def yF:PV->Option Nat
 | .tup xs=>some xs.length
 | .lst xs=>some xs.length
 | .scr ns=>some ns.length
 | .dK ps=>some ps.length
 | .kt xs=>some xs.length
 | _=>none
noncomputable def dQ:List PV->(PV->Prop)->Prop:=fun xs Q=>∃ x n,xs = [x]/\yF x=some n/\Q (.int n)
theorem Reps.one {K:PySem.W.Frag}{M:Addr->Prop}{H:Hp}{vs:List V}{x:PV} (r:Reps K M H vs [x]):∃ v,vs = [v]/\a9 K M H v x:=by
 cases r with
 | cons r t=>cases t; exact⟨_,rfl,r⟩
theorem Reps.two {K:PySem.W.Frag}{M:Addr->Prop}{H:Hp}{vs:List V}{x y:PV} (r:Reps K M H vs [x,y]):∃ v w,vs = [v,w]/\a9 K M H v x/\a9 K M H w y:=by
 cases r with
 | cons r t=>
  obtain ⟨w,rfl,q⟩:=t.one
  exact⟨_,_,rfl,r,q⟩
theorem ai3:gL X dQ (fun xs H Q=>(∃ p ys,xs = [.ref p]/\(aR X.K H p ys ∨ aO X.K H p ys)/\Q (.int ys.length) H) ∨ ∃ a kvs,xs = [V.ref a]/\H a=some (.dK kvs)/\Q (.int kvs.length) H):=by
 rintro H vs xs Q Q' r ⟨x,n,rfl,e,q⟩ k
 obtain ⟨v,rfl,r1⟩:=r.one
 have fin:∀ {m:Nat},m=n->Q' (.int m) H:=fun {m} z=>by rw [z]; exact k _ _ _ (a8.refl _) (.int _) q
 cases r1 with
 | tup h r2=>cases e; exact .inl ⟨_,_,rfl,.inr (aO.of h),fin r2.length⟩
 | lst m h r2=>cases e; exact .inl ⟨_,_,rfl,.inl (aR.of h),fin r2.length⟩
 | scr h=>cases e; exact .inl ⟨_,_,rfl,.inl h.sqL,fin (by rw [aL4])⟩
 | kt h r2=>cases e; exact .inl ⟨_,_,rfl,.inr (.inr h),fin r2.length⟩
 | dK m h e' r=>
  cases e
  refine .inr ⟨_,_,rfl,h,fin ?_⟩
  have:=congrArg List.length e'
  rw [aL4,aL4] at this
  exact this
 | _=>cases e
noncomputable def rV:PV->Option (List PV)
 | .kt _=>none
 | x=>k6 x
noncomputable def yG:List PV->(PV->Prop)->Prop:=fun xs Q=>∃ x ys,xs = [x]/\rV x=some ys/\flats ys=true/\Q (.tup ys)
theorem ai4:gL X (fun xs Q=>yG xs Q/\∀ ns,xs ≠ [.scr ns]) (fun xs H Q=>∃ p ys,xs = [.ref p]/\((aR X.K H p ys/\∀ l,H l=none->Q (.ref l) (upd H l (.tup ys))) ∨ (aO X.K H p ys/\Q (.ref p) H))):=by
 rintro H vs xs Q Q' r ⟨⟨x,ys,rfl,e,f,q⟩,nsc⟩ k
 obtain ⟨v,rfl,r1⟩:=r.one
 cases r1 with
 | tup h r2=>cases e; exact⟨_,_,rfl,.inr ⟨aO.of h,k _ _ _ (a8.refl _) (.tup h (r2.flat f)) q⟩⟩
 | lst m h r2=>cases e; exact⟨_,_,rfl,.inl ⟨aR.of h,fun l hl=>k _ _ _ (bH hl _) (.tup bK ((r2.flat f).same (bH hl _) fun _ z=>z)) q⟩⟩
 | scr h=>exact absurd rfl (nsc _)
 | _=>cases e
noncomputable def lU:List PV->(PV->Prop)->Prop:=fun xs Q=>∃ i j,xs = [.int i,.int j]/\Q (.int (if j < i then j else i))
noncomputable def nN:List PV->(PV->Prop)->Prop:=fun xs Q=>∃ i j,xs = [.int i,.int j]/\Q (.int (if j > i then j else i))
theorem ai5:gL X lU (fun xs H Q=>∃ i j,xs = [.int i,.int j]/\Q (.int (if j < i then j else i)) H):=by
 rintro H vs xs Q Q' r ⟨i,j,rfl,q⟩ k
 obtain ⟨v,w,rfl,r1,r2⟩:=r.two
 cases r1; cases r2
 exact⟨i,j,rfl,k _ _ _ (a8.refl _) (.int _) q⟩
theorem ai6:gL X nN (fun xs H Q=>∃ i j,xs = [.int i,.int j]/\Q (.int (if j > i then j else i)) H):=by
 rintro H vs xs Q Q' r ⟨i,j,rfl,q⟩ k
 obtain ⟨v,w,rfl,r1,r2⟩:=r.two
 cases r1; cases r2
 exact⟨i,j,rfl,k _ _ _ (a8.refl _) (.int _) q⟩
noncomputable abbrev bP:=List PV->(PV->Prop)->Prop
noncomputable def lV (K:PySem.W.Frag) (p:bP):Sp:=fun vs H Q _=>∃ xs Qp,Reps K (fun _=>True) H vs xs/\p xs Qp/\∀ v H' x,a8 H H'->a9 K (fun a=>H a=none) H' v x->Qp x->Q v H'
theorem ai7 {p:bP}{E:XK} (h:LE X (aK p tr) σ H Q'):qM (lV X.K p) [] E (LA X tr) σ H Q':=by
 obtain ⟨W,ρ,Q,px,q,k⟩:=h
 refine⟨W,ρ,_,px,q,fun vs H1 xs s1 r1 q1=>⟨_,_,by rw [aQ2]; exact r1.any,q1,fun v H' x s2 r2 q2=>k v H' x .fr (s1.trans s2) (r2.same (a8.refl _) fun _ z=>s1.free z) q2⟩⟩
noncomputable def ai8:PV->Option Bool
 | .non=>some false
 | .bl b=>some b
 | .int i=>some (i != 0)
 | .tup xs=>some (!xs.isEmpty)
 | .lst xs=>some (!xs.isEmpty)
 | .dK ps=>some (!ps.isEmpty)
 | _=>none
noncomputable def rW (t:aA):bM:=fun ρ Q=>t ρ fun x _=>∃ b,ai8 x=some b/\Q b
theorem rX {α β:Type}:∀ {l:List α}{m:List β},l.length=m.length->l.isEmpty=m.isEmpty
 | [],[],_=>rfl
 | _ :: _,_ :: _,_=>rfl
theorem ai9 {t:aA}{Qb:Bool->Hp->Prop} (h:LT X (rW t) σ H Qb):LE X t σ H fun x H'=>∃ k,qJ X.K x H' k/\Qb k H':=by
 obtain ⟨W,ρ,Q,px,q,k⟩:=h
 refine⟨W,ρ,_,px,q,?_⟩
 rintro v H1 x g s r ⟨b,e,q⟩
 refine⟨b,?_,k _ _ s q⟩
 cases r with
 | non=>cases e; rfl
 | bl b=>cases e; rfl
 | int i=>cases e; rfl
 | str x=>cases e
 | tup h r=>cases e; exact .inr (.inl ⟨_,aO.of h,by rw [rX r.length]⟩)
 | lst m h r=>cases e; exact .inl ⟨_,aR.of h,by rw [rX r.length]⟩
 | dK m h e' r=>
  cases e
  refine .inr (.inr ⟨_,h,?_⟩)
  have:=congrArg List.length e'
  rw [aL4,aL4] at this
  rw [rX this]
 | dT m h e' r=>cases e
 | scr h=>cases e
 | kt h r=>cases e
 | exc h e' c=>cases e
 | fK h e' r=>cases e
 | fT h e' r=>cases e
noncomputable def rY:PV->Bool
 | .non=>true
 | _=>false
noncomputable def rZ (neg:Bool):PV->Tg->PV->Tg->PK->Prop:=fun x _ y _ Q=>y = .non/\Q (.bl (if neg=true then !rY x else rY x)) .fr
theorem aj0 {K:PySem.W.Frag}{M:Addr->Prop}{H:Hp}{v:V}{x:PV} (r:a9 K M H v x):decide (v = .non)=rY x:=by
 cases r <;> rfl
theorem aj1:dH X (rZ true) (fun x y H Q=>y = .non/\Q (.bl (!decide (x = .non))) H):=by
 rintro W Hs H u v x y g g' Q Q' s n r1 r2 ⟨rfl,q⟩ k
 cases r2
 exact⟨rfl,by rw [aj0 r1]; exact k _ _ _ _ (a8.refl _) (.bl _) q⟩
end
structure nO (K:PySem.W.Frag) (H0:Hp) (W:Addr->Prop) (g:Bool) (H1:Hp) (J:It) (xs:List PV):Prop where
 go:∀ W' H' i,Ev W H1 W' H'->i < xs.length->J.go i H'
 yld:∀ W' H' i v H2,Ev W H1 W' H'->J.yld i H' v H2->i < xs.length->a8 H' H2/\∃ x,xs[i]? = some x/\a9 K (Ms H0 W' g) H2 v x
 stop:∀ W' H',Ev W H1 W' H'->J.stop xs.length H'
noncomputable abbrev eM:=aX->(List PV->Bool->Prop)->Prop
noncomputable def LI (X:Cx) (t:eM):TI:=fun σ H R=>∃ (W:Addr->Prop) (ρ:aX) (Q:List PV->Bool->Prop),PX X.K X.H₀ W σ ρ H/\t ρ Q/\∀ J H1 xs g,a8 H H1->nO X.K X.H₀ W g H1 J xs->Q xs g->R J H1
theorem Ev.keep {H0:Hp}{W W':Addr->Prop}{H H':Hp}{g:Bool} (e:Ev W H W' H') (tw:∀ a,W a->∃ o,H a=some o/\i4 o=true):fM (Ms H0 W g) (Ms H0 W' g) H H':=by
 have m:∀ {a:Addr}{o:HO},Ms H0 W g a->H a=some o->Ms H0 W' g a/\H' a=some o:=fun {a o} z h=>by
  cases g with
  | true=>
   obtain ⟨h1,h2⟩:=e a _ h z.1
   exact⟨⟨h2,z.2⟩,h1⟩
  | false=>
   obtain ⟨h1,h2⟩:=e a _ h z
   exact⟨h2,h1⟩
 refine⟨fun a _ z h=>m z h,fun a _ z h=>m z h,fun a _ z h=>m z h,fun a _ h=>(e a _ h fun z=>?_).1,fun a _ _ h=>(e a _ h fun z=>?_).1⟩
 ·obtain ⟨o,h',mu⟩:=tw a z; rw [h] at h'; cases h'; cases mu
 ·obtain ⟨o,h',mu⟩:=tw a z; rw [h] at h'; cases h'; cases mu
section
variable {X : Cx} {σ : St} {H : Hp} {te : aA} {tr : cB} {R : It → Hp → Prop}
noncomputable def yH (K:PySem.W.Frag) (tl:TE):TI:=fun σ H R=>tl σ H fun x H1=>∃ a,x = .ref a/\((∃ xs,aR K H1 a xs/\R (jR K a) H1) ∨ (∃ xs,aO K H1 a xs/\R (hB K a) H1))
noncomputable def yI:Tg->List PV->Bool
 | .fr,_=>true
 | .nw,_=>true
 | _,xs=>flats xs
noncomputable def gM (te:aA):eM:=fun ρ Q=>te ρ fun x g=>∃ xs,k6 x=some xs/\(g = .rd->flat x=true)/\Q xs (yI g xs)
theorem yJ {K:PySem.W.Frag}{H0:Hp}{W:Addr->Prop}{g:Bool}{H1:Hp}{a:Addr}{us:List V}{xs:List PV} (tw:∀ a,W a->∃ o,H1 a=some o/\i4 o=true) (ha:∀ W' H',Ev W H1 W' H'->aR K H' a us) (r:Reps K (Ms H0 W g) H1 us xs):nO K H0 W g H1 (jR K a) xs:=by
 have lr:=r.length
 refine⟨fun W' H' i e hi=>⟨us,us[i]'(by omega),ha W' H' e,by simp⟩,fun W' H' i v H2 e y hi=>?_,fun W' H' e=>⟨us,ha W' H' e,by omega⟩⟩
 obtain ⟨rfl,y⟩:=y
 obtain ⟨x,hx,rx⟩:=r.get (y us (ha W' _ e))
 exact⟨a8.refl _,x,hx,rx.keep (e.keep tw)⟩
theorem yK {K:PySem.W.Frag}{H0:Hp}{W:Addr->Prop}{g:Bool}{H1:Hp}{a:Addr}{us:List V}{xs:List PV} (tw:∀ a,W a->∃ o,H1 a=some o/\i4 o=true) (ha:∀ W' H',Ev W H1 W' H'->aO K H' a us) (r:Reps K (Ms H0 W g) H1 us xs):nO K H0 W g H1 (hB K a) xs:=by
 have lr:=r.length
 refine⟨fun W' H' i e hi=>⟨us,us[i]'(by omega),ha W' H' e,by simp⟩,fun W' H' i v H2 e y hi=>?_,fun W' H' e=>⟨us,ha W' H' e,by omega⟩⟩
 obtain ⟨rfl,y⟩:=y
 obtain ⟨x,hx,rx⟩:=r.get (y us (ha W' _ e))
 exact⟨a8.refl _,x,hx,rx.keep (e.keep tw)⟩
theorem nP {K:PySem.W.Frag}{H0 Hs H:Hp}{W:Addr->Prop}{σ:St}{ρ:aX}{g:Tg}{us:List V}{xs:List PV} (px:PX K H0 W σ ρ Hs) (hg:g = .rd->flats xs=true) (r:Reps K (Mg H0 W Hs g) H us xs):Reps K (Ms H0 W (yI g xs)) H us xs:=by
 cases g with
 | fr=>exact r.same (a8.refl _) fun _ z=>px.new z
 | nw=>exact r.same (a8.refl _) fun _ z=>z
 | sh=>
  show Reps K (Ms H0 W (flats xs)) H us xs
  cases e:flats xs with
  | true=>exact r.flat e
  | false=>exact r.same (a8.refl _) fun _ z=>z
 | rd=>exact r.flat (hg rfl)
theorem aj2 (h:LI X (gM te) σ H R):yH X.K (LE X te) σ H R:=by
 obtain ⟨W,ρ,Q,px,q,k⟩:=h
 refine⟨W,ρ,_,px,q,?_⟩
 rintro v H1 x g s r ⟨xs,e,hg,q⟩
 have px1:=px.mono s
 have tw:∀ a,W a->∃ o,H1 a=some o/\i4 o=true:=fun a z=>(px1.wm a z).2
 cases r with
 | tup h r=>
  cases e
  refine⟨_,rfl,.inr ⟨_,aO.of h,k _ _ _ _ s (yK tw (fun W' H' e=>aO.of (e _ _ h fun z=>?_).1) (nP px (fun z=>by have:=hg z; unfold flat at this; exact this) r)) q⟩⟩
  obtain ⟨o,h',mu⟩:=tw _ z; rw [h] at h'; cases h'; cases mu
 | @lst a us xs' m h r=>
  cases e
  have wa : ¬ W a:=by
   cases g with
   | fr=>exact (px.new m).1
   | nw=>exact m.1
   | sh=>exact m
   | rd=>have:=hg rfl; unfold flat at this; cases this
  exact⟨_,rfl,.inl ⟨_,aR.of h,k _ _ _ _ s (yJ tw (fun W' H' e=>aR.of (e _ _ h wa).1) (nP px (fun z=>by have:=hg z; unfold flat at this; cases this) r)) q⟩⟩
 | scr h=>
  cases e
  refine⟨_,rfl,.inl ⟨_,h.sqL,k _ _ _ _ s (yJ tw (fun W' H' e=>(gK.keep (fun a o u hz=>(e _ _ hz fun z=>?_).1) h).sqL) (nP (g:=g) px (fun z=>eJ _) (Reps.intz _))) q⟩⟩
  obtain ⟨o,h',mu⟩:=tw _ z; rw [hz] at h'; cases h'; cases mu
 | kt h r=>
  cases e
  exact⟨_,rfl,.inr ⟨_,.inr h,k _ _ _ _ s (yK tw (fun W' H' e=>.inr h) (nP px (fun z=>by have:=hg z; unfold flat at this; exact this) r)) q⟩⟩
 | _=>cases e
noncomputable def gN (lo:Int) (n:Nat):List PV:=(List.range n).map fun (i:Nat)=>PV.int (lo+(i:Int))
theorem fW (lo:Int) (n:Nat):(gN lo n).length=n:=by unfold gN; rw [aL4,List.length_range]
theorem yL {lo:Int}{n i:Nat} (h:i < n):(gN lo n)[i]? = some (.int (lo+i)):=by unfold gN; rw [aL9,List.getElem?_range h]; rfl
noncomputable def i7 (te:aA):eM:=fun ρ Q=>te ρ fun x _=>∃ j:Int,x = .int j/\-1000000<=j/\j<=1000000/\Q (gN 0 j.toNat) true
noncomputable def sA (ta tb:aA):eM:=fun ρ Q=>ta ρ fun x _=>tb ρ fun y _=>∃ i j:Int,x = .int i/\y = .int j/\(-1000000<=i/\i<=1000000/\-1000000<=j/\j<=1000000)/\Q (gN i (j - i).toNat) true
theorem yM {K:PySem.W.Frag}{H0:Hp}{W:Addr->Prop}{H1:Hp} (lo:Int) (n:Nat):nO K H0 W true H1 (lB lo n) (gN lo n):=by
 refine⟨fun W' H' i e hi=>by rw [fW] at hi; exact hi,fun W' H' i v H2 e y hi=>?_,fun W' H' e=>by show n<=(gN lo n).length; rw [fW]; exact aK4 _⟩
 rw [fW] at hi
 obtain ⟨rfl,rfl⟩:=y
 exact⟨a8.refl _,_,yL hi,.int _⟩
theorem aj3 (h:LI X (i7 te) σ H R):vI (iP (LE X te) jT) σ H R:=by
 obtain ⟨W,ρ,Q,px,q,k⟩:=h
 refine⟨W,ρ,_,px,q,?_⟩
 rintro v H1 x g s r ⟨j,rfl,h1,h2,q⟩
 cases r
 exact⟨j,rfl,by omega,by omega,k _ _ _ _ s (yM 0 j.toNat) q⟩
theorem aj4 {ta tb:aA} (h:LI X (sA ta tb) σ H R):vJ (iP (LE X ta) (iP (LE X tb) jT)) σ H R:=by
 obtain ⟨W,ρ,Q,px,q,k⟩:=h
 refine⟨W,ρ,_,px,q,fun v H1 x g s r q=>⟨W,ρ,_,px.mono s,q,?_⟩⟩
 rintro w H2 y g' s2 r2 ⟨i,j,rfl,rfl,h,q⟩
 cases r; cases r2
 exact⟨i,j,rfl,by omega,k _ _ _ _ (s.trans s2) (yM i (j - i).toNat) q⟩
end
noncomputable abbrev i8:=PV->Bool->aX->(aX->Prop)->Prop
noncomputable def lW (K:PySem.W.Frag) (own:Nat->Prop) (p:i8) (t:TG):Prop:=∀ (H0:Hp) (W:Addr->Prop) (σ:St) (ρ:aX) (H:Hp) (v:V) (x:PV) (g:Bool) (Q:aX->Prop) (Q':St->Hp->Prop),
 PX K H0 W σ ρ H->a9 K (Ms H0 W g) H v x->p x g ρ Q->(∀ σ' ρ',PX K H0 W σ' ρ' H->(∀ i,¬ own i->σ'[i]? = σ[i]?)->σ'.length=σ.length->Q ρ'->Q' σ' H)->t v σ H Q'
noncomputable def cJ (i:Nat):i8:=fun x g ρ Q=>Q (ρ.set i (some (.sh (g || flat x) x)))
theorem nQ {K:PySem.W.Frag}{H0 H:Hp}{W:Addr->Prop}{v:V}{x:PV}{g:Bool} (r:a9 K (Ms H0 W g) H v x):a9 K (Ms H0 W (g || flat x)) H v x:=by
 cases g with
 | true=>exact r
 | false=>
  show a9 K (Ms H0 W (flat x)) H v x
  cases e:flat x with
  | true=>exact r.flat e
  | false=>exact r
theorem nR (K:PySem.W.Frag) (i:Nat):lW K (· = i) (cJ i) (dX i):=by
 intro H0 W σ ρ H v x g Q Q' px r q k
 exact k _ _ (px.setSh (nQ r)) (fun j hj=>by rw [aN0 (Ne.symm hj)]) (aQ3 ..) q
noncomputable def nS (i j:Nat):i8:=fun x g ρ Q=>∃ y z,x = .tup [y,z]/\Q ((ρ.set i (some (.sh (g || flat y) y))).set j (some (.sh (g || flat z) z)))
theorem aj5 (K:PySem.W.Frag) (i j:Nat):lW K (fun k=>k=i ∨ k=j) (nS i j) (vB K 2 (qA (dX i) (qA (dX j) v9))):=by
 intro H0 W σ ρ H v x g Q Q' px r q k
 obtain ⟨y,z,rfl,q⟩:=q
 obtain ⟨a,us,rfl,h,r⟩:=r.sqT
 obtain ⟨u1,u2,rfl,r1,r2⟩:=r.two
 refine⟨a,_,rfl,aO.of h,rfl,u1,_,rfl,u2,_,rfl,rfl,k _ _ ((px.setSh (nQ r1)).setSh (nQ r2)) (fun k hk=>?_) (by rw [aQ3,aQ3]) q⟩
 rw [aN0 (fun e=>hk (.inr e.symm)),aN0 (fun e=>hk (.inl e.symm))]
section
variable {X : Cx} {σ : St} {H : Hp} {D : c9}
noncomputable def eN (ti:eM) (p:i8) (tb:aJ):aJ:=fun D ρ=>ti ρ fun xs g=>∃ I:Nat->aX->Prop,I 0 ρ/\(∀ i x ρ',xs[i]? = some x->I i ρ'->p x g ρ' fun ρ2=>tb { D with nx:=I (i+1),ct:=I (i+1),bk:=D.nx } ρ2)/\∀ ρ',I xs.length ρ'->D.nx ρ'
theorem aj6 {ti:eM}{p:i8}{g:TG}{tb:aJ}{own:Nat->Prop} (hg:lW X.K own p g) (h:LS X (eN ti p tb) D σ H):vK (LI X ti) g (LS X tb) D σ H:=by
 obtain ⟨W,ρ,D',px,q,k⟩:=h
 refine⟨W,ρ,_,px,q,?_⟩
 rintro J H1 xs gb s it ⟨I,i0,turn,fin⟩
 refine⟨fun i m σ2 H2=>m=xs.length - i/\i<=xs.length/\∃ W2 ρ2,PX X.K X.H₀ W2 σ2 ρ2 H2/\Ev W H1 W2 H2/\I i ρ2,⟨xs.length,by omega,aO1 _,W,ρ,px.mono s,Ev.refl _ _,i0⟩,?_⟩
 rintro i m σ2 H2 ⟨rfl,hi,W2,ρ2,px2,e2,i2⟩
 have e0:Ev W H W2 H2:=(Ev.same s).trans e2
 by_cases hlt:i < xs.length
 ·refine .inr ⟨it.go W2 H2 i e2 hlt,fun σ3 H3=>∃ W3 ρ3,PX X.K X.H₀ W3 σ3 ρ3 H3/\Ev W H1 W3 H3/\I (i+1) ρ3,fun σ3 H3 ⟨W3,ρ3,a,b,c⟩=>⟨xs.length - (i+1),by omega,rfl,hlt,W3,ρ3,a,b,c⟩,fun v H3 y=>?_⟩
  obtain ⟨s3,x,hx,rx⟩:=it.yld W2 H2 i v H3 e2 y hlt
  refine hg X.H₀ W2 σ2 ρ2 H3 v x gb _ _ (px2.mono s3) rx (turn i x ρ2 hx i2) fun σ4 ρ4 px4 _ _ q4=>?_
  have e3:Ev W H1 W2 H3:=e2.trans (Ev.same s3)
  have e3':Ev W H W2 H3:=e0.trans (Ev.same s3)
  exact⟨W2,ρ4,_,px4,q4,fun W' σ' H' ρ' e p q=>⟨W',ρ',p,e3.trans e,q⟩,k.rt,fun W' σ' H' ρ' e p q=>k.nx W' σ' H' ρ' (e3'.trans e) p q,fun W' σ' H' ρ' e p q=>⟨W',ρ',p,e3.trans e,q⟩⟩
 ·have e:i=xs.length:=by omega
  subst e
  exact .inl ⟨it.stop W2 H2 e2,k.nx W2 σ2 H2 ρ2 e0 px2 (fin ρ2 i2)⟩
end
noncomputable def k8 (fr:List (Option Nat)) (ρ:aX):aX:=fr.map fun o=>o.bind fun j=>(ρ[j]?).join.map fun m=>Slot.sh false m.val
noncomputable def iX (D:Addr):Addr->Prop:=fun a=>a=D
theorem aj7 {K:PySem.W.Frag}{H0:Hp}{W:Addr->Prop}{σ:St}{ρ:aX}{H1 H':Hp}{D:Addr}{acc:List V}{fr:List (Option Nat)} (px:PX K H0 W σ ρ H1) (hD:H1 D=none) (s:a8 H1 H') (ha:H' D=some (.lst acc)) :
  PX K H1 (iX D) (eB fr σ) (k8 fr ρ) H':=by
 have old:∀ {a:Addr}{o:HO},H1 a=some o->a ≠ D:=fun {a o} e z=>by rw [z,hD] at e; cases e
 refine⟨by unfold eB k8; rw [aL4,aL4],s,fun a z=>by cases z; exact⟨hD,_,ha,rfl⟩,fun i m h=>?_,fun i j x y a h1=>?_⟩
 ·unfold k8 at h
  rw [aL9] at h
  cases ef:fr[i]? with
  | none=>rw [ef] at h; cases h
  | some o=>
   rw [ef] at h
   cases o with
   | none=>cases h
   | some j=>
    have h:some ((ρ[j]?).join.map fun m=>Slot.sh false m.val)=some (some m):=h
    cases er:ρ[j]? with
    | none=>rw [er] at h; cases h
    | some o=>
     rw [er] at h
     cases o with
     | none=>cases h
     | some m0=>
      cases h
      obtain ⟨v,ev,r⟩:=px.sl j m0 er
      refine⟨v,?_,?_⟩
      ·unfold eB
       rw [aL9,ef]
       show some ((σ[j]?).join)=_
       rw [ev]; rfl
      ·have r':a9 K (fun _=>True) H1 v m0.val:=(xW (Hs:=H1) r).same (a8.refl _) fun _ _=>trivial
       exact r'.keep ⟨fun a _ _ e=>⟨old e,s _ _ e⟩,fun a _ _ e=>⟨old e,s _ _ e⟩,fun a _ _ e=>⟨old e,s _ _ e⟩,fun _ _ e=>s _ _ e,fun _ _ _ e=>s _ _ e⟩
 ·unfold k8 at h1
  rw [aL9] at h1
  cases ef:fr[i]? with
  | none=>rw [ef] at h1; cases h1
  | some o=>
   rw [ef] at h1
   cases o with
   | none=>cases h1
   | some j=>
    have h1:some ((ρ[j]?).join.map fun m=>Slot.sh false m.val)=some (some (Slot.own x)):=h1
    cases er:ρ[j]? with
    | none=>rw [er] at h1; cases h1
    | some o=>
     rw [er] at h1
     cases o with
     | none=>cases h1
     | some m0=>cases h1
section
variable {X : Cx} {σ : St} {H : Hp} {Q' : VK}
noncomputable abbrev _root_.L2.Cx.frm (X:Cx) (H1:Hp):Cx:={ X with H₀:=H1 }
noncomputable def gO (ti:eM) (fr:List (Option Nat)) (p:i8) (tc:bM) (te:aA):aA:=fun ρ Q=>ti ρ fun xs g=>xs.length<=16000000/\∃ I:Nat->List PV->Prop,I 0 []/\
 (∀ i x acc,xs[i]? = some x->I i acc->p x false (k8 fr ρ) fun ρ2=>tc ρ2 fun b=>if b=true then te ρ2 fun y gy=>Nw gy y/\I (i+1) (acc ++ [y]) else I (i+1) acc)/\∀ acc,I xs.length acc->Q (.lst acc) .fr
theorem sB {ti:eM}{fr:List (Option Nat)}{p:i8}{g:TG}{tc:bM}{te:aA}{own:Nat->Prop} (hg:lW X.K own p g) (ho:∀ i,own i->fr[i]? = some none) (h:LE X (gO ti fr p tc te) σ H Q') :
  rK (LI X ti) fr (fun _=>g) (fun H1=>LT (X.frm H1) tc) (fun H1=>LE (X.frm H1) te) σ H Q':=by
 obtain ⟨W,ρ,Q,px,q,k⟩:=h
 refine⟨W,ρ,_,px,q,?_⟩
 rintro J H1 xs gb s it ⟨hl,I,i0,turn,fin⟩ D hD
 have px1:=px.mono s
 refine⟨fun i m acc H'=>m=xs.length - i/\i<=xs.length/\a8 H1 H'/\H' D=some (.lst acc)/\∃ ys,Reps X.K (Ms H1 (iX D) true) H' acc ys/\ys.length<=i/\I i ys,⟨xs.length,by omega,aO1 _,bH hD _,bK,[],.nil,aK4 _,i0⟩,?_⟩
 rintro i m acc H' ⟨rfl,hi,sm,ha,ys,ry,hy,iy⟩
 refine⟨ha,?_⟩
 have ev:Ev W H1 (k4 W D) H':=Ev.own sm hD
 by_cases hlt:i < xs.length
 ·refine .inr ⟨it.go _ H' i ev hlt,fun v H2 y=>?_⟩
  obtain ⟨s2,x,hx,rx⟩:=it.yld _ H' i v H2 ev y hlt
  have ha2:=s2 _ _ ha
  have pxb:PX X.K H1 (iX D) (eB fr σ) (k8 fr ρ) H2:=aj7 px1 hD (sm.trans s2) ha2
  have rx':a9 X.K (Ms H1 (iX D) false) H2 v x:=rx.same (a8.refl _) fun a z=>by
   cases gb with
   | true=>exact fun e=>z.1 (.inr e)
   | false=>exact fun e=>z (.inr e)
  refine hg H1 (iX D) _ _ H2 v x false _ _ pxb rx' (turn i x ys hx iy) fun σ2 ρ2 px2 hown hlen q2=>⟨⟨hlen.symm,fun j w e=>?_⟩,?_⟩
  ·by_cases oj:own j
   ·have:=ho j oj
    unfold eB at e
    rw [aL9,this] at e
    cases e
   ·rw [hown j oj]; exact e
  ·refine⟨iX D,ρ2,_,px2,q2,fun b H4 s4 q4=>?_⟩
   have ha4:=s4 _ _ ha2
   have sm4:=(sm.trans s2).trans s4
   cases b with
   | false=>
    refine aW ⟨xs.length - (i+1),by omega,rfl,hlt,sm4,ha4,ys,ry.same (s2.trans s4) fun _ z=>z,by omega,by simpa using q4⟩
   | true=>
    refine bB ⟨iX D,ρ2,_,px2.mono s4,by simpa using q4,?_⟩
    rintro w H5 y gy s5 ryy ⟨nw,q5⟩
    have ha5:=s5 _ _ ha4
    have lr:=ry.length
    refine⟨ha5,gJ (by omega),xs.length - (i+1),by omega,rfl,hlt,fun b o e=>?_,bK,ys ++ [y],?_,by rw [aL1,aN2]; omega,q5⟩
    ·rw [aU (fun z=>by rw [z,hD] at e; cases e)]
     exact s5 _ _ (sm4 _ _ e)
    ·exact ((ry.same ((s2.trans s4).trans s5) fun _ z=>z).append (.cons (Nw.rep (px2.mono s4) nw ryy) .nil)).keep (.upd ha5 rfl fun b m=>⟨m.1,m⟩)
 ·have e:i=xs.length:=by omega
  subst e
  refine .inl ⟨it.stop _ H' ev,k _ H' _ .fr (s.trans sm) (.lst (s.free hD) ha (ry.same (a8.refl _) fun _ z=>s.free z.2)) (fin ys iy)⟩
noncomputable def k9:bM:=fun _ Q=>Q true
theorem aj8 {Qb:Bool->Hp->Prop} (h:LT X k9 σ H Qb):rF σ H Qb:=by
 obtain ⟨W,ρ,Q,px,q,k⟩:=h
 exact k _ _ (a8.refl _) q
end
section
variable {κ : Type} [DecidableEq κ]
noncomputable def dR (ps:List (κ × PV)) (k:κ):Option PV:=(ps.find? fun p=>decide (p.1=k)).map (·.2)
noncomputable def cO (ps:List (κ × PV)) (k:κ) (x:PV):List (κ × PV):=if (ps.any fun p=>decide (p.1=k))=true then ps.map (fun p=>if p.1=k then (p.1,x) else p) else ps ++ [(k,x)]
variable {K : PySem.W.Frag} {M : Addr → Prop} {H : Hp}
theorem gP (k:κ):∀ {kvs:List (κ × V)}{ps:List (κ × PV)},kvs.map (·.1)=ps.map (·.1)->Reps K M H (kvs.map (·.2)) (ps.map (·.2))->(dR ps k=none->dO kvs k=none)/\∀ x,dR ps k=some x->∃ v,dO kvs k=some v/\a9 K M H v x
 | [],[],_,_=>⟨fun _=>rfl,fun x h=>by cases h⟩
 | [],_ :: _,e,_=>by cases e
 | _ :: _,[],e,_=>by cases e
 | (k1,v) :: kvs,(k2,x) :: ps,e,r=>by
  injection e with e1 e2
  have e1:k1=k2:=e1
  subst e1
  cases r with
  | cons r t=>
   obtain ⟨h1,h2⟩:=gP k e2 t
   unfold dR dO at h1 h2 ⊢
   by_cases e:k1=k
   ·simp only [aT5,e,decide_true,Option.map_some]
    exact⟨fun z=>(by cases z),fun y z=>(by cases z; exact⟨v,rfl,r⟩)⟩
   ·simp only [aT5,e,decide_false]
    exact⟨h1,h2⟩
theorem aj9 (k:κ) {kvs:List (κ × V)}{ps:List (κ × PV)} (e:kvs.map (·.1)=ps.map (·.1)):(kvs.any fun p=>decide (p.1=k))=ps.any fun p=>decide (p.1=k):=by
 have h1:(kvs.any fun p=>decide (p.1=k))=(kvs.map (·.1)).any fun z=>decide (z=k):=by rw [List.any_map]; rfl
 have h2:(ps.any fun p=>decide (p.1=k))=(ps.map (·.1)).any fun z=>decide (z=k):=by rw [List.any_map]; rfl
 rw [h1,h2,e]
theorem yN (k:κ) {w:V}{y:PV} (q:a9 K M H w y):∀ {kvs:List (κ × V)}{ps:List (κ × PV)},kvs.map (·.1)=ps.map (·.1)->Reps K M H (kvs.map (·.2)) (ps.map (·.2))->
  (kvs.map fun kv=>if kv.1=k then (kv.1,w) else kv).map (·.1)=(ps.map fun kv=>if kv.1=k then (kv.1,y) else kv).map (·.1)/\Reps K M H ((kvs.map fun kv=>if kv.1=k then (kv.1,w) else kv).map (·.2)) ((ps.map fun kv=>if kv.1=k then (kv.1,y) else kv).map (·.2))
 | [],[],_,_=>⟨rfl,.nil⟩
 | [],_ :: _,e,_=>by cases e
 | _ :: _,[],e,_=>by cases e
 | (k1,v) :: kvs,(k2,x) :: ps,e,r=>by
  injection e with e1 e2
  have e1:k1=k2:=e1
  subst e1
  cases r with
  | cons r t=>
   obtain ⟨h1,h2⟩:=yN k q e2 t
   by_cases e:k1=k
   ·simp only [aP4,e,if_true]
    exact⟨by rw [h1],.cons q h2⟩
   ·simp only [aP4,e,aR7]
    exact⟨by rw [h1],.cons r h2⟩
theorem yO (k:κ) {w:V}{y:PV} (q:a9 K M H w y) {kvs:List (κ × V)}{ps:List (κ × PV)} (e:kvs.map (·.1)=ps.map (·.1)) (r:Reps K M H (kvs.map (·.2)) (ps.map (·.2))) :
  (dP kvs k w).map (·.1)=(cO ps k y).map (·.1)/\Reps K M H ((dP kvs k w).map (·.2)) ((cO ps k y).map (·.2)):=by
 unfold dP cO
 rw [aj9 k e]
 split
 ·exact yN k q e r
 ·rw [aS0,aS0,aS0,aS0,e]
  exact⟨rfl,r.append (.cons q .nil)⟩
end
noncomputable def kP:a7->PV
 | .inl i=>.int i
 | .inr x=>.str x
theorem sC {K:PySem.W.Frag}{M:Addr->Prop}{H:Hp}{v:V}{k:a7} (r:a9 K M H v (kP k)):v=kV k:=by
 cases k with
 | inl i=>cases r; rfl
 | inr x=>cases r; rfl
theorem nT {K:PySem.W.Frag}{M:Addr->Prop}{H:Hp}:∀ {ks:List a7}{us:List V},Reps K M H us (ks.map kP)->us=ks.map kV
 | [],_,.nil=>rfl
 | k :: r,_,.cons q t=>by rw [sC q,nT t]; rfl
noncomputable def yP:PV->PV
 | .fK ps=>.dK ps
 | .fT ps=>.dT ps
 | x=>x
noncomputable def nU (x y:PV) (o:Option PV):Prop:=(∃ ps k,yP x = .dK ps/\y=kP k/\o=dR ps k) ∨ (∃ ps k,yP x = .dT ps/\y = .tup (k.map kP)/\o=dR ps k)
theorem sD {K:PySem.W.Frag}{M M2:Addr->Prop}{H:Hp}{v w:V}{x y:PV}{o:Option PV} (h:nU x y o) (rx:a9 K M H v x) (ry:a9 K M2 H w y):∃ a o',v = .ref a/\e8 H a w o'/\(o=none->o'=none)/\∀ z,o=some z->∃ u,o'=some u/\a9 K M H u z:=by
 rcases h with ⟨ps,k,ex,rfl,rfl⟩ | ⟨ps,k,ex,rfl,rfl⟩
 ·obtain rfl:=sC ry
  cases rx with
  | dK m h e r=>cases ex; exact⟨_,_,rfl,e8.k h,(gP k e r).1,(gP k e r).2⟩
  | fK h e r=>cases ex; exact⟨_,_,rfl,.inl ⟨_,k,.inr ⟨_,h⟩,rfl,rfl⟩,(gP k e r).1,(gP k e r).2⟩
  | _=>cases ex
 ·obtain ⟨b,us,rfl,hb,rb⟩:=ry.sqT
  obtain rfl:=nT rb
  cases rx with
  | dT m h e r=>cases ex; exact⟨_,_,rfl,e8.t h hb,(gP k e r).1,(gP k e r).2⟩
  | fT h e r=>cases ex; exact⟨_,_,rfl,.inr ⟨_,k,b,.inr ⟨_,h⟩,rfl,hb,rfl⟩,(gP k e r).1,(gP k e r).2⟩
  | _=>cases ex
section
variable {X : Cx} {σ : St} {H : Hp} {D : c9} {tk td te : aA} {Q' : VK}
noncomputable def iY (neg:Bool) (tk td:aA):aA:=fun ρ Q=>tk ρ fun y _=>td ρ fun x _=>∃ o,nU x y o/\Q (.bl (if neg=true then !o.isSome else o.isSome)) .fr
theorem yQ {α β:Type}{o:Option α}{o':Option β}{P:β->α->Prop} (h1:o=none->o'=none) (h2:∀ z,o=some z->∃ u,o'=some u/\P u z):o'.isSome=o.isSome:=by
 cases o with
 | none=>rw [h1 rfl]; rfl
 | some z=>obtain ⟨u,e,_⟩:=h2 z rfl; rw [e]; rfl
theorem ak0 (h:LE X (iY false tk td) σ H Q'):x8 (LE X tk) (LE X td) σ H Q':=by
 obtain ⟨W,ρ,Q,px,q,k⟩:=h
 refine⟨W,ρ,_,px,q,fun w H1 y g s r q=>⟨W,ρ,_,px.mono s,q,?_⟩⟩
 rintro v H2 x g' s2 r2 ⟨o,ak,q⟩
 obtain ⟨a,o',rfl,dg,h1,h2⟩:=sD ak r2 (r.same s2 fun _ z=>z)
 refine⟨a,o',rfl,dg,?_⟩
 rw [yQ h1 h2]
 exact k _ _ _ .fr (s.trans s2) (.bl _) q
theorem ak1 (h:LE X (iY true tk td) σ H Q'):x9 (LE X tk) (LE X td) σ H Q':=by
 obtain ⟨W,ρ,Q,px,q,k⟩:=h
 refine⟨W,ρ,_,px,q,fun w H1 y g s r q=>⟨W,ρ,_,px.mono s,q,?_⟩⟩
 rintro v H2 x g' s2 r2 ⟨o,ak,q⟩
 obtain ⟨a,o',rfl,dg,h1,h2⟩:=sD ak r2 (r.same s2 fun _ z=>z)
 refine⟨a,o',rfl,dg,?_⟩
 rw [yQ h1 h2]
 exact k _ _ _ .fr (s.trans s2) (.bl _) q
noncomputable def i9 (td tk:aA):aA:=fun ρ Q=>td ρ fun x g=>tk ρ fun y _=>∃ z,nU x y (some z)/\Q z g
theorem ak2 (h:LE X (i9 td tk) σ H Q'):x6 (LE X td) (LE X tk) σ H Q':=by
 obtain ⟨W,ρ,Q,px,q,k⟩:=h
 refine⟨W,ρ,_,px,q,fun v H1 x g s r q=>⟨W,ρ,_,px.mono s,q,?_⟩⟩
 rintro w H2 y g' s2 r2 ⟨z,ak,q⟩
 obtain ⟨a,o',rfl,dg,h1,h2⟩:=sD ak (r.same s2 fun _ z=>z) r2
 obtain ⟨u,rfl,ru⟩:=h2 z rfl
 exact⟨a,u,rfl,dg,k _ _ _ g (s.trans s2) ru q⟩
theorem PX.updD {K:PySem.W.Frag}{H0:Hp}{W:Addr->Prop}{σ:St}{ρ:aX}{H:Hp}{i:Nat}{a:Addr}{x:PV}{kvs:List (a7 × V)}{ps:List (a7 × PV)} (p:PX K H0 W σ ρ H) (hi:ρ[i]? = some (some (.own x))) (ha:σ[i]? = some (some (.ref a))) (wa:W a)
  (r:kvs.map (·.1)=ps.map (·.1)/\Reps K (Ms H0 W true) (upd H a (.dK kvs)) (kvs.map (·.2)) (ps.map (·.2))):PX K H0 W σ (ρ.set i (some (.own (.dK ps)))) (upd H a (.dK kvs)):=p.updOwn hi ha wa rfl (y:=.dK ps) ⟨kvs,bK,r⟩
theorem PX.updT {K:PySem.W.Frag}{H0:Hp}{W:Addr->Prop}{σ:St}{ρ:aX}{H:Hp}{i:Nat}{a:Addr}{x:PV}{kvs:List (List a7 × V)}{ps:List (List a7 × PV)} (p:PX K H0 W σ ρ H) (hi:ρ[i]? = some (some (.own x))) (ha:σ[i]? = some (some (.ref a))) (wa:W a)
  (r:kvs.map (·.1)=ps.map (·.1)/\Reps K (Ms H0 W true) (upd H a (.dT kvs)) (kvs.map (·.2)) (ps.map (·.2))):PX K H0 W σ (ρ.set i (some (.own (.dT ps)))) (upd H a (.dT kvs)):=p.updOwn hi ha wa rfl (y:=.dT ps) ⟨kvs,bK,r⟩
theorem yR {κ α β:Type}{l:List (κ × α)}{m:List (κ × β)} (e:l.map (·.1)=m.map (·.1)):l.length=m.length:=by
 have:=congrArg List.length e
 rw [aL4,aL4] at this
 exact this
noncomputable def nV (i:Nat) (tk te:aA):aJ:=fun D ρ=>te ρ fun z g=>∃ ps,ρ[i]? = some (some (.own (.dK ps)))/\tk ρ fun y _=>∃ k,y=kP k/\Nw g z/\ps.length < 16000000/\D.nx (ρ.set i (some (.own (.dK (cO ps k z)))))
noncomputable def lX (i:Nat) (tk te:aA):aJ:=fun D ρ=>te ρ fun z g=>∃ ps,ρ[i]? = some (some (.own (.dT ps)))/\tk ρ fun y _=>∃ k,y = .tup (k.map kP)/\Nw g z/\ps.length < 16000000/\D.nx (ρ.set i (some (.own (.dT (cO ps k z)))))
theorem ak3 {i:Nat} (h:LS X (nV i tk te) D σ H):r9 (fS i) (LE X tk) (LE X te) D σ H:=by
 obtain ⟨W,ρ,D',px,q,k⟩:=h
 refine⟨W,ρ,_,px,q,?_⟩
 rintro w H1 z g s rz ⟨ps,hi,q⟩
 obtain ⟨v,ev,a,rfl,wa,kvs,ea,e1,r⟩:=(px.mono s).sl i _ hi
 refine⟨_,ev,W,ρ,_,px.mono s,q,?_⟩
 rintro kv H2 y g' s2 ry ⟨kk,rfl,nw,hl,q⟩
 obtain rfl:=sC ry
 have ea2:=s2 _ _ ea
 refine⟨a,_,rfl,hZ.k ea2 (gJ (by rw [yR e1]; omega)),?_⟩
 refine k.nx W σ _ _ ((Ev.same (s.trans s2)).trans (Ev.upd wa)) ((px.mono (s.trans s2)).updD hi ev wa ?_) q
 obtain ⟨h1,h2⟩:=yO kk ((Nw.rep px nw rz).same s2 fun _ z=>z) e1 (r.same s2 fun _ z=>z)
 exact⟨h1,h2.keep (.upd ea2 rfl fun b m=>⟨iV wa m,m⟩)⟩
theorem ak4 {i:Nat} (h:LS X (lX i tk te) D σ H):r9 (fS i) (LE X tk) (LE X te) D σ H:=by
 obtain ⟨W,ρ,D',px,q,k⟩:=h
 refine⟨W,ρ,_,px,q,?_⟩
 rintro w H1 z g s rz ⟨ps,hi,q⟩
 obtain ⟨v,ev,a,rfl,wa,kvs,ea,e1,r⟩:=(px.mono s).sl i _ hi
 refine⟨_,ev,W,ρ,_,px.mono s,q,?_⟩
 rintro kv H2 y g' s2 ry ⟨kk,rfl,nw,hl,q⟩
 obtain ⟨b,us,rfl,hb,rb⟩:=ry.sqT
 obtain rfl:=nT rb
 have ea2:=s2 _ _ ea
 refine⟨a,_,rfl,hZ.t ea2 hb (gJ (by rw [yR e1]; omega)),?_⟩
 refine k.nx W σ _ _ ((Ev.same (s.trans s2)).trans (Ev.upd wa)) ((px.mono (s.trans s2)).updT hi ev wa ?_) q
 obtain ⟨h1,h2⟩:=yO kk ((Nw.rep px nw rz).same s2 fun _ z=>z) e1 (r.same s2 fun _ z=>z)
 exact⟨h1,h2.keep (.upd ea2 rfl fun b m=>⟨iV wa m,m⟩)⟩
theorem ak5 (h:LE X (qC (.dK [])) σ H Q'):xB σ H Q':=by
 obtain ⟨W,ρ,Q,px,q,k⟩:=h
 exact fun p hp=>k _ _ _ .fr (bH hp _) (.dK hp bK rfl .nil) q
theorem ak6 (h:LE X (qC (.dT [])) σ H Q'):xC σ H Q':=by
 obtain ⟨W,ρ,Q,px,q,k⟩:=h
 exact fun p hp=>k _ _ _ .fr (bH hp _) (.dT hp bK rfl .nil) q
end
noncomputable def bQ:Nat->PV->PV->Bool
 | _,.non,.non=>true
 | _,.bl a,.bl b=>a == b
 | _,.int a,.int b=>a == b
 | _,.str a,.str b=>a == b
 | n+1,.tup xs,.tup ys=>(xs.zip ys).all (fun p=>bQ n p.1 p.2) && xs.length == ys.length
 | n+1,.lst xs,.lst ys=>(xs.zip ys).all (fun p=>bQ n p.1 p.2) && xs.length == ys.length
 | n+1,.kt xs,.kt ys=>(xs.zip ys).all (fun p=>bQ n p.1 p.2) && xs.length == ys.length
 | _,_,_=>false
noncomputable def cZ:Nat->PV->PV->Bool
 | _,.non,.non=>true
 | _,.bl _,.bl _=>true
 | _,.int _,.int _=>true
 | _,.str _,.str _=>true
 | _,.non,.int _=>true
 | _,.int _,.non=>true
 | n+1,.tup xs,.tup ys=>(xs.zip ys).all (fun p=>cZ n p.1 p.2)
 | n+1,.lst xs,.lst ys=>(xs.zip ys).all (fun p=>cZ n p.1 p.2)
 | n+1,.kt xs,.kt ys=>(xs.zip ys).all (fun p=>cZ n p.1 p.2)
 | _+1,.non,.tup _=>true
 | _+1,.tup _,.non=>true
 | _,_,_=>false
theorem ak7 (n:Nat) (a b:Int):bQ n (.int a) (.int b)=(a == b):=by cases n <;> rfl
theorem sE (n:Nat):∀ (a b:List Int),((((intz a).zip (intz b)).all fun p=>bQ n p.1 p.2) && (intz a).length == (intz b).length)=decide (a=b)
 | [],[]=>rfl
 | [],_ :: _=>by simp
 | _ :: _,[]=>by simp
 | x :: a,y :: b=>by
  have ih:=sE n a b
  simp only [aP4,List.zip_cons_cons,List.all_cons,aP6,ak7] at ih ⊢
  by_cases e:x=y
  ·subst e
   have:((intz a).length+1 == (intz b).length+1)=((intz a).length == (intz b).length):=by simp
   rw [this,aR2,Bool.true_and,ih]
   simp
  ·have:(x == y)=false:=aW3.mpr e
   rw [this,Bool.false_and,Bool.false_and]
   simp [e]
theorem ak8 (n:Nat) (a b:List Int):bQ (n+1) (.tup (intz a)) (.tup (intz b))=decide (a=b):=sE n a b
theorem ak9 (n:Nat) (a b:List Int):bQ (n+1) (.lst (intz a)) (.lst (intz b))=decide (a=b):=sE n a b
theorem sF (n:Nat):∀ (a b:List Int),(((intz a).zip (intz b)).all fun p=>cZ n p.1 p.2)=true
 | [],_=>by simp
 | _ :: _,[]=>by simp
 | x :: a,y :: b=>by
  simp only [aP4,List.zip_cons_cons,List.all_cons,sF n a b,Bool.and_true]
  cases n <;> rfl
theorem al0 (n:Nat) (a b:List Int):cZ (n+1) (.tup (intz a)) (.tup (intz b))=true:=sF n a b
theorem al1 (n:Nat) (a b:List Int):cZ (n+1) (.lst (intz a)) (.lst (intz b))=true:=sF n a b
noncomputable def nW (ta:aA):aA:=fun ρ Q=>ta ρ fun x _=>∃ i,x = .int i/\Q (.int (-i)) .fr
noncomputable def sG (neg:Bool):PV->Tg->PV->Tg->PK->Prop:=fun x _ y _ Q=>∃ i ns,x = .int i/\k6 y=some (intz ns)/\Q (.bl (if neg=true then !decide (i ∈ ns) else decide (i ∈ ns))) .fr
noncomputable def yT:PV->Option String
 | .non=>some "NoneType"
 | .bl _=>some "bool"
 | .int _=>some "int"
 | .str _=>some "str"
 | .tup _=>some "tuple"
 | .kt _=>some "tuple"
 | .lst _=>some "list"
 | _=>none
noncomputable def gQ (K:PySem.W.Frag) (n:String) (te:aA):aA:=fun ρ Q=>te ρ fun x _=>∃ T b,yT x=some T/\PySem.W.kitOne K (.type T) (.type n)=some b/\Q (.bl b) .fr
noncomputable def lY (n:Nat) (neg:Bool):PV->Tg->PV->Tg->PK->Prop:=fun x _ y _ Q=>((∃ xs ys,x = .tup xs/\y = .tup ys) ∨ (∃ xs ys,x = .lst xs/\y = .lst ys))/\cZ (n+1) x y=true/\Q (.bl (if neg=true then !bQ (n+1) x y else bQ (n+1) x y)) .fr
noncomputable abbrev kA:=aX->(Option Int->Prop)->Prop
noncomputable def dI (xs:List PV) (lo hi:Option Int):List PV:=(xs.drop (HT.aM xs.length 0 lo)).take (HT.aM xs.length xs.length hi - HT.aM xs.length 0 lo)
noncomputable def sH:PV->List PV->PV
 | .tup _,ys=>.tup ys
 | .kt _,ys=>.tup ys
 | _,ys=>.lst ys
noncomputable def iZ:kA:=fun _ Q=>Q none
noncomputable def j4 (te:aA):kA:=fun ρ Q=>te ρ fun x _=>∃ i,x = .int i/\Q (some i)
noncomputable def j5 (te:aA) (tl th:kA):aA:=fun ρ Q=>te ρ fun x _=>tl ρ fun lo=>th ρ fun hi=>∃ xs,rV x=some xs/\flats xs=true/\Q (sH x (dI xs lo hi)) .fr
noncomputable def eC (N:List Str) (xs:List PV):aX:=xs.map (fun x=>some (.sh (flat x) x)) ++ List.replicate (N.length - xs.length) none
noncomputable abbrev iA (ta tb:aA):aA:=q2 (fV fun i j=>.int (i+j)) ta tb
noncomputable abbrev iB (ta tb:aA):aA:=q2 (fV fun i j=>.int (i - j)) ta tb
noncomputable abbrev sI (ta tb:aA):aA:=q2 (RI lE fun i j=>.int (i * j)) ta tb
noncomputable abbrev j6 (ta tb:aA):aA:=q2 (RI qI fun i j=>.int (i / j)) ta tb
noncomputable abbrev dA (ta tb:aA):aA:=q2 (RI (fun _ j=>0 < j) fun i j=>.int (i % j)) ta tb
noncomputable abbrev sJ (ta tb:aA):aA:=q2 (fV fun i j=>.bl (decide (i < j))) ta tb
noncomputable abbrev nX (ta tb:aA):aA:=q2 (fV fun i j=>.bl (decide (j < i))) ta tb
noncomputable abbrev eD (ta tb:aA):aA:=q2 (iT false) ta tb
noncomputable abbrev qNe (ta tb:aA):aA:=q2 (iT true) ta tb
noncomputable abbrev yU (ta tb:aA):aA:=q2 (rZ true) ta tb
noncomputable abbrev bX (ta tb:aA):aA:=q2 rT ta tb
noncomputable def sK:List PV->(PV->Prop)->Prop:=fun xs Q=>yG xs Q/\∀ ns,xs ≠ [.scr ns]
noncomputable def gR:aJ:=fun _ _=>False
noncomputable def QE (X:Cx) (e:Expr) (t:aA):Prop:=PE X e (LE X t)
noncomputable def QT (X:Cx) (e:Expr) (t:bM):Prop:=PT X e (LT X t)
noncomputable def QW (X:Cx) (e:Expr) (t:bM):Prop:=PW X e (LT X t)
noncomputable def QA (X:Cx) (es:List Expr) (t:cB):Prop:=PA X es (LA X t)
noncomputable def QS (X:Cx) (st:Stmt) (t:aJ):Prop:=PS X st (LS X t)
noncomputable def dJ (X:Cx) (st:List Stmt) (t:aJ):Prop:=cP X st (LS X t)
noncomputable def QI (X:Cx) (tg iter:Expr) (t:eM):Prop:=PI X tg iter (LI X t)
section
variable {X : Cx}
theorem bL {e:Expr}{t t':TE} (h:PE X e t) (m:∀ σ H Q,t' σ H Q->t σ H Q):PE X e t':=fun pins s σ H Q I q=>h pins s σ H Q I (m σ H Q q)
theorem kB {e:Expr}{t t':TT} (h:PT X e t) (m:∀ σ H Q,t' σ H Q->t σ H Q):PT X e t':=fun pins s σ H Q I q=>h pins s σ H Q I (m σ H Q q)
theorem yV {e:Expr}{t t':TT} (h:PW X e t) (m:∀ σ H Q,t' σ H Q->t σ H Q):PW X e t':=fun wh pins s σ H Q I q=>h wh pins s σ H Q I (m σ H Q q)
theorem yW {e:List Expr}{t t':TA} (h:PA X e t) (m:∀ σ H Q,t' σ H Q->t σ H Q):PA X e t':=fun pos pins s σ H Q I q=>h pos pins s σ H Q I (m σ H Q q)
theorem cT {e:Stmt}{t t':TS} (h:PS X e t) (m:∀ D σ H,t' D σ H->t D σ H):PS X e t':=fun pins s σ H D I q=>h pins s σ H D I (m D σ H q)
theorem sL {e:List Stmt}{t t':TS} (h:cP X e t) (m:∀ D σ H,t' D σ H->t D σ H):cP X e t':=fun pins s σ H D I q=>h pins s σ H D I (m D σ H q)
theorem sM {tg e:Expr}{t t':TI} (h:PI X tg e t) (m:∀ σ H R,t' σ H R->t σ H R):PI X tg e t':=fun pins s σ H R I q=>h pins s σ H R I (m σ H R q)
variable {a b c e o : Expr} {es cG : List Expr} {ta tb te to tk : aA} {tr : cB} {tA tB' tc : bM} {pos p2 px : Pos} {st : Stmt} {sts : List Stmt} {t u : aJ}
theorem qv (i:Nat) {x:Str}{pos:Pos} (hN:X.N[i]? = some x:=by rfl) (hv:eV X.env.scope x:=by first | exact Or.inl rfl | exact Or.inr (Or.inl rfl) | exact Or.inr (Or.inr rfl)) (hd:(x == ("__debug__" : Str))=false:=by decide)
  (hcd:(x == ("__classdict__" : Str))=false:=by decide):QE X (.Name x pos) (a6 i):=bL (g9 hN hv hd hcd) fun _ _ _=>af8
theorem aH {i j}:QE X (.Constant (.int i) j pos) (qC (.int i)):=bL pV fun _ _ _=>nH fun _=>.int i
theorem fX {i j}:QE X (.Constant (.bool i) j pos) (qC (.bl i)):=bL Q8 fun _ _ _=>nH fun _=>.bl i
theorem sN {j}:QE X (.Constant .none j pos) (qC .non):=bL Q9 fun _ _ _=>nH fun _=>.non
theorem al2 {i j}:QE X (.Constant (.str i) j pos) (qC (.str i)):=bL R3 fun _ _ _=>nH fun _=>.str i
theorem j7 {op:Operator}{R:PV->Tg->PV->Tg->PK->Prop}{r:R2} (ho:bO X (binaryOp op) r) (cv:dH X R r) (ha:QE X a ta) (hb:QE X b tb):QE X (.BinOp a op b pos) (q2 R ta tb):=bL (U2 ho ha hb) fun _ _ _=>nI cv
theorem iC (ha:QE X a ta) (hb:QE X b tb):QE X (.BinOp a .Add b pos) (q2 (fV fun i j=>.int (i+j)) ta tb):=j7 U4 xX ha hb
theorem j8 (ha:QE X a ta) (hb:QE X b tb):QE X (.BinOp a .Sub b pos) (q2 (fV fun i j=>.int (i - j)) ta tb):=j7 U5 xX ha hb
theorem sO (ha:QE X a ta) (hb:QE X b tb):QE X (.BinOp a .Mult b pos) (q2 (RI lE fun i j=>.int (i * j)) ta tb):=j7 U6 rO ha hb
theorem j9 (ha:QE X a ta) (hb:QE X b tb):QE X (.BinOp a .FloorDiv b pos) (q2 (RI qI fun i j=>.int (i / j)) ta tb):=j7 U7 rO ha hb
theorem dB (ha:QE X a ta) (hb:QE X b tb):QE X (.BinOp a .Mod b pos) (q2 (RI (fun _ j=>0 < j) fun i j=>.int (i % j)) ta tb):=j7 U8 rO ha hb
theorem yX {op:CmpOp}{R:PV->Tg->PV->Tg->PK->Prop}{r:R2} (ho:bO X (compareOp op) r) (cv:dH X R r) (ha:QE X a ta) (hb:QE X b tb) (hm:behindInMarks op b=false):QE X (.Compare a [op] [b] pos) (q2 R ta tb):=bL (V6 ho ha hb hm) fun _ _ _=>nI cv
theorem iD {op:CmpOp}{R:PV->Tg->PV->Tg->PK->Prop}{r:R2} (ho:bO X (compareOp op) r) (cv:dH X R r) (ha:QE X a ta) (hb:QE X b tb) (hm:behindInMarks op b=false):QT X (.Compare a [op] [b] pos) (aV (q2 R ta tb)):=kB (V8 ho ha hb hm) fun _ _ _ h=>nI cv (nJ h)
theorem al3 (ha:QE X a ta) (hb:QE X b tb):QE X (.Compare a [.Eq] [b] pos) (q2 (iT false) ta tb):=yX vV y9 ha hb (hI _)
theorem sP (ha:QE X a ta) (hb:QE X b tb):QT X (.Compare a [.Lt] [b] pos) (aV (q2 (fV fun i j=>.bl (decide (i < j))) ta tb)):=iD V3 xY ha hb (hI _)
theorem nY (ha:QE X a ta) (hb:QE X b tb):QT X (.Compare a [.Gt] [b] pos) (aV (q2 (fV fun i j=>.bl (decide (j < i))) ta tb)):=iD V4 xY ha hb (hI _)
theorem eO (ha:QE X a ta) (hb:QE X b tb):QT X (.Compare a [.Eq] [b] pos) (aV (q2 (iT false) ta tb)):=iD vV y9 ha hb (hI _)
theorem al4 (ha:QE X a ta) (hb:QE X b tb):QT X (.Compare a [.NotEq] [b] pos) (aV (q2 (iT true) ta tb)):=iD V1 af9 ha hb (hI _)
theorem yY (ha:QE X a ta) (hb:QE X b tb):QT X (.Compare a [.IsNot] [b] pos) (aV (q2 (rZ true) ta tb)):=iD V5 aj1 ha hb (hI _)
theorem al5 (hu:X.A.units+1 < cLine) (hk:QE X a tk) (hd:QE X b te) (hm:behindInMarks .In b=false:=by rfl):QT X (.Compare a [.In] [b] pos) (aV (iY false tk te)):=kB (uV (ac0 hu hk hd) hm) fun _ _ _ h=>ak0 (nJ h)
theorem yZ (hu:X.A.units+1 < cLine) (hk:QE X a tk) (hd:QE X b te) (hm:behindInMarks .NotIn b=false:=by rfl):QT X (.Compare a [.NotIn] [b] pos) (aV (iY true tk te)):=kB (uV (ac1 hu hk hd) hm) fun _ _ _ h=>ak1 (nJ h)
theorem nZ (h:QE X e te) (he:∀ whole,isTrue e X.env whole=(do let v <- whole; standAt e.pos; holding [v] (truthy v)):=by intro _; rfl):QT X e (aV te):=kB (R5 h he) fun _ _ _ h=>nJ h
theorem al6 (h:QE X e te) (he:∀ whole,isTrue e X.env whole=(do let v <- whole; standAt e.pos; holding [v] (truthy v)):=by intro _; rfl):QT X e (rW te):=kB (W5 h he) fun _ _ _ h=>ai9 h
theorem o3 (ha:QT X a tA):QW X (.BoolOp .And [a] pos) tA:=R6 ha
theorem sQ (ha:QT X a tA):QW X (.BoolOp .Or [a] pos) tA:=R7 ha
theorem o4 (ha:QT X a tA) (hb:QW X (.BoolOp .And (b :: cG) pos) tB'):QW X (.BoolOp .And (a :: b :: cG) pos) (jY tA tB'):=yV (R8 ha hb) fun _ _ _=>ag0
theorem lZ (ha:QT X a tA) (hb:QW X (.BoolOp .Or (b :: cG) pos) tB'):QW X (.BoolOp .Or (a :: b :: cG) pos) (iU tA tB'):=yV (R9 ha hb) fun _ _ _=>ag1
theorem jA (h:QW X e tA):QT X e tA:=PW.pt h
theorem o7 (ha:QT X a tA):QT X (.UnaryOp .Not a pos) (jZ tA):=kB (S0 ha) fun _ _ _=>ag2
theorem z4 {op} (h:QE X a ta):QE X (.BoolOp op [a] pos) ta:=S2 h
theorem sR (ha:QE X a ta) (hb:QE X (.BoolOp .And (b :: cG) pos) tb):QE X (.BoolOp .And (a :: b :: cG) pos) (lR ta tb):=bL (S3 ha hb) fun _ _ _=>ag3
theorem al7 (ha:QE X a ta):QE X (.UnaryOp .Not a pos) (rP ta):=bL (S4 ha) fun _ _ _=>ag4
theorem aL:QA X [] aI:=yW fI fun _ _ _=>ag5
theorem aD (ha:QE X e te) (hr:QA X es tr) (hs:starEach (e :: es) X.env=(false,eval e X.env) :: starEach es X.env:=by rfl):QA X (e :: es) (aC te tr):=yW (eI ha hr hs) fun _ _ _=>ag6
theorem kC {x1} (h:QA X es tr):QE X (.Tuple es x1 pos) (i5 tr):=bL (X1 h) fun _ _ _=>ag7
theorem kD (h:QA X es tr):QE X (.List es pos) (i6 tr):=bL (vZ h) fun _ _ _=>ag8
theorem bY (ha:QE X a ta) (hb:QE X b tb) (hs:wK b:=by exact fun _ _=>rfl):QE X (.Subscript a b pos) (q2 rT ta tb):=bL (lJ Z3 ha hb hs) fun _ _ _=>nI ai2
theorem kE (hu:X.A.units+1 < cLine) (ha:QE X a ta) (hb:QE X b tb) (hs:r6 b:=by exact fun _ _=>rfl):QE X (.Subscript a b pos) (i9 ta tb):=bL (ab9 hu ha hb hs) fun _ _ _=>ak2
theorem al8:QE X (.Dict [] [] pos) (qC (.dK [])):=bL ac4 fun _ _ _=>ak5
theorem al9:QE X (.Dict [] [] pos) (qC (.dT [])):=bL ac5 fun _ _ _=>ak6
theorem o8 {x:Str}{id:String}{R:List PV->(PV->Prop)->Prop}{r:List V->Hp->VK->Prop} (hc:cM X (.builtin id) r) (cv:gL X R r) (hg:Gl X x) (hm:X.mg x=none) (hv:bootBuiltins x=some (.builtin id)) (ha:QA X (e :: es) tr) (hn:x ≠ "__name__":=by decide) (hdb:(x == ("__debug__" : Str))=false:=by decide)
  (he:starEach (e :: es) X.env=(false,eval e X.env) :: starEach es X.env:=by rfl) (hpl:(backTo pos (starEach es X.env)).any (·.1)=false:=by rfl):QE X (.Call (.Name x p2) (e :: es) [] pos) (aK R tr):=bL (mW hc hg hm hv ha hn hdb he hpl) fun _ _ _=>yA cv
theorem z5 {x:Str}{T:String}{R:List PV->(PV->Prop)->Prop}{r:List V->Hp->VK->Prop} (hc:cM X (.type T) r) (cv:gL X R r) (hg:Gl X x) (hm:X.mg x=none) (hv:bootBuiltins x=some (.type T)) (ha:QA X (e :: es) tr) (hn:x ≠ "__name__":=by decide) (hdb:(x == ("__debug__" : Str))=false:=by decide)
  (he:starEach (e :: es) X.env=(false,eval e X.env) :: starEach es X.env:=by rfl) (hpl:(backTo pos (starEach es X.env)).any (·.1)=false:=by rfl):QE X (.Call (.Name x p2) (e :: es) [] pos) (aK R tr):=bL (wC hc hg hm hv ha hn hdb he hpl) fun _ _ _=>yA cv
theorem dC:dJ X [] cR:=sL S6 fun _ _ _=>ag9
theorem aP (h1:QS X st t) (h2:dJ X sts u):dJ X (st :: sts) (aN t u):=sL (mQ h1 h2) fun _ _ _=>ah0
theorem aT (h1:QS X st t):dJ X [st] t:=pW h1
theorem iE:QS X st gR:=cT S9 fun _ _ _ ⟨_,_,_,_,h,_⟩=>h
theorem bT {i:Nat}{x:Str} (hN:X.N.Nodup) (he:QE X e te) (hi:X.N[i]? = some x:=by rfl) (hx:fR X.env.scope x:=by first | exact Or.inl rfl | exact Or.inr rfl) (hs:swapsWith e (some (.Name x p2)) pos.line X.env=pure false:=by rfl) (hf:X.fn x=true ∨ X.env.scope.names.lookup x=some .local:=by first | exact .inl rfl | exact .inr rfl) :
  QS X (.Assign [.Name x p2] e pos) (bJ i te):=cT (qD hN hi hx he hs hf) fun _ _ _=>yD
theorem m3 {i:Nat}{x:Str} (hN:X.N.Nodup) (he:QE X e te) (hi:X.N[i]? = some x:=by rfl) (hx:fR X.env.scope x:=by first | exact Or.inl rfl | exact Or.inr rfl) (hs:swapsWith e (some (.Name x p2)) pos.line X.env=pure false:=by rfl) (hf:X.fn x=true ∨ X.env.scope.names.lookup x=some .local:=by first | exact .inl rfl | exact .inr rfl) :
  QS X (.Assign [.Name x p2] e pos) (iW i te):=cT (qD hN hi hx he hs hf) fun _ _ _=>ah3
theorem cK (he:QE X e te):QS X (.Return (some e) pos) (bW te):=cT (pY he) fun _ _ _=>ah4
theorem z6 (i:Nat) {x:Str} (hN:X.N[i]? = some x:=by rfl) (hv:eV X.env.scope x:=by first | exact Or.inl rfl | exact Or.inr (Or.inl rfl) | exact Or.inr (Or.inr rfl)) (hd:(x == ("__debug__" : Str))=false:=by decide) (hcd:(x == ("__classdict__" : Str))=false:=by decide) :
  QS X (.Return (some (.Name x p2)) pos) (nK i):=cT (pY (g9 hN hv hd hcd)) fun _ _ _=>ah5
theorem cU {sa sb:List Stmt} (hc:QT X c tc) (ha:dJ X sa t) (hb:dJ X sb u):QS X (.If c sa sb pos) (cN tc t u):=cT (S7 hc ha hb) fun _ _ _=>ah6
theorem sS {body:List Stmt} (hp:PassesOwn (model X.prog X.w) X.A X.env X.xe) (hc:QT X c tc) (hb:dJ X body t):QS X (.While c body [] pos) (lT tc t):=cT (T2 hp hc hb) fun _ _ _=>ah7
theorem sT (i:Nat) {x:Str}{apos cpos xpos:Pos} (he:QE X e te) (hN:X.N[i]? = some x:=by rfl) (hv:eV X.env.scope x:=by first | exact Or.inl rfl | exact Or.inr (Or.inl rfl) | exact Or.inr (Or.inr rfl)) (hd:(x == ("__debug__" : Str))=false:=by decide) (hcd:(x == ("__classdict__" : Str))=false:=by decide)
  (hbase:attributeBase (.Name x xpos) "append" X.env (eval (.Name x xpos) X.env)=eval (.Name x xpos) X.env:=by rfl)
  (hfew:((backTo cpos (starEach [e] X.env)).all (fun x=>!x.1) && (backToKw cpos (keywordEach [] X.env)).all (fun x=>x.1.isSome) && decide (([e]:List Expr).length+([]:List Keyword).length+(if ([]:List Keyword).isEmpty then 0 else 1) < 30))=true:=by rfl)
  (hline:(apos.endLine == cpos.line)=true:=by rfl) (hs:starEach [e] X.env=(false,eval e X.env) :: starEach [] X.env:=by rfl) (hplain:(backTo cpos (starEach [] X.env)).any (·.1)=false:=by rfl)
  (hsw:swapsWith (.Call (.Attribute (.Name x xpos) "append" apos) [e] [] cpos) none pos.line X.env=pure false:=by rfl) :
  QS X (.Expr (.Call (.Attribute (.Name x xpos) "append" apos) [e] [] cpos) pos) (k7 i te):=
 cT (l9 (mX aW2 PySem.F.slot_list_append PySem.F.type_list_append lM (g9 hN hv hd hcd) (eI he fI hs) hbase hfew hline hs hplain) hsw) fun _ _ _=>ah8
theorem am0 {apos cpos:Pos} (ho:QE X o to) (he:QE X e te)
  (hbase:attributeBase o "append" X.env (eval o X.env)=eval o X.env:=by rfl)
  (hfew:((backTo cpos (starEach [e] X.env)).all (fun x=>!x.1) && (backToKw cpos (keywordEach [] X.env)).all (fun x=>x.1.isSome) && decide (([e]:List Expr).length+([]:List Keyword).length+(if ([]:List Keyword).isEmpty then 0 else 1) < 30))=true:=by rfl)
  (hline:(apos.endLine == cpos.line)=true:=by rfl) (hs:starEach [e] X.env=(false,eval e X.env) :: starEach [] X.env:=by rfl) (hplain:(backTo cpos (starEach [] X.env)).any (·.1)=false:=by rfl)
  (hsw:swapsWith (.Call (.Attribute o "append" apos) [e] [] cpos) none pos.line X.env=pure false:=by rfl) :
  QS X (.Expr (.Call (.Attribute o "append" apos) [e] [] cpos) pos) (rS to te):=
 cT (l9 (mX aW2 PySem.F.slot_list_append PySem.F.type_list_append lM ho (eI he fI hs) hbase hfew hline hs hplain) hsw) fun _ _ _=>ah9
theorem z7 {i:Nat}{x:Str}{xpos tpos:Pos} (hu:X.A.units+1 < cLine) (hk:QE X a tk) (he:QE X e te) (hN:X.N[i]? = some x:=by rfl) (hv:eV X.env.scope x:=by first | exact Or.inl rfl | exact Or.inr (Or.inl rfl) | exact Or.inr (Or.inr rfl)) (hd:(x == ("__debug__" : Str))=false:=by decide) (hcd:(x == ("__classdict__" : Str))=false:=by decide)
  (hs:swapsWith e (some (.Subscript (.Name x xpos) a tpos)) pos.line X.env=pure false:=by rfl):QS X (.Assign [.Subscript (.Name x xpos) a tpos] e pos) (nV i tk te):=cT (xA hu (g9 hN hv hd hcd) hk he hs) fun _ _ _=>ak3
theorem z8 {i:Nat}{x:Str}{xpos tpos:Pos} (hu:X.A.units+1 < cLine) (hk:QE X a tk) (he:QE X e te) (hN:X.N[i]? = some x:=by rfl) (hv:eV X.env.scope x:=by first | exact Or.inl rfl | exact Or.inr (Or.inl rfl) | exact Or.inr (Or.inr rfl)) (hd:(x == ("__debug__" : Str))=false:=by decide) (hcd:(x == ("__classdict__" : Str))=false:=by decide)
  (hs:swapsWith e (some (.Subscript (.Name x xpos) a tpos)) pos.line X.env=pure false:=by rfl):QS X (.Assign [.Subscript (.Name x xpos) a tpos] e pos) (lX i tk te):=cT (xA hu (g9 hN hv hd hcd) hk he hs) fun _ _ _=>ak4
theorem am1 {tg l:Expr}{tl:TE} (hl:PE X l tl):PI X tg l (yH X.K tl):=by
 intro pins s σ H R I h
 refine aE (hl pins s σ H _ I h) fun v s1 ⟨x,H1,I1,r1,q1⟩=>?_
 obtain ⟨a,e,q⟩:=q1
 subst e
 cases r1
 rcases q with ⟨xs,hq,q⟩ | ⟨xs,hq,q⟩
 ·obtain ⟨its,rv,p,hz⟩:=I1.list hq
  refine wpAny_pyIter_list p.isList ?_
  refine⟨s1.heap.objs.size,[s1.heap.objs.size],_,_,H1,rfl,I1.kept (t':=s1.toks) fun b o e=>aK5 _ e,T3 a _,⟨_,aM3 _ rfl,rfl,rfl⟩,fun b hb=>?_,q⟩
  have e:b=s1.heap.objs.size:=by simpa using hb
  subst e
  exact I1.fpOk (aK4 _) (I1.hok.fresh (aK4 _))
 ·obtain ⟨its,rv,p,hz⟩:=I1.tuple hq
  refine wpAny_pyIter_tuple (show s1.heap.IsTuple a its.toArray from p) ?_
  refine⟨s1.heap.objs.size,[s1.heap.objs.size],_,_,H1,rfl,I1.kept (t':=s1.toks) fun b o e=>aK5 _ e,vF a _,⟨_,aM3 _ rfl,rfl,rfl⟩,fun b hb=>?_,q⟩
  have e:b=s1.heap.objs.size:=by simpa using hb
  subst e
  exact I1.fpOk (aK4 _) (I1.hok.fresh (aK4 _))
theorem jB {tg l:Expr} (hl:QE X l te):QI X tg l (gM te):=sM (am1 hl) fun _ _ _=>aj2
theorem kF {tg:Expr} (hg:Gl X "range") (hm:X.mg "range" = none) (ha:QE X a ta) (hs:starEach [a] X.env = [(false,eval a X.env)]:=by rfl):QI X tg (.Call (.Name "range" p2) [a] [] pos) (i7 ta):=sM (T6 hg hm (eI ha fI hs) hs) fun _ _ _=>aj3
theorem am2 {tg:Expr} (hg:Gl X "range") (hm:X.mg "range" = none) (ha:QE X a ta) (hb:QE X b tb) (hs:starEach [a,b] X.env = [(false,eval a X.env),(false,eval b X.env)]:=by rfl) (hs2:starEach [b] X.env = [(false,eval b X.env)]:=by rfl) :
  QI X tg (.Call (.Name "range" p2) [a,b] [] pos) (sA ta tb):=sM (T7 hg hm (eI ha (eI hb fI hs2) (by rw [hs,hs2])) hs hs2) fun _ _ _=>aj4
theorem z9 {tg:Expr}{body:List Stmt}{ti:eM}{p:i8}{g:TG}{own:Nat->Prop} (hp:PassesOwn (model X.prog X.w) X.A X.env X.xe) (hc:X.calm=true) (hi:QI X tg e ti) (hg:PG X tg g) (ht:lW X.K own p g) (hb:dJ X body t)
  (hs:∀ x,foldedSetIterable e X.env x=pure x:=by intro _; rfl):QS X (.For tg e body [] pos) (eN ti p t):=cT (vL hp hc hi hg hb hs) fun _ _ _=>aj6 ht
end
section
variable {X : Cx} {pins : List (Addr × Obj)} {σ : St} {H : Hp} {s : Shared} {K : PySem.W.Frag} {M M' : Addr → Prop}
theorem jX.inj {a:Addr}{us ws:List V} (h:jX K a us) (h':jX K a ws):us=ws:=by
 obtain ⟨o,its,n,e1,_,e2,_,v⟩:=h
 obtain ⟨o',its',n',e1',_,e2',_,v'⟩:=h'
 rw [e1] at e1'; cases e1'
 rw [e2] at e2'; cases e2'
 exact v.inj v'
theorem Reps.self_of {n:Nat} (ih:∀ {v:V}{x y:PV},a9 K M H v x->a9 K M' H v y->cZ n x y=true->bQ n x y=true):∀ {vs:List V}{xs ys:List PV},Reps K M H vs xs->Reps K M' H vs ys->((xs.zip ys).all fun p=>cZ n p.1 p.2)=true->(((xs.zip ys).all fun p=>bQ n p.1 p.2) && xs.length == ys.length)=true
 | _,_,_,.nil,.nil,_=>rfl
 | _,_,_,.cons r t,.cons r' t',o=>by
  simp only [List.zip_cons_cons,List.all_cons,aO5] at o
  have h1:=ih r r' o.1
  have h2:=Reps.self_of ih t t' o.2
  simp only [List.zip_cons_cons,List.all_cons,h1,Bool.true_and,aP6] at h2 ⊢
  rw [<- h2]
  congr 1
  simp
theorem a9.self:∀ (n:Nat) {v:V}{x y:PV},a9 K M H v x->a9 K M' H v y->cZ n x y=true->bQ n x y=true:=by
 intro n
 induction n with
 | zero=>
  intro v x y r r' o
  cases r with
  | non=>cases r'; rfl
  | bl b=>cases r'; exact aR2 b
  | int i=>cases r'; exact aR2 i
  | str z=>cases r'; exact aR2 z
  | _=>cases o
 | succ n ih=>
  intro v x y r r' o
  cases r with
  | non=>cases r'; rfl
  | bl b=>cases r'; exact aR2 b
  | int i=>cases r'; exact aR2 i
  | str z=>cases r'; exact aR2 z
  | tup h rr=>
   cases r' with
   | tup h' rr'=>rw [h] at h'; cases h'; exact Reps.self_of ih rr rr' o
   | _=>cases o
  | lst _ h rr=>
   cases r' with
   | lst _ h' rr'=>rw [h] at h'; cases h'; exact Reps.self_of ih rr rr' o
   | _=>cases o
  | kt h rr=>
   cases r' with
   | kt h' rr'=>cases jX.inj h h'; exact Reps.self_of ih rr rr' o
   | _=>cases o
  | _=>cases o
theorem Reps.self (n:Nat) {vs:List V}{xs ys:List PV} (r:Reps K M H vs xs) (r':Reps K M' H vs ys) (o:((xs.zip ys).all fun p=>cZ n p.1 p.2)=true):(((xs.zip ys).all fun p=>bQ n p.1 p.2) && xs.length == ys.length)=true:=Reps.self_of (a9.self n) r r' o
theorem gS (n:Nat) (xs ys:List PV):(List.range (min xs.length ys.length)).all (fun j=>bQ n (xs.getD j .non) (ys.getD j .non))=(xs.zip ys).all fun p=>bQ n p.1 p.2:=by
 rw [aV0]
 simp only [aT1,List.mem_range]
 constructor
 ·intro h p hp
  obtain ⟨j,hj,e⟩:=aQ7 hp
  have hj':j < min xs.length ys.length:=by simpa using hj
  have:=h j hj'
  rw [List.getElem_zip] at e
  subst e
  have h1:j < xs.length:=by omega
  have h2:j < ys.length:=by omega
  simpa [aK8,h1,h2] using this
 ·intro h j hj
  have h1:j < xs.length:=by omega
  have h2:j < ys.length:=by omega
  have hz:j < (xs.zip ys).length:=by simp; omega
  have:=h _ (aT7 hz)
  rw [List.getElem_zip] at this
  simpa [aK8,h1,h2] using this
theorem zA (I:a5 X pins σ H s):∀ (n:Nat) {A:Around}{v w:V}{x y:PV}{a b:Value},A.units+n < cLine->a9 X.K M H v x->a9 X.K M' H w y->aF v a->aF w b->cZ n x y=true->SeqAt.EqAt A s a b (bQ n x y):=by
 intro n
 induction n with
 | zero=>
  intro A v w x y a b hu rx ry ra rb o
  cases rx with
  | non=>
   cases ra
   cases ry with
   | non=>cases rb; exact SeqAt.EqAt.same _
   | int i=>obtain ⟨t',rfl⟩:=rb; exact SeqAt.EqAt.none_int _ _
   | _=>cases o
  | bl i=>
   cases ra
   cases ry with
   | bl j=>cases rb; exact SeqAt.EqAt.bool_bool _ _
   | _=>cases o
  | int i=>
   obtain ⟨t,rfl⟩:=ra
   cases ry with
   | int j=>obtain ⟨t',rfl⟩:=rb; exact SeqAt.EqAt.int_int _ _ _ _
   | non=>cases rb; exact SeqAt.EqAt.int_none _ _
   | _=>cases o
  | str i=>
   obtain ⟨t,rfl⟩:=ra
   cases ry with
   | str j=>obtain ⟨t',rfl⟩:=rb; exact SeqAt.EqAt.str_str _ _ _ _
   | _=>cases o
  | _=>cases o
 | succ n ih=>
  intro A v w x y a b hu rx ry ra rb o
  have items:∀ {us ws:List V}{xs ys:List PV}{its its2:List Value},Reps X.K M H us xs->Reps X.K M' H ws ys->aB us its->aB ws its2->((xs.zip ys).all fun p=>cZ n p.1 p.2)=true->
    ∀ j (h1:j < its.toArray.size) (h2:j < its2.toArray.size),SeqAt.EqAt A.in1 s its.toArray[j] its2.toArray[j] (bQ n (xs.getD j .non) (ys.getD j .non)):=fun {us ws xs ys its its2} r1 r2 v1 v2 ok j h1 h2=>by
   have l1:=v1.length
   have l2:=v2.length
   have m1:=r1.length
   have m2:=r2.length
   have k1:j < its.length:=by simpa using h1
   have k2:j < its2.length:=by simpa using h2
   have j1:j < us.length:=by omega
   have j2:j < ws.length:=by omega
   have i1:j < xs.length:=by omega
   have i2:j < ys.length:=by omega
   obtain ⟨u,hu',ru⟩:=v1.get (aK2 j1)
   obtain ⟨u2,hu2',ru2⟩:=v2.get (aK2 j2)
   obtain ⟨x,hx,rx⟩:=r1.get (aK2 j1)
   obtain ⟨y,hy,ry⟩:=r2.get (aK2 j2)
   have e1:its.toArray[j]=u:=by
    rw [aK2 k1] at hu'
    simpa using hu'
   have e2:its2.toArray[j]=u2:=by
    rw [aK2 k2] at hu2'
    simpa using hu2'
   have ok':cZ n x y=true:=by
    rw [aT1] at ok
    have hz:j < (xs.zip ys).length:=by simp; omega
    have:=ok _ (aT7 hz)
    rw [List.getElem_zip] at this
    rw [aK2 i1] at hx
    rw [aK2 i2] at hy
    cases hx; cases hy
    exact this
   rw [e1,e2]
   have g1:xs.getD j .non=x:=by rw [aK8,hx]; rfl
   have g2:ys.getD j .non=y:=by rw [aK8,hy]; rfl
   rw [g1,g2]
   exact ih (by show A.units+1+n < cLine; omega) rx ry ru ru2 ok'
  have huA:A.units < cLine:=by omega
  cases rx with
  | @kt p us xs h1 r1=>
   obtain ⟨its,v1,p1,_⟩:=I.tuple (.inr h1)
   cases (show a=Value.ref p from ra)
   cases ry with
   | @kt p2 ws ys h2 r2=>
    obtain ⟨its2,v2,p2',_⟩:=I.tuple (.inr h2)
    cases (show b=Value.ref p2 from rb)
    by_cases e:p=p2
    ·subst e
     have:=a9.self (K:=X.K) (M:=M) (M':=M') (n+1) (.kt h1 r1) (.kt h2 r2) o
     rw [this]
     exact SeqAt.EqAt.same _
    ·have:=SeqAt.RcAt.tuples p1 p2' huA (items r1 r2 v1 v2 o)
     refine .of_refs e ?_
     have l1:=v1.length
     have l2:=v2.length
     have m1:=r1.length
     have m2:=r2.length
     rw [aK3,aK3,<- l1,<- l2,m1,m2,gS] at this
     exact this
   | _=>cases o
  | @tup p us xs h1 r1=>
   obtain ⟨its,v1,p1,_⟩:=I.tuple (aO.of (K:=X.K) h1)
   cases (show a=Value.ref p from ra)
   cases ry with
   | @tup p2 ws ys h2 r2=>
    obtain ⟨its2,v2,p2',_⟩:=I.tuple (aO.of (K:=X.K) h2)
    cases (show b=Value.ref p2 from rb)
    by_cases e:p=p2
    ·subst e
     have:=a9.self (K:=X.K) (M:=M) (M':=M') (n+1) (.tup h1 r1) (.tup h2 r2) o
     rw [this]
     exact SeqAt.EqAt.same _
    ·have:=SeqAt.RcAt.tuples p1 p2' huA (items r1 r2 v1 v2 o)
     refine .of_refs e ?_
     have l1:=v1.length
     have l2:=v2.length
     have m1:=r1.length
     have m2:=r2.length
     rw [aK3,aK3,<- l1,<- l2,m1,m2,gS] at this
     exact this
   | non=>cases rb; exact SeqAt.EqAt.tuple_none p1 huA
   | _=>cases o
  | @lst p us xs _ h1 r1=>
   obtain ⟨its,v1,p1,_⟩:=I.list (aR.of (K:=X.K) h1)
   cases (show a=Value.ref p from ra)
   cases ry with
   | @lst p2 ws ys _ h2 r2=>
    obtain ⟨its2,v2,p2',_⟩:=I.list (aR.of (K:=X.K) h2)
    cases (show b=Value.ref p2 from rb)
    have l1:=v1.length
    have l2:=v2.length
    have m1:=r1.length
    have m2:=r2.length
    by_cases e:p=p2
    ·subst e
     rw [h1] at h2; cases h2
     have:=Reps.self n r1 r2 o
     show SeqAt.EqAt A s _ _ ((xs.zip ys).all (fun p=>bQ n p.1 p.2) && xs.length == ys.length)
     rw [this]
     exact SeqAt.EqAt.same _
    ·refine .of_refs e ?_
     by_cases hl:xs.length=ys.length
     ·have:=SeqAt.RcAt.lists p1.isList p2'.isList (by rw [aK3,aK3]; omega) huA (items r1 r2 v1 v2 o)
      have hm:min xs.length ys.length=its.length:=by omega
      rw [aK3,<- hm,gS] at this
      show SeqAt.RcAt A s _ _ ((xs.zip ys).all (fun p=>bQ n p.1 p.2) && xs.length == ys.length)
      rw [show (xs.length == ys.length)=true by simpa using hl,Bool.and_true]
      exact this
     ·have:=SeqAt.RcAt.lists_lengths (A:=A) p1.isList p2'.isList (by rw [aK3,aK3]; simp; omega) huA
      show SeqAt.RcAt A s _ _ ((xs.zip ys).all (fun p=>bQ n p.1 p.2) && xs.length == ys.length)
      rw [show (xs.length == ys.length)=false by simpa using hl,Bool.and_false]
      exact this
   | _=>cases o
  | non=>
   cases ra
   cases ry with
   | non=>cases rb; exact SeqAt.EqAt.same _
   | int i=>obtain ⟨t',rfl⟩:=rb; exact SeqAt.EqAt.none_int _ _
   | @tup p2 ws ys h2 r2=>
    obtain ⟨its2,v2,p2',_⟩:=I.tuple (aO.of (K:=X.K) h2)
    cases (show b=Value.ref p2 from rb)
    exact SeqAt.EqAt.none_tuple p2' huA
   | _=>cases o
  | bl i=>
   cases ra
   cases ry with
   | bl j=>cases rb; exact SeqAt.EqAt.bool_bool _ _
   | _=>cases o
  | int i=>
   obtain ⟨t,rfl⟩:=ra
   cases ry with
   | int j=>obtain ⟨t',rfl⟩:=rb; exact SeqAt.EqAt.int_int _ _ _ _
   | non=>cases rb; exact SeqAt.EqAt.int_none _ _
   | _=>cases o
  | str i=>
   obtain ⟨t,rfl⟩:=ra
   cases ry with
   | str j=>obtain ⟨t',rfl⟩:=rb; exact SeqAt.EqAt.str_str _ _ _ _
   | _=>cases o
  | _=>cases o
end
structure Bt (mg:Str->Option Value):Prop where
 len:mg "len" = none
 range:mg "range" = none
 tuple:mg "tuple" = none
 list:mg "list" = none
 sorted:mg "sorted" = none
 all:mg "all" = none
 any:mg "any" = none
 zip:mg "zip" = none
 min:mg "min" = none
 max:mg "max" = none
 sum:mg "sum" = none
 isinst:mg "isinstance" = none
 int:mg "int" = none
 bool:mg "bool" = none
 enum:mg "enumerate" = none
section
variable {X : Cx} {a b c e o : Expr} {es cG : List Expr} {ta tb te to tk : aA} {tr : cB} {tA tB' tc : bM} {pos p2 px : Pos} {st : Stmt} {sts : List Stmt} {t u : aJ}
theorem eQ (B:Bt X.mg) (ha:QA X [e] tr) (hg:Gl X "len":=by rfl) (he:starEach [e] X.env=(false,eval e X.env) :: starEach [] X.env:=by rfl) (hpl:(backTo pos (starEach [] X.env)).any (·.1)=false:=by rfl):QE X (.Call (.Name "len" p2) [e] [] pos) (aK dQ tr):=
 o8 (aa2.or ad3) ai3 hg B.len PySem.boot_len ha (he:=he) (hpl:=hpl)
theorem zB (B:Bt X.mg) (ha:QA X [e] tr) (hg:Gl X "tuple":=by rfl) (he:starEach [e] X.env=(false,eval e X.env) :: starEach [] X.env:=by rfl) (hpl:(backTo pos (starEach [] X.env)).any (·.1)=false:=by rfl):QE X (.Call (.Name "tuple" p2) [e] [] pos) (aK sK tr):=
 z5 aa3 ai4 hg B.tuple PyProof.Rows.boot_tuple ha (he:=he) (hpl:=hpl)
theorem sU (B:Bt X.mg) (hc:X.calm=true) (ha:QA X [a,b] tr) (hg:Gl X "min":=by rfl) (he:starEach [a,b] X.env=(false,eval a X.env) :: starEach [b] X.env:=by rfl) (hpl:(backTo pos (starEach [b] X.env)).any (·.1)=false:=by rfl):QE X (.Call (.Name "min" p2) [a,b] [] pos) (aK lU tr):=
 o8 (W7 hc) ai5 hg B.min PyProof.Rows.boot_min ha (he:=he) (hpl:=hpl)
theorem zC (B:Bt X.mg) (hc:X.calm=true) (ha:QA X [a,b] tr) (hg:Gl X "max":=by rfl) (he:starEach [a,b] X.env=(false,eval a X.env) :: starEach [b] X.env:=by rfl) (hpl:(backTo pos (starEach [b] X.env)).any (·.1)=false:=by rfl):QE X (.Call (.Name "max" p2) [a,b] [] pos) (aK nN tr):=
 o8 (W6 hc) ai6 hg B.max PyProof.Rows.boot_max ha (he:=he) (hpl:=hpl)
theorem sV (ha:QE X a ta):QE X (.UnaryOp .USub a pos) (nW ta):=bL (U3 V0 ha) fun σ H Q' h=>by
 obtain ⟨W,ρ,Q,px,q,k⟩:=h
 refine⟨W,ρ,_,px,q,?_⟩
 rintro v H1 x g s r ⟨i,rfl,q⟩
 cases r
 exact⟨i,rfl,k _ _ _ .fr s (.int _) q⟩
theorem zD (x:Int):∀ (xs:List Int),lK (.int x) (xs.map V.int)=decide (x ∈ xs)
 | []=>by simp [lK]
 | y :: r=>by
  have ih:=zD x r
  unfold lK at ih ⊢
  rw [aP4,List.any_cons,ih]
  by_cases e:y=x
  ·subst e; simp [fL]
  ·have:fL (.int y) (.int x)=false:=by simpa [fL] using e
   rw [this,Bool.false_or,aV0]
   simp [Ne.symm e]
theorem zE:∀ (xs:List Int),(xs.map V.int).all gE=true
 | []=>rfl
 | _ :: r=>by rw [aP4,List.all_cons,zE r]; rfl
theorem am3 (neg:Bool):dH X (sG neg) (wR X.K neg):=by
 rintro W Hs H u v x y g g' Q Q' s n r1 r2 ⟨i,ns,rfl,e,q⟩ k
 cases r1
 obtain ⟨a,us,rfl,hs,r⟩:=r2.seq e
 obtain rfl:=r.ofInts
 refine⟨a,_,rfl,hs,rfl,zE ns,?_⟩
 have:=k _ _ _ .fr (a8.refl _) (.bl _) q
 rw [zD]
 cases neg <;> exact this
theorem am4 (ha:QE X a ta) (hb:QE X b tb) (hm:behindInMarks .In b=false:=by rfl):QT X (.Compare a [.In] [b] pos) (aV (q2 (sG false) ta tb)):=iD aa1 (am3 false) ha hb hm
theorem a9.kt_ {K:PySem.W.Frag}{M:Addr->Prop}{H:Hp}{v:V}{xs:List PV} (r:a9 K M H v (.kt xs)):∃ a us,v = .ref a/\jX K a us/\Reps K M H us xs:=by
 cases r with
 | kt h r=>exact⟨_,_,rfl,h,r⟩
noncomputable def zF (K:PySem.W.Frag) (H:Hp) (x:V) (t:Value):Prop:=dY K H x t ∨ ∃ a us,x = .ref a/\aO K H a us/\t = .type "tuple"
theorem am5:cM X (.builtin "isinstance") (fun xs H Q=>∃ x t n b,xs = [x,.ty n]/\zF X.K H x t/\PySem.W.kitOne X.K t (.type n)=some b/\Q (.bl b) H):=by
 intro pins s σ H xs us Q I r h
 obtain ⟨x,t,n,b,rfl,ty,e,q⟩:=h
 rcases ty with ty | ⟨a,ws,rfl,hs,rfl⟩
 ·exact af1 pins s σ H _ us Q I r ⟨x,t,n,b,rfl,ty,e,q⟩
 obtain ⟨u,u',rfl,ru,ru'⟩:=lF r
 cases ru'
 cases (show u=Value.ref a from ru)
 obtain ⟨its,_,⟨o,h1,h2,_⟩,_⟩:=I.tuple hs
 exact aQ1 PySem.W.kitx_tuple I.kIn ⟨o,h1,h2⟩ e (fun z=>nomatch z) fun tk=>⟨.bl b,H,I.tok tk,rfl,q⟩
theorem am6 {K:PySem.W.Frag}{M:Addr->Prop}{H:Hp}{v:V}{x:PV}{T:String} (r:a9 K M H v x) (e:yT x=some T):zF K H v (.type T):=by
 cases r with
 | non=>cases e; exact .inl .non
 | bl b=>cases e; exact .inl (.bl b)
 | int i=>cases e; exact .inl (.int i)
 | str i=>cases e; exact .inl (.str i)
 | tup h _=>cases e; exact .inl (.tup h)
 | lst _ h _=>cases e; exact .inl (.lst h)
 | kt h _=>cases e; exact .inr ⟨_,_,rfl,.inr h,rfl⟩
 | _=>cases e
theorem o9 {x:Str}{n:String} (B:Bt X.mg) (hn:bootBuiltins x=some (.type n)) (hm:X.mg x=none) (ha:QE X a ta) (hg:Gl X "isinstance":=by rfl) (hgx:Gl X x:=by rfl) (hx:x ≠ "__name__":=by decide) (hdx:(x == ("__debug__" : Str))=false:=by decide)
  (he:starEach [a,.Name x px] X.env=(false,eval a X.env) :: starEach [.Name x px] X.env:=by rfl) (he2:starEach [.Name x px] X.env=(false,eval (.Name x px) X.env) :: starEach [] X.env:=by rfl) (hpl:(backTo pos (starEach [.Name x px] X.env)).any (·.1)=false:=by rfl):QE X (.Call (.Name "isinstance" p2) [a,.Name x px] [] pos) (gQ X.K n ta):=
 bL (mW am5 hg B.isinst PyProof.Rows.boot_isinstance (eI ha (eI (uU (v:=.ty n) hgx hm hn rfl hx hdx) fI he2) he) (he:=he) (hpl:=hpl)) fun σ H Q' h=>by
  obtain ⟨W,ρ,Q,px,q,k⟩:=h
  refine⟨W,ρ,_,px,q,?_⟩
  rintro v H1 x g s r ⟨T,b,e,kt,q⟩
  exact⟨v,_,n,b,rfl,am6 r e,kt,k _ _ _ .fr s (.bl _) q⟩
theorem am7 (B:Bt X.mg) (ha:QE X a ta) (hg:Gl X "isinstance":=by rfl) (hgx:Gl X "int":=by rfl)
  (he:starEach [a,.Name "int" px] X.env=(false,eval a X.env) :: starEach [.Name "int" px] X.env:=by rfl) (he2:starEach [.Name "int" px] X.env=(false,eval (.Name "int" px) X.env) :: starEach [] X.env:=by rfl) (hpl:(backTo pos (starEach [.Name "int" px] X.env)).any (·.1)=false:=by rfl):QE X (.Call (.Name "isinstance" p2) [a,.Name "int" px] [] pos) (gQ X.K "int" ta):=o9 B PyProof.Rows.boot_int B.int ha (hg:=hg) (hgx:=hgx) (he:=he) (he2:=he2) (hpl:=hpl)
theorem am8 (B:Bt X.mg) (ha:QE X a ta) (hg:Gl X "isinstance":=by rfl) (hgx:Gl X "bool":=by rfl)
  (he:starEach [a,.Name "bool" px] X.env=(false,eval a X.env) :: starEach [.Name "bool" px] X.env:=by rfl) (he2:starEach [.Name "bool" px] X.env=(false,eval (.Name "bool" px) X.env) :: starEach [] X.env:=by rfl) (hpl:(backTo pos (starEach [.Name "bool" px] X.env)).any (·.1)=false:=by rfl):QE X (.Call (.Name "isinstance" p2) [a,.Name "bool" px] [] pos) (gQ X.K "bool" ta):=o9 B PyProof.Rows.boot_bool B.bool ha (hg:=hg) (hgx:=hgx) (he:=he) (he2:=he2) (hpl:=hpl)
theorem am9 (B:Bt X.mg) (ha:QE X a ta) (hg:Gl X "isinstance":=by rfl) (hgx:Gl X "tuple":=by rfl)
  (he:starEach [a,.Name "tuple" px] X.env=(false,eval a X.env) :: starEach [.Name "tuple" px] X.env:=by rfl) (he2:starEach [.Name "tuple" px] X.env=(false,eval (.Name "tuple" px) X.env) :: starEach [] X.env:=by rfl) (hpl:(backTo pos (starEach [.Name "tuple" px] X.env)).any (·.1)=false:=by rfl):QE X (.Call (.Name "isinstance" p2) [a,.Name "tuple" px] [] pos) (gQ X.K "tuple" ta):=o9 B PyProof.Rows.boot_tuple B.tuple ha (hg:=hg) (hgx:=hgx) (he:=he) (he2:=he2) (hpl:=hpl)
theorem an0 (B:Bt X.mg) (ha:QE X a ta) (hg:Gl X "isinstance":=by rfl) (hgx:Gl X "list":=by rfl)
  (he:starEach [a,.Name "list" px] X.env=(false,eval a X.env) :: starEach [.Name "list" px] X.env:=by rfl) (he2:starEach [.Name "list" px] X.env=(false,eval (.Name "list" px) X.env) :: starEach [] X.env:=by rfl) (hpl:(backTo pos (starEach [.Name "list" px] X.env)).any (·.1)=false:=by rfl):QE X (.Call (.Name "isinstance" p2) [a,.Name "list" px] [] pos) (gQ X.K "list" ta):=o9 B PyProof.Rows.boot_list B.list ha (hg:=hg) (hgx:=hgx) (he:=he) (he2:=he2) (hpl:=hpl)
noncomputable def sW (K:PySem.W.Frag) (n:Nat) (neg:Bool):R2:=fun v w H Q=>∃ x y,a9 K (fun _=>True) H v x/\a9 K (fun _=>True) H w y/\((∃ xs ys,x = .tup xs/\y = .tup ys) ∨ (∃ xs ys,x = .lst xs/\y = .lst ys) ∨ (∃ xs ys,x = .kt xs/\y = .kt ys))/\cZ (n+1) x y=true/\Q (.bl (if neg=true then !bQ (n+1) x y else bQ (n+1) x y)) H
theorem kG {pins:List (Addr × Obj)}{σ:St}{H:Hp}{s:Shared}{M M':Addr->Prop} (I:a5 X pins σ H s) {n:Nat}{A:Around} (hu:A.units+(n+1) < cLine) {us ws:List V}{xs ys:List PV}{its its2:List Value} (r1:Reps X.K M H us xs) (r2:Reps X.K M' H ws ys) (v1:aB us its) (v2:aB ws its2)
  (ok:((xs.zip ys).all fun p=>cZ n p.1 p.2)=true):∀ j (h1:j < its.toArray.size) (h2:j < its2.toArray.size),SeqAt.EqAt A.in1 s its.toArray[j] its2.toArray[j] (bQ n (xs.getD j .non) (ys.getD j .non)):=by
 intro j h1 h2
 have l1:=v1.length
 have l2:=v2.length
 have m1:=r1.length
 have m2:=r2.length
 have k1:j < its.length:=by simpa using h1
 have k2:j < its2.length:=by simpa using h2
 have j1:j < us.length:=by omega
 have j2:j < ws.length:=by omega
 have i1:j < xs.length:=by omega
 have i2:j < ys.length:=by omega
 obtain ⟨u,hu',ru⟩:=v1.get (aK2 j1)
 obtain ⟨u2,hu2',ru2⟩:=v2.get (aK2 j2)
 obtain ⟨x,hx,rx⟩:=r1.get (aK2 j1)
 obtain ⟨y,hy,ry⟩:=r2.get (aK2 j2)
 have e1:its.toArray[j]=u:=by
  rw [aK2 k1] at hu'
  simpa using hu'
 have e2:its2.toArray[j]=u2:=by
  rw [aK2 k2] at hu2'
  simpa using hu2'
 have ok':cZ n x y=true:=by
  rw [aT1] at ok
  have hz:j < (xs.zip ys).length:=by simp; omega
  have:=ok _ (aT7 hz)
  rw [List.getElem_zip] at this
  rw [aK2 i1] at hx
  rw [aK2 i2] at hy
  cases hx; cases hy
  exact this
 rw [e1,e2]
 have g1:xs.getD j .non=x:=by rw [aK8,hx]; rfl
 have g2:ys.getD j .non=y:=by rw [aK8,hy]; rfl
 rw [g1,g2]
 exact zA I n (by show A.units+1+n < cLine; omega) rx ry ru ru2 ok'
theorem an1 (n:Nat) (hu:X.A.units+(n+1) < cLine):bO X (compareOp .Eq) (sW X.K n false):=by
 intro pins s σ H v w a b Q I ra rb h
 obtain ⟨x,y,rx,ry,kd,o,q⟩:=h
 have hu0:X.A.units < cLine:=by omega
 rcases kd with ⟨xs,ys,rfl,rfl⟩ | ⟨xs,ys,rfl,rfl⟩ | ⟨xs,ys,rfl,rfl⟩
 ·obtain ⟨p,us,rfl,h1,r1⟩:=rx.sqT
  obtain ⟨p2,ws,rfl,h2,r2⟩:=ry.sqT
  cases ra; cases rb
  obtain ⟨its,v1,p1,_⟩:=I.tuple (aO.of (K:=X.K) h1)
  obtain ⟨its2,v2,p2',_⟩:=I.tuple (aO.of (K:=X.K) h2)
  have l1:=v1.length
  have l2:=v2.length
  have m1:=r1.length
  have m2:=r2.length
  have:=SeqAt.RcAt.tuples p1 p2' hu0 (kG I hu r1 r2 v1 v2 o)
  rw [aK3,aK3,<- l1,<- l2,m1,m2,gS] at this
  exact this _ _ _ _ ⟨.bl _,H,I,rfl,q⟩
 ·obtain ⟨p,us,rfl,_,h1,r1⟩:=rx.sqL
  obtain ⟨p2,ws,rfl,_,h2,r2⟩:=ry.sqL
  cases ra; cases rb
  obtain ⟨its,v1,p1,_⟩:=I.list (aR.of (K:=X.K) h1)
  obtain ⟨its2,v2,p2',_⟩:=I.list (aR.of (K:=X.K) h2)
  have l1:=v1.length
  have l2:=v2.length
  have m1:=r1.length
  have m2:=r2.length
  have q:Q (.bl ((xs.zip ys).all (fun p=>bQ n p.1 p.2) && xs.length == ys.length)) H:=q
  by_cases hl:xs.length=ys.length
  ·have:=SeqAt.RcAt.lists p1.isList p2'.isList (by rw [aK3,aK3]; omega) hu0 (kG I hu r1 r2 v1 v2 o)
   have hm:min xs.length ys.length=its.length:=by omega
   rw [aK3,<- hm,gS] at this
   rw [show (xs.length == ys.length)=true by simpa using hl,Bool.and_true] at q
   exact this _ _ _ _ ⟨.bl _,H,I,rfl,q⟩
  ·have:=SeqAt.RcAt.lists_lengths (A:=X.A) p1.isList p2'.isList (by rw [aK3,aK3]; simp; omega) hu0
   rw [show (xs.length == ys.length)=false by simpa using hl,Bool.and_false] at q
   exact this _ _ _ _ ⟨.bl _,H,I,rfl,q⟩
 ·obtain ⟨p,us,rfl,h1,r1⟩:=rx.kt_
  obtain ⟨p2,ws,rfl,h2,r2⟩:=ry.kt_
  cases ra; cases rb
  obtain ⟨its,v1,p1,_⟩:=I.tuple (.inr h1)
  obtain ⟨its2,v2,p2',_⟩:=I.tuple (.inr h2)
  have l1:=v1.length
  have l2:=v2.length
  have m1:=r1.length
  have m2:=r2.length
  have:=SeqAt.RcAt.tuples p1 p2' hu0 (kG I hu r1 r2 v1 v2 o)
  rw [aK3,aK3,<- l1,<- l2,m1,m2,gS] at this
  exact this _ _ _ _ ⟨.bl _,H,I,rfl,q⟩
theorem an2 (n:Nat) (hu:X.A.units+(n+1) < cLine):bO X (compareOp .NotEq) (sW X.K n true):=by
 intro pins s σ H v w a b Q I ra rb h
 obtain ⟨x,y,rx,ry,kd,o,q⟩:=h
 have hu0:X.A.units < cLine:=by omega
 rcases kd with ⟨xs,ys,rfl,rfl⟩ | ⟨xs,ys,rfl,rfl⟩ | ⟨xs,ys,rfl,rfl⟩
 ·obtain ⟨p,us,rfl,h1,r1⟩:=rx.sqT
  obtain ⟨p2,ws,rfl,h2,r2⟩:=ry.sqT
  cases ra; cases rb
  obtain ⟨its,v1,p1,_⟩:=I.tuple (aO.of (K:=X.K) h1)
  obtain ⟨its2,v2,p2',_⟩:=I.tuple (aO.of (K:=X.K) h2)
  have l1:=v1.length
  have l2:=v2.length
  have m1:=r1.length
  have m2:=r2.length
  have:=SeqAt.RcNeAt.tuples p1 p2' hu0 (kG I hu r1 r2 v1 v2 o)
  rw [aK3,aK3,<- l1,<- l2,m1,m2,gS] at this
  exact this _ _ _ _ ⟨.bl _,H,I,rfl,q⟩
 ·obtain ⟨p,us,rfl,_,h1,r1⟩:=rx.sqL
  obtain ⟨p2,ws,rfl,_,h2,r2⟩:=ry.sqL
  cases ra; cases rb
  obtain ⟨its,v1,p1,_⟩:=I.list (aR.of (K:=X.K) h1)
  obtain ⟨its2,v2,p2',_⟩:=I.list (aR.of (K:=X.K) h2)
  have l1:=v1.length
  have l2:=v2.length
  have m1:=r1.length
  have m2:=r2.length
  have q:Q (.bl (!((xs.zip ys).all (fun p=>bQ n p.1 p.2) && xs.length == ys.length))) H:=q
  by_cases hl:xs.length=ys.length
  ·have:=SeqAt.RcNeAt.lists p1.isList p2'.isList (by rw [aK3,aK3]; omega) hu0 (kG I hu r1 r2 v1 v2 o)
   have hm:min xs.length ys.length=its.length:=by omega
   rw [aK3,<- hm,gS] at this
   rw [show (xs.length == ys.length)=true by simpa using hl,Bool.and_true] at q
   exact this _ _ _ _ ⟨.bl _,H,I,rfl,q⟩
  ·have:=SeqAt.RcNeAt.lists_lengths (A:=X.A) p1.isList p2'.isList (by rw [aK3,aK3]; simp; omega) hu0
   rw [show (xs.length == ys.length)=false by simpa using hl,Bool.and_false] at q
   exact this _ _ _ _ ⟨.bl _,H,I,rfl,q⟩
 ·obtain ⟨p,us,rfl,h1,r1⟩:=rx.kt_
  obtain ⟨p2,ws,rfl,h2,r2⟩:=ry.kt_
  cases ra; cases rb
  obtain ⟨its,v1,p1,_⟩:=I.tuple (.inr h1)
  obtain ⟨its2,v2,p2',_⟩:=I.tuple (.inr h2)
  have l1:=v1.length
  have l2:=v2.length
  have m1:=r1.length
  have m2:=r2.length
  have:=SeqAt.RcNeAt.tuples p1 p2' hu0 (kG I hu r1 r2 v1 v2 o)
  rw [aK3,aK3,<- l1,<- l2,m1,m2,gS] at this
  exact this _ _ _ _ ⟨.bl _,H,I,rfl,q⟩
theorem zG {n:Nat}{neg:Bool}:dH X (lY n neg) (sW X.K n neg):=by
 rintro W Hs H u v x y g g' Q Q' s n r1 r2 ⟨kd,o,q⟩ k
 exact⟨x,y,r1.same (a8.refl _) fun _ _=>trivial,r2.same (a8.refl _) fun _ _=>trivial,kd.elim .inl fun z=>.inr (.inl z),o,k _ _ _ .fr (a8.refl _) (.bl _) q⟩
theorem an3 (hu:X.A.units+3 < cLine) (ha:QE X a ta) (hb:QE X b tb):QT X (.Compare a [.NotEq] [b] pos) (aV (q2 (lY 2 true) ta tb)):=iD (an2 2 hu) zG ha hb (hI _)
theorem an4 (hu:X.A.units+3 < cLine) (ha:QE X a ta) (hb:QE X b tb):QE X (.Compare a [.Eq] [b] pos) (q2 (lY 2 false) ta tb):=yX (an1 2 hu) zG ha hb (hI _)
end
end PP
namespace PP
open PySem L2 PyProof.Rows
noncomputable def LO (X:Cx) (t:kA):TO:=fun σ H Q'=>∃ (W:Addr->Prop) (ρ:aX) (Q:Option Int->Prop),PX X.K X.H₀ W σ ρ H/\t ρ Q/\∀ o H',a8 H H'->Q o->Q' o H'
noncomputable def QO (X:Cx) (e:Option Expr) (t:kA):Prop:=PO X e (LO X t)
theorem Reps.cut {K:PySem.W.Frag}{M:Addr->Prop}{H:Hp}{us:List V}{xs:List PV} (r:Reps K M H us xs) (lo hi:Option Int):Reps K M H (fJ us lo hi) (dI xs lo hi):=by
 unfold fJ dI
 rw [r.length]
 exact (r.drop _).take _
section
variable {X : Cx} {a b c e o : Expr} {es cG : List Expr} {ta tb te to tk : aA} {tr : cB} {tA tB' tc : bM} {pos p2 px : Pos} {st : Stmt} {sts : List Stmt} {t u : aJ}
theorem oA:QO X none iZ:=fun pins s σ H Q I h=>Y4 pins s σ H Q I (by
 obtain ⟨W,ρ,Q1,px,q,k⟩:=h
 exact k _ _ (a8.refl _) q)
theorem oB (h:QE X e te):QO X (some e) (j4 te):=fun pins s σ H Q I hq=>Y5 h pins s σ H Q I (by
 obtain ⟨W,ρ,Q1,px,q,k⟩:=hq
 refine⟨W,ρ,_,px,q,?_⟩
 rintro v H1 x g s r ⟨i,rfl,q⟩
 cases r
 exact⟨i,rfl,k _ _ s q⟩)
theorem oC {lo hi:Option Expr}{tl th:kA}{sp:Pos} (he:QE X e te) (hl:QO X lo tl) (hh:QO X hi th):QE X (.Subscript e (.Slice lo hi none sp) pos) (j5 te tl th):=bL (Y7 (Z9.or af7) he hl hh) fun σ H Q' h=>by
 obtain ⟨W,ρ,Q,px,q,k⟩:=h
 refine⟨W,ρ,_,px,q,fun v H1 x g s1 r1 q1=>⟨W,ρ,_,px.mono s1,q1,fun lo H2 s2 q2=>⟨W,ρ,_,px.mono (s1.trans s2),q2,?_⟩⟩⟩
 rintro hi H3 s3 ⟨xs,e,f,q3⟩
 have S:=(s1.trans s2).trans s3
 have r3:=r1.same (M':=Mg X.H₀ W H g) (s2.trans s3) fun _ z=>z
 cases r3 with
 | tup h r=>
  cases e
  refine .inr ⟨_,_,rfl,aO.of h,fun p hp=>k _ _ _ .fr (S.trans (bH hp _)) (.tup bK (((r.flat f).cut lo hi).same (bH hp _) fun _ z=>z)) q3,fun ec=>k _ _ _ .fr S (.tup h ?_) q3⟩
  have:=(r.flat (M':=Mg X.H₀ W H .fr) f).cut lo hi
  rw [ec] at this
  exact this
 | lst m h r=>
  cases e
  exact .inl ⟨_,_,rfl,aR.of h,fun p hp=>k _ _ _ .fr (S.trans (bH hp _)) (.lst (S.free hp) bK (((r.flat f).cut lo hi).same (bH hp _) fun _ z=>z)) q3⟩
 | scr h=>
  cases e
  exact .inl ⟨_,_,rfl,h.sqL,fun p hp=>k _ _ _ .fr (S.trans (bH hp _)) (.lst (S.free hp) bK (((Reps.intz _).cut lo hi).same (bH hp _) fun _ z=>z)) q3⟩
 | _=>cases e
structure Df (P:Program) (w:World) (K:PySem.W.Frag) (mg:Str->Option Value) (base:Heap) (k:Nat) (x:Str) (ps:List Str) (p:bP):Prop where
 ex:∃ f fd,cH P w K mg base dF k f fd ps (lV K p)/\gA K fd ps []/\PySem.W.keepIn K (.ref f)=true/\mg x=some (.ref f)
theorem cC {k j:Nat}{x:Str}{ps:List Str}{p:bP} (d:Df X.prog X.w X.K X.mg X.base k x ps p) (hr:bG j X.A) (ha:QA X (e :: es) tr) (hkj:k<=j:=by decide) (hg:Gl X x:=by rfl) (hdb:(x == ("__debug__" : Str))=false:=by decide)
  (he:starEach (e :: es) X.env=(false,eval e X.env) :: starEach es X.env:=by rfl) (hpl:(backTo pos (starEach es X.env)).any (·.1)=false:=by rfl):QE X (.Call (.Name x p2) (e :: es) [] pos) (aK p tr):=by
 obtain ⟨f,fd,F,b,kp,m⟩:=d.ex
 exact bL (qN F (hr.mono hkj) hg m kp b .nil ad1 ha hdb he hpl) fun _ _ _=>ai7
theorem sX {K:PySem.W.Frag}{H:Hp}{N:List Str}{vs:List V}{xs:List PV} (r:Reps K (fun _=>True) H vs xs):PX K H (fun _=>False) (L2.eY N vs) (eC N xs) H:=by
 have lr:=r.length
 have own:∀ {i:Nat}{m:Slot},(eC N xs)[i]? = some (some m)->∃ x,xs[i]? = some x/\m = .sh (flat x) x:=fun {i m} h=>by
  unfold eC at h
  by_cases hi:i < xs.length
  ·rw [aV2 (by simpa using hi),aL9] at h
   rw [aK2 hi] at h ⊢
   cases h
   exact⟨_,rfl,rfl⟩
  ·rw [aX4 (by simpa using hi),List.getElem?_replicate] at h
   split at h <;> cases h
 refine⟨by unfold L2.eY eC; simp [lr],a8.refl _,fun a z=>z.elim,fun i m h=>?_,fun i j x y a h1=>?_⟩
 ·obtain ⟨x,hx,rfl⟩:=own h
  obtain ⟨v,hv,rx⟩:=r.at hx
  refine⟨v,?_,nQ (g:=false) (rx.same (a8.refl _) fun _ _ z=>z)⟩
  have hi:i < vs.length:=(aL8.mp hv).1
  unfold L2.eY
  rw [aV2 (by simpa using hi),aL9,hv]; rfl
 ·obtain ⟨x,_,e⟩:=own h1
  cases e
theorem Df.of {P:Program}{w:World}{K:PySem.W.Frag}{mg:Str->Option Value}{base:Heap}{k:Nat}{x:Str}{ps N:List Str}{p:bP}{st:Stmt}{f:Addr}{fd:FuncData} (F:e9 K x x st f fd) (m:mg x=some (.ref f)) (S:FnScope N ps (aS st))
  (hb:∀ (kV doc pm:Value) (an:Option Addr) (cdv ct:Value) (us:List Value),us.length=ps.length->bindArgs (PySem.W.fnOf x x (gG st) (dE st) (aS st) .none kV doc pm an cdv ct) ⟨us,[]⟩=pure (ps.zip us))
  (len:∀ xs Q,p xs Q->xs.length=ps.length)
  (body:∀ (cdv:Value) (A:Around) (outer:List Env) (s:Shared) (H:Hp) (E:XK),bG k (A.deeper (envOfC x (aS st) s.heap.objs.size f cdv))->
   ∃ t,dJ (cI dF P w K mg base N x (aS st) f cdv A outer s H E).nox (dE st) t/\∀ xs Q,p xs Q->t { nx:=fun _=>Q .non,rt:=Q } (eC N xs)):Df P w K mg base (k+1) x ps p:=by
 refine⟨f,fd,F.ok S (fun vs H Q E h=>?_) (fun cdv A outer s H vs Q E hr h=>?_),F.binds hb,F.kp,m⟩
 ·obtain ⟨xs,Qp,r,q,_⟩:=h
  rw [r.length]; exact len xs Qp q
 ·obtain ⟨xs,Qp,r,q,k⟩:=h
  obtain ⟨t,ht,hq⟩:=body cdv A outer s H E hr
  refine⟨_,ht,fun _=>False,eC N xs,_,sX r,hq xs Qp q,?_,?_,?_,?_⟩
  ·exact fun W' σ' H' ρ' e px q=>k _ _ _ px.same .non q
  ·exact fun v H' x s r q=>k _ _ _ s r q
  ·exact fun W' σ' H' ρ' e px q=>q
  ·exact fun W' σ' H' ρ' e px q=>q
theorem iF (i:Nat) {x:Str}{tp:Pos}{body:List Stmt}{ti:eM} (hN:X.N.Nodup) (hi:QI X (.Name x tp) e ti) (hb:dJ X body t) (hx:X.N[i]? = some x:=by rfl) (hl:fR X.env.scope x:=by first | exact Or.inl rfl | exact Or.inr rfl) (hf:X.fn x=true ∨ X.env.scope.names.lookup x=some .local:=by first | exact .inl rfl | exact .inr rfl)
  (hp:PassesOwn (model X.prog X.w) X.A X.env X.xe:=by exact PassesOwn.never) (hc:X.calm=true:=by rfl) (hs:∀ x,foldedSetIterable e X.env x=pure x:=by intro _; rfl):QS X (.For (.Name x tp) e body [] pos) (eN ti (cJ i) t):=
 z9 hp hc hi (iO hN hx hl hf) (nR _ i) hb hs
theorem an5 (i j:Nat) {x y:Str}{tp xp yp:Pos}{kt:Nat}{body:List Stmt}{ti:eM} (hN:X.N.Nodup) (hi:QI X (.Tuple [.Name x xp,.Name y yp] kt tp) e ti) (hb:dJ X body t) (hx:X.N[i]? = some x:=by rfl) (hy:X.N[j]? = some y:=by rfl) (hlx:fR X.env.scope x:=by first | exact Or.inl rfl | exact Or.inr rfl) (hly:fR X.env.scope y:=by first | exact Or.inl rfl | exact Or.inr rfl)
  (hfx:X.fn x=true ∨ X.env.scope.names.lookup x=some .local:=by first | exact .inl rfl | exact .inr rfl) (hfy:X.fn y=true ∨ X.env.scope.names.lookup y=some .local:=by first | exact .inl rfl | exact .inr rfl)
  (hp:PassesOwn (model X.prog X.w) X.A X.env X.xe:=by exact PassesOwn.never) (hc:X.calm=true:=by rfl) (hs:∀ x,foldedSetIterable e X.env x=pure x:=by intro _; rfl):QS X (.For (.Tuple [.Name x xp,.Name y yp] kt tp) e body [] pos) (eN ti (nS i j) t):=
 z9 hp hc hi (vC hc (mT (iO hN hx hlx hfx) (mT (iO hN hy hly hfy) vA))) (aj5 _ i j) hb hs
noncomputable abbrev eR:Value->Shared->Prop:=fun _ _=>False
section
variable {scope : Scope} {N : List Str} {fr : List (Option Nat)} {x y : Str} {tp xp yp : Pos} {kt : Nat} {iter elt : Expr} {ti : eM}
theorem sY {ifs:List Expr}{tcs:bM} (he:∀ (s:Shared) (H:Hp) (C:Addr) (fp:List Addr),QE (cA X scope N s H C fp eR) elt te) (hi:∀ (s:Shared) (H:Hp) (C:Addr) (fp:List Addr),iS (cA X scope N s H C fp eR) ifs (LT (cA X scope N s H C fp eR) tcs))
  (hN:N.Nodup) (h0:N[0]? = some x) (hl:∀ (s:Shared) (H:Hp) (C:Addr) (fp:List Addr),(cA X scope N s H C fp eR).env.scope.names.lookup x=some .local) (s:Shared) (H:Hp) :
  lO X scope N (.Name x tp) ifs elt s H (dX 0) (LT (X.frm H) tcs) (LE (X.frm H) te):=
 ⟨fun C fp=>iO (X:=cA X scope N s H C fp eR) hN h0 (.inl (hl s H C fp)) (.inr (hl s H C fp)),fun C fp=>hi s H C fp,fun C fp=>he s H C fp⟩
theorem an6 {Y:Cx}:iS Y [] (LT Y k9):=fun pins s σ H Q I h=>xJ pins s σ H Q I (aj8 h)
theorem zH (hi:QI X (.Name x tp) iter ti) (he:∀ (s:Shared) (H:Hp) (C:Addr) (fp:List Addr),QE (cA X scope N s H C fp eR) elt te)
  (hc:X.calm=true:=by rfl) (S:dG X scope N fr:=by exact dG.of rfl rfl) (hN:N.Nodup:=by decide +kernel) (h0:N[0]? = some x:=by rfl) (hl:∀ (s:Shared) (H:Hp) (C:Addr) (fp:List Addr),(cA X scope N s H C fp eR).env.scope.names.lookup x=some .local:=by intro _ _ _ _; rfl) (hf:fr[0]? = some none:=by rfl)
  (hs:∀ x,foldedSetIterable iter X.env x=pure x:=by intro _; rfl):QE X (.ListComp elt [⟨.Name x tp,iter,[],0⟩] scope pos) (gO ti fr (cJ 0) k9 te):=
 bL (xL (gh:=fun _=>dX 0) (tch:=fun H=>LT (X.frm H) k9) (teh:=fun H=>LE (X.frm H) te) hc S hi (sY he (fun _ _ _ _=>an6) hN h0 hl) hs) fun _ _ _=>sB (nR _ 0) (fun i e=>by subst e; exact hf)
theorem zI {c:Expr}{tcs:bM} (hi:QI X (.Name x tp) iter ti) (ht:∀ (s:Shared) (H:Hp) (C:Addr) (fp:List Addr),QT (cA X scope N s H C fp eR) c tcs) (he:∀ (s:Shared) (H:Hp) (C:Addr) (fp:List Addr),QE (cA X scope N s H C fp eR) elt te)
  (hc:X.calm=true:=by rfl) (S:dG X scope N fr:=by exact dG.of rfl rfl) (hN:N.Nodup:=by decide +kernel) (h0:N[0]? = some x:=by rfl) (hl:∀ (s:Shared) (H:Hp) (C:Addr) (fp:List Addr),(cA X scope N s H C fp eR).env.scope.names.lookup x=some .local:=by intro _ _ _ _; rfl) (hf:fr[0]? = some none:=by rfl)
  (hs:∀ x,foldedSetIterable iter X.env x=pure x:=by intro _; rfl):QE X (.ListComp elt [⟨.Name x tp,iter,[c],0⟩] scope pos) (gO ti fr (cJ 0) tcs te):=
 bL (xL (gh:=fun _=>dX 0) (tch:=fun H=>LT (X.frm H) tcs) (teh:=fun H=>LE (X.frm H) te) hc S hi (sY he (fun s H C fp=>xK (ht s H C fp)) hN h0 hl) hs) fun _ _ _=>sB (nR _ 0) (fun i e=>by subst e; exact hf)
theorem an7 {c:Expr}{tcs:bM}{i:Nat}{z:Str}{zp:Pos} (nd:X.N.Nodup) (hi:QI X (.Name x tp) iter ti) (ht:∀ (s:Shared) (H:Hp) (C:Addr) (fp:List Addr),QT (cA X scope N s H C fp eR) c tcs) (he:∀ (s:Shared) (H:Hp) (C:Addr) (fp:List Addr),QE (cA X scope N s H C fp eR) elt te)
  (hz:X.N[i]? = some z:=by rfl) (hzl:X.env.scope.names.lookup z=some .local:=by rfl) (hsw:swapsWith (.ListComp elt [⟨.Name x tp,iter,[c],0⟩] scope p2) (some (.Name z zp)) pos.line X.env=pure true:=by rfl)
  (hc:X.calm=true:=by rfl) (S:dG X scope N fr:=by exact dG.of rfl rfl) (hN:N.Nodup:=by decide +kernel) (h0:N[0]? = some x:=by rfl) (hl:∀ (s:Shared) (H:Hp) (C:Addr) (fp:List Addr),(cA X scope N s H C fp eR).env.scope.names.lookup x=some .local:=by intro _ _ _ _; rfl) (hf:fr[0]? = some none:=by rfl)
  (hs:∀ x,foldedSetIterable iter X.env x=pure x:=by intro _; rfl):QS X (.Assign [.Name z zp] (.ListComp elt [⟨.Name x tp,iter,[c],0⟩] scope p2) pos) (bJ i (gO ti fr (cJ 0) tcs te)):=
 cT (ae1 (gh:=fun _=>dX 0) (tch:=fun H=>LT (X.frm H) tcs) (teh:=fun H=>LE (X.frm H) te) hc S hi (sY he (fun s H C fp=>xK (ht s H C fp)) hN h0 hl) nd hz hzl hsw hs) fun D σ H h=>sB (nR _ 0) (fun i e=>by subst e; exact hf) (yD h)
end
theorem zJ {i:Nat}{x:Str}{xpos tpos:Pos} (hk:QE X a tk) (he:QE X e te) (hN:X.N[i]? = some x:=by rfl) (hv:eV X.env.scope x:=by first | exact Or.inl rfl | exact Or.inr (Or.inl rfl) | exact Or.inr (Or.inr rfl)) (hd:(x == ("__debug__" : Str))=false:=by decide) (hcd:(x == ("__classdict__" : Str))=false:=by decide)
  (hp:∀ (tx:TE) (tg:TE),PE X (.Name x xpos) tx->PE X a tg->PG X (.Subscript (.Name x xpos) a tpos) (qB tx tg qS):=by intro _ _ h1 h2; exact T0 h1 h2 Z5)
  (hs:swapsWithSole [.Subscript (.Name x xpos) a tpos] e pos.line X.env=pure false:=by rfl) (hw:swappedStores [.Subscript (.Name x xpos) a tpos] e X.env=pure none:=by rfl) :
  QS X (.Assign [.Subscript (.Name x xpos) a tpos] e pos) (nL i tk te):=cT (T1 he (hp _ _ (g9 hN hv hd hcd) hk) hs hw) fun _ _ _=>ai0
end
end PP
namespace SO
open PySem PyProof.Rows
section
variable (rk : Keyed → Int)
noncomputable def Kr (xs:Array Keyed) (i:Nat):Int:=((xs[i]?).map rk).getD 0
noncomputable def Up (xs:Array Keyed) (lo hi:Nat):Prop:=∀ i j,lo<=i->i<=j->j < hi->Kr rk xs i<=Kr rk xs j
noncomputable def Dn (xs:Array Keyed) (lo hi:Nat):Prop:=∀ i j,lo<=i->i<=j->j < hi->Kr rk xs j<=Kr rk xs i
end
variable {rk : Keyed → Int}
theorem jC {xs ys:Array Keyed}{i j:Nat} (h:xs[i]? = ys[j]?):Kr rk xs i=Kr rk ys j:=by unfold Kr; rw [h]
theorem oD {xs:Array Keyed}{i j:Nat} (hj:j<=xs.size) (k:Nat):Kr rk (mirror xs i j ((j - i) / 2)) k=Kr rk xs (if i<=k/\k < j then i+j - 1 - k else k):=by
 refine jC ?_
 rw [getElem?_mirror_all hj]
 split <;> rfl
theorem sZ {xs:Array Keyed}{i j:Nat} (hj:j<=xs.size) (e:∀ k,i<=k->k < j->Kr rk xs k=Kr rk xs (j - 1)) (k:Nat):Kr rk (mirror xs i j ((j - i) / 2)) k=Kr rk xs k:=by
 rw [oD hj]
 split
 ·rename_i h; rw [e k h.1 h.2,e _ (by omega) (by omega)]
 ·rfl
theorem an8 {xs:Array Keyed}{src d:Nat} (hs:src < xs.size) (hd:d<=src) (k:Nat):Kr rk (bubble xs src d) k=Kr rk xs (if k=src - d then src else if src - d < k/\k<=src then k - 1 else k):=by
 refine jC ?_
 rw [getElem?_bubble hs d hd]
 repeat' split
 all_goals rfl
structure SB (κ:SortKind) (a0:Array Keyed) (pd:Array (Nat × Nat × Nat)) (st:SortSt):Prop where
 pm:(arrOf st).Perm a0
 kd:kindOf st=κ
 ok:failedOf st=none
 pd:pendingOf st=pd
section
variable {κ : SortKind} {a0 : Array Keyed} {pd : Array (Nat × Nat × Nat)} {st : SortSt} {prog : Program} {w : World} {A : Around} {E : Value → Shared → Prop} {s : Shared} {Ok : Keyed → Prop}
theorem SB.sz (h:SB κ a0 pd st):(arrOf st).size=a0.size:=h.pm.size_eq
theorem SB.put (h:SB κ a0 pd st) {xs:Array Keyed} (hp:xs.Perm (arrOf st)):SB κ a0 pd (setArr st xs):=⟨hp.trans h.pm,h.kd,h.ok,h.pd⟩
noncomputable def bN (prog:Program) (w:World) (A:Around) (E:Value->Shared->Prop) (s:Shared) (κ:SortKind) (Ok:Keyed->Prop) (rk:Keyed->Int):Prop:=
 ∀ (x y:Keyed),Ok x->Ok y->∀ (st:SortSt) (Q:Option Bool->SortSt->Prop),kindOf st=κ->Q (some (decide (rk x < rk y))) st->wpS (model prog w) A E s (lt' x y) Q st
noncomputable def b8 (Ok:Keyed->Prop) (xs:Array Keyed):Prop:=∀ x ∈ xs,Ok x
theorem SB.all (h:SB κ a0 pd st) (o:b8 Ok a0):b8 Ok (arrOf st):=fun x hx=>o x (h.pm.mem_iff.mp hx)
theorem cD {xs:Array Keyed}{i:Nat}{Q:Keyed->SortSt->Prop} (hi:i < xs.size) (h:Q xs[i] st):wpS (model prog w) A E s (elem' xs i) Q st:=by
 rw [elem'_eq,getElem?_pos xs i hi]; exact aL7 h
theorem bI {xs:Array Keyed}{i:Nat} (hi:i < xs.size):Kr rk xs i=rk xs[i]:=by unfold Kr; rw [getElem?_pos xs i hi]; rfl
theorem m5 (c:bN prog w A E s κ Ok rk) (o:b8 Ok a0) (b:SB κ a0 pd st) {i j:Nat}{Q:Option Bool->SortSt->Prop} (hi:i < a0.size) (hj:j < a0.size)
  (h:Q (some (decide (Kr rk (arrOf st) i < Kr rk (arrOf st) j))) st):wpS (model prog w) A E s (ltAt' i j) Q st:=by
 have hi':i < (arrOf st).size:=by rw [b.sz]; exact hi
 have hj':j < (arrOf st).size:=by rw [b.sz]; exact hj
 rw [ltAt'_eq]
 refine aK9 (wpS_get (aK9 (cD hi' (aK9 (cD hj' ?_)))))
 refine c _ _ (b.all o _ (aO7 hi')) (b.all o _ (aO7 hj')) st Q b.kd ?_
 rw [<- bI (rk:=rk) hi',<- bI (rk:=rk) hj']; exact h
theorem oE {i j:Nat}{Q:Unit->SortSt->Prop} (h:Q () (setArr st (mirror (arrOf st) i j ((j - i) / 2)))):wpS (model prog w) A E s (reverseSlice' i j) Q st:=by
 rw [reverseSlice'_eq]; exact wpS_modify h
noncomputable abbrev CS:=Option (Option Nat) × Nat
noncomputable abbrev DS:=Option (Option Nat) × Nat × Nat
noncomputable def m6 (lo b nrem:Nat):StateT SortSt Sem CS:=forIn [b:nrem] ((none,b):CS) fun _ r=>do
 match <- ltAt' (lo+r.2) (lo+r.2 - 1) with
 | some q=>if q=true then pure (ForInStep.done (none,r.2)) else pure (ForInStep.yield (none,r.2+1))
 | _=>pure (ForInStep.done (some none,r.2))
noncomputable def t5 (lo b nrem:Nat):StateT SortSt Sem DS:=forIn [b:nrem] ((none,b,0):DS) fun _ r=>do
 match <- ltAt' (lo+r.2.1) (lo+r.2.1 - 1) with
 | some q=>
  if q=true then (if r.2.2 > 0 then do reverseSlice' (lo+r.2.1 - (r.2.2+1)) (lo+r.2.1); pure (ForInStep.yield (none,r.2.1+1,0)) else pure (ForInStep.yield (none,r.2.1+1,0)))
  else do
   match <- ltAt' (lo+r.2.1 - 1) (lo+r.2.1) with
   | some q=>if q=true then pure (ForInStep.done (none,r.2.1,r.2.2)) else pure (ForInStep.yield (none,r.2.1+1,r.2.2+1))
   | _=>pure (ForInStep.done (some none,r.2.1,r.2.2))
 | _=>pure (ForInStep.done (some none,r.2.1,r.2.2))
theorem zK (c:bN prog w A E s κ Ok rk) (o:b8 Ok a0) (b:SB κ a0 pd st) {lo n nrem:Nat}{Q:CS->SortSt->Prop} (hz:lo+nrem<=a0.size) (h1:1<=n) (hn:n<=nrem) (u:Up rk (arrOf st) lo (lo+n))
  (h:∀ m,n<=m->m<=nrem->Up rk (arrOf st) lo (lo+m)->(m=nrem ∨ Kr rk (arrOf st) (lo+m) < Kr rk (arrOf st) (lo+m - 1))->Q (none,m) st):wpS (model prog w) A E s (m6 lo n nrem) Q st:=by
 unfold m6
 refine aR8 (I:=fun x r st'=>st'=st/\r=(none,x)/\Up rk (arrOf st) lo (lo+x)) ?_ ?_ ⟨rfl,rfl,u⟩
 ·rintro x r st' hx hx' ⟨rfl,rfl,u'⟩
  refine aK9 (m5 c o b (by omega) (by omega) ?_)
  by_cases hq:Kr rk (arrOf st') (lo+x) < Kr rk (arrOf st') (lo+x - 1)
  ·rw [aL2 hq]
   exact aL7 (h x hx (by omega) u' (.inr hq))
  ·rw [aL0 hq]
   refine aL7 ⟨rfl,rfl,fun i j hi hij hj=>?_⟩
   rcases aO4 j (lo+x) with z | z
   ·exact u' i j hi hij z
   ·have ej:j=lo+x:=by omega
    subst ej
    rcases aX7 hij with z | z
    ·rw [z]; exact aY9 _
    ·have:=u' i (lo+x - 1) hi (by omega) (by omega)
     omega
 ·rintro r st' ⟨rfl,rfl,u'⟩
  have em:max n nrem=nrem:=by omega
  rw [em] at u' ⊢
  exact h nrem hn (aK4 _) u' (.inl rfl)
structure m7 (rk:Keyed->Int) (xs ys:Array Keyed) (lo m q:Nat):Prop where
 dn:Dn rk ys lo (lo+m)
 le:q+1<=m
 eq:∀ i,lo+m - (q+1)<=i->i < lo+m->Kr rk ys i=Kr rk ys (lo+m - 1)
 low:∀ i,i < lo->Kr rk ys i=Kr rk xs i
theorem an9 (c:bN prog w A E s κ Ok rk) (o:b8 Ok a0) (b:SB κ a0 pd st) {lo n nrem:Nat}{xs:Array Keyed}{Q:DS->SortSt->Prop} (hz:lo+nrem<=a0.size) (h1:1<=n) (hn:n<=nrem) (u:m7 rk xs (arrOf st) lo n 0)
  (h:∀ m q st',SB κ a0 pd st'->n<=m->m<=nrem->m7 rk xs (arrOf st') lo m q->Q (none,m,q) st'):wpS (model prog w) A E s (t5 lo n nrem) Q st:=by
 unfold t5
 refine aR8 (I:=fun x r st'=>∃ q,r=(none,x,q)/\SB κ a0 pd st'/\m7 rk xs (arrOf st') lo x q) ?_ ?_ ⟨0,rfl,b,u⟩
 ·rintro x r st' hx hx' ⟨q,rfl,b',f⟩
  have sz:=b'.sz
  dsimp only
  refine aK9 (m5 c o b' (by omega) (by omega) ?_)
  by_cases hq:Kr rk (arrOf st') (lo+x) < Kr rk (arrOf st') (lo+x - 1)
  ·rw [aL2 hq]
   have nx:∀ ys:Array Keyed,(∀ k,Kr rk ys k=Kr rk (arrOf st') k)->m7 rk xs ys lo (x+1) 0:=fun ys e=>by
    refine⟨fun i j hi hij hj=>?_,by omega,fun i h1 h2=>by rw [show i=lo+(x+1) - 1 by omega],fun i hi=>(e i).trans (f.low i hi)⟩
    rw [e,e]
    rcases aO4 j (lo+x) with z | z
    ·exact f.dn i j hi hij z
    ·have ej:j=lo+x:=by omega
     subst ej
     rcases aX7 hij with z | z
     ·rw [z]; exact aY9 _
     ·have:=f.dn i (lo+x - 1) hi (by omega) (by omega)
      omega
   dsimp only
   rw [if_pos rfl]
   by_cases hp:q > 0
   ·rw [if_pos hp]
    exact aK9 (oE (aL7 ⟨0,rfl,b'.put (mirror_perm _ _ _ _),nx _ (sZ (by omega) f.eq)⟩))
   ·rw [if_neg hp]
    exact aL7 ⟨0,rfl,b',nx _ fun _=>rfl⟩
  ·rw [aL0 hq]
   dsimp only
   rw [if_neg aL6]
   refine aK9 (m5 c o b' (by omega) (by omega) ?_)
   by_cases hl:Kr rk (arrOf st') (lo+x - 1) < Kr rk (arrOf st') (lo+x)
   ·rw [aL2 hl]
    exact aL7 (h x q st' b' hx (by omega) f)
   ·rw [aL0 hl]
    have ex:Kr rk (arrOf st') (lo+x)=Kr rk (arrOf st') (lo+x - 1):=by omega
    refine aL7 ⟨q+1,rfl,b',fun i j hi hij hj=>?_,by have:=f.le; omega,fun i h1 h2=>?_,f.low⟩
    ·rcases aO4 j (lo+x) with z | z
     ·exact f.dn i j hi hij z
     ·have ej:j=lo+x:=by omega
      subst ej
      rcases aX7 hij with z | z
      ·rw [z]; exact aY9 _
      ·rw [ex]; exact f.dn i (lo+x - 1) hi (by omega) (by omega)
    ·rw [show lo+(x+1) - 1=lo+x by omega]
     rcases aO4 i (lo+x) with z | z
     ·rw [ex]; exact f.eq i (by omega) z
     ·rw [show i=lo+x by omega]
 ·rintro r st' ⟨q,rfl,b',f⟩
  have em:max n nrem=nrem:=by omega
  rw [em] at f ⊢
  exact h nrem q st' b' hn (aK4 _) f
theorem zL (c:bN prog w A E s κ Ok rk) (o:b8 Ok a0) (b:SB κ a0 pd st) {lo nrem:Nat} (n:Nat) {xs:Array Keyed}{Q:Option Nat->SortSt->Prop}{K:DS->StateT SortSt Sem (Option Nat)}{k:CS->StateT SortSt Sem (Option Nat)} (hz:lo+nrem<=a0.size) (hn:n+1<=nrem)
  (hK:∀ m q,K (none,m,q)=if q > 0 then reverseSlice' (lo+m - (q+1)) (lo+m) >>= fun _=>reverseSlice' lo (lo+m) >>= fun _=>m6 lo m nrem >>= k else reverseSlice' lo (lo+m) >>= fun _=>m6 lo m nrem >>= k)
  (hk:∀ m,k (none,m)=pure (some m)) (u:m7 rk xs (arrOf st) lo (n+1) 0)
  (h:∀ m st',SB κ a0 pd st'->1<=m->m<=nrem->Up rk (arrOf st') lo (lo+m)->(∀ i,i < lo->Kr rk (arrOf st') i=Kr rk xs i)->Q (some m) st'):wpS (model prog w) A E s (liftM (rule "list.sort.descending-run") >>= fun _=>t5 lo (n+1) nrem >>= K) Q st:=by
 refine aK9 (wpS_lift (aX6 ⟨rfl,?_⟩))
 refine aK9 (an9 c o b hz (by omega) hn u fun m q st1 b1 m1 m2 f=>?_)
 have fin:∀ st2:SortSt,SB κ a0 pd st2->(∀ k,Kr rk (arrOf st2) k=Kr rk (arrOf st1) k)->
   wpS (model prog w) A E s (reverseSlice' lo (lo+m) >>= fun _=>m6 lo m nrem >>= k) Q st2:=fun st2 b2 e=>by
  have sz:=b2.sz
  have low:∀ i,i < lo->Kr rk (mirror (arrOf st2) lo (lo+m) ((lo+m - lo) / 2)) i=Kr rk xs i:=fun i hi=>by
   rw [oD (by omega),if_neg (by omega),e]
   exact f.low i hi
  refine aK9 (oE (aK9 (zK (κ:=κ) c o (b2.put (mirror_perm _ _ _ _)) hz (by omega) m2 ?_ fun m' h1 h2 up _=>by rw [hk]; exact aL7 (h m' _ (b2.put (mirror_perm _ _ _ _)) (by omega) h2 up low))))
  ·intro i j hi hij hj
   show Kr rk (mirror (arrOf st2) lo (lo+m) _) i<=Kr rk (mirror (arrOf st2) lo (lo+m) _) j
   rw [oD (by omega),oD (by omega),if_pos (by omega),if_pos (by omega),e,e]
   exact f.dn _ _ (by omega) (by omega) (by omega)
 rw [hK]
 by_cases hp:q > 0
 ·rw [if_pos hp]
  have sz:=b1.sz
  exact aK9 (oE (fin _ (b1.put (mirror_perm _ _ _ _)) (sZ (by omega) f.eq)))
 ·rw [if_neg hp]
  exact fin st1 b1 fun _=>rfl
theorem ao0 (c:bN prog w A E s κ Ok rk) (o:b8 Ok a0) (b:SB κ a0 pd st) {lo nrem:Nat}{Q:Option Nat->SortSt->Prop} (hz:lo+nrem<=a0.size) (h1:1<=nrem)
  (h:∀ m st',SB κ a0 pd st'->1<=m->m<=nrem->Up rk (arrOf st') lo (lo+m)->(∀ i,i < lo->Kr rk (arrOf st') i=Kr rk (arrOf st) i)->Q (some m) st'):wpS (model prog w) A E s (countRun' lo nrem) Q st:=by
 rw [countRun'_eq]
 refine aK9 (zK (n:=1) c o b hz (aK4 _) h1 (fun i j hi hij hj=>by rw [show i=j by omega]; exact aY9 _) fun n n1 n2 un on=>?_)
 dsimp only
 by_cases en:(n == nrem)=true
 ·rw [if_pos en]
  exact aL7 (h n st b n1 n2 un fun _ _=>rfl)
 ·rw [if_neg en]
  have en':n ≠ nrem:=by simpa using en
  have lt:=on.resolve_left en'
  have sz:=b.sz
  by_cases g:n > 1
  ·rw [if_pos g]
   refine aK9 (m5 c o b (by omega) (by omega) ?_)
   by_cases hq:Kr rk (arrOf st) lo < Kr rk (arrOf st) (lo+n - 1)
   ·rw [aL2 hq]
    exact aL7 (h n st b n1 n2 un fun _ _=>rfl)
   ·rw [aL0 hq]
    dsimp only
    rw [if_neg aL6]
    have all:∀ k,lo<=k->k < lo+n->Kr rk (arrOf st) k=Kr rk (arrOf st) (lo+n - 1):=fun k k1 k2=>by
     have a1:=un lo k (aK4 _) k1 k2
     have a2:=un k (lo+n - 1) k1 (by omega) (by omega)
     omega
    have sm:=sZ (rk:=rk) (xs:=arrOf st) (i:=lo) (j:=lo+n) (by omega) all
    refine aK9 (oE (zL (xs:=arrOf st) (κ:=κ) c o (b.put (mirror_perm _ _ _ _)) n hz (by omega) (fun _ _=>rfl) (fun _=>rfl) ⟨fun i j hi hij hj=>?_,by omega,fun i h1 h2=>by rw [show i=lo+(n+1) - 1 by omega],fun i _=>sm i⟩ h))
    show Kr rk (mirror (arrOf st) lo (lo+n) _) j<=Kr rk (mirror (arrOf st) lo (lo+n) _) i
    rw [sm,sm]
    rcases aO4 j (lo+n) with z | z
    ·rw [all i hi (by omega),all j (by omega) z]; exact aY9 _
    ·have ej:j=lo+n:=by omega
     subst ej
     rcases aX7 hij with z | z
     ·rw [z]; exact aY9 _
     ·rw [all i hi (by omega)]; exact Int.le_of_lt lt
  ·rw [if_neg g]
   have e1:n=1:=by omega
   subst e1
   refine zL (xs:=arrOf st) c o b 1 hz (by omega) (fun _ _=>rfl) (fun _=>rfl) ⟨fun i j hi hij hj=>?_,by omega,fun i h1 h2=>by rw [show i=lo+(1+1) - 1 by omega],fun i _=>rfl⟩ h
   rcases aX7 hij with z | z
   ·rw [z]; exact aY9 _
   ·have ei:i=lo+1 - 1:=by omega
    have ej:j=lo+1:=by omega
    rw [ei,ej]; exact Int.le_of_lt lt
theorem ao1 (c:bN prog w A E s κ Ok rk) (o:b8 Ok a0) (b:SB κ a0 pd st) {lo n q:Nat}{Q:Bool->SortSt->Prop} (hz:lo+n<=a0.size) (hq:q<=n) (u:Up rk (arrOf st) lo (lo+q))
  (h:∀ st',SB κ a0 pd st'->Up rk (arrOf st') lo (lo+n)->(∀ i,i < lo->Kr rk (arrOf st') i=Kr rk (arrOf st) i)->Q true st'):wpS (model prog w) A E s (binarySort' lo n q) Q st:=by
 rw [binarySort'_eq]
 refine aK9 (aZ0 (aR8 (I:=fun k r st'=>r=(none,())/\SB κ a0 pd st'/\Up rk (arrOf st') lo (lo+min k n)/\∀ i,i < lo->Kr rk (arrOf st') i=Kr rk (arrOf st) i)
  (Q:=fun r st'=>r=(none,())/\SB κ a0 pd st'/\Up rk (arrOf st') lo (lo+n)/\∀ i,i < lo->Kr rk (arrOf st') i=Kr rk (arrOf st) i) ?_ ?_ ?_) ?_)
 ·rintro k r st1 hk hkn ⟨rfl,b1,u1,l1⟩
  rw [show min k n=k by omega] at u1
  have hk0:lo+k < a0.size:=by omega
  have sz:=b1.sz
  refine aK9 (aZ0 (aR8 (I:=fun x r st'=>st'=st1/\∃ l g,r=(none,l,g)/\l<=g/\g<=k/\g - l<=k - x/\(∀ i,i < l->Kr rk (arrOf st1) (lo+i)<=Kr rk (arrOf st1) (lo+k))/\∀ i,g<=i->i < k->Kr rk (arrOf st1) (lo+k) < Kr rk (arrOf st1) (lo+i))
   (Q:=fun r st'=>st'=st1/\∃ l g,r=(none,l,g)/\l<=k/\(∀ i,i < l->Kr rk (arrOf st1) (lo+i)<=Kr rk (arrOf st1) (lo+k))/\∀ i,l<=i->i < k->Kr rk (arrOf st1) (lo+k) < Kr rk (arrOf st1) (lo+i)) ?_ ?_ ?_) ?_)
  ·rintro x r st2 _ hx ⟨rfl,l,g,rfl,d1,d2,d3,f1,f2⟩
   dsimp only
   by_cases hlg:l >= g
   ·rw [if_pos hlg]
    have e:g=l:=by omega
    subst e
    exact aL7 ⟨rfl,g,g,rfl,d2,f1,f2⟩
   ·rw [if_neg hlg]
    refine aK9 (m5 c o b1 hk0 (by omega) ?_)
    by_cases hc:Kr rk (arrOf st2) (lo+k) < Kr rk (arrOf st2) (lo+(l+g) / 2)
    ·rw [aL2 hc]
     refine aL7 ⟨rfl,l,(l+g) / 2,rfl,by omega,by omega,by omega,f1,fun i i1 i2=>?_⟩
     have:=u1 (lo+(l+g) / 2) (lo+i) (by omega) (by omega) (by omega)
     omega
    ·rw [aL0 hc]
     refine aL7 ⟨rfl,(l+g) / 2+1,g,rfl,by omega,d2,by omega,fun i i1=>?_,f2⟩
     have:=u1 (lo+i) (lo+(l+g) / 2) (by omega) (by omega) (by omega)
     omega
  ·rintro r st2 ⟨rfl,l,g,rfl,d1,d2,d3,f1,f2⟩
   have e:g=l:=by omega
   subst e
   exact⟨rfl,g,g,rfl,d2,f1,f2⟩
  ·exact⟨rfl,0,k,rfl,by omega,by omega,by omega,fun i hi=>absurd hi (by omega),fun i i1 i2=>absurd i1 (by omega)⟩
  ·rintro r st2 ⟨rfl,l,g,rfl,d,f1,f2⟩
   dsimp only
   rw [moveDown'_eq]
   have kb:∀ i,Kr rk (bubble (arrOf st2) (lo+k) (lo+k - (lo+l))) i=Kr rk (arrOf st2) (if i=lo+l then lo+k else if lo+l < i/\i<=lo+k then i - 1 else i):=fun i=>by
    rw [an8 (by omega) (by omega),show lo+k - (lo+k - (lo+l))=lo+l by omega]
   refine aK9 (wpS_modify (aL7 ⟨rfl,b1.put (bubble_perm _ _ _),fun i j hi hij hj=>?_,fun i hi=>?_⟩))
   ·show Kr rk (bubble (arrOf st2) (lo+k) (lo+k - (lo+l))) i<=Kr rk (bubble (arrOf st2) (lo+k) (lo+k - (lo+l))) j
    rw [kb,kb]
    rw [show min (k+1) n=k+1 by omega] at hj
    have v1:∀ p,lo<=p->p < lo+l->Kr rk (arrOf st2) p<=Kr rk (arrOf st2) (lo+k):=fun p p1 p2=>by have:=f1 (p - lo) (by omega); rwa [show lo+(p - lo)=p by omega] at this
    have v2:∀ p,lo+l<=p->p < lo+k->Kr rk (arrOf st2) (lo+k) < Kr rk (arrOf st2) p:=fun p p1 p2=>by have:=f2 (p - lo) (by omega) (by omega); rwa [show lo+(p - lo)=p by omega] at this
    repeat' split
    all_goals first
     | (exfalso; omega)
     | exact aY9 _
     | exact v1 _ (by omega) (by omega)
     | exact Int.le_of_lt (v2 _ (by omega) (by omega))
     | exact u1 _ _ (by omega) (by omega) (by omega)
   ·show Kr rk (bubble (arrOf st2) (lo+k) (lo+k - (lo+l))) i=_
    rw [kb,if_neg (by omega),if_neg (by omega)]
    exact l1 i hi
 ·rintro r st1 ⟨rfl,b1,u1,l1⟩
  rw [show min (max (max q 1) n) n=n by omega] at u1
  exact⟨rfl,b1,u1,l1⟩
 ·refine⟨rfl,b,fun i j hi hij hj=>?_,fun _ _=>rfl⟩
  rcases aO4 j (lo+q) with z | z
  ·exact u i j hi hij z
  ·rw [show i=j by omega]; exact aY9 _
 ·rintro r st1 ⟨rfl,b1,u1,l1⟩
  exact aL7 (h st1 b1 u1 l1)
end
noncomputable def iG:Bool->Keyed->Array Keyed->Nat->Nat->Nat->StateT SortSt Sem (Option Nat):=sortPriv% PySem.Builtin.gallop
noncomputable def jD (lf:Bool) (key:Keyed) (xs:Array Keyed) (bs i:Nat):StateT SortSt Sem (Option Bool):=do
 let z <- elem' xs (bs+i)
 if lf then lt' z key else return (<- lt' key z).map (!·)
theorem ao2 (lf:Bool) (key:Keyed) (xs:Array Keyed) (bs n h:Nat):iG lf key xs bs n h=(do
 let mut la:=0
 let mut of:=1
 let mut l:=0
 let mut g:=0
 let some rt <- jD lf key xs bs h | return none
 if rt then
  let mx:=n - h
  for _ in [0:n] do
   if of >= mx then break
   let some mr <- jD lf key xs bs (h+of) | return none
   if !mr then break
   la:=of
   of:=2 * of+1
  l:=h+la+1
  g:=h+min of mx
 else
  let mx:=h+1
  for _ in [0:n] do
   if of >= mx then break
   let some fd <- jD lf key xs bs (h - of) | return none
   if fd then break
   la:=of
   of:=2 * of+1
  l:=h+1 - min of mx
  g:=h - la
 for _ in [0:n] do
  if l >= g then break
  let m:=l+(g - l) / 2
  let some mr <- jD lf key xs bs m | return none
  if mr then l:=m+1 else g:=m
 return some g):=rfl
section
variable {rk : Keyed → Int} {κ : SortKind} {st : SortSt} {prog : Program} {w : World} {A : Around} {E : Value → Shared → Prop} {s : Shared} {Ok : Keyed → Prop}
noncomputable def bF (rk:Keyed->Int) (lf:Bool) (key:Keyed) (xs:Array Keyed) (bs i:Nat):Bool:=if lf then decide (Kr rk xs (bs+i) < rk key) else decide (Kr rk xs (bs+i)<=rk key)
theorem oF (c:bN prog w A E s κ Ok rk) (hk:kindOf st=κ) {lf:Bool}{key:Keyed}{xs:Array Keyed}{bs i:Nat}{Q:Option Bool->SortSt->Prop} (ok:Ok key) (o:b8 Ok xs) (hi:bs+i < xs.size)
  (h:Q (some (bF rk lf key xs bs i)) st):wpS (model prog w) A E s (jD lf key xs bs i) Q st:=by
 unfold jD
 refine aK9 (cD hi ?_)
 unfold bF at h
 rw [bI hi] at h
 cases lf with
 | true=>
  simp only [if_true] at h ⊢
  exact c _ _ (o _ (aO7 hi)) ok st Q hk h
 | false=>
  simp only [aN1,aR7] at h ⊢
  refine aK9 (c _ _ ok (o _ (aO7 hi)) st _ hk (aL7 ?_))
  have e:(!decide (rk key < rk xs[bs+i]))=decide (rk xs[bs+i]<=rk key):=by
   by_cases z:rk xs[bs+i]<=rk key
   ·rw [aL2 z,aL0 (by omega)]; rfl
   ·rw [aL0 z,aL2 (by omega)]; rfl
  show Q (some (!decide (rk key < rk xs[bs+i]))) st
  rw [e]; exact h
noncomputable abbrev GS:=Option (Option Nat) × Nat × Nat
noncomputable def zM (lf:Bool) (key:Keyed) (xs:Array Keyed) (bs n l g:Nat):StateT SortSt Sem GS:=forIn [0:n] ((none,l,g):GS) fun _ r=>
 if r.2.1 >= r.2.2 then pure (ForInStep.done (none,r.2.1,r.2.2)) else do
  match <- jD lf key xs bs (r.2.1+(r.2.2 - r.2.1) / 2) with
  | some q=>if q=true then pure (ForInStep.yield (none,r.2.1+(r.2.2 - r.2.1) / 2+1,r.2.2)) else pure (ForInStep.yield (none,r.2.1,r.2.1+(r.2.2 - r.2.1) / 2))
  | _=>pure (ForInStep.done (some none,r.2.1,r.2.2))
theorem zN (c:bN prog w A E s κ Ok rk) (hk:kindOf st=κ) {lf:Bool}{key:Keyed}{xs:Array Keyed}{bs n l g:Nat}{Q:GS->SortSt->Prop} (ok:Ok key) (o:b8 Ok xs) (hz:bs+n<=xs.size)
  (mono:∀ i j,i<=j->j < n->bF rk lf key xs bs j=true->bF rk lf key xs bs i=true) (hlg:l<=g) (hg:g<=n) (h1:∀ i,i < l->bF rk lf key xs bs i=true) (h2:∀ i,g<=i->i < n->bF rk lf key xs bs i=false)
  (hq:∀ k,k<=n->(∀ i,i < k->bF rk lf key xs bs i=true)->(∀ i,k<=i->i < n->bF rk lf key xs bs i=false)->Q (none,k,k) st):wpS (model prog w) A E s (zM lf key xs bs n l g) Q st:=by
 unfold zM
 refine aR8 (I:=fun x r st'=>st'=st/\∃ l g,r=(none,l,g)/\l<=g/\g<=n/\g - l<=n - x/\(∀ i,i < l->bF rk lf key xs bs i=true)/\∀ i,g<=i->i < n->bF rk lf key xs bs i=false) ?_ ?_ ⟨rfl,l,g,rfl,hlg,hg,by omega,h1,h2⟩
 ·rintro x r st' _ hx ⟨rfl,l,g,rfl,d1,d2,d3,f1,f2⟩
  dsimp only
  by_cases hc:l >= g
  ·rw [if_pos hc]
   have e:g=l:=by omega
   subst e
   exact aL7 (hq g d2 f1 f2)
  ·rw [if_neg hc]
   refine aK9 (oF c hk ok o (by omega) ?_)
   cases z:bF rk lf key xs bs (l+(g - l) / 2) with
   | true=>exact aL7 ⟨rfl,_,_,rfl,by omega,d2,by omega,fun i hi=>mono i (l+(g - l) / 2) (by omega) (by omega) z,f2⟩
   | false=>
    refine aL7 ⟨rfl,_,_,rfl,by omega,by omega,by omega,f1,fun i i1 i2=>?_⟩
    cases y:bF rk lf key xs bs i with
    | false=>rfl
    | true=>rw [mono _ i i1 i2 y] at z; cases z
 ·rintro r st' ⟨rfl,l,g,rfl,d1,d2,d3,f1,f2⟩
  have e:g=l:=by omega
  subst e
  exact hq g d2 f1 f2
theorem kH (c:bN prog w A E s κ Ok rk) (hk:kindOf st=κ) {lf:Bool}{key:Keyed}{xs:Array Keyed}{bs n h:Nat}{Q:Option Nat->SortSt->Prop} (ok:Ok key) (o:b8 Ok xs) (hh:h < n) (hz:bs+n<=xs.size) (u:Up rk xs bs (bs+n))
  (hq:∀ k,k<=n->(∀ i,i < k->bF rk lf key xs bs i=true)->(∀ i,k<=i->i < n->bF rk lf key xs bs i=false)->Q (some k) st):wpS (model prog w) A E s (iG lf key xs bs n h) Q st:=by
 have mono:∀ i j,i<=j->j < n->bF rk lf key xs bs j=true->bF rk lf key xs bs i=true:=fun i j hij hj e=>by
  have:=u (bs+i) (bs+j) (by omega) (by omega) (by omega)
  unfold bF at e ⊢
  cases lf with
  | true=>simp only [if_true,aO3] at e ⊢; omega
  | false=>simp only [aN1,aR7,aO3] at e ⊢; omega
 have monf:∀ i j,i<=j->j < n->bF rk lf key xs bs i=false->bF rk lf key xs bs j=false:=fun i j hij hj e=>by
  cases z:bF rk lf key xs bs j with
  | false=>rfl
  | true=>rw [mono i j hij hj z] at e; cases e
 rw [ao2]
 refine aK9 (oF c hk ok o (by omega) ?_)
 dsimp only
 cases z:bF rk lf key xs bs h with
 | true=>
  rw [if_pos rfl]
  refine aK9 (aZ0 (aR8 (I:=fun x r st'=>st'=st/\∃ la of,r=(none,la,of)/\la < of/\x < of/\h+la < n/\bF rk lf key xs bs (h+la)=true)
   (Q:=fun r st'=>st'=st/\∃ la of,r=(none,la,of)/\la < of/\h+la < n/\bF rk lf key xs bs (h+la)=true/\(of < n - h->bF rk lf key xs bs (h+of)=false)) ?_ ?_ ⟨rfl,0,1,rfl,by omega,by omega,by omega,z⟩) ?_)
  ·rintro x r st' _ hx ⟨rfl,la,of,rfl,d1,d2,d3,f⟩
   dsimp only
   by_cases hc:of >= n - h
   ·rw [if_pos hc]
    exact aL7 ⟨rfl,la,of,rfl,d1,d3,f,fun y=>absurd y (by omega)⟩
   ·rw [if_neg hc]
    refine aK9 (oF c hk ok o (by omega) ?_)
    cases y:bF rk lf key xs bs (h+of) with
    | true=>exact aL7 ⟨rfl,of,2 * of+1,rfl,by omega,by omega,by omega,y⟩
    | false=>exact aL7 ⟨rfl,la,of,rfl,d1,d3,f,fun _=>y⟩
  ·rintro r st' ⟨rfl,la,of,rfl,d1,d2,d3,f⟩
   exact⟨rfl,la,of,rfl,d1,d3,f,fun y=>absurd y (by omega)⟩
  ·rintro r st' ⟨rfl,la,of,rfl,d1,d3,f,ft⟩
   dsimp only
   refine aK9 (zN (l:=h+la+1) (g:=h+min of (n - h)) c hk ok o hz mono (by omega) (by omega) (fun i hi=>mono i (h+la) (by omega) d3 f) (fun i i1 i2=>?_) fun k k1 k2 k3=>aL7 (hq k k1 k2 k3))
   rcases aO4 of (n - h) with y | y
   ·exact monf (h+of) i (by omega) i2 (ft y)
   ·exact absurd i1 (by omega)
 | false=>
  rw [if_neg aL6]
  refine aK9 (aZ0 (aR8 (I:=fun x r st'=>st'=st/\∃ la of,r=(none,la,of)/\la < of/\x < of/\la<=h/\bF rk lf key xs bs (h - la)=false)
   (Q:=fun r st'=>st'=st/\∃ la of,r=(none,la,of)/\la < of/\la<=h/\bF rk lf key xs bs (h - la)=false/\(of < h+1->bF rk lf key xs bs (h - of)=true)) ?_ ?_ ⟨rfl,0,1,rfl,by omega,by omega,by omega,z⟩) ?_)
  ·rintro x r st' _ hx ⟨rfl,la,of,rfl,d1,d2,d3,f⟩
   dsimp only
   by_cases hc:of >= h+1
   ·rw [if_pos hc]
    exact aL7 ⟨rfl,la,of,rfl,d1,d3,f,fun y=>absurd y (by omega)⟩
   ·rw [if_neg hc]
    refine aK9 (oF c hk ok o (by omega) ?_)
    cases y:bF rk lf key xs bs (h - of) with
    | false=>exact aL7 ⟨rfl,of,2 * of+1,rfl,by omega,by omega,by omega,y⟩
    | true=>exact aL7 ⟨rfl,la,of,rfl,d1,d3,f,fun _=>y⟩
  ·rintro r st' ⟨rfl,la,of,rfl,d1,d2,d3,f⟩
   exact⟨rfl,la,of,rfl,d1,d3,f,fun y=>absurd y (by omega)⟩
  ·rintro r st' ⟨rfl,la,of,rfl,d1,d3,f,ft⟩
   dsimp only
   refine aK9 (zN (l:=h+1 - min of (h+1)) (g:=h - la) c hk ok o hz mono (by omega) (by omega) (fun i hi=>?_) (fun i i1 i2=>monf (h - la) i i1 i2 f) fun k k1 k2 k3=>aL7 (hq k k1 k2 k3))
   rcases aO4 of (h+1) with y | y
   ·exact mono i (h - of) (by omega) (by omega) (ft y)
   ·exact absurd hi (by omega)
end
noncomputable def kI:Nat->StateT SortSt Sem Unit:=sortPriv% PySem.Builtin.setMinGallop
noncomputable def t6:Array Keyed->Array Keyed->StateT SortSt Sem (Array Keyed):=sortPriv% PySem.Builtin.mergeLo
theorem ao3 (g:Nat):kI g=modify (fun st=>SortSt.mk' (kindOf st) (arrOf st) (pendingOf st) g (failedOf st)):=rfl
noncomputable abbrev LS:=Option (Array Keyed) × Array Keyed × Nat × Nat × Nat × Nat × Nat
noncomputable abbrev t7:=Option (Array Keyed) × Array Keyed × Nat × Nat × Nat × Nat
noncomputable abbrev LO:=Option (Array Keyed) × Array Keyed × Nat × Nat × Nat
noncomputable def oG (x y o:Array Keyed) (i j mg p q:Nat):StateT SortSt Sem (ForInStep LS):=do
 let v <- elem' x i
 if (i+1+1 == x.size)=true then pure (.done (some (o.push v ++ y.extract j y.size ++ x.extract (i+1) x.size),o.push v,i+1,j,mg,p,q))
 else if (decide (p < 7) && decide (q < 7))=true then pure (.done (none,o.push v,i+1,j,mg,p,q)) else pure (.yield (none,o.push v,i+1,j,mg,p,q))
noncomputable def oH (x y o:Array Keyed) (i j mg p q:Nat):StateT SortSt Sem (ForInStep LS):=do
 let v <- elem' y j
 if (j+1 == y.size)=true then pure (.done (some (o.push v ++ x.extract i x.size ++ y.extract (j+1) y.size),o.push v,i,j+1,mg,p,q)) else do
  let u <- elem' x i
  match <- iG true u y (j+1) (y.size - (j+1)) 0 with
  | some k=>
   if k > 0 then
    if (j+1+k == y.size)=true then pure (.done (some (o.push v ++ y.extract (j+1) (j+1+k) ++ x.extract i x.size ++ y.extract (j+1+k) y.size),o.push v ++ y.extract (j+1) (j+1+k),i,j+1+k,mg,p,k))
    else oG x y (o.push v ++ y.extract (j+1) (j+1+k)) i (j+1+k) mg p k
   else oG x y (o.push v) i (j+1) mg p k
  | _=>pure (.done (some (o.push v ++ x.extract i x.size ++ y.extract (j+1) y.size),o.push v,i,j+1,mg,p,q))
noncomputable def oI (x y o:Array Keyed) (i j mg p q:Nat):StateT SortSt Sem (ForInStep LS):=do
 kI mg
 let v <- elem' y j
 match <- iG false v x i (x.size - i) 0 with
 | some k=>
  if k > 0 then
   if (i+k+1 == x.size)=true then pure (.done (some (o ++ x.extract i (i+k) ++ y.extract j y.size ++ x.extract (i+k) x.size),o ++ x.extract i (i+k),i+k,j,mg,k,q))
   else if (i+k == x.size)=true then pure (.done (some (o ++ x.extract i (i+k) ++ x.extract (i+k) x.size ++ y.extract j y.size),o ++ x.extract i (i+k),i+k,j,mg,k,q))
   else oH x y (o ++ x.extract i (i+k)) (i+k) j mg k q
  else oH x y o i j mg k q
 | _=>pure (.done (some (o ++ x.extract i x.size ++ y.extract j y.size),o,i,j,mg,p,q))
noncomputable def t8 (x y o:Array Keyed) (i j mg p q:Nat):StateT SortSt Sem LS:=forIn [0:x.size+y.size] ((none,o,i,j,mg,p,q):LS) fun _ r=>
 if r.2.2.2.2.1 > 1 then oI x y r.2.1 r.2.2.1 r.2.2.2.1 (r.2.2.2.2.1 - 1) r.2.2.2.2.2.1 r.2.2.2.2.2.2 else oI x y r.2.1 r.2.2.1 r.2.2.2.1 r.2.2.2.2.1 r.2.2.2.2.2.1 r.2.2.2.2.2.2
noncomputable def t9 (x y o:Array Keyed) (i j mg:Nat):StateT SortSt Sem t7:=forIn [0:x.size+y.size] ((none,o,i,j,0,0):t7) fun _ r=>do
 let v <- elem' y r.2.2.2.1
 let u <- elem' x r.2.2.1
 match <- lt' v u with
 | some q=>
  if q=true then do
   let v <- elem' y r.2.2.2.1
   if (r.2.2.2.1+1 == y.size)=true then pure (.done (some (r.2.1.push v ++ x.extract r.2.2.1 x.size ++ y.extract (r.2.2.2.1+1) y.size),r.2.1.push v,r.2.2.1,r.2.2.2.1+1,0,r.2.2.2.2.2+1))
   else if r.2.2.2.2.2+1 >= mg then pure (.done (none,r.2.1.push v,r.2.2.1,r.2.2.2.1+1,0,r.2.2.2.2.2+1)) else pure (.yield (none,r.2.1.push v,r.2.2.1,r.2.2.2.1+1,0,r.2.2.2.2.2+1))
  else do
   let u <- elem' x r.2.2.1
   if (r.2.2.1+1+1 == x.size)=true then pure (.done (some (r.2.1.push u ++ y.extract r.2.2.2.1 y.size ++ x.extract (r.2.2.1+1) x.size),r.2.1.push u,r.2.2.1+1,r.2.2.2.1,r.2.2.2.2.1+1,0))
   else if r.2.2.2.2.1+1 >= mg then pure (.done (none,r.2.1.push u,r.2.2.1+1,r.2.2.2.1,r.2.2.2.2.1+1,0)) else pure (.yield (none,r.2.1.push u,r.2.2.1+1,r.2.2.2.1,r.2.2.2.2.1+1,0))
 | _=>pure (.done (some (r.2.1 ++ x.extract r.2.2.1 x.size ++ y.extract r.2.2.2.1 y.size),r.2.1,r.2.2.1,r.2.2.2.1,r.2.2.2.2.1,r.2.2.2.2.2))
noncomputable def zO (x y o:Array Keyed) (i j mg:Nat):StateT SortSt Sem LO:=forIn [0:x.size+y.size] ((none,o,i,j,mg):LO) fun _ r=>do
 let u <- t9 x y r.2.1 r.2.2.1 r.2.2.2.1 r.2.2.2.2
 match u.1 with
 | some z=>pure (.done (some z,u.2.1,u.2.2.1,u.2.2.2.1,r.2.2.2.2))
 | none=>do
  liftM (rule "list.sort.gallop")
  let v <- t8 x y u.2.1 u.2.2.1 u.2.2.2.1 (r.2.2.2.2+1) u.2.2.2.2.1 u.2.2.2.2.2
  match v.1 with
  | some z=>pure (.done (some z,v.2.1,v.2.2.1,v.2.2.2.1,v.2.2.2.2.1))
  | none=>do
   kI (v.2.2.2.2.1+1)
   pure (.yield (none,v.2.1,v.2.2.1,v.2.2.2.1,v.2.2.2.2.1+1))
theorem ao4 (x y:Array Keyed):t6 x y=(do
 liftM (rule "list.sort.merge-lo")
 let v <- elem' y 0
 if (1 == y.size)=true then pure (#[v] ++ x.extract 0 x.size ++ y.extract 1 y.size)
 else if (0+1 == x.size)=true then pure (#[v] ++ y.extract 1 y.size ++ x.extract 0 x.size)
 else do
  let z <- get
  let r <- zO x y #[v] 0 1 (gallopOf z)
  match r.1 with
  | some z=>pure z
  | none=>unsupported "internal:list.sort.merge-bound"):=by kernel_rfl
section
variable (rk : Keyed → Int)
noncomputable def Sd (l:List Keyed):Prop:=l.Pairwise fun a b=>rk a<=rk b
structure MI (xs ys o:List Keyed) (i j:Nat):Prop where
 pm:o.Perm (xs.take i ++ ys.take j)
 sx:Sd rk (o ++ xs.drop i)
 sy:Sd rk (o ++ ys.drop j)
end
variable {rk : Keyed → Int} {xs ys o : List Keyed} {i j : Nat}
theorem Sd.ins {o a b d:List Keyed} (h1:Sd rk (o ++ a)) (h2:Sd rk (o ++ (b ++ d))) (h:∀ u ∈ b,∀ t ∈ a,rk u<=rk t):Sd rk ((o ++ b) ++ a):=by
 unfold Sd at *
 rw [aM7]
 obtain ⟨p1,p2,p3⟩:=aP5.mp h1
 obtain ⟨q1,q2,q3⟩:=aP5.mp h2
 obtain ⟨r1,r2,r3⟩:=aP5.mp q2
 refine aP5.mpr ⟨p1,aP5.mpr ⟨r1,p2,h⟩,fun u hu t ht=>?_⟩
 rcases aM6.mp ht with z | z
 ·exact q3 u hu t (aN5 _ z)
 ·exact p3 u hu t z
theorem MI.ofy (m:MI rk xs ys o i j) (k:Nat) (h:∀ u ∈ (ys.drop j).take k,∀ t ∈ xs.drop i,rk u<=rk t):MI rk xs ys (o ++ (ys.drop j).take k) i (j+k):=by
 have e:(ys.drop j).take k ++ ys.drop (j+k)=ys.drop j:=by rw [<- List.drop_drop]; exact aN9 k _
 refine⟨?_,Sd.ins m.sx (d:=ys.drop (j+k)) (by rw [e]; exact m.sy) h,by rw [aM7,e]; exact m.sy⟩
 rw [List.take_add,<- aM7]
 exact m.pm.append_right _
theorem MI.ofx (m:MI rk xs ys o i j) (k:Nat) (h:∀ u ∈ (xs.drop i).take k,∀ t ∈ ys.drop j,rk u<=rk t):MI rk xs ys (o ++ (xs.drop i).take k) (i+k) j:=by
 have e:(xs.drop i).take k ++ xs.drop (i+k)=xs.drop i:=by rw [<- List.drop_drop]; exact aN9 k _
 refine⟨?_,by rw [aM7,e]; exact m.sx,Sd.ins m.sy (d:=xs.drop (i+k)) (by rw [e]; exact m.sx) h⟩
 rw [List.take_add]
 refine (m.pm.append_right _).trans ?_
 rw [aM7,aM7]
 exact (aV3).append_left _
theorem MI.fin (m:MI rk xs ys o i j) (h:xs.length<=i ∨ ys.length<=j):(o ++ xs.drop i ++ ys.drop j).Perm (xs ++ ys)/\Sd rk (o ++ xs.drop i ++ ys.drop j):=by
 refine⟨?_,?_⟩
 ·rw [aM7]
  refine (m.pm.append_right _).trans ?_
  have e1:xs=xs.take i ++ xs.drop i:=(aN9 i xs).symm
  have e2:ys=ys.take j ++ ys.drop j:=(aN9 j ys).symm
  conv=>rhs; rw [e1,e2]
  rw [aM7,aM7]
  refine List.Perm.append_left _ ?_
  rw [<- aM7,<- aM7]
  exact (aV3).append_right _
 ·rcases h with h | h
  ·rw [List.drop_eq_nil_of_le h,aQ2]; exact m.sy
  ·rw [List.drop_eq_nil_of_le h,aQ2]; exact m.sx
theorem MI.lst (m:MI rk xs ys o i j) (h:∀ u ∈ ys,∀ t ∈ xs.drop i,rk u<=rk t):(o ++ ys.drop j ++ xs.drop i).Perm (xs ++ ys)/\Sd rk (o ++ ys.drop j ++ xs.drop i):=by
 have m2:=m.ofy ys.length fun u hu t ht=>h u (List.mem_of_mem_drop (aZ1 hu)) t ht
 have e:(ys.drop j).take ys.length=ys.drop j:=aO0 (by simp)
 rw [e] at m2
 have f:=m2.fin (.inr (by omega))
 rw [List.drop_eq_nil_of_le (as:=ys) (i:=j+ys.length) (by omega),aQ2] at f
 exact f
theorem zP {x:Array Keyed}{i k:Nat}{u:Keyed} (h:u ∈ (x.toList.drop i).take k):∃ t,t < k/\i+t < x.size/\rk u=Kr rk x (i+t):=by
 obtain ⟨t,ht,e⟩:=aQ7 h
 have h1:t < k/\i+t < x.size:=by simp at ht; omega
 refine⟨t,h1.1,h1.2,?_⟩
 rw [bI h1.2,<- e]
 simp
theorem m8 {x:Array Keyed}{i:Nat}{u:Keyed} (h:u ∈ x.toList.drop i):∃ t,i+t < x.size/\rk u=Kr rk x (i+t):=by
 obtain ⟨t,ht,e⟩:=aQ7 h
 have h1:i+t < x.size:=by simp at ht; omega
 refine⟨t,h1,?_⟩
 rw [bI h1,<- e]
 simp
theorem Sd.up {x:Array Keyed} (h:Sd rk x.toList) (lo hi:Nat) (hh:hi<=x.size):Up rk x lo hi:=fun i j _ hij hj=>by
 rw [bI (by omega:i < x.size),bI (by omega:j < x.size)]
 rcases aX7 hij with z | z
 ·subst z; exact aY9 _
 ·have:=aO2.mp h i j (by simp; omega) (by simp; omega) z
  simpa using this
theorem zQ (x:Array Keyed) (i k:Nat):(x.extract i (i+k)).toList=(x.toList.drop i).take k:=by
 simp [List.extract]
theorem oJ (x:Array Keyed) (i:Nat):(x.extract i x.size).toList=x.toList.drop i:=by
 simp [List.extract]
 exact aO0 (by simp)
theorem jE {x:Array Keyed}{i:Nat} (h:i < x.size) : [x[i]]=(x.toList.drop i).take 1:=by
 rw [List.drop_eq_getElem_cons (by simpa using h)]; simp
structure Gq (st st':SortSt):Prop where
 kd:kindOf st'=kindOf st
 ar:arrOf st'=arrOf st
 pd:pendingOf st'=pendingOf st
 ok:failedOf st'=failedOf st
theorem Gq.refl (st:SortSt):Gq st st:=⟨rfl,rfl,rfl,rfl⟩
section
variable {κ : SortKind} {st : SortSt} {prog : Program} {w : World} {A : Around} {E : Value → Shared → Prop} {s : Shared} {Ok : Keyed → Prop}
theorem oK {st0:SortSt}{g:Nat}{Q:Unit->SortSt->Prop} (q:Gq st0 st) (h:∀ st',Gq st0 st'->Q () st'):wpS (model prog w) A E s (kI g) Q st:=by
 rw [ao3]; exact wpS_modify (h _ ⟨q.kd,q.ar,q.pd,q.ok⟩)
noncomputable def cV (rk:Keyed->Int) (x y r:Array Keyed):Prop:=r.toList.Perm (x.toList ++ y.toList)/\Sd rk r.toList
theorem MI.y1 {x y o:Array Keyed} (m:MI rk x.toList y.toList o.toList i j) (hj:j < y.size) (h:∀ t,i+t < x.size->rk y[j]<=Kr rk x (i+t)):MI rk x.toList y.toList (o.push y[j]).toList i (j+1):=by
 have:=m.ofy 1 fun u hu t ht=>?_
 ·rw [<- jE hj] at this; simpa using this
 ·rw [<- jE hj,aK7] at hu
  subst hu
  obtain ⟨q,q1,q2⟩:=m8 (rk:=rk) ht
  rw [q2]; exact h q q1
theorem MI.x1 {x y o:Array Keyed} (m:MI rk x.toList y.toList o.toList i j) (hi:i < x.size) (h:∀ t,j+t < y.size->rk x[i]<=Kr rk y (j+t)):MI rk x.toList y.toList (o.push x[i]).toList (i+1) j:=by
 have:=m.ofx 1 fun u hu t ht=>?_
 ·rw [<- jE hi] at this; simpa using this
 ·rw [<- jE hi,aK7] at hu
  subst hu
  obtain ⟨q,q1,q2⟩:=m8 (rk:=rk) ht
  rw [q2]; exact h q q1
theorem MI.yk {x y o:Array Keyed} (m:MI rk x.toList y.toList o.toList i j) (k:Nat) (h:∀ p t,p < k->j+p < y.size->i+t < x.size->Kr rk y (j+p)<=Kr rk x (i+t)):MI rk x.toList y.toList (o ++ y.extract j (j+k)).toList i (j+k):=by
 have:=m.ofy k fun u hu t ht=>?_
 ·rw [<- zQ] at this; rw [aQ8]; exact this
 ·obtain ⟨p,p1,p2,p3⟩:=zP (rk:=rk) hu
  obtain ⟨q,q1,q2⟩:=m8 (rk:=rk) ht
  rw [q2,p3]; exact h p q p1 p2 q1
theorem MI.xk {x y o:Array Keyed} (m:MI rk x.toList y.toList o.toList i j) (k:Nat) (h:∀ p t,p < k->i+p < x.size->j+t < y.size->Kr rk x (i+p)<=Kr rk y (j+t)):MI rk x.toList y.toList (o ++ x.extract i (i+k)).toList (i+k) j:=by
 have:=m.ofx k fun u hu t ht=>?_
 ·rw [<- zQ] at this; rw [aQ8]; exact this
 ·obtain ⟨p,p1,p2,p3⟩:=zP (rk:=rk) hu
  obtain ⟨q,q1,q2⟩:=m8 (rk:=rk) ht
  rw [q2,p3]; exact h p q p1 p2 q1
theorem kJ {key:Keyed}{xs:Array Keyed}{bs i:Nat}:bF rk false key xs bs i=decide (Kr rk xs (bs+i)<=rk key):=rfl
theorem kK {key:Keyed}{xs:Array Keyed}{bs i:Nat}:bF rk true key xs bs i=decide (Kr rk xs (bs+i) < rk key):=rfl
noncomputable def GI (rk:Keyed->Int) (x y:Array Keyed) (lb:Nat) (st:SortSt) (c:LS) (st':SortSt):Prop:=Gq st st'/\∃ o i j mg p q,c=(none,o,i,j,mg,p,q)/\MI rk x.toList y.toList o.toList i j/\i+1 < x.size/\j < y.size/\lb<=i+j
noncomputable def GQ (rk:Keyed->Int) (x y:Array Keyed) (lb:Nat) (st:SortSt) (c:LS) (st':SortSt):Prop:=Gq st st'/\((∃ r o i j mg p q,c=(some r,o,i,j,mg,p,q)/\cV rk x y r) ∨ ∃ o i j mg p q,c=(none,o,i,j,mg,p,q)/\MI rk x.toList y.toList o.toList i j/\i+1 < x.size/\j < y.size/\lb<=i+j)
noncomputable def GR (rk:Keyed->Int) (x y:Array Keyed) (lb:Nat) (st:SortSt) (r:ForInStep LS) (st':SortSt):Prop:=match r with | .done c=>GQ rk x y lb st c st' | .yield c=>GI rk x y lb st c st'
theorem MI.done {x y o:Array Keyed} (m:MI rk x.toList y.toList o.toList i j) (hh:x.size<=i ∨ y.size<=j):cV rk x y (o ++ x.extract i x.size ++ y.extract j y.size):=by
 unfold cV
 rw [aQ8,aQ8,oJ,oJ]
 exact m.fin (by simpa using hh)
theorem MI.last {x y o:Array Keyed} (m:MI rk x.toList y.toList o.toList i j) (x0:0 < x.size) (hl:∀ u ∈ y.toList,rk u<=rk x[x.size - 1]) (hh:i+1=x.size):cV rk x y (o ++ y.extract j y.size ++ x.extract i x.size):=by
 unfold cV
 rw [aQ8,aQ8,oJ,oJ]
 refine m.lst fun u hu t ht=>?_
 obtain ⟨q,q1,q2⟩:=m8 (rk:=rk) ht
 have e:i+q=x.size - 1:=by omega
 rw [q2,e,bI (by omega)]
 exact hl u hu
theorem zR {st0:SortSt}{x y o:Array Keyed}{mg p q lb:Nat} (x0:0 < x.size) (hl:∀ u ∈ y.toList,rk u<=rk x[x.size - 1]) (g:Gq st0 st) (m:MI rk x.toList y.toList o.toList i j) (hi:i+1 < x.size) (hj:j < y.size) (hb:lb<=i+j)
  (hm:∀ t,j+t < y.size->rk x[i]<=Kr rk y (j+t)):wpS (model prog w) A E s (oG x y o i j mg p q) (GR rk x y lb st0) st:=by
 unfold oG
 have hi':i < x.size:=by omega
 have m':=m.x1 hi' hm
 refine aK9 (cD hi' ?_)
 by_cases he:(i+1+1 == x.size)=true
 ·rw [if_pos he]
  have he:i+1+1=x.size:=by simpa using he
  exact aL7 ⟨g,.inl ⟨_,_,_,_,_,_,_,rfl,m'.last x0 hl he⟩⟩
 ·rw [if_neg he]
  have he:i+1+1 ≠ x.size:=by simpa using he
  split
  ·exact aL7 ⟨g,.inr ⟨_,_,_,_,_,_,rfl,m',by omega,hj,by omega⟩⟩
  ·exact aL7 ⟨g,_,_,_,_,_,_,rfl,m',by omega,hj,by omega⟩
theorem zS (c:bN prog w A E s κ Ok rk) {st0:SortSt} (hk:kindOf st0=κ) {x y o:Array Keyed}{mg p q lb:Nat} (ox:b8 Ok x) (oy:b8 Ok y) (sx:Sd rk x.toList) (sy:Sd rk y.toList) (x0:0 < x.size) (hl:∀ u ∈ y.toList,rk u<=rk x[x.size - 1]) (g:Gq st0 st) (m:MI rk x.toList y.toList o.toList i j) (hi:i+1 < x.size) (hj:j < y.size) (hb:lb<=i+j)
  (hm:∀ t,i+t < x.size->rk y[j]<=Kr rk x (i+t)):wpS (model prog w) A E s (oH x y o i j mg p q) (GR rk x y lb st0) st:=by
 unfold oH
 have hi':i < x.size:=by omega
 have m':=m.y1 hj hm
 refine aK9 (cD hj ?_)
 by_cases he:(j+1 == y.size)=true
 ·rw [if_pos he]
  have he:j+1=y.size:=by simpa using he
  exact aL7 ⟨g,.inl ⟨_,_,_,_,_,_,_,rfl,m'.done (.inr (by omega))⟩⟩
 ·rw [if_neg he]
  have he:j+1 ≠ y.size:=by simpa using he
  refine aK9 (cD hi' (aK9 (kH c (g.kd.trans hk) (ox _ (aO7 hi')) oy (by omega) (by omega) (sy.up _ _ (by omega)) fun k k1 k2 k3=>?_)))
  dsimp only
  have ux:=sx.up 0 _ (aK4 x.size)
  have mk:=m'.yk k fun p t hp _ ht=>by
   have a1:=k2 p hp
   rw [kK,aO3] at a1
   have a2:=ux i (i+t) (by omega) (by omega) ht
   rw [bI hi'] at a2
   omega
  have km:∀ t,j+1+k+t < y.size->rk x[i]<=Kr rk y (j+1+k+t):=fun t ht=>by
   have a1:=k3 (k+t) (by omega) (by omega)
   rw [kK,aT8,<- Nat.add_assoc] at a1
   omega
  by_cases hk0:k > 0
  ·rw [if_pos hk0]
   by_cases hf:(j+1+k == y.size)=true
   ·rw [if_pos hf]
    have hf:j+1+k=y.size:=by simpa using hf
    exact aL7 ⟨g,.inl ⟨_,_,_,_,_,_,_,rfl,mk.done (.inr (by omega))⟩⟩
   ·rw [if_neg hf]
    have hf:j+1+k ≠ y.size:=by simpa using hf
    exact zR x0 hl g mk hi (by omega) (by omega) km
  ·rw [if_neg hk0]
   have e0:k=0:=by omega
   subst e0
   exact zR x0 hl g m' hi (by omega) (by omega) km
theorem zT (c:bN prog w A E s κ Ok rk) {st0:SortSt} (hk:kindOf st0=κ) {x y o:Array Keyed}{mg p q lb:Nat} (ox:b8 Ok x) (oy:b8 Ok y) (sx:Sd rk x.toList) (sy:Sd rk y.toList) (x0:0 < x.size) (hl:∀ u ∈ y.toList,rk u<=rk x[x.size - 1]) (g:Gq st0 st) (m:MI rk x.toList y.toList o.toList i j) (hi:i+1 < x.size) (hj:j < y.size) (hb:lb<=i+j) :
  wpS (model prog w) A E s (oI x y o i j mg p q) (GR rk x y lb st0) st:=by
 unfold oI
 refine aK9 (oK g fun st4 q4=>aK9 (cD hj (aK9 (kH c (q4.kd.trans hk) (oy _ (aO7 hj)) ox (by omega) (by omega) (sx.up _ _ (by omega)) fun k k1 k2 k3=>?_))))
 dsimp only
 have uy:=sy.up 0 _ (aK4 y.size)
 have mk:=m.xk k fun p t hp _ ht=>by
  have a1:=k2 p hp
  rw [kJ,aO3] at a1
  have a2:=uy j (j+t) (by omega) (by omega) ht
  rw [bI hj] at a2
  omega
 have km:∀ t,i+k+t < x.size->rk y[j]<=Kr rk x (i+k+t):=fun t ht=>by
  have a1:=k3 (k+t) (by omega) (by omega)
  rw [kJ,aT8,<- Nat.add_assoc] at a1
  omega
 by_cases hk0:k > 0
 ·rw [if_pos hk0]
  by_cases he:(i+k+1 == x.size)=true
  ·rw [if_pos he]
   exact aL7 ⟨q4,.inl ⟨_,_,_,_,_,_,_,rfl,mk.last x0 hl (by simpa using he)⟩⟩
  ·rw [if_neg he]
   have he:i+k+1 ≠ x.size:=by simpa using he
   by_cases hf:(i+k == x.size)=true
   ·rw [if_pos hf]
    have hf:i+k=x.size:=by simpa using hf
    exact aL7 ⟨q4,.inl ⟨_,_,_,_,_,_,_,rfl,mk.done (.inl (by omega))⟩⟩
   ·rw [if_neg hf]
    have hf:i+k ≠ x.size:=by simpa using hf
    exact zS c hk ox oy sx sy x0 hl q4 mk (by omega) hj (by omega) km
 ·rw [if_neg hk0]
  have e0:k=0:=by omega
  subst e0
  exact zS c hk ox oy sx sy x0 hl q4 m hi hj hb km
theorem ao5 (c:bN prog w A E s κ Ok rk) {st0:SortSt} (hk:kindOf st0=κ) {x y o:Array Keyed}{mg p q lb:Nat} (ox:b8 Ok x) (oy:b8 Ok y) (sx:Sd rk x.toList) (sy:Sd rk y.toList) (x0:0 < x.size) (hl:∀ u ∈ y.toList,rk u<=rk x[x.size - 1]) (g:Gq st0 st) (m:MI rk x.toList y.toList o.toList i j) (hi:i+1 < x.size) (hj:j < y.size) (hb:lb<=i+j) :
  wpS (model prog w) A E s (t8 x y o i j mg p q) (GQ rk x y lb st0) st:=by
 unfold t8
 refine aR8 (I:=fun _=>GI rk x y lb st0) ?_ ?_ ⟨g,o,i,j,_,p,q,rfl,m,hi,hj,hb⟩
 ·rintro t c3 st3 _ _ ⟨q3,o,i,j,mg,p,q,rfl,m,hi,hj,pr3⟩
  dsimp only
  split
  ·exact aZ0 (zT c hk ox oy sx sy x0 hl q3 m hi hj pr3) fun r _ hr=>by cases r <;> exact hr
  ·exact aZ0 (zT c hk ox oy sx sy x0 hl q3 m hi hj pr3) fun r _ hr=>by cases r <;> exact hr
 ·rintro c3 st3 ⟨q3,o,i,j,mg,p,q,rfl,m,hi,hj,pr3⟩
  exact⟨q3,.inr ⟨_,_,_,_,_,_,rfl,m,hi,hj,pr3⟩⟩
theorem ao6 (c:bN prog w A E s κ Ok rk) {st0:SortSt} (hk:kindOf st0=κ) {x y o:Array Keyed}{mg:Nat}{Q:t7->SortSt->Prop} (ox:b8 Ok x) (oy:b8 Ok y) (sx:Sd rk x.toList) (sy:Sd rk y.toList) (x0:0 < x.size) (hl:∀ u ∈ y.toList,rk u<=rk x[x.size - 1]) (g:Gq st0 st) (m:MI rk x.toList y.toList o.toList i j) (hi:i+1 < x.size) (hj:j < y.size)
  (h1:∀ r o' i' j' p q st',Gq st0 st'->cV rk x y r->Q (some r,o',i',j',p,q) st')
  (h2:∀ o' i' j' p q st',Gq st0 st'->MI rk x.toList y.toList o'.toList i' j'->i'+1 < x.size->j' < y.size->i+j+1<=i'+j'->Q (none,o',i',j',p,q) st') :
  wpS (model prog w) A E s (t9 x y o i j mg) Q st:=by
 have ux:Up rk x 0 x.size:=sx.up 0 _ (aK4 _)
 have uy:Up rk y 0 y.size:=sy.up 0 _ (aK4 _)
 unfold t9
 refine aR8 (I:=fun t c st'=>Gq st0 st'/\∃ o i' j' p q,c=(none,o,i',j',p,q)/\MI rk x.toList y.toList o.toList i' j'/\i'+1 < x.size/\j' < y.size/\i+j+t<=i'+j') ?_ ?_ ⟨g,o,i,j,0,0,rfl,m,hi,hj,by omega⟩
 ·rintro t c2 st2 _ ht ⟨q2,o,i',j',p,q,rfl,m,hi,hj,pr2⟩
  dsimp only
  have hi':i' < x.size:=by omega
  refine aK9 (cD hj (aK9 (cD hi' (aK9 (c _ _ (oy _ (aO7 hj)) (ox _ (aO7 hi')) st2 _ (q2.kd.trans hk) ?_)))))
  by_cases hc:rk y[j'] < rk x[i']
  ·rw [aL2 hc]
   dsimp only
   rw [if_pos rfl]
   have m':=m.y1 hj fun t ht=>by
    have:=ux i' (i'+t) (by omega) (by omega) ht
    rw [bI hi'] at this
    omega
   refine aK9 (cD hj ?_)
   by_cases he:(j'+1 == y.size)=true
   ·rw [if_pos he]
    have he:j'+1=y.size:=by simpa using he
    exact aL7 (h1 _ _ _ _ _ _ _ q2 (m'.done (.inr (by omega))))
   ·rw [if_neg he]
    have he:j'+1 ≠ y.size:=by simpa using he
    split
    ·exact aL7 (h2 _ _ _ _ _ _ q2 m' hi (by omega) (by omega))
    ·exact aL7 ⟨q2,_,_,_,_,_,rfl,m',hi,by omega,by omega⟩
  ·rw [aL0 hc]
   dsimp only
   rw [if_neg aL6]
   have m':=m.x1 hi' fun t ht=>by
    have:=uy j' (j'+t) (by omega) (by omega) ht
    rw [bI hj] at this
    omega
   refine aK9 (cD hi' ?_)
   by_cases he:(i'+1+1 == x.size)=true
   ·rw [if_pos he]
    exact aL7 (h1 _ _ _ _ _ _ _ q2 (m'.last x0 hl (by simpa using he)))
   ·rw [if_neg he]
    have he:i'+1+1 ≠ x.size:=by simpa using he
    split
    ·exact aL7 (h2 _ _ _ _ _ _ q2 m' (by omega) hj (by omega))
    ·exact aL7 ⟨q2,_,_,_,_,_,rfl,m',by omega,hj,by omega⟩
 ·rintro c2 st2 ⟨q2,o,i',j',p,q,rfl,m,hi,hj,pr2⟩
  exact h2 _ _ _ _ _ _ q2 m hi hj (by omega)
theorem ao7 (c:bN prog w A E s κ Ok rk) (hk:kindOf st=κ) {x y:Array Keyed}{Q:Array Keyed->SortSt->Prop} (ox:b8 Ok x) (oy:b8 Ok y) (sx:Sd rk x.toList) (sy:Sd rk y.toList) (x0:0 < x.size) (y0:0 < y.size)
  (hf:∀ t ∈ x.toList,rk y[0]<=rk t) (hl:∀ u ∈ y.toList,rk u<=rk x[x.size - 1])
  (h:∀ r st',Gq st st'->cV rk x y r->Q r st'):wpS (model prog w) A E s (t6 x y) Q st:=by
 rw [ao4]
 refine aK9 (wpS_lift (aX6 ⟨rfl,aK9 (cD y0 ?_)⟩))
 have m0:MI rk x.toList y.toList (#[y[0]]:Array Keyed).toList 0 1:=by
  have mm:MI rk x.toList y.toList [] 0 0:=⟨by simp,sx,sy⟩
  have:=mm.ofy 1 fun u hu t ht=>?_
  ·rw [<- jE y0] at this; exact this
  ·rw [<- jE y0,aK7] at hu
   subst hu
   exact hf t ht
 by_cases e1:(1 == y.size)=true
 ·rw [if_pos e1]
  have e1:1=y.size:=by simpa using e1
  exact aL7 (h _ st (Gq.refl st) (m0.done (.inr (by omega))))
 ·rw [if_neg e1]
  have e1:1 ≠ y.size:=by simpa using e1
  by_cases e2:(0+1 == x.size)=true
  ·rw [if_pos e2]
   exact aL7 (h _ st (Gq.refl st) (m0.last x0 hl (by simpa using e2)))
  ·rw [if_neg e2]
   have e2:0+1 ≠ x.size:=by simpa using e2
   refine aK9 (wpS_get ?_)
   unfold zO
   refine aK9 (aZ0 (aR8
    (I:=fun n c st'=>Gq st st'/\∃ o i j mg,c=(none,o,i,j,mg)/\MI rk x.toList y.toList o.toList i j/\i+1 < x.size/\j < y.size/\n+1<=i+j)
    (Q:=fun c st'=>Gq st st'/\∃ r o i j mg,c=(some r,o,i,j,mg)/\cV rk x y r) ?_ ?_ ⟨Gq.refl st,_,0,1,_,rfl,m0,by omega,by omega,by omega⟩) ?_)
   ·rintro n c1 st1 _ hn ⟨q1,o,i,j,mg,rfl,m,hi,hj,pr⟩
    dsimp only
    refine aK9 (ao6 c hk ox oy sx sy x0 hl q1 m hi hj (fun r o' i' j' p q st' g md=>aL7 ⟨g,r,_,_,_,_,rfl,md⟩) fun o' i' j' p q st' g m' hi' hj' pr'=>?_)
    refine aK9 (wpS_lift (aX6 ⟨rfl,?_⟩))
    refine aK9 (aZ0 (ao5 c hk ox oy sx sy x0 hl g m' hi' hj' pr') ?_)
    rintro c3 st3 ⟨q3,⟨r,o,i3,j3,mg,p,q,rfl,md⟩ | ⟨o,i3,j3,mg,p,q,rfl,m,hi,hj,pr3⟩⟩
    ·exact aL7 ⟨q3,r,_,_,_,_,rfl,md⟩
    ·exact aK9 (oK q3 fun st4 q4=>aL7 ⟨q4,o,i3,j3,_,rfl,m,hi,hj,by omega⟩)
   ·rintro c1 st1 ⟨q1,o,i,j,mg,rfl,m,hi,hj,pr⟩
    exact absurd pr (by omega)
   ·rintro c1 st1 ⟨q1,r,o,i,j,mg,rfl,md⟩
    exact aL7 (h r _ q1 md)
end
noncomputable def tD:Array Keyed->Array Keyed->StateT SortSt Sem (Array Keyed):=sortPriv% PySem.Builtin.mergeHi
noncomputable abbrev LH:=Option (Array Keyed) × Nat × Nat × Array Keyed × Nat × Nat × Nat
noncomputable abbrev tE:=Option (Array Keyed) × Nat × Nat × Array Keyed × Nat × Nat
noncomputable abbrev LP:=Option (Array Keyed) × Nat × Nat × Array Keyed × Nat
noncomputable def oM (x y o:Array Keyed) (i j mg p q:Nat):StateT SortSt Sem (ForInStep LH):=do
 let v <- elem' x (i - 1)
 if (i - 1 == 0)=true then pure (.done (some (x.extract 0 (i - 1) ++ y.extract 0 j ++ (o.push v).reverse),i - 1,j,o.push v,mg,p,q))
 else if (decide (p < 7) && decide (q < 7))=true then pure (.done (none,i - 1,j,o.push v,mg,p,q)) else pure (.yield (none,i - 1,j,o.push v,mg,p,q))
noncomputable def oN (x y o:Array Keyed) (i j mg p q:Nat):StateT SortSt Sem (ForInStep LH):=do
 let v <- elem' y (j - 1)
 if (j - 1 == 1)=true then pure (.done (some (y.extract 0 (j - 1) ++ x.extract 0 i ++ (o.push v).reverse),i,j - 1,o.push v,mg,p,q)) else do
  let u <- elem' x (i - 1)
  match <- iG true u y 0 (j - 1) (j - 1 - 1) with
  | some z=>
   if j - 1 - z > 0 then
    if (z == 1)=true then pure (.done (some (y.extract 0 z ++ x.extract 0 i ++ (o.push v ++ (y.extract z (j - 1)).reverse).reverse),i,z,o.push v ++ (y.extract z (j - 1)).reverse,mg,p,j - 1 - z))
    else if (z == 0)=true then pure (.done (some (x.extract 0 i ++ y.extract 0 z ++ (o.push v ++ (y.extract z (j - 1)).reverse).reverse),i,z,o.push v ++ (y.extract z (j - 1)).reverse,mg,p,j - 1 - z))
    else oM x y (o.push v ++ (y.extract z (j - 1)).reverse) i z mg p (j - 1 - z)
   else oM x y (o.push v) i (j - 1) mg p (j - 1 - z)
  | _=>pure (.done (some (x.extract 0 i ++ y.extract 0 (j - 1) ++ (o.push v).reverse),i,j - 1,o.push v,mg,p,q))
noncomputable def oO (x y o:Array Keyed) (i j mg p q:Nat):StateT SortSt Sem (ForInStep LH):=do
 kI mg
 let v <- elem' y (j - 1)
 match <- iG false v x 0 i (i - 1) with
 | some z=>
  if i - z > 0 then
   if (z == 0)=true then pure (.done (some (x.extract 0 z ++ y.extract 0 j ++ (o ++ (x.extract z i).reverse).reverse),z,j,o ++ (x.extract z i).reverse,mg,i - z,q))
   else oN x y (o ++ (x.extract z i).reverse) z j mg (i - z) q
  else oN x y o i j mg (i - z) q
 | _=>pure (.done (some (x.extract 0 i ++ y.extract 0 j ++ o.reverse),i,j,o,mg,p,q))
noncomputable def tF (x y o:Array Keyed) (i j mg p q:Nat):StateT SortSt Sem LH:=forIn [0:x.size+y.size] ((none,i,j,o,mg,p,q):LH) fun _ r=>
 if r.2.2.2.2.1 > 1 then oO x y r.2.2.2.1 r.2.1 r.2.2.1 (r.2.2.2.2.1 - 1) r.2.2.2.2.2.1 r.2.2.2.2.2.2 else oO x y r.2.2.2.1 r.2.1 r.2.2.1 r.2.2.2.2.1 r.2.2.2.2.2.1 r.2.2.2.2.2.2
noncomputable def kL (x y o:Array Keyed) (i j mg:Nat):StateT SortSt Sem tE:=forIn [0:x.size+y.size] ((none,i,j,o,0,0):tE) fun _ r=>do
 let v <- elem' y (r.2.2.1 - 1)
 let u <- elem' x (r.2.1 - 1)
 match <- lt' v u with
 | some q=>
  if q=true then do
   let u <- elem' x (r.2.1 - 1)
   if (r.2.1 - 1 == 0)=true then pure (.done (some (x.extract 0 (r.2.1 - 1) ++ y.extract 0 r.2.2.1 ++ (r.2.2.2.1.push u).reverse),r.2.1 - 1,r.2.2.1,r.2.2.2.1.push u,r.2.2.2.2.1+1,0))
   else if r.2.2.2.2.1+1 >= mg then pure (.done (none,r.2.1 - 1,r.2.2.1,r.2.2.2.1.push u,r.2.2.2.2.1+1,0)) else pure (.yield (none,r.2.1 - 1,r.2.2.1,r.2.2.2.1.push u,r.2.2.2.2.1+1,0))
  else do
   let v <- elem' y (r.2.2.1 - 1)
   if (r.2.2.1 - 1 == 1)=true then pure (.done (some (y.extract 0 (r.2.2.1 - 1) ++ x.extract 0 r.2.1 ++ (r.2.2.2.1.push v).reverse),r.2.1,r.2.2.1 - 1,r.2.2.2.1.push v,0,r.2.2.2.2.2+1))
   else if r.2.2.2.2.2+1 >= mg then pure (.done (none,r.2.1,r.2.2.1 - 1,r.2.2.2.1.push v,0,r.2.2.2.2.2+1)) else pure (.yield (none,r.2.1,r.2.2.1 - 1,r.2.2.2.1.push v,0,r.2.2.2.2.2+1))
 | _=>pure (.done (some (x.extract 0 r.2.1 ++ y.extract 0 r.2.2.1 ++ r.2.2.2.1.reverse),r.2.1,r.2.2.1,r.2.2.2.1,r.2.2.2.2.1,r.2.2.2.2.2))
noncomputable def zU (x y o:Array Keyed) (i j mg:Nat):StateT SortSt Sem LP:=forIn [0:x.size+y.size] ((none,i,j,o,mg):LP) fun _ r=>do
 let u <- kL x y r.2.2.2.1 r.2.1 r.2.2.1 r.2.2.2.2
 match u.1 with
 | some z=>pure (.done (some z,u.2.1,u.2.2.1,u.2.2.2.1,r.2.2.2.2))
 | none=>do
  liftM (rule "list.sort.gallop")
  let v <- tF x y u.2.2.2.1 u.2.1 u.2.2.1 (r.2.2.2.2+1) u.2.2.2.2.1 u.2.2.2.2.2
  match v.1 with
  | some z=>pure (.done (some z,v.2.1,v.2.2.1,v.2.2.2.1,v.2.2.2.2.1))
  | none=>do
   kI (v.2.2.2.2.1+1)
   pure (.yield (none,v.2.1,v.2.2.1,v.2.2.2.1,v.2.2.2.2.1+1))
theorem ao8 (x y:Array Keyed):tD x y=(do
 liftM (rule "list.sort.merge-hi")
 let v <- elem' x (x.size - 1)
 if (x.size - 1 == 0)=true then pure (x.extract 0 (x.size - 1) ++ y.extract 0 y.size ++ (#[v]:Array Keyed).reverse)
 else if (y.size == 1)=true then pure (y.extract 0 y.size ++ x.extract 0 (x.size - 1) ++ (#[v]:Array Keyed).reverse)
 else do
  let z <- get
  let r <- zU x y #[v] (x.size - 1) y.size (gallopOf z)
  match r.1 with
  | some z=>pure z
  | none=>unsupported "internal:list.sort.merge-bound"):=by kernel_rfl
structure MH (rk:Keyed->Int) (xs ys o:List Keyed) (i j:Nat):Prop where
 pm:o.Perm (xs.drop i ++ ys.drop j)
 sx:Sd rk (xs.take i ++ o)
 sy:Sd rk (ys.take j ++ o)
variable {rk : Keyed → Int} {xs ys o : List Keyed} {i j : Nat}
theorem Sd.insR {o a b d:List Keyed} (h1:Sd rk (a ++ o)) (h2:Sd rk ((d ++ b) ++ o)) (h:∀ t ∈ a,∀ u ∈ b,rk t<=rk u):Sd rk (a ++ (b ++ o)):=by
 unfold Sd at *
 obtain ⟨p1,p2,p3⟩:=aP5.mp h1
 obtain ⟨q1,q2,q3⟩:=aP5.mp h2
 obtain ⟨r1,r2,r3⟩:=aP5.mp q1
 refine aP5.mpr ⟨p1,aP5.mpr ⟨r2,p2,fun u hu t ht=>q3 u (aM1 _ hu) t ht⟩,fun u hu t ht=>?_⟩
 rcases aM6.mp ht with z | z
 ·exact h u hu t z
 ·exact p3 u hu t z
theorem oP (l:List Keyed) {z j:Nat} (h:z<=j):l.take z ++ (l.take j).drop z=l.take j:=by
 have e:l.take z=(l.take j).take z:=by rw [List.take_take,Nat.min_eq_left h]
 rw [e]; exact aN9 z _
theorem tG (l:List Keyed) {z j:Nat} (h:z<=j):(l.take j).drop z ++ l.drop j=l.drop z:=by
 rw [aZ6,show l.drop j=(l.drop z).drop (j - z) by rw [List.drop_drop,Nat.add_sub_cancel' h]]
 exact aN9 _ _
theorem MH.ofy (m:MH rk xs ys o i j) {z:Nat} (hz:z<=j) (h:∀ t ∈ xs.take i,∀ u ∈ (ys.take j).drop z,rk t<=rk u):MH rk xs ys ((ys.take j).drop z ++ o) i z:=by
 refine⟨?_,Sd.insR m.sx (d:=ys.take z) (by rw [oP _ hz]; exact m.sy) h,by rw [<- aM7,oP _ hz]; exact m.sy⟩
 rw [<- tG ys hz]
 refine (m.pm.append_left _).trans ?_
 rw [<- aM7,<- aM7]
 exact (aV3).append_right _
theorem MH.ofx (m:MH rk xs ys o i j) {z:Nat} (hz:z<=i) (h:∀ t ∈ ys.take j,∀ u ∈ (xs.take i).drop z,rk t<=rk u):MH rk xs ys ((xs.take i).drop z ++ o) z j:=by
 refine⟨?_,by rw [<- aM7,oP _ hz]; exact m.sx,Sd.insR m.sy (d:=xs.take z) (by rw [oP _ hz]; exact m.sx) h⟩
 rw [<- tG xs hz,aM7]
 exact m.pm.append_left _
theorem MH.fin (m:MH rk xs ys o i j) (h:i=0 ∨ j=0):(xs.take i ++ ys.take j ++ o).Perm (xs ++ ys)/\Sd rk (xs.take i ++ ys.take j ++ o):=by
 refine⟨?_,?_⟩
 ·have e1:xs=xs.take i ++ xs.drop i:=(aN9 i xs).symm
  have e2:ys=ys.take j ++ ys.drop j:=(aN9 j ys).symm
  conv=>rhs; rw [e1,e2]
  rw [aM7,aM7]
  refine List.Perm.append_left _ ((m.pm.append_left _).trans ?_)
  rw [<- aM7,<- aM7]
  exact (aV3).append_right _
 ·rcases h with h | h
  ·subst h; simpa using m.sy
  ·subst h; simpa using m.sx
theorem MH.fst (m:MH rk xs ys o i j) (h:∀ t ∈ ys.take j,∀ u ∈ xs,rk t<=rk u):(ys.take j ++ xs.take i ++ o).Perm (xs ++ ys)/\Sd rk (ys.take j ++ xs.take i ++ o):=by
 have m2:=m.ofx (aO1 i) fun t ht u hu=>h t ht u (aZ1 (List.mem_of_mem_drop hu))
 have f:=m2.fin (.inl rfl)
 simpa using f
theorem m9 {x:Array Keyed}{i:Nat}{u:Keyed} (h:u ∈ x.toList.take i):∃ t,t < i/\t < x.size/\rk u=Kr rk x t:=by
 obtain ⟨t,ht,e⟩:=aQ7 h
 have h1:t < i/\t < x.size:=by simp at ht; omega
 refine⟨t,h1.1,h1.2,?_⟩
 rw [bI h1.2,<- e]
 simp
theorem mB {x:Array Keyed}{z i:Nat}{u:Keyed} (h:u ∈ (x.toList.take i).drop z):∃ t,z<=t/\t < i/\t < x.size/\rk u=Kr rk x t:=by
 obtain ⟨t,ht,e⟩:=aQ7 h
 have h1:z+t < i/\z+t < x.size:=by simp at ht; omega
 refine⟨z+t,by omega,h1.1,h1.2,?_⟩
 rw [bI h1.2,<- e]
 simp
theorem jF (x:Array Keyed) (z i:Nat):(x.extract z i).toList=(x.toList.take i).drop z:=by
 rw [aZ6]; simp [List.extract]
theorem oQ (x:Array Keyed) (i:Nat):(x.extract 0 i).toList=x.toList.take i:=by
 simp [List.extract]
theorem mC {x:Array Keyed}{i:Nat} (h:i < x.size) : [x[i]]=(x.toList.take (i+1)).drop i:=by
 rw [aZ6,jE h,show i+1 - i=1 by omega]
section
variable {κ : SortKind} {st : SortSt} {prog : Program} {w : World} {A : Around} {E : Value → Shared → Prop} {s : Shared} {Ok : Keyed → Prop}
theorem MH.y1 {x y o:Array Keyed} (m:MH rk x.toList y.toList o.toList.reverse i (j+1)) (hj:j < y.size) (h:∀ t,t < i->t < x.size->Kr rk x t<=rk y[j]):MH rk x.toList y.toList (o.push y[j]).toList.reverse i j:=by
 have:=m.ofy (Nat.le_succ j) fun t ht u hu=>?_
 ·rw [<- mC hj] at this; simpa using this
 ·rw [<- mC hj,aK7] at hu
  subst hu
  obtain ⟨q,q1,q2,q3⟩:=m9 (rk:=rk) ht
  rw [q3]; exact h q q1 q2
theorem MH.x1 {x y o:Array Keyed} (m:MH rk x.toList y.toList o.toList.reverse (i+1) j) (hi:i < x.size) (h:∀ t,t < j->t < y.size->Kr rk y t<=rk x[i]):MH rk x.toList y.toList (o.push x[i]).toList.reverse i j:=by
 have:=m.ofx (Nat.le_succ i) fun t ht u hu=>?_
 ·rw [<- mC hi] at this; simpa using this
 ·rw [<- mC hi,aK7] at hu
  subst hu
  obtain ⟨q,q1,q2,q3⟩:=m9 (rk:=rk) ht
  rw [q3]; exact h q q1 q2
theorem MH.yk {x y o:Array Keyed} (m:MH rk x.toList y.toList o.toList.reverse i j) {z:Nat} (hz:z<=j) (h:∀ t p,t < i->t < x.size->z<=p->p < j->p < y.size->Kr rk x t<=Kr rk y p):MH rk x.toList y.toList (o ++ (y.extract z j).reverse).toList.reverse i z:=by
 have:=m.ofy hz fun t ht u hu=>?_
 ·rw [<- jF] at this; simpa using this
 ·obtain ⟨q,q1,q2,q3⟩:=m9 (rk:=rk) ht
  obtain ⟨p,p1,p2,p3,p4⟩:=mB (rk:=rk) hu
  rw [q3,p4]; exact h q p q1 q2 p1 p2 p3
theorem MH.xk {x y o:Array Keyed} (m:MH rk x.toList y.toList o.toList.reverse i j) {z:Nat} (hz:z<=i) (h:∀ t p,t < j->t < y.size->z<=p->p < i->p < x.size->Kr rk y t<=Kr rk x p):MH rk x.toList y.toList (o ++ (x.extract z i).reverse).toList.reverse z j:=by
 have:=m.ofx hz fun t ht u hu=>?_
 ·rw [<- jF] at this; simpa using this
 ·obtain ⟨q,q1,q2,q3⟩:=m9 (rk:=rk) ht
  obtain ⟨p,p1,p2,p3,p4⟩:=mB (rk:=rk) hu
  rw [q3,p4]; exact h q p q1 q2 p1 p2 p3
theorem MH.done {x y o:Array Keyed} (m:MH rk x.toList y.toList o.toList.reverse i j) (hh:i=0 ∨ j=0):cV rk x y (x.extract 0 i ++ y.extract 0 j ++ o.reverse):=by
 unfold cV
 rw [aQ8,aQ8,oQ,oQ,Array.toList_reverse]
 exact m.fin hh
theorem MH.frst {x y o:Array Keyed} (m:MH rk x.toList y.toList o.toList.reverse i j) (y0:0 < y.size) (hf:∀ t ∈ x.toList,rk y[0]<=rk t) (hh:j=1):cV rk x y (y.extract 0 j ++ x.extract 0 i ++ o.reverse):=by
 unfold cV
 rw [aQ8,aQ8,oQ,oQ,Array.toList_reverse]
 refine m.fst fun t ht u hu=>?_
 subst hh
 obtain ⟨q,q1,q2,q3⟩:=m9 (rk:=rk) ht
 have e:q=0:=by omega
 subst e
 rw [q3,bI y0]
 exact hf u hu
structure HB (rk:Keyed->Int) (x y:Array Keyed) (lb i j:Nat) (o:Array Keyed):Prop where
 m:MH rk x.toList y.toList o.toList.reverse i j
 i0:0 < i
 i1:i < x.size
 j0:1 < j
 j1:j<=y.size
 pr:i+j+lb<=x.size+y.size
noncomputable def HI (rk:Keyed->Int) (x y:Array Keyed) (lb:Nat) (st:SortSt) (c:LH) (st':SortSt):Prop:=Gq st st'/\∃ i j o mg p q,c=(none,i,j,o,mg,p,q)/\HB rk x y lb i j o
noncomputable def HQ (rk:Keyed->Int) (x y:Array Keyed) (lb:Nat) (st:SortSt) (c:LH) (st':SortSt):Prop:=Gq st st'/\((∃ r i j o mg p q,c=(some r,i,j,o,mg,p,q)/\cV rk x y r) ∨ ∃ i j o mg p q,c=(none,i,j,o,mg,p,q)/\HB rk x y lb i j o)
noncomputable def HR (rk:Keyed->Int) (x y:Array Keyed) (lb:Nat) (st:SortSt) (r:ForInStep LH) (st':SortSt):Prop:=match r with | .done c=>HQ rk x y lb st c st' | .yield c=>HI rk x y lb st c st'
theorem zV {st0:SortSt}{x y o:Array Keyed}{i j mg p q lb:Nat} (g:Gq st0 st) (b:HB rk x y lb (i+1) j o) (hm:∀ (hi:i < x.size) t,t < j->t < y.size->Kr rk y t<=rk x[i]):wpS (model prog w) A E s (oM x y o (i+1) j mg p q) (HR rk x y lb st0) st:=by
 unfold oM
 obtain ⟨m,i0,i1,j0,j1,pr⟩:=b
 have hi':i < x.size:=by omega
 have m':=m.x1 hi' (hm hi')
 simp only [Nat.add_sub_cancel]
 refine aK9 (cD hi' ?_)
 by_cases he:(i == 0)=true
 ·rw [if_pos he]
  have he:i=0:=by simpa using he
  exact aL7 ⟨g,.inl ⟨_,_,_,_,_,_,_,rfl,m'.done (.inl he)⟩⟩
 ·rw [if_neg he]
  have he:i ≠ 0:=by simpa using he
  split
  ·exact aL7 ⟨g,.inr ⟨_,_,_,_,_,_,rfl,m',by omega,by omega,j0,j1,by omega⟩⟩
  ·exact aL7 ⟨g,_,_,_,_,_,_,rfl,m',by omega,by omega,j0,j1,by omega⟩
theorem zW (c:bN prog w A E s κ Ok rk) {st0:SortSt} (hk:kindOf st0=κ) {x y o:Array Keyed}{i j mg p q lb:Nat} (ox:b8 Ok x) (oy:b8 Ok y) (sx:Sd rk x.toList) (sy:Sd rk y.toList) (y0:0 < y.size) (hf:∀ t ∈ x.toList,rk y[0]<=rk t) (g:Gq st0 st) (b:HB rk x y lb (i+1) (j+1) o)
  (hm:∀ (hj:j < y.size) t,t < i+1->t < x.size->Kr rk x t<=rk y[j]):wpS (model prog w) A E s (oN x y o (i+1) (j+1) mg p q) (HR rk x y lb st0) st:=by
 unfold oN
 obtain ⟨m,i0,i1,j0,j1,pr⟩:=b
 have hi':i < x.size:=by omega
 have hj:j < y.size:=by omega
 have m':=m.y1 hj (hm hj)
 simp only [Nat.add_sub_cancel]
 refine aK9 (cD hj ?_)
 by_cases he:(j == 1)=true
 ·rw [if_pos he]
  have he:j=1:=by simpa using he
  exact aL7 ⟨g,.inl ⟨_,_,_,_,_,_,_,rfl,m'.frst y0 hf he⟩⟩
 ·rw [if_neg he]
  have he:j ≠ 1:=by simpa using he
  refine aK9 (cD hi' (aK9 (kH c (g.kd.trans hk) (ox _ (aO7 hi')) oy (by omega) (by omega) (sy.up _ _ (by omega)) fun z k1 k2 k3=>?_)))
  dsimp only
  have ux:=sx.up 0 _ (aK4 x.size)
  have mk:=m'.yk k1 fun t p ht ht' hp hp' _=>by
   have a1:=k3 p hp hp'
   rw [kK,aT8,Nat.zero_add] at a1
   have a2:=ux t i (by omega) (by omega) hi'
   rw [bI (i:=i) hi'] at a2
   omega
  have km:∀ (hi:i < x.size) t,t < z->t < y.size->Kr rk y t<=rk x[i]:=fun _ t ht _=>by
   have a1:=k2 t ht
   rw [kK,aO3,Nat.zero_add] at a1
   omega
  by_cases hk0:j - z > 0
  ·rw [if_pos hk0]
   by_cases h1:(z == 1)=true
   ·rw [if_pos h1]
    have h1:z=1:=by simpa using h1
    exact aL7 ⟨g,.inl ⟨_,_,_,_,_,_,_,rfl,mk.frst y0 hf h1⟩⟩
   ·rw [if_neg h1]
    have h1:z ≠ 1:=by simpa using h1
    by_cases h0:(z == 0)=true
    ·rw [if_pos h0]
     have h0:z=0:=by simpa using h0
     exact aL7 ⟨g,.inl ⟨_,_,_,_,_,_,_,rfl,mk.done (.inr h0)⟩⟩
    ·rw [if_neg h0]
     have h0:z ≠ 0:=by simpa using h0
     exact zV g ⟨mk,by omega,i1,by omega,by omega,by omega⟩ km
  ·rw [if_neg hk0]
   have e0:z=j:=by omega
   subst e0
   exact zV g ⟨m',by omega,i1,by omega,by omega,by omega⟩ km
theorem zX (c:bN prog w A E s κ Ok rk) {st0:SortSt} (hk:kindOf st0=κ) {x y o:Array Keyed}{i j mg p q lb:Nat} (ox:b8 Ok x) (oy:b8 Ok y) (sx:Sd rk x.toList) (sy:Sd rk y.toList) (y0:0 < y.size) (hf:∀ t ∈ x.toList,rk y[0]<=rk t) (g:Gq st0 st) (b:HB rk x y lb i (j+1) o) :
  wpS (model prog w) A E s (oO x y o i (j+1) mg p q) (HR rk x y lb st0) st:=by
 unfold oO
 obtain ⟨m,i0,i1,j0,j1,pr⟩:=b
 have hj:j < y.size:=by omega
 simp only [Nat.add_sub_cancel]
 refine aK9 (oK g fun st4 q4=>aK9 (cD hj (aK9 (kH c (q4.kd.trans hk) (oy _ (aO7 hj)) ox (by omega) (by omega) (sx.up _ _ (by omega)) fun z k1 k2 k3=>?_))))
 dsimp only
 have uy:=sy.up 0 _ (aK4 y.size)
 have mk:=m.xk k1 fun t p ht ht' hp hp' _=>by
  have a1:=k3 p hp hp'
  rw [kJ,aT8,Nat.zero_add] at a1
  have a2:=uy t j (by omega) (by omega) hj
  rw [bI (i:=j) hj] at a2
  omega
 have km:∀ (hj:j < y.size) t,t < z->t < x.size->Kr rk x t<=rk y[j]:=fun _ t ht _=>by
  have a1:=k2 t ht
  rw [kJ,aO3,Nat.zero_add] at a1
  exact a1
 by_cases hk0:i - z > 0
 ·rw [if_pos hk0]
  by_cases he:(z == 0)=true
  ·rw [if_pos he]
   exact aL7 ⟨q4,.inl ⟨_,_,_,_,_,_,_,rfl,mk.done (.inl (by simpa using he))⟩⟩
  ·rw [if_neg he]
   have he:z ≠ 0:=by simpa using he
   obtain ⟨z2,rfl⟩:∃ z2,z=z2+1:=⟨z - 1,by omega⟩
   exact zW c hk ox oy sx sy y0 hf q4 ⟨mk,by omega,by omega,j0,j1,by omega⟩ km
 ·rw [if_neg hk0]
  have e0:z=i:=by omega
  subst e0
  obtain ⟨z2,rfl⟩:∃ z2,z=z2+1:=⟨z - 1,by omega⟩
  exact zW c hk ox oy sx sy y0 hf q4 ⟨m,i0,i1,j0,j1,pr⟩ km
theorem ao9 (c:bN prog w A E s κ Ok rk) {st0:SortSt} (hk:kindOf st0=κ) {x y o:Array Keyed}{i j mg p q lb:Nat} (ox:b8 Ok x) (oy:b8 Ok y) (sx:Sd rk x.toList) (sy:Sd rk y.toList) (y0:0 < y.size) (hf:∀ t ∈ x.toList,rk y[0]<=rk t) (g:Gq st0 st) (b:HB rk x y lb i j o) :
  wpS (model prog w) A E s (tF x y o i j mg p q) (HQ rk x y lb st0) st:=by
 unfold tF
 refine aR8 (I:=fun _=>HI rk x y lb st0) ?_ ?_ ⟨g,i,j,o,_,p,q,rfl,b⟩
 ·rintro t c3 st3 _ _ ⟨q3,i,j,o,mg,p,q,rfl,b3⟩
  obtain ⟨j3,rfl⟩:∃ j3,j=j3+1:=⟨j - 1,by have:=b3.j0; omega⟩
  dsimp only
  split
  ·exact aZ0 (zX c hk ox oy sx sy y0 hf q3 b3) fun r _ hr=>by cases r <;> exact hr
  ·exact aZ0 (zX c hk ox oy sx sy y0 hf q3 b3) fun r _ hr=>by cases r <;> exact hr
 ·rintro c3 st3 ⟨q3,i,j,o,mg,p,q,rfl,b3⟩
  exact⟨q3,.inr ⟨_,_,_,_,_,_,rfl,b3⟩⟩
theorem ap0 (c:bN prog w A E s κ Ok rk) {st0:SortSt} (hk:kindOf st0=κ) {x y o:Array Keyed}{i j mg n:Nat}{Q:tE->SortSt->Prop} (ox:b8 Ok x) (oy:b8 Ok y) (sx:Sd rk x.toList) (sy:Sd rk y.toList) (y0:0 < y.size) (hf:∀ t ∈ x.toList,rk y[0]<=rk t) (g:Gq st0 st) (b:HB rk x y n i j o)
  (h1:∀ r i' j' o' p q st',Gq st0 st'->cV rk x y r->Q (some r,i',j',o',p,q) st') (h2:∀ i' j' o' p q st',Gq st0 st'->HB rk x y (n+1) i' j' o'->Q (none,i',j',o',p,q) st') :
  wpS (model prog w) A E s (kL x y o i j mg) Q st:=by
 have ux:Up rk x 0 x.size:=sx.up 0 _ (aK4 _)
 have uy:Up rk y 0 y.size:=sy.up 0 _ (aK4 _)
 unfold kL
 refine aR8 (I:=fun t c st'=>Gq st0 st'/\∃ i j o p q,c=(none,i,j,o,p,q)/\HB rk x y (n+t) i j o) ?_ ?_ ⟨g,i,j,o,0,0,rfl,b⟩
 ·rintro t c2 st2 _ ht ⟨q2,i',j',o,p,q,rfl,m,i0,i1,j0,j1,pr⟩
  obtain ⟨i2,rfl⟩:∃ i2,i'=i2+1:=⟨i' - 1,by omega⟩
  obtain ⟨j2,rfl⟩:∃ j2,j'=j2+1:=⟨j' - 1,by omega⟩
  simp only [Nat.add_sub_cancel]
  have hi:i2 < x.size:=by omega
  have hj:j2 < y.size:=by omega
  refine aK9 (cD hj (aK9 (cD hi (aK9 (c _ _ (oy _ (aO7 hj)) (ox _ (aO7 hi)) st2 _ (q2.kd.trans hk) ?_)))))
  by_cases hc:rk y[j2] < rk x[i2]
  ·rw [aL2 hc]
   dsimp only
   rw [if_pos rfl]
   have m':=m.x1 hi fun t ht _=>by
    have:=uy t j2 (by omega) (by omega) hj
    rw [bI hj] at this
    omega
   refine aK9 (cD hi ?_)
   by_cases he:(i2 == 0)=true
   ·rw [if_pos he]
    exact aL7 (h1 _ _ _ _ _ _ _ q2 (m'.done (.inl (by simpa using he))))
   ·rw [if_neg he]
    have he:i2 ≠ 0:=by simpa using he
    split
    ·exact aL7 (h2 _ _ _ _ _ _ q2 ⟨m',by omega,by omega,j0,j1,by omega⟩)
    ·exact aL7 ⟨q2,_,_,_,_,_,rfl,m',by omega,by omega,j0,j1,by omega⟩
  ·rw [aL0 hc]
   dsimp only
   rw [if_neg aL6]
   have m':=m.y1 hj fun t ht _=>by
    have:=ux t i2 (by omega) (by omega) hi
    rw [bI hi] at this
    omega
   refine aK9 (cD hj ?_)
   by_cases he:(j2 == 1)=true
   ·rw [if_pos he]
    exact aL7 (h1 _ _ _ _ _ _ _ q2 (m'.frst y0 hf (by simpa using he)))
   ·rw [if_neg he]
    have he:j2 ≠ 1:=by simpa using he
    split
    ·exact aL7 (h2 _ _ _ _ _ _ q2 ⟨m',i0,i1,by omega,by omega,by omega⟩)
    ·exact aL7 ⟨q2,_,_,_,_,_,rfl,m',i0,i1,by omega,by omega,by omega⟩
 ·rintro c2 st2 ⟨q2,i',j',o,p,q,rfl,m,i0,i1,j0,j1,pr⟩
  exact h2 _ _ _ _ _ _ q2 ⟨m,i0,i1,j0,j1,by omega⟩
theorem ap1 (c:bN prog w A E s κ Ok rk) (hk:kindOf st=κ) {x y:Array Keyed}{Q:Array Keyed->SortSt->Prop} (ox:b8 Ok x) (oy:b8 Ok y) (sx:Sd rk x.toList) (sy:Sd rk y.toList) (x0:0 < x.size) (y0:0 < y.size)
  (hf:∀ t ∈ x.toList,rk y[0]<=rk t) (hl:∀ u ∈ y.toList,rk u<=rk x[x.size - 1])
  (h:∀ r st',Gq st st'->cV rk x y r->Q r st'):wpS (model prog w) A E s (tD x y) Q st:=by
 rw [ao8]
 refine aK9 (wpS_lift (aX6 ⟨rfl,aK9 (cD (by omega:x.size - 1 < x.size) ?_)⟩))
 have m0:MH rk x.toList y.toList (#[x[x.size - 1]]:Array Keyed).toList.reverse (x.size - 1) y.size:=by
  have mm:MH rk x.toList y.toList [] x.size y.size:=⟨by simp,by rw [aO0 (by simp),aQ2]; exact sx,by rw [aO0 (by simp),aQ2]; exact sy⟩
  have e:=mC (x:=x) (i:=x.size - 1) (by omega)
  rw [show x.size - 1+1=x.size by omega] at e
  have:=mm.ofx (Nat.sub_le x.size 1) fun t ht u hu=>?_
  ·rw [<- e] at this; simpa using this
  ·rw [<- e,aK7] at hu
   subst hu
   exact hl t (aZ1 ht)
 by_cases e1:(x.size - 1 == 0)=true
 ·rw [if_pos e1]
  exact aL7 (h _ st (Gq.refl st) (m0.done (.inl (by simpa using e1))))
 ·rw [if_neg e1]
  have e1:x.size - 1 ≠ 0:=by simpa using e1
  by_cases e2:(y.size == 1)=true
  ·rw [if_pos e2]
   exact aL7 (h _ st (Gq.refl st) (m0.frst y0 hf (by simpa using e2)))
  ·rw [if_neg e2]
   have e2:y.size ≠ 1:=by simpa using e2
   refine aK9 (wpS_get ?_)
   unfold zU
   refine aK9 (aZ0 (aR8
    (I:=fun n c st'=>Gq st st'/\∃ i j o mg,c=(none,i,j,o,mg)/\HB rk x y (n+1) i j o)
    (Q:=fun c st'=>Gq st st'/\∃ r i j o mg,c=(some r,i,j,o,mg)/\cV rk x y r) ?_ ?_ ⟨Gq.refl st,_,_,_,_,rfl,m0,by omega,by omega,by omega,by omega,by omega⟩) ?_)
   ·rintro n c1 st1 _ hn ⟨q1,i,j,o,mg,rfl,b⟩
    dsimp only
    refine aK9 (ap0 c hk ox oy sx sy y0 hf q1 b (fun r o' i' j' p q st' g md=>aL7 ⟨g,r,_,_,_,_,rfl,md⟩) fun i' j' o' p q st' g b'=>?_)
    refine aK9 (wpS_lift (aX6 ⟨rfl,?_⟩))
    refine aK9 (aZ0 (ao9 c hk ox oy sx sy y0 hf g b') ?_)
    rintro c3 st3 ⟨q3,⟨r,i3,j3,o,mg,p,q,rfl,md⟩ | ⟨i3,j3,o,mg,p,q,rfl,b3⟩⟩
    ·exact aL7 ⟨q3,r,_,_,_,_,rfl,md⟩
    ·exact aK9 (oK q3 fun st4 q4=>aL7 ⟨q4,i3,j3,o,_,rfl,b3⟩)
   ·rintro c1 st1 ⟨q1,i,j,o,mg,rfl,b⟩
    have:=b.pr
    exact absurd this (by omega)
   ·rintro c1 st1 ⟨q1,r,i,j,o,mg,rfl,md⟩
    exact aL7 (h r _ q1 md)
end
theorem ap2 (i:Nat):mergeAt' i=(do
 let z <- get
 let (some (sa,na,pw),some (sb,nb,_)):=((pendingOf z)[i]?,(pendingOf z)[i+1]?) | unsupported "internal:list.sort.pending"
 set (SortSt.mk' (kindOf z) (arrOf z) (((pendingOf z).setIfInBounds i (sa,na+nb,pw)).eraseIdxIfInBounds (i+1)) (gallopOf z) (failedOf z))
 let some k <- iG false (<- elem' (arrOf z) sb) (arrOf z) sa na 0 | return false
 let (sa,na):=(sa+k,na - k)
 if na == 0 then return true
 let some nb <- iG true (<- elem' (arrOf z) (sa+na - 1)) (arrOf z) sb nb (nb - 1) | return false
 if nb == 0 then return true
 let x:=(arrOf z).extract sa sb
 let y:=(arrOf z).extract sb (sb+nb)
 let m <- if na<=nb then t6 x y else tD x y
 modify fun z=>setArr z (m.toList.zipIdx.foldl (fun a (p,j)=>a.setIfInBounds (sa+j) p) (arrOf z))
 return (failedOf (<- get)).isNone):=rfl
variable {rk : Keyed → Int}
theorem ap3 {σ:Type}{M:Model}{A:Around}{E:Value->Shared->Prop}{s:Shared}{a b:σ}{Q:PUnit->σ->Prop} (h:Q ⟨⟩ a):wpS M A E s (set a:StateT σ Sem PUnit) Q b:=by
 unfold wpS; rw [StateT.run_set]; exact aK6 ⟨rfl,h⟩
theorem zY (o:Nat):∀ (m:List Keyed) (n:Nat) (a:Array Keyed) (t:Nat),o+n+m.length<=a.size->
  ((m.zipIdx n).foldl (fun a (p,j)=>a.setIfInBounds (o+j) p) a)[t]? = if o+n<=t/\t < o+n+m.length then m[t - (o+n)]? else a[t]?
 | [],n,a,t,_=>by
  show a[t]? = _
  rw [if_neg (fun z=>Nat.not_lt_of_ge z.1 z.2)]
 | p :: m,n,a,t,h=>by
  rw [List.zipIdx_cons,List.foldl_cons]
  have h':o+(n+1)+m.length<=(a.setIfInBounds (o+n) p).size:=by rw [Array.size_setIfInBounds]; simp at h; omega
  have ih:=zY o m (n+1) (a.setIfInBounds (o+n) p) t h'
  refine ih.trans ?_
  have hs:o+n < a.size:=by simp at h; omega
  rw [Array.getElem?_setIfInBounds]
  by_cases e:o+n=t
  ·subst e
   rw [if_neg (by omega),if_pos rfl,if_pos hs,if_pos (by simp),Nat.sub_self]; rfl
  ·rw [if_neg e]
   by_cases c:o+n<=t/\t < o+n+(p :: m).length
   ·rw [if_pos c,if_pos (by simp at c; omega)]
    rw [show t - (o+n)=(t - (o+(n+1)))+1 by omega]; rfl
   ·rw [if_neg c,if_neg (by simp at c ⊢; omega)]
theorem zZ {a:Array Keyed}{lo hi:Nat} (u:Up rk a lo hi) (hh:hi<=a.size):Sd rk (a.extract lo hi).toList:=by
 unfold Sd
 rw [aO2]
 intro i j hi' hj hij
 have h2:lo+j < hi:=by simp at hj; omega
 have:=u (lo+i) (lo+j) (by omega) (by omega) h2
 rw [bI (by omega:lo+i < a.size),bI (by omega:lo+j < a.size)] at this
 simpa using this
theorem A0 {a:Array Keyed}{lo mid hi:Nat} (u:Up rk a lo mid) (v:Up rk a mid hi) (h0:lo < mid) (h1:mid < hi) (h:Kr rk a (mid - 1)<=Kr rk a mid):Up rk a lo hi:=fun i j hi' hij hj=>by
 rcases aO4 j mid with z | z
 ·exact u i j hi' hij z
 ·rcases aO4 i mid with y | y
  ·have a1:=u i (mid - 1) hi' (by omega) (by omega)
   have a2:=v mid j (aK4 _) z hj
   omega
  ·exact v i j y hij hj
theorem A1 {a:Array Keyed}{lo hi t:Nat} (h:t < hi - lo) (hh:hi<=a.size):Kr rk (a.extract lo hi) t=Kr rk a (lo+t):=by
 refine jC ?_
 rw [Array.getElem?_extract_of_lt (by omega)]
 exact (getElem?_pos a (lo+t) (by omega)).symm
section
variable {κ : SortKind} {a0 : Array Keyed} {pd : Array (Nat × Nat × Nat)} {st : SortSt} {prog : Program} {w : World} {A : Around} {E : Value → Shared → Prop} {s : Shared} {Ok : Keyed → Prop}
theorem ap4 {a m:Array Keyed}{p x e:Nat} (hpx:p<=x) (hxe:x<=e) (he:e<=a.size) (md:cV rk (a.extract p x) (a.extract x e) m) :
  let r:=m.toList.zipIdx.foldl (fun a (q,j)=>a.setIfInBounds (p+j) q) a
  r.Perm a/\(∀ t,(t < p ∨ e<=t)->Kr rk r t=Kr rk a t)/\(∀ t t',p<=t->t<=t'->t' < e->Kr rk r t<=Kr rk r t')/\∀ t,p<=t->t < e->∃ t',p<=t'/\t' < e/\Kr rk r t=Kr rk a t':=by
 intro r
 have ml:m.toList.length=e - p:=by
  rw [md.1.length_eq]; simp; omega
 have g:∀ t,r[t]? = if p<=t/\t < e then m[t - p]? else a[t]?:=fun t=>by
  have:=zY p m.toList 0 a t (by omega)
  rw [show r=(m.toList.zipIdx 0).foldl (fun a (q,j)=>a.setIfInBounds (p+j) q) a from rfl,this]
  simp only [Nat.add_zero,ml,show p+(e - p)=e by omega,aO9]
 have ex:(a.extract p x).toList ++ (a.extract x e).toList=(a.toList.take e).drop p:=by
  rw [jF,jF,aZ6,aZ6,aZ6]
  rw [show x=p+(x - p) by omega,<- List.drop_drop,show p+(x - p) - p=x - p by omega,show e - (p+(x - p))=(e - p) - (x - p) by omega]
  have:=aN9 (x - p) ((a.toList.drop p).take (e - p))
  rw [List.take_take,aZ6,Nat.min_eq_left (by omega)] at this
  exact this
 have rl:r.toList=a.toList.take p ++ (m.toList ++ a.toList.drop e):=by
  apply List.ext_getElem?
  intro t
  rw [aO9,g]
  rcases aO4 t p with z | z
  ·rw [if_neg (by omega),aV2 (by simp; omega),aS2 z,aO9]
  ·rw [aX4 (by simp; omega)]
   have lp:(a.toList.take p).length=p:=by simp; omega
   rw [lp]
   rcases aO4 t e with y | y
   ·rw [if_pos ⟨z,y⟩,aV2 (by omega),aO9]
   ·rw [if_neg (by omega),aX4 (by omega),ml,List.getElem?_drop,aO9]
    congr 1; omega
 have mp:m.toList.Perm ((a.toList.take e).drop p):=ex ▸ md.1
 refine⟨?_,fun t ht=>jC (by rw [g,if_neg (by omega)]),fun t t' h1 h2 h3=>?_,fun t h1 h2=>?_⟩
 ·refine Array.perm_iff_toList_perm.mpr ?_
  rw [rl]
  have:a.toList=a.toList.take p ++ ((a.toList.take e).drop p ++ a.toList.drop e):=by
   rw [tG _ (by omega:p<=e)]; exact (aN9 p _).symm
  conv=>rhs; rw [this]
  exact (mp.append_right _).append_left _
 ·have e1:Kr rk r t=Kr rk m (t - p):=jC (by rw [g,if_pos (by omega)])
  have e2:Kr rk r t'=Kr rk m (t' - p):=jC (by rw [g,if_pos (by omega)])
  rw [e1,e2]
  have ms:m.size=e - p:=by rw [<- ml]; simp
  exact md.2.up 0 m.size (aK4 _) (t - p) (t' - p) (by omega) (by omega) (by omega)
 ·have e1:Kr rk r t=Kr rk m (t - p):=jC (by rw [g,if_pos (by omega)])
  have ms:m.size=e - p:=by rw [<- ml]; simp
  have hm:t - p < m.size:=by omega
  have mm:m[t - p] ∈ (a.toList.take e).drop p:=mp.mem_iff.mp (by simp)
  obtain ⟨t',q1,q2,q3,q4⟩:=mB (rk:=rk) mm
  exact⟨t',q1,q2,by rw [e1,bI hm]; exact q4⟩
theorem ap5 (c:bN prog w A E s κ Ok rk) (o:b8 Ok a0) (b:SB κ a0 pd st) {i sa na pw sb nb pw':Nat}{Q:Bool->SortSt->Prop} (e1:pd[i]? = some (sa,na,pw)) (e2:pd[i+1]? = some (sb,nb,pw')) (hs:sb=sa+na) (n0:0 < na) (m0:0 < nb) (hz:sb+nb<=a0.size)
  (u:Up rk (arrOf st) sa sb) (v:Up rk (arrOf st) sb (sb+nb))
  (h:∀ st',SB κ a0 ((pd.setIfInBounds i (sa,na+nb,pw)).eraseIdxIfInBounds (i+1)) st'->Up rk (arrOf st') sa (sb+nb)->(∀ t,(t < sa ∨ sb+nb<=t)->Kr rk (arrOf st') t=Kr rk (arrOf st) t)->Q true st'):wpS (model prog w) A E s (mergeAt' i) Q st:=by
 have sz:=b.sz
 rw [ap2]
 refine aK9 (wpS_get ?_)
 rw [b.pd,e1,e2]
 dsimp only
 refine aK9 (ap3 ?_)
 generalize hst:SortSt.mk' (kindOf st) (arrOf st) ((pd.setIfInBounds i (sa,na+nb,pw)).eraseIdxIfInBounds (i+1)) (gallopOf st) (failedOf st)=st1
 have b1:SB κ a0 ((pd.setIfInBounds i (sa,na+nb,pw)).eraseIdxIfInBounds (i+1)) st1:=by rw [<- hst]; exact⟨b.pm,b.kd,b.ok,rfl⟩
 have ar:arrOf st1=arrOf st:=by rw [<- hst]
 have oa:=b.all o
 have hsb:sb < (arrOf st).size:=by omega
 refine aK9 (cD hsb (aK9 (kH c b1.kd (oa _ (aO7 hsb)) oa n0 (by omega) (hs ▸ u) fun k k1 k2 k3=>?_)))
 dsimp only
 have k2':∀ t,sa<=t->t < sa+k->Kr rk (arrOf st) t<=Kr rk (arrOf st) sb:=fun t t1 t2=>by
  have:=k2 (t - sa) (by omega)
  rw [kJ,aO3,show sa+(t - sa)=t by omega] at this
  rw [bI hsb]; exact this
 have k3':∀ t,sa+k<=t->t < sb->Kr rk (arrOf st) sb < Kr rk (arrOf st) t:=fun t t1 t2=>by
  have:=k3 (t - sa) (by omega) (by omega)
  rw [kJ,aT8,show sa+(t - sa)=t by omega] at this
  rw [bI hsb]; omega
 by_cases ek:(na - k == 0)=true
 ·rw [if_pos ek]
  have ek:na - k=0:=by simpa using ek
  refine aL7 (h st1 b1 ?_ fun t _=>by rw [ar])
  rw [ar]
  exact A0 u v (by omega) (by omega) (k2' (sb - 1) (by omega) (by omega))
 ·rw [if_neg ek]
  have ek:na - k ≠ 0:=by simpa using ek
  have el:sa+k+(na - k) - 1=sb - 1:=by omega
  rw [el]
  have hsl:sb - 1 < (arrOf st).size:=by omega
  refine aK9 (cD hsl (aK9 (kH c b1.kd (oa _ (aO7 hsl)) oa (by omega) (by omega) v fun l l1 l2 l3=>?_)))
  dsimp only
  have l2':∀ t,sb<=t->t < sb+l->Kr rk (arrOf st) t < Kr rk (arrOf st) (sb - 1):=fun t t1 t2=>by
   have:=l2 (t - sb) (by omega)
   rw [kK,aO3,show sb+(t - sb)=t by omega] at this
   rw [bI hsl]; exact this
  have l3':∀ t,sb+l<=t->t < sb+nb->Kr rk (arrOf st) (sb - 1)<=Kr rk (arrOf st) t:=fun t t1 t2=>by
   have:=l3 (t - sb) (by omega) (by omega)
   rw [kK,aT8,show sb+(t - sb)=t by omega] at this
   rw [bI hsl]; omega
  by_cases en:(l == 0)=true
  ·rw [if_pos en]
   have en:l=0:=by simpa using en
   subst en
   refine aL7 (h st1 b1 ?_ fun t _=>by rw [ar])
   rw [ar]
   exact A0 u v (by omega) (by omega) (l3' sb (by omega) (by omega))
  ·rw [if_neg en]
   have en:l ≠ 0:=by simpa using en
   have sub:∀ p e,b8 Ok ((arrOf st).extract p e):=fun p e z hz=>oa z (by
    have:z ∈ ((arrOf st).extract p e).toList:=Array.mem_toList_iff.mpr hz
    rw [jF] at this
    exact Array.mem_toList_iff.mp (aZ1 (List.mem_of_mem_drop this)))
   have sx:Sd rk ((arrOf st).extract (sa+k) sb).toList:=zZ (fun i j h1 h2 h3=>u i j (by omega) h2 h3) (by omega)
   have sy:Sd rk ((arrOf st).extract sb (sb+l)).toList:=zZ (fun i j h1 h2 h3=>v i j h1 h2 (by omega)) (by omega)
   have x0:0 < ((arrOf st).extract (sa+k) sb).size:=by simp; omega
   have y0:0 < ((arrOf st).extract sb (sb+l)).size:=by simp; omega
   have hf:∀ t ∈ ((arrOf st).extract (sa+k) sb).toList,rk ((arrOf st).extract sb (sb+l))[0]<=rk t:=fun t ht=>by
    rw [jF] at ht
    obtain ⟨t',q1,q2,q3,q4⟩:=mB (rk:=rk) ht
    rw [q4,<- bI (rk:=rk) y0,A1 (by omega) (by omega)]
    exact Int.le_of_lt (k3' t' q1 q2)
   have hl:∀ t ∈ ((arrOf st).extract sb (sb+l)).toList,rk t<=rk ((arrOf st).extract (sa+k) sb)[((arrOf st).extract (sa+k) sb).size - 1]:=fun t ht=>by
    rw [jF] at ht
    obtain ⟨t',q1,q2,q3,q4⟩:=mB (rk:=rk) ht
    have e:((arrOf st).extract (sa+k) sb).size=sb - (sa+k):=by simp; omega
    rw [q4,<- bI (rk:=rk) (by omega),A1 (by omega) (by omega),e,show sa+k+(sb - (sa+k) - 1)=sb - 1 by omega]
    exact Int.le_of_lt (l2' t' q1 q2)
   have fin:∀ (m:Array Keyed) (st2:SortSt),Gq st1 st2->cV rk ((arrOf st).extract (sa+k) sb) ((arrOf st).extract sb (sb+l)) m->
     wpS (model prog w) A E s (do modify (fun z=>setArr z (m.toList.zipIdx.foldl (fun a (p,j)=>a.setIfInBounds (sa+k+j) p) (arrOf z))); return (failedOf (<- get)).isNone) Q st2:=fun m st2 g md=>by
    have b2:SB κ a0 ((pd.setIfInBounds i (sa,na+nb,pw)).eraseIdxIfInBounds (i+1)) st2:=⟨by rw [g.ar]; exact b1.pm,g.kd.trans b1.kd,g.ok.trans b1.ok,g.pd.trans b1.pd⟩
    have a2:arrOf st2=arrOf st:=g.ar.trans ar
    obtain ⟨r1,r2,r3,r4⟩:=ap4 (by omega) (by omega) (by omega) md
    generalize hr:m.toList.zipIdx.foldl (fun a (q,j)=>a.setIfInBounds (sa+k+j) q) (arrOf st)=r at r1 r2 r3 r4
    refine aK9 (wpS_modify (aK9 (wpS_get (aL7 ?_))))
    have b3:=b2.put (xs:=m.toList.zipIdx.foldl (fun a (q,j)=>a.setIfInBounds (sa+k+j) q) (arrOf st2)) (by rw [a2,hr]; exact r1)
    have er:arrOf (setArr st2 (m.toList.zipIdx.foldl (fun a (q,j)=>a.setIfInBounds (sa+k+j) q) (arrOf st2)))=r:=by rw [<- hr,a2]
    have tr:(failedOf (setArr st2 (m.toList.zipIdx.foldl (fun a (q,j)=>a.setIfInBounds (sa+k+j) q) (arrOf st2)))).isNone=true:=by rw [b3.ok]; rfl
    rw [tr]
    refine h _ b3 (fun i j hi hij hj=>?_) fun t ht=>?_
    ·rw [er]
     have bl:∀ t,sa<=t->t < sa+k->∀ t',sa+k<=t'->t' < sb+l->Kr rk (arrOf st) t<=Kr rk (arrOf st) t':=fun t t1 t2 t' t3 t4=>by
      rcases aO4 t' sb with z | z
      ·exact u t t' t1 (by omega) z
      ·have a1:=k2' t t1 t2
       have a2:=v sb t' (aK4 _) z (by omega)
       omega
     have br:∀ t,sb+l<=t->t < sb+nb->∀ t',sa+k<=t'->t' < sb+l->Kr rk (arrOf st) t'<=Kr rk (arrOf st) t:=fun t t1 t2 t' t3 t4=>by
      rcases aO4 t' sb with z | z
      ·have a1:=u t' (sb - 1) (by omega) (by omega) (by omega)
       have a2:=l3' t t1 t2
       omega
      ·exact v t' t z (by omega) t2
     have blr:∀ t,sa<=t->t < sa+k->∀ t',sb+l<=t'->t' < sb+nb->Kr rk (arrOf st) t<=Kr rk (arrOf st) t':=fun t t1 t2 t' t3 t4=>by
      have a1:=bl t t1 t2 (sb - 1) (by omega) (by omega)
      have a2:=l3' t' t3 t4
      omega
     rcases aO4 i (sa+k) with z | z
     ·rw [r2 i (.inl z)]
      rcases aO4 j (sa+k) with y | y
      ·rw [r2 j (.inl y)]; exact u i j hi hij (by omega)
      ·rcases aO4 j (sb+l) with x | x
       ·obtain ⟨t',q1,q2,q3⟩:=r4 j y x
        rw [q3]; exact bl i hi z t' q1 q2
       ·rw [r2 j (.inr x)]; exact blr i hi z j x hj
     ·rcases aO4 j (sb+l) with x | x
      ·exact r3 i j z hij x
      ·rw [r2 j (.inr x)]
       rcases aO4 i (sb+l) with y | y
       ·obtain ⟨t',q1,q2,q3⟩:=r4 i z y
        rw [q3]; exact br j x hj t' q1 q2
       ·rw [r2 i (.inr y)]; exact v i j (by omega) hij hj
    ·rw [er]; exact r2 t (by omega)
   by_cases hle:na - k<=l
   ·rw [if_pos hle]
    exact aK9 (ao7 c b1.kd (sub _ _) (sub _ _) sx sy x0 y0 hf hl fun m st2 g md=>fin m st2 g md)
   ·rw [if_neg hle]
    exact aK9 (ap1 c b1.kd (sub _ _) (sub _ _) sx sy x0 y0 hf hl fun m st2 g md=>fin m st2 g md)
end
noncomputable def Ch:Nat->List (Nat × Nat)->Nat->Prop
 | a,[],b=>a=b
 | a,(p,n) :: r,b=>p=a/\0 < n/\Ch (a+n) r b
theorem Ch.split:∀ {l l':List (Nat × Nat)}{a b:Nat},Ch a (l ++ l') b->∃ m,Ch a l m/\Ch m l' b
 | [],_,a,_,h=>⟨a,rfl,h⟩
 | (p,n) :: l,l',a,b,h=>by
  obtain ⟨h1,h2,h3⟩:=h
  obtain ⟨m,q1,q2⟩:=Ch.split h3
  exact⟨m,⟨h1,h2,q1⟩,q2⟩
theorem Ch.join:∀ {l l':List (Nat × Nat)}{a m b:Nat},Ch a l m->Ch m l' b->Ch a (l ++ l') b
 | [],_,a,m,_,h,h'=>by cases (show a=m from h); exact h'
 | (p,n) :: l,l',a,m,b,h,h'=>⟨h.1,h.2.1,Ch.join h.2.2 h'⟩
theorem Ch.len:∀ {l:List (Nat × Nat)}{a b:Nat},Ch a l b->a+l.length<=b
 | [],a,b,h=>by cases (show a=b from h); simp
 | (p,n) :: l,a,b,h=>by
  have:=Ch.len h.2.2
  have:=h.2.1
  simp; omega
theorem Ch.mem:∀ {l:List (Nat × Nat)}{a b:Nat}{r:Nat × Nat},Ch a l b->r ∈ l->a<=r.1/\r.1+r.2<=b/\0 < r.2
 | (p,n) :: l,a,b,r,h,hr=>by
  obtain ⟨h1,h2,h3⟩:=h
  have hb:=Ch.len h3
  rcases aM4.mp hr with e | e
  ·subst e
   have h1:p=a:=h1
   refine⟨?_,?_,h2⟩
   ·show a<=p; omega
   ·show p+n<=b; omega
  ·have:=Ch.mem h3 e
   exact⟨by omega,this.2.1,this.2.2⟩
noncomputable def sk (pd:Array (Nat × Nat × Nat)):List (Nat × Nat):=pd.toList.map fun r=>(r.1,r.2.1)
theorem oR (pd:Array (Nat × Nat × Nat)):(sk pd).length=pd.size:=by simp [sk]
structure Rn (rk:Keyed->Int) (a:Array Keyed) (l:List (Nat × Nat)) (lo:Nat):Prop where
 ch:Ch 0 l lo
 up:∀ r ∈ l,Up rk a r.1 (r.1+r.2)
variable {rk : Keyed → Int} {κ : SortKind} {a0 : Array Keyed} {pd : Array (Nat × Nat × Nat)} {st : SortSt} {prog : Program} {w : World} {A : Around} {E : Value → Shared → Prop} {s : Shared} {Ok : Keyed → Prop}
theorem Rn.same {a b:Array Keyed}{l:List (Nat × Nat)}{lo:Nat} (h:Rn rk a l lo) (e:∀ t,t < lo->Kr rk b t=Kr rk a t):Rn rk b l lo:=⟨h.ch,fun r hr i j hi hij hj=>by
 have:=(h.ch.mem hr).2.1
 rw [e i (by omega),e j (by omega)]
 exact h.up r hr i j hi hij hj⟩
theorem A2 (c:bN prog w A E s κ Ok rk) (o:b8 Ok a0) (b:SB κ a0 pd st) {i lo:Nat}{Q:Bool->SortSt->Prop} (hi:i+1 < pd.size) (hz:lo<=a0.size) (rn:Rn rk (arrOf st) (sk pd) lo)
  (h:∀ pd' st',SB κ a0 pd' st'->pd'.size+1=pd.size->Rn rk (arrOf st') (sk pd') lo->(∀ t,lo<=t->Kr rk (arrOf st') t=Kr rk (arrOf st) t)->Q true st'):wpS (model prog w) A E s (mergeAt' i) Q st:=by
 obtain ⟨⟨sa,na,pw⟩,e1⟩:∃ r,pd[i]? = some r:=⟨pd[i],getElem?_pos pd i (by omega)⟩
 obtain ⟨⟨sb,nb,pw'⟩,e2⟩:∃ r,pd[i+1]? = some r:=⟨pd[i+1],getElem?_pos pd (i+1) hi⟩
 have d1:pd.toList=pd.toList.take i ++ (sa,na,pw) :: (sb,nb,pw') :: pd.toList.drop (i+2):=by
  have hl:i < pd.toList.length:=by simp; omega
  have hl2:i+1 < pd.toList.length:=by simpa using hi
  have g1:pd.toList[i]=(sa,na,pw):=by rw [getElem?_pos pd i (by omega)] at e1; simpa using e1
  have g2:pd.toList[i+1]=(sb,nb,pw'):=by rw [getElem?_pos pd (i+1) hi] at e2; simpa using e2
  have:=aN9 i pd.toList
  rw [List.drop_eq_getElem_cons hl,List.drop_eq_getElem_cons hl2,g1,g2] at this
  exact this.symm
 have li:(pd.toList.take i).length=i:=by simp; omega
 have d2:((pd.setIfInBounds i (sa,na+nb,pw)).eraseIdxIfInBounds (i+1)).toList=pd.toList.take i ++ (sa,na+nb,pw) :: pd.toList.drop (i+2):=by
  have e:((pd.setIfInBounds i (sa,na+nb,pw)).eraseIdxIfInBounds (i+1)).toList=(pd.toList.set i (sa,na+nb,pw)).eraseIdx (i+1):=by
   unfold Array.eraseIdxIfInBounds
   rw [dif_pos (by rw [Array.size_setIfInBounds]; exact hi),Array.toList_eraseIdx,Array.toList_setIfInBounds]
  rw [e]
  conv=>lhs; rw [d1]
  rw [List.set_append_right _ _ (by omega),li,Nat.sub_self,List.set_cons_zero,List.eraseIdx_append_of_length_le (by omega),li,show i+1 - i=1 by omega]
  rfl
 have k1:sk pd=(pd.toList.take i).map (fun r=>(r.1,r.2.1)) ++ (sa,na) :: (sb,nb) :: (pd.toList.drop (i+2)).map (fun r=>(r.1,r.2.1)):=by
  unfold sk; conv=>lhs; rw [d1]
  simp
 have k2:sk ((pd.setIfInBounds i (sa,na+nb,pw)).eraseIdxIfInBounds (i+1))=(pd.toList.take i).map (fun r=>(r.1,r.2.1)) ++ (sa,na+nb) :: (pd.toList.drop (i+2)).map (fun r=>(r.1,r.2.1)):=by
  unfold sk; rw [d2]
  simp
 have ch:=rn.ch
 rw [k1] at ch
 obtain ⟨m,c1,c2⟩:=ch.split
 obtain ⟨f1,f2,f3,f4,f5⟩:=c2
 have f1:sa=m:=f1
 have f3:sb=m+na:=f3
 have up:=rn.up
 rw [k1] at up
 have lo2:=f5.len
 refine ap5 c o b e1 e2 (by omega) f2 f4 (by omega) (by have:=up (sa,na) (by simp); rw [f3,<- f1]; exact this) (up (sb,nb) (by simp)) fun st' b' u' fr=>h _ st' b' ?_ ⟨?_,?_⟩ fun t ht=>fr t (by omega)
 ·rw [<- oR,<- oR,k1,k2]; simp; omega
 ·rw [k2]
  refine c1.join ⟨f1,by omega,?_⟩
  rw [<- Nat.add_assoc]; exact f5
 ·intro r hr
  rw [k2] at hr
  rcases aM6.mp hr with z | z
  ·intro p q h1 h2 h3
   have:=(c1.mem z).2.1
   rw [fr p (by omega),fr q (by omega)]
   exact up r (aN5 _ z) p q h1 h2 h3
  ·rcases aM4.mp z with z | z
   ·subst z
    show Up rk (arrOf st') sa (sa+(na+nb))
    rw [show sa+(na+nb)=sb+nb by omega]; exact u'
   ·intro p q h1 h2 h3
    have:=(f5.mem z).1
    rw [fr p (by omega),fr q (by omega)]
    exact up r (aM1 _ (aL5 _ (aL5 _ z))) p q h1 h2 h3
noncomputable abbrev RS:=Option Unit × Nat
noncomputable def A3 (sz pw:Nat):StateT SortSt Sem (Option Unit × Unit):=forIn [0:sz] ((none,()):Option Unit × Unit) fun _ _=>do
 let z <- get
 match (if (pendingOf z).size > 1 then (pendingOf z)[(pendingOf z).size - 2]? else none) with
 | some (_,_,o)=>if o<=pw then pure (.done (none,())) else do
   let q <- mergeAt' ((pendingOf z).size - 2)
   if (!q)=true then pure (.done (some (),())) else pure (.yield (none,()))
 | _=>pure (.done (none,()))
noncomputable def jn (sz lo n:Nat):StateT SortSt Sem (ForInStep RS):=do
 let z <- get
 match (pendingOf z).back? with
 | some (s1,n1,_)=>do
  let r <- A3 sz (power' sz (2 * s1+n1) (2 * s1+n1+n1+n) sz)
  match r.1 with
  | some u=>pure (.done (some u,lo))
  | none=>do
   modify fun s=>setPending s ((pendingOf s).modify ((pendingOf s).size - 1) fun x=>(x.1,x.2.1,power' sz (2 * s1+n1) (2 * s1+n1+n1+n) sz))
   modify fun s=>setPending s ((pendingOf s).push (lo,n,0))
   pure (.yield (none,lo+n))
 | _=>do
  modify fun s=>setPending s ((pendingOf s).push (lo,n,0))
  pure (.yield (none,lo+n))
noncomputable def A4 (sz mr lo:Nat):StateT SortSt Sem (ForInStep RS):=if lo >= sz then pure (.done (none,lo)) else do
 match <- countRun' lo (sz - lo) with
 | some n=>
  if n < mr then
   liftM (rule "list.sort.binary-insertion")
   let q <- binarySort' lo (min (sz - lo) mr) n
   if (!q)=true then pure (.done (some (),lo)) else jn sz lo (min (sz - lo) mr)
  else jn sz lo n
 | _=>pure (.done (some (),lo))
noncomputable def A5 (sz:Nat):StateT SortSt Sem (Option Unit × Unit):=forIn [0:sz] ((none,()):Option Unit × Unit) fun _ _=>do
 let z <- get
 if (pendingOf z).size<=1 then pure (.done (none,())) else do
  let q <- mergeAt' (if ((if (pendingOf z).size - 2 > 0 then (pendingOf z)[(pendingOf z).size - 2 - 1]?.map (·.2.1) else none).any (· < ((pendingOf z)[(pendingOf z).size - 2+1]?.elim 0 (·.2.1))))=true then (pendingOf z).size - 2 - 1 else (pendingOf z).size - 2)
  if (!q)=true then pure (.done (some (),())) else pure (.yield (none,()))
theorem ap6:sortRuns'=(do
 let z <- get
 let r <- (forIn [0:(arrOf z).size] ((none,0):RS) fun _ r=>A4 (arrOf z).size (minRun' (arrOf z).size (arrOf z).size 0) r.2)
 match r.1 with
 | some u=>pure u
 | none=>do
  let q <- A5 (arrOf z).size
  match q.1 with
  | some u=>pure u
  | none=>pure ()):=by kernel_rfl
theorem A6 {lo nn:Nat} (n1:0 < nn) {pd:Array (Nat × Nat × Nat)}{a:Array Keyed} (r:Rn rk a (sk pd) lo) (u:Up rk a lo (lo+nn)):Rn rk a (sk (pd.push (lo,nn,0))) (lo+nn):=by
 have e:sk (pd.push (lo,nn,0))=sk pd ++ [(lo,nn)]:=by simp [sk]
 refine⟨by rw [e]; exact r.ch.join ⟨rfl,n1,rfl⟩,fun q hq=>?_⟩
 rw [e] at hq
 rcases aM6.mp hq with z | z
 ·exact r.up q z
 ·rw [aK7] at z
  subst z
  exact u
theorem A7 (c:bN prog w A E s κ Ok rk) (o:b8 Ok a0) (b:SB κ a0 pd st) {lo n:Nat}{Q:ForInStep RS->SortSt->Prop} (n1:1<=n) (n2:lo+n<=a0.size) (rn:Rn rk (arrOf st) (sk pd) lo) (u:Up rk (arrOf st) lo (lo+n))
  (h:∀ pd' st',SB κ a0 pd' st'->Rn rk (arrOf st') (sk pd') (lo+n)->Q (.yield (none,lo+n)) st'):wpS (model prog w) A E s (jn a0.size lo n) Q st:=by
 unfold jn
 refine aK9 (wpS_get ?_)
 rw [b.pd]
 cases hb:pd.back? with
 | none=>exact aK9 (wpS_modify (aL7 (h (pd.push (lo,n,0)) _ ⟨b.pm,b.kd,b.ok,by show (pendingOf st).push _=_; rw [b.pd]⟩ (A6 n1 rn u))))
 | some q=>
  obtain ⟨s1,m1,q3⟩:=q
  dsimp only
  generalize power' a0.size (2 * s1+m1) (2 * s1+m1+m1+n) a0.size=pw
  unfold A3
  refine aK9 (aZ0 (aR8
   (I:=fun _ r st'=>r=(none,())/\∃ pd,SB κ a0 pd st'/\Rn rk (arrOf st') (sk pd) lo/\Up rk (arrOf st') lo (lo+n))
   (Q:=fun r st'=>r=(none,())/\∃ pd,SB κ a0 pd st'/\Rn rk (arrOf st') (sk pd) lo/\Up rk (arrOf st') lo (lo+n)) ?_ (fun _ _ z=>z) ⟨rfl,pd,b,rn,u⟩) ?_)
  ·rintro t r st4 _ ht ⟨rfl,pd4,b4,r4,u4⟩
   refine aK9 (wpS_get ?_)
   rw [b4.pd]
   cases ho:(if pd4.size > 1 then pd4[pd4.size - 2]? else none) with
   | none=>exact aL7 ⟨rfl,pd4,b4,r4,u4⟩
   | some z=>
    obtain ⟨z1,z2,z3⟩:=z
    have h1:pd4.size > 1:=by
     by_cases y:pd4.size > 1
     ·exact y
     ·rw [if_neg y] at ho; cases ho
    dsimp only
    by_cases hp:z3<=pw
    ·rw [if_pos hp]
     exact aL7 ⟨rfl,pd4,b4,r4,u4⟩
    ·rw [if_neg hp]
     refine aK9 (A2 c o b4 (by omega) (by omega) r4 fun pd5 st5 b5 _ r5 f5=>?_)
     exact aL7 ⟨rfl,pd5,b5,r5,fun i j hi hij hj=>by rw [f5 i hi,f5 j (by omega)]; exact u4 i j hi hij hj⟩
  ·rintro r st4 ⟨rfl,pd4,b4,r4,u4⟩
   refine aK9 (wpS_modify (aK9 (wpS_modify (aL7 ?_))))
   have e:sk (pd4.modify (pd4.size - 1) fun x=>(x.1,x.2.1,pw))=sk pd4:=by
    unfold sk
    rw [Array.toList_modify]
    apply List.ext_getElem?
    intro t
    rw [aL9,aL9,List.getElem?_modify]
    cases pd4.toList[t]? with
    | none=>simp
    | some v=>by_cases y:pd4.size - 1=t <;> simp [y]
   refine h ((pd4.modify (pd4.size - 1) fun x=>(x.1,x.2.1,pw)).push (lo,n,0)) _ ⟨b4.pm,b4.kd,b4.ok,?_⟩ (A6 n1 (by rw [e]; exact r4) u4)
   show ((pendingOf st4).modify ((pendingOf st4).size - 1) fun x=>(x.1,x.2.1,pw)).push _=_
   rw [b4.pd]
theorem ap7 (c:bN prog w A E s κ Ok rk) (o:b8 Ok a0) (b:SB κ a0 #[] st) {Q:Unit->SortSt->Prop} (h2:1<=a0.size)
  (h:∀ st',(arrOf st').Perm a0->failedOf st'=none->Up rk (arrOf st') 0 a0.size->Q () st'):wpS (model prog w) A E s sortRuns' Q st:=by
 rw [ap6]
 refine aK9 (wpS_get ?_)
 rw [b.sz]
 generalize minRun' a0.size a0.size 0=mr
 refine aK9 (aZ0 (aR8
  (I:=fun x r st'=>∃ lo pd,r=(none,lo)/\x<=lo/\lo<=a0.size/\SB κ a0 pd st'/\Rn rk (arrOf st') (sk pd) lo)
  (Q:=fun r st'=>∃ pd,r=(none,a0.size)/\SB κ a0 pd st'/\Rn rk (arrOf st') (sk pd) a0.size) ?_ ?_ ⟨0,#[],rfl,aK4 _,aO1 _,b,⟨rfl,fun r hr=>absurd hr (by simp [sk])⟩⟩) ?_)
 ·rintro x r st1 _ hx ⟨lo,pd,rfl,xl,lz,b1,rn⟩
  unfold A4
  dsimp only
  by_cases hd:lo >= a0.size
  ·rw [if_pos hd]
   have e:lo=a0.size:=by omega
   subst e
   exact aL7 ⟨pd,rfl,b1,rn⟩
  ·rw [if_neg hd]
   refine aK9 (ao0 c o b1 (by omega) (by omega) fun n st2 b2 n1 n2 u2 l2=>?_)
   have rn2:=rn.same l2
   dsimp only
   by_cases hmr:n < mr
   ·rw [if_pos hmr]
    refine aK9 (wpS_lift (aX6 ⟨rfl,?_⟩))
    refine aK9 (ao1 c o b2 (by omega) (by omega) u2 fun st3 b3 u3 l3=>?_)
    rw [if_neg (by decide)]
    exact A7 c o b3 (by omega) (by omega) (rn2.same l3) u3 fun pd' st' b' r'=>⟨_,pd',rfl,by omega,by omega,b',r'⟩
   ·rw [if_neg hmr]
    exact A7 c o b2 n1 (by omega) rn2 u2 fun pd' st' b' r'=>⟨lo+n,pd',rfl,by omega,by omega,b',r'⟩
 ·rintro r st1 ⟨lo,pd,rfl,xl,lz,b1,rn⟩
  have e:lo=a0.size:=by omega
  subst e
  exact⟨pd,rfl,b1,rn⟩
 ·rintro r st1 ⟨pd,rfl,b1,rn⟩
  dsimp only
  unfold A5
  refine aK9 (aZ0 (aR8
   (I:=fun t r st'=>r=(none,())/\∃ pd,SB κ a0 pd st'/\Rn rk (arrOf st') (sk pd) a0.size/\(pd.size+t<=a0.size ∨ pd.size<=1))
   (Q:=fun r st'=>r=(none,())/\∃ pd,SB κ a0 pd st'/\Rn rk (arrOf st') (sk pd) a0.size/\pd.size<=1) ?_ ?_ ⟨rfl,pd,b1,rn,.inl (by have:=rn.ch.len; rw [oR] at this; omega)⟩) ?_)
  ·rintro t r st2 _ ht ⟨rfl,pd,b2,rn2,pr⟩
   refine aK9 (wpS_get ?_)
   rw [b2.pd]
   by_cases h1:pd.size<=1
   ·rw [if_pos h1]
    exact aL7 ⟨rfl,pd,b2,rn2,h1⟩
   ·rw [if_neg h1]
    refine aK9 (A2 c o b2 ?_ (aK4 _) rn2 fun pd' st3 b3 sz3 rn3 _=>?_)
    ·split <;> split <;> omega
    ·exact aL7 ⟨rfl,pd',b3,rn3,by omega⟩
  ·rintro r st2 ⟨rfl,pd,b2,rn2,pr⟩
   exact⟨rfl,pd,b2,rn2,by omega⟩
  ·rintro r st2 ⟨rfl,pd,b2,rn2,pr⟩
   refine aL7 (h st2 b2.pm b2.ok ?_)
   have ch:=rn2.ch
   have up:=rn2.up
   rw [<- oR] at pr
   cases e:sk pd with
   | nil=>rw [e] at ch; exact absurd (show 0=a0.size from ch) (by omega)
   | cons r l=>
    rw [e] at ch up pr
    have el:l = []:=List.eq_nil_of_length_eq_zero (by have:=pr; rw [aP6] at this; omega)
    subst el
    obtain ⟨p,n⟩:=r
    obtain ⟨q1,q2,q3⟩:=ch
    have q1:p=0:=q1
    have q3:0+n=a0.size:=q3
    subst q1
    have:=up (0,n) (by simp)
    rw [<- q3]; exact this
end SO
namespace L2
open PySem PySem.Spec PyProof.Rows SO
noncomputable abbrev dS (h:Heap) (a:Addr) (vs:List Value):Heap:=((h.update a (Obj.mapSeq fun _=>#[])).push (seqObj "tuple" vs.toArray 0)).push (seqObj "list" #[] 0)
noncomputable abbrev eF (h:Heap) (vs:List Value):Heap:=((h.push (seqObj "list" #[] 0)).update h.objs.size (Obj.mapSeq (· ++ vs.toArray))).push (seqObj "list" vs.toArray 0)
theorem ap8 {h:Heap}{vs:List Value}{b:Addr}{o:Obj} (e:h.get? b=some o):(eF h vs).get? b=some o:=by
 have l:=aM5 e
 refine aK5 _ ?_
 rw [Heap.get?_update_ne _ _ _ _ (aN8 l)]
 exact aK5 _ e
theorem ap9 {h:Heap}{vs:List Value}{a b:Addr}{o:Obj} (hb:b ≠ a) (e:h.get? b=some o):(dS h a vs).get? b=some o:=by
 refine aK5 _ (aK5 _ ?_)
 rw [Heap.get?_update_ne _ _ _ _ hb]; exact e
theorem aq0 {prog:Program}{w:World}{A:Around}{E:Value->Shared->Prop}{s:Shared}{a:Addr}{vs:List Value}{n:Nat}{P:PySem.Fin->Shared->Prop}{κ:SortKind}{Ok:Keyed->Prop}{rk:Keyed->Int}
  (e:s.heap.get? a=some (seqObj "list" vs.toArray n)) (h2:2<=vs.length) (big:vs.length<=sizeLine)
  (hk:∀ Q:SortKind->Shared->Prop,Q κ { s with heap:=dS s.heap a vs }->wpAny (model prog w) A (keyKind' vs.toArray) Q E { s with heap:=dS s.heap a vs })
  (c:bN prog w A E { s with heap:=dS s.heap a vs } κ Ok rk) (o:∀ v ∈ vs,Ok (v,v))
  (q:∀ out:List Value,out.Perm vs->out.Pairwise (fun u v=>rk (u,u)<=rk (v,v))->P (.done (.ret .none)) { s with heap:=sortedHeap s.heap a vs out.toArray }):wpAny (model prog w) A (Builtin.«list.sort» ⟨[.ref a],[]⟩) P E s:=by
 have la:=aM5 e
 have cc : ¬ vs.toArray.size < 2:=by simpa using h2
 obtain ⟨k,ek⟩:∃ k,(s.heap.update a (Obj.mapSeq fun _=>#[])).get? a=some (seqObj "list" #[] k):=⟨_,get?_update_seq e fun _=>#[]⟩
 have there:(dS s.heap a vs).get? a=some (seqObj "list" #[] k):=aK5 _ (aK5 _ ek)
 rw [list_sort_plain]
 apply aK1
 apply listItems_at e rfl
 apply aK1
 refine listUpdate_at e rfl ?_ (by simpa using big) (aO1 _)
 apply aK1
 apply seqEpoch_at ek rfl
 apply aK1
 refine wpAny_newTuple ?_ big
 apply aK1
 refine wpAny_newList ?_ (aO1 _)
 apply aR5
 simp only [cc,aR7]
 apply aK1
 refine hk _ ?_
 have zl:(vs.toArray.zip vs.toArray).toList=vs.zip vs:=by simp
 apply aK1
 refine aP8 (ap7 (a0:=vs.toArray.zip vs.toArray) (Q:=fun _ st'=>(arrOf st').Perm (vs.toArray.zip vs.toArray)/\failedOf st'=none/\Up rk (arrOf st') 0 (vs.toArray.zip vs.toArray).size) c (fun x hx=>?_) ⟨Array.Perm.refl _,rfl,rfl,rfl⟩ (by simp; omega) fun st' a1 a2 a3=>⟨a1,a2,a3⟩) ?_ fun _ _ z=>z
 ·have hx':x ∈ vs.zip vs:=by rw [<- zl]; exact Array.mem_toList_iff.mpr hx
  obtain ⟨y1,y2⟩:=mem_zip_self hx'
  have:=o x.1 y2
  have ex:x=(x.1,x.1):=Prod.ext rfl y1.symm
  rw [ex]; exact this
 ·rintro ⟨⟨⟩,st'⟩ s' ⟨rfl,pm,ok,up⟩
  have lp:(arrOf st').toList.Perm (vs.zip vs):=by rw [<- zl]; exact Array.perm_iff_toList_perm.mp pm
  have out:(arrOf st').map (·.2)=((arrOf st').toList.map (·.2)).toArray:=by apply Array.toList_inj.mp; rw [Array.toList_map]
  have op:((arrOf st').toList.map (·.2)).Perm vs:=by
   have:=lp.map (·.2)
   rw [nB] at this; exact this
  have sz:(arrOf st').size=vs.length:=by rw [pm.size_eq]; simp
  dsimp only
  apply aK1
  apply seqEpoch_at there rfl
  apply aK1
  refine listUpdate_at there rfl ?_ (aO1 _) (by rw [Array.size_map,sz]; exact Nat.le_succ_of_le big)
  rw [ok]
  simp only [bne_self_eq_false,aN1,aR7]
  refine aK6 ?_
  have hq:=q _ op ?_
  ·rw [<- out] at hq; exact hq
  ·rw [aU9,aO2]
   intro i j hi hj hij
   have hi':i < (arrOf st').size:=by simpa using hi
   have hj':j < (arrOf st').size:=by simpa using hj
   have h1:=up i j (aO1 _) (aU5 hij) (by simp; omega)
   rw [bI hi',bI hj'] at h1
   have dg:∀ x ∈ (arrOf st').toList,(x.2,x.2)=x:=fun x hx=>Prod.ext (mem_zip_self (lp.mem_iff.mp hx)).1.symm rfl
   rw [dg _ (aT7 hi),dg _ (aT7 hj)]
   simpa using h1
theorem aq1 {prog:Program}{w:World}{A:Around}{E:Value->Shared->Prop}{s:Shared}{l:Addr}{vs:List Value}{Q:Value->Shared->Prop}{κ:SortKind}{Ok:Keyed->Prop}{rk:Keyed->Int}
  (hl:s.heap.IsList l vs.toArray) (h2:2<=vs.length) (big:vs.length<=sizeLine)
  (hk:∀ (A:Around) (E:Value->Shared->Prop) (Q:SortKind->Shared->Prop),Q κ { s with heap:=dS (eF s.heap vs) (s.heap.objs.size+1) vs }->wpAny (model prog w) A (keyKind' vs.toArray) Q E { s with heap:=dS (eF s.heap vs) (s.heap.objs.size+1) vs })
  (c:∀ (A:Around) (E:Value->Shared->Prop),bN prog w A E { s with heap:=dS (eF s.heap vs) (s.heap.objs.size+1) vs } κ Ok rk) (o:∀ v ∈ vs,Ok (v,v))
  (q:∀ out:List Value,out.Perm vs->out.Pairwise (fun u v=>rk (u,u)<=rk (v,v))->Q (.ref (s.heap.objs.size+1)) { s with heap:=sortedAll s.heap vs out.toArray }):wpAny (model prog w) A (call (.builtin "sorted") [.ref l]) Q E s:=by
 apply Calls.call_function_entry kind_sorted plain_sorted entry_sorted (args_sorted1 _)
 simp only [Builtin.«sorted»]
 apply aK1 (m:=checkCount "sorted" 1 1 _)
 apply aK6
 apply aK1
 refine collect_list hl ?_ big
 apply aK1
 refine wpAny_newList ?_ big
 have one:((s.heap.push (seqObj "list" #[] 0)).update s.heap.objs.size (Obj.mapSeq (· ++ vs.toArray))).objs.size=s.heap.objs.size+1:=(Heap.size_update _ _ _).trans (size_push' _ _)
 have at1:(eF s.heap vs).get? (s.heap.objs.size+1)=some (seqObj "list" vs.toArray 0):=one ▸ aM3 _ rfl
 change wpAny _ _ _ _ _ { s with heap:=eF s.heap vs }
 rw [one]
 apply aK1
 apply aR5
 refine aT0 slot_list_sort ⟨_,at1,rfl⟩ entry_list_sort ?_ (args_list_sort _)
 exact aq0 (s:={ s with heap:=eF s.heap vs }) at1 h2 big (hk _ _) (c _ _) o fun out a1 a2=>⟨_,rfl,aK6 ⟨_,rfl,q out a1 a2⟩⟩
noncomputable def oS (h:Heap) (B:Int) (x:Keyed):Int:=match x.1 with
 | .ref b=>match h.get? b with
  | some ob=>match ob.data with
   | .seq us _=>numOf (us.getD 0 .none) * B+numOf (us.getD 1 .none)
   | _=>0
  | none=>0
 | _=>0
structure gT (h:Heap) (M:Int) (v:Value) (p q:Int):Prop where
 at_:∃ b ob us n,v = .ref b/\h.get? b=some ob/\ob.cls = .type "tuple"/\ob.data = .seq (List.toArray us) n/\IntsAre us [p,q]
 lo : -M<=q
 hi:q<=M
theorem gT.rk {h:Heap}{M B:Int}{x:Keyed}{p q:Int} (z:gT h M x.1 p q):oS h B x=p * B+q:=by
 obtain ⟨b,ob,us,n,e1,e2,_,e4,e5⟩:=z.at_
 cases e5 with
 | cons _ t e6=>cases e6 with
  | cons _ u e7=>cases e7; unfold oS; rw [e1]; dsimp only; rw [e2]; dsimp only; rw [e4]; rfl
theorem A8 {p q p' q' M:Int} (h1 : -M<=q) (h2:q<=M) (h3 : -M<=q') (h4:q'<=M):HT.gB [p,q] [p',q']=decide (p * (2 * M+1)+q < p' * (2 * M+1)+q'):=by
 rw [HT.lH]
 have mm:∀ {a b:Int},a < b->a * (2 * M+1)+(2 * M+1)<=b * (2 * M+1):=fun {a b} z=>by
  have:=Int.mul_le_mul_of_nonneg_right (show a+1<=b by omega) (show 0<=2 * M+1 by omega)
  rw [Int.add_mul,Int.one_mul] at this
  exact this
 by_cases e:p=p'
 ·subst e
  rw [if_pos rfl,HT.lH]
  by_cases e2:q=q'
  ·subst e2
   rw [if_pos rfl,HT.X4,aL0 (by omega)]
  ·rw [if_neg e2]
   by_cases l:q < q'
   ·rw [aL2 l,aL2 (by omega)]
   ·rw [aL0 l,aL0 (by omega)]
 ·rw [if_neg e]
  by_cases l:p < p'
  ·have:=mm l
   rw [aL2 l,aL2 (by omega)]
  ·have:=mm (show p' < p by omega)
   rw [aL0 l,aL0 (by omega)]
theorem aq2 {prog:Program}{w:World}{A:Around}{E:Value->Shared->Prop}{s:Shared}{M:Int}:bN prog w A E s (tuples' true) (fun x=>∃ p q,gT s.heap M x.1 p q) (oS s.heap (2 * M+1)):=by
 rintro x y ⟨p,q,z⟩ ⟨p',q',z'⟩ st Q hk hq
 rw [z.rk,z'.rk] at hq
 rw [<- A8 z.lo z.hi z'.lo z'.hi] at hq
 obtain ⟨b,ob,us,n,e1,e2,e3,e4,e5⟩:=z.at_
 obtain ⟨b',ob',us',n',e1',e2',e3',e4',e5'⟩:=z'.at_
 rw [lt'_eq]
 refine aK9 (wpS_get ?_)
 rw [hk,e1,e1']
 refine aK9 (wpS_lift (wpAny_attempt (PySem.W.kat_lt e2 e4 e2' e4' ?_)))
 have:=xQ (prog:=prog) (w:=w) (A:=A) (s:=s) (Q:=fun a s'=>s'=s/\wpS (model prog w) A E s (pure (some a)) Q st) 0 e5 e5' ⟨rfl,aL7 hq⟩
 simpa using this
theorem aq3 {vs vs':List Value} (h:vs.Perm vs'):∀ {xs:List V},aB xs vs->∃ xs',xs'.Perm xs/\aB xs' vs':=by
 induction h with
 | nil=>intro xs r; exact⟨xs,List.Perm.refl _,r⟩
 | cons v _ ih=>
  intro xs r
  cases r with
  | cons r t=>
   obtain ⟨xs',p,r'⟩:=ih t
   exact⟨_ :: xs',p.cons _,.cons r r'⟩
 | swap u v l=>
  intro xs r
  cases r with
  | cons r t=>cases t with
   | cons r2 t2=>exact⟨_,List.Perm.swap _ _ _,.cons r2 (.cons r t2)⟩
 | trans _ _ ih1 ih2=>
  intro xs r
  obtain ⟨x1,p1,r1⟩:=ih1 r
  obtain ⟨x2,p2,r2⟩:=ih2 r1
  exact⟨x2,p2.trans p1,r2⟩
theorem A9 {α:Type} (f:α->Int):∀ l:List α,∃ M:Int,∀ y ∈ l,-M<=f y/\f y<=M
 | []=>⟨0,fun _ h=>nomatch h⟩
 | x :: l=>by
  obtain ⟨M,h⟩:=A9 f l
  refine⟨max M (max (f x) (- f x)),fun y hy=>?_⟩
  rcases aM4.mp hy with e | e
  ·subst e; omega
  ·have:=h y e; omega
noncomputable def B0 (K:PySem.W.Frag):List V->Hp->VK->Prop:=fun xs H Q=>∃ (a:Addr) (ys:List V) (key:V->List Int),xs = [.ref a]/\aR K H a ys/\ys.length<=4096/\(∀ y ∈ ys,∃ b,y = .ref b/\aO K H b ((key y).map V.int)/\(key y).length=2)/\
 ∀ l (zs:List V),H l=none->zs.Perm ys->zs.Pairwise (fun u v=>HT.gB (key v) (key u)=false)->Q (.ref l) (upd H l (.lst zs))
theorem aq4 {X:Cx}:cM X (.builtin "sorted") (B0 X.K):=by
 intro pins s σ H xs us Q I r h
 obtain ⟨a,ys,key,rfl,hs,hz4,hk,q⟩:=h
 obtain ⟨u,rfl,ru⟩:=hJ r
 cases ru
 obtain ⟨its,rv,p,hz⟩:=I.list hs
 have hl:=rv.length
 have hn:s.heap.objs.size<=s.heap.objs.size+1:=Nat.le_succ _
 by_cases h2:its.length < 2
 ·refine ae5 p.isList h2 ?_
  obtain ⟨e,he⟩:=sortedAll_at s.heap its its.toArray
  refine⟨.ref (s.heap.objs.size+1),upd H (s.heap.objs.size+1) (.lst ys),I.laid (t':=s.toks) (fun _ _=>sortedAll_old) hn ⟨hz,its,e,rv,he⟩,rfl,q _ ys (I.hok.fresh hn) (List.Perm.refl _) ?_⟩
  match ys,hl with
  | [],_=>exact List.Pairwise.nil
  | [_],_=>exact aR3 _ _
  | _ :: _ :: _,hl=>simp at hl; omega
 ·obtain ⟨M,hM⟩:=A9 (fun y=>(key y).getD 1 0) ys
  have pv:∀ {y:V}{v:Value},aF y v->y ∈ ys->∃ pp qq,key y = [pp,qq]/\gT (dS (eF s.heap its) (s.heap.objs.size+1) its) M v pp qq:=fun {y v} ry hy=>by
   obtain ⟨b,rfl,sq,l2⟩:=hk y hy
   cases ry
   obtain ⟨us,ru,⟨ob,e1,c1,n1,d1⟩,_⟩:=I.tuple sq
   have ia:=wG ru
   have mm:=hM _ hy
   match hkk:key (V.ref b),l2 with
   | [pp,qq],_=>
    rw [hkk] at ia mm
    exact⟨pp,qq,rfl,⟨b,ob,us,n1,rfl,ap9 (aN8 (Nat.lt_succ_of_lt (aM5 e1))) (ap8 e1),c1,d1,ia⟩,mm.1,mm.2⟩
  have pvs:∀ {xs:List V}{vs:List Value},aB xs vs->(∀ y ∈ xs,y ∈ ys)->∀ v ∈ vs,∃ pp qq,gT (dS (eF s.heap its) (s.heap.objs.size+1) its) M v pp qq:=by
   intro xs vs r
   induction r with
   | nil=>intro _ v hv; cases hv
   | cons rx rt ih=>
    intro hh v hv
    rcases aM4.mp hv with z | z
    ·subst z
     obtain ⟨pp,qq,_,z⟩:=pv rx (hh _ aM2)
     exact⟨pp,qq,z⟩
    ·exact ih (fun y hy=>hh y (aL5 _ hy)) v z
  have firsts:∀ {vs:List Value},(∀ v ∈ vs,∃ pp qq,gT (dS (eF s.heap its) (s.heap.objs.size+1) its) M v pp qq)->∃ fs:List Value,PySem.W.KatTups (dS (eF s.heap its) (s.heap.objs.size+1) its) vs fs/\fs.length=vs.length/\∀ v ∈ fs,∃ i t,v=Value.int i t:=by
   intro vs
   induction vs with
   | nil=>intro _; exact⟨[],PySem.W.KatTups.nil,rfl,fun _ z=>nomatch z⟩
   | cons v vs ih=>
    intro hh
    obtain ⟨fs,t1,t2,t3⟩:=ih fun y hy=>hh y (aL5 _ hy)
    obtain ⟨pp,qq,z⟩:=hh v aM2
    obtain ⟨b,ob,us,n,rfl,e2,e3,e4,e5⟩:=z.at_
    cases e5 with
    | cons _ t e6=>exact⟨Value.int pp t :: fs,PySem.W.KatTups.cons e2 e3 e4 (by simp) t1,by simp [t2],fun v hv=>(aM4.mp hv).elim (fun z=>⟨pp,t,z⟩) (t3 v)⟩
  have allp:=pvs rv fun _ h=>h
  obtain ⟨fs,t1,t2,t3⟩:=firsts allp
  refine aq1 (κ:=tuples' true) (Ok:=fun x=>∃ pp qq,gT (dS (eF s.heap its) (s.heap.objs.size+1) its) M x.1 pp qq) (rk:=oS (dS (eF s.heap its) (s.heap.objs.size+1) its) (2 * M+1)) p.isList (by omega) (by rw [<- hl]; exact hz)
   (fun A E Q hQ=>?_) (fun A E=>aq2 (s:={ s with heap:=dS (eF s.heap its) (s.heap.objs.size+1) its })) (fun v hv=>allp v hv) fun out pm so=>?_
  ·refine PySem.W.kat_kind (T:=.type "int") t1 (by omega) (fun v hv=>?_) (by decide) ?_
   ·obtain ⟨i,t,rfl⟩:=t3 v hv
    exact PySem.W.Looks.now
   ·have eT:(Value.type "int" != Value.type "tuple")=true:=by decide
    rw [eT]; exact hQ
  ·obtain ⟨zs,pz,rz⟩:=aq3 pm.symm rv
   obtain ⟨e,he⟩:=sortedAll_at s.heap its out.toArray
   refine⟨.ref (s.heap.objs.size+1),upd H (s.heap.objs.size+1) (.lst zs),I.laid (t':=s.toks) (fun _ _=>sortedAll_old) hn ⟨by rw [pz.length_eq]; exact hz,out,e,rz,he⟩,rfl,q _ zs (I.hok.fresh hn) pz ?_⟩
   have lz:=rz.length
   rw [aO2]
   intro i j hi hj hij
   have s1:=aO2.mp so i j (by omega) (by omega) hij
   have gi:=rM i hi rz
   have gj:=rM j hj rz
   simp only [aK8,aK2 hi,aK2 hj,aK2 (show i < out.length by omega),aK2 (show j < out.length by omega),Option.getD_some] at gi gj
   obtain ⟨pi,qi,ki,vi⟩:=pv gi (pz.mem_iff.mp (aT7 hi))
   obtain ⟨pj,qj,kj,vj⟩:=pv gj (pz.mem_iff.mp (aT7 hj))
   rw [gT.rk (x:=(out[i],out[i])) vi,gT.rk (x:=(out[j],out[j])) vj] at s1
   rw [ki,kj,A8 vj.lo vj.hi vi.lo vi.hi]
   exact aL0 (by omega)
end L2
namespace L2
open PySem PySem.Spec PyProof.Rows
theorem bA.at {P:Program}{w:World}{H:Hp}{h:Heap}{a:Addr}{o:HO} (x:bA P w H h a o):∃ ob,h.get? a=some ob:=by
 cases o with
 | lst xs=>obtain ⟨_,_,_,_,e⟩:=x; exact⟨_,e⟩
 | tup xs=>obtain ⟨_,_,_,⟨_,e,_⟩,_⟩:=x; exact⟨_,e⟩
 | dK kvs=>obtain ⟨_,_,_,_,_,_,_,e,_⟩:=x; exact⟨_,e⟩
 | dT kvs=>obtain ⟨_,_,_,_,_,_,_,e,_⟩:=x; exact⟨_,e⟩
 | set S n=>obtain ⟨_,_,_,_,e,_⟩:=x; exact⟨_,e⟩
 | ins C dx fs=>obtain ⟨_,_,_,e,_⟩:=x; exact⟨_,e⟩
 | own y=>exact x
 | xd fs=>obtain ⟨_,⟨_,_,_,e,_⟩,_⟩:=x; exact⟨_,e⟩
 | rng lo hi=>obtain ⟨_,_,_,e⟩:=x; exact⟨_,e⟩
 | frz ob u=>obtain ⟨e,_⟩:=x; exact⟨_,e⟩
 | tbl ps=>exact⟨_,x⟩
 | met f y=>exact⟨_,x⟩
 | ext φ=>exact x.2.1
structure jG (P:Program) (w:World) (outer:List Env) (H:Hp) (s:Shared) (H':Hp) (B:Heap) (a C:Addr) (s':Shared):Prop where
 os:s'.os=s.os
 bare:AllBare s'.gens
 un:Un (b9 outer) [] H H' s.heap s'.heap
 hok:bC P w H' s'.heap
 fly:∃ a0,Heap.FlyingW B outer a (.ref C) a0 s'.heap
 b0:∀ b o,s.heap.get? b=some o->b ∉ b9 outer->∃ o',B.get? b=some o'
 b1:∀ b o,s.heap.get? b=some o->H b=none->b ∉ b9 outer->B.get? b=some o
 b2:∀ b u o,H' b=some u->s'.heap.get? b=some o->B.get? b=some o
noncomputable def cW (P:Program) (w:World):eW:=fun outer H s E e s'=>∃ (H':Hp) (B:Heap) (a C:Addr),e = .ref a/\jG P w outer H s H' B a C s'/\E (.ref C) none H'
section
variable {P : Program} {w : World} {outer : List Env} {H H' : Hp} {s s' : Shared} {B h2 : Heap} {a C : Addr}
theorem jG.fresh (f:jG P w outer H s H' B a C s'):H' a=none:=by
 cases q:H' a with
 | none=>rfl
 | some u=>
  obtain ⟨ob,e⟩:=(f.hok a u q).at
  have z:=f.b2 a u ob q e
  obtain ⟨_,_,n,_⟩:=f.fly
  rw [n] at z; cases z
theorem jG.hok2 (f:jG P w outer H s H' B a C s') (k:B.StaysIn h2):bC P w H' h2:=fun b u e=>
 (f.hok b u e).stay (fun c v hc q=>by
  rcases hc with z | z
  ·subst z; exact k _ _ (f.b2 _ _ _ e q)
  ·exact k _ _ (f.b2 _ _ _ z q)) (fun _ q=>q) fun _ _ q=>q
end
section
variable {P : Program} {w : World} {K : PySem.W.Frag} {mg : Str → Option Value} {base : Heap} {N : List Str} {qual : Str} {scope : Scope} {f : Addr} {cd : Value} {A : Around} {outer : List Env} {s₀ : Shared} {H₀ : Hp} {E₀ E₁ : XK}
theorem oT {pins:List (Addr × Obj)}{σ:St}{H:Hp}{s:Shared} (I:a5 (cI (cW P w) P w K mg base N qual scope f cd A outer s₀ H₀ E₀) pins σ H s) {b:Addr}{o:Obj} (e:s₀.heap.get? b=some o) (n:b ∉ b9 outer) :
  b ∉ b9 (envOfC qual scope s₀.heap.objs.size f cd :: outer):=fun z=>by
 rcases aM4.mp (I.stkSub b z) with y | y
 ·have l:=aM5 e
  have y:b=s₀.heap.objs.size:=y
  exact absurd l (by rw [y]; exact aS1 _)
 ·exact n y
theorem aq5 (hE:∀ c d H',E₁ c d H'->E₀ c d H'):lG (cW P w) (cI (cW P w) P w K mg base N qual scope f cd A outer s₀ H₀ E₀) E₁:=by
 intro pins σ H s e s' I hx
 obtain ⟨H',B,a,C,e1,fl,q⟩:=hx
 subst e1
 have I':=I.call' fl.os fl.un fl.hok fl.bare (ch:=[]) (fun b z=>absurd z (by simp))
 obtain ⟨a0,fly⟩:=fl.fly
 refine wpAny_leaves_onW I.ok.frames rfl fly fun h' fly' up=>?_
 have slot:∀ b o,s₀.heap.get? b=some o->b ∈ b9 outer->∃ sl,h'.get? b=some { o with slots:=sl }:=fun b o e hb=>by
  obtain ⟨sl,e1⟩:=I'.base.slot b o e (I.ok.frf b hb) hb (fun z=>nomatch z)
  obtain ⟨_,o2,e2,nf⟩:=I.ok.funs.mem hb
  rw [show (cI (cW P w) P w K mg base N qual scope f cd A outer s₀ H₀ E₀).s₀=s₀ from rfl,e] at e2
  cases e2
  obtain ⟨sl',e3⟩:=up b _ e1 nf
  exact⟨sl',e3⟩
 have old:∀ b o,s₀.heap.get? b=some o->H₀ b=none->b ∉ b9 outer->B.get? b=some o:=fun b o e n hb=>
  fl.b1 b o (I.base.keep b o e n hb (fun z=>nomatch z)) (I.base.free b o e n (fun z=>nomatch z)) (oT I e hb)
 have old0:∀ b o,s₀.heap.get? b=some o->b ∉ b9 outer->∃ o',B.get? b=some o':=fun b o e hb=>by
  obtain ⟨o1,e1⟩:=I.base.there b o e (fun z=>nomatch z)
  exact fl.b0 b o1 e1 (oT I e hb)
 refine⟨H',B,a,C,rfl,⟨I'.os,I'.bare,⟨fun b o e n hb _=>fly'.1 _ _ (old b o e n hb),fun b o e n hb _=>slot b o e hb,fun b o e n hx=>I'.base.free b o e n hx,fun b o e _=>?_,I'.base.tups,I'.base.frzs,I'.base.tbls⟩,fl.hok2 fly'.1,⟨a0,fly'⟩,old0,old,fun b u o e h=>?_⟩,hE _ _ _ q⟩
 ·by_cases hb:b ∈ b9 outer
  ·obtain ⟨sl,e1⟩:=slot b o e hb
   exact⟨_,e1⟩
  ·obtain ⟨o',e1⟩:=old0 b o e hb
   exact⟨o',fly'.1 _ _ e1⟩
 ·obtain ⟨ob,e1⟩:=(fl.hok b u e).at
  have e2:=fl.b2 b u ob e e1
  have e3:=fly'.1 _ _ e2
  have h:h'.get? b=some o:=h
  rw [h] at e3; cases e3; exact e2
theorem aq6 {pins:List (Addr × Obj)}{σ:St}{H:Hp}{s:Shared}{h':Heap}{e C:Addr}{args:List Value} (I:a5 (cI (cW P w) P w K mg base N qual scope f cd A outer s₀ H₀ E₀) pins σ H s) (mx:Heap.MadeExcOf s.heap h' e (.ref C) args) (q:E₀ (.ref C) none H) :
  (cI (cW P w) P w K mg base N qual scope f cd A outer s₀ H₀ E₀).xe (.ref e) { s with heap:=h' }:=by
 have tr:∀ b u,H b=some u->b ∉ b9 (envOfC qual scope s₀.heap.objs.size f cd :: outer):=fun b u z n=>by
  rw [I.stkFree b n] at z; cases z
 have inB:∀ b o,s.heap.get? b=some o->b ∉ b9 (envOfC qual scope s₀.heap.objs.size f cd :: outer)->(PySem.W.hideAll s.heap (b9 (envOfC qual scope s₀.heap.objs.size f cd :: outer))).get? b=some o:=fun b o z n=>PySem.W.hideAll_get _ z n
 refine wpAny_leaves_madeW (base:=PySem.W.hideAll s.heap (b9 (envOfC qual scope s₀.heap.objs.size f cd :: outer))) I.ok.frames rfl (fun b o z=>PySem.W.of_hideAll _ z) (PySem.W.funFrames_hide I.stack fun env he b hb=>List.mem_filterMap.mpr ⟨env,he,hb⟩) mx fun h'' t fly _ _ up=>?_
 have slot:∀ b o,s₀.heap.get? b=some o->b ∈ b9 outer->∃ sl,h''.get? b=some { o with slots:=sl }:=fun b o e hb=>by
  obtain ⟨sl,e1⟩:=I.base.slot b o e (I.ok.frf b hb) hb (fun z=>nomatch z)
  obtain ⟨_,o2,e2,nf⟩:=I.ok.funs.mem hb
  rw [show (cI (cW P w) P w K mg base N qual scope f cd A outer s₀ H₀ E₀).s₀=s₀ from rfl,e] at e2
  cases e2
  obtain ⟨sl',e3⟩:=up b _ (mx.keeps _ _ e1) nf
  exact⟨sl',e3⟩
 have old:∀ b o,s₀.heap.get? b=some o->H₀ b=none->b ∉ b9 outer->(PySem.W.hideAll s.heap (b9 (envOfC qual scope s₀.heap.objs.size f cd :: outer))).get? b=some o:=fun b o e n hb=>
  inB b o (I.base.keep b o e n hb (fun z=>nomatch z)) (oT I e hb)
 have old0:∀ b o,s₀.heap.get? b=some o->b ∉ b9 outer->∃ o',(PySem.W.hideAll s.heap (b9 (envOfC qual scope s₀.heap.objs.size f cd :: outer))).get? b=some o':=fun b o e hb=>by
  obtain ⟨o1,e1⟩:=I.base.there b o e (fun z=>nomatch z)
  exact⟨o1,inB b o1 e1 (oT I e hb)⟩
 refine⟨H,_,e,C,rfl,⟨I.os,I.bare,⟨fun b o e n hb _=>fly.1 _ _ (old b o e n hb),fun b o e n hb _=>slot b o e hb,fun b o e n hx=>I.base.free b o e n hx,fun b o e _=>?_,I.base.tups,I.base.frzs,I.base.tbls⟩,fun b u z=>?_,⟨_,fly⟩,old0,old,fun b u o z h=>?_⟩,q⟩
 ·by_cases hb:b ∈ b9 outer
  ·obtain ⟨sl,e1⟩:=slot b o e hb
   exact⟨_,e1⟩
  ·obtain ⟨o',e1⟩:=old0 b o e hb
   exact⟨o',fly.1 _ _ e1⟩
 ·refine (I.hok b u z).stay (fun c v hc y=>?_) (fun _ y=>y) fun _ _ y=>y
  rcases hc with z' | z'
  ·subst z'; exact fly.1 _ _ (inB _ _ y (tr _ _ z))
  ·exact fly.1 _ _ (inB _ _ y (tr _ _ z'))
 ·obtain ⟨ob,e1⟩:=(I.hok b u z).at
  have e2:=inB b ob e1 (tr b u z)
  have e3:=fly.1 _ _ e2
  have h:h''.get? b=some o:=h
  rw [h] at e3; cases e3; exact e2
end
structure kM (X:Cx) (E:XK):Prop where
 pass:lG (cW X.prog X.w) X E
 made:∀ (pins:List (Addr × Obj)) (σ:St) (H:Hp) (s:Shared) (h':Heap) (e C:Addr) (args:List Value),a5 X pins σ H s->Heap.MadeExcOf s.heap h' e (.ref C) args->E (.ref C) none H->X.xe (.ref e) { s with heap:=h' }
 own:PassesOwn (model X.prog X.w) X.A X.env X.xe
theorem aq7 {P:Program}{w:World}{K:PySem.W.Frag}{mg:Str->Option Value}{base:Heap}{N:List Str}{qual:Str}{scope:Scope}{f:Addr}{cd:Value}{A:Around}{outer:List Env}{s₀:Shared}{H₀:Hp}{E₀ E₁:XK} (hE:∀ c d H',E₁ c d H'->E₀ c d H') :
  kM (cI (cW P w) P w K mg base N qual scope f cd A outer s₀ H₀ E₀) E₁:=
 ⟨aq5 hE,fun _ _ _ _ _ _ _ _ I mx q=>aq6 I mx (hE _ _ _ q),PassesOwn.leaving⟩
noncomputable def B1 (E:XK) (C:Addr) (t:TA):TS:=fun _ σ H=>t σ H fun vs H1=>vs.length<=sizeLine/\E (.ref C) none H1
theorem aq8 {X:Cx}{E:XK}{x:Str}{C:Addr}{bm:List Value}{B newId initId:String}{np cpos pos:Pos}{e:Expr}{es:List Expr}{t:TA} (hX:kM X E) (hc:X.calm=true) (O:OwnCls x C bm newId X.mg X.base) (FB:ExcBaseFacts B newId initId bm) (ha:PA X (e :: es) t) (hg:Gl X x)
  (hd:(x == ("__debug__" : Str))=false:=by decide) (he:starEach (e :: es) X.env=(false,eval e X.env) :: starEach es X.env:=by rfl) (hpl:(backTo cpos (starEach es X.env)).any (·.1)=false:=by rfl) :
  PS X (.Raise (some (.Call (.Name x np) (e :: es) [] cpos)) none pos) (B1 E C t):=by
 intro pins s σ H D I h
 obtain ⟨tl,Na,nm,qn,bs,hx,sn,sub,ab,col,dd,k0,k1,k2,k3,k5,mN,hC,hN,hni,T⟩:=O.obj
 refine wpAny_Raise_call_subT (nm:=nm) (q:=qn) (N:=Na) (bs:=bs) (bm:=tl) (hdct:=hx) (sn:=sn) (sub:=sub) (ab:=ab) (col:=col) (dd:=dd) (k0:=k0) (k1:=k1) (k2:=k2) (k3:=k3) (k5:=k5) FB (C:=C) (mN:=mN) (T.hasType FB.hasBase) (I.ok.hd hc) (by rw [he]; show (false || (backTo cpos (starEach es X.env)).any (·.1))=false; rw [hpl]; rfl) hni (l8 I hg O.bound ⟨rfl,?_⟩ hd)
 have h1:=ha cpos pins s σ H _ I h
 rw [he] at h1 ⊢
 refine Calls.evalArgs_plain (aP8 h1 (fun us s2 h2=>?_) fun _ _ y=>y)
 obtain ⟨vs,H2,I2,r,hl,q⟩:=h2
 have r:aB vs us:=r
 exact⟨rfl,by show us.length<=sizeLine; rw [<- r.length]; exact hl,I2.bk _ _ hC,hN.keeps I2.bk,T.keeps I2.bk,fun h' e' mx=>hX.made pins σ H2 s2 h' e' C _ I2 mx q⟩
theorem e9.okX {P:Program}{w:World}{K:PySem.W.Frag}{mg:Str->Option Value}{base:Heap}{x qual:Str}{st:Stmt}{f:Addr}{fd:FuncData}{N ps:List Str}{k:Nat}{sp:Sp} (F:e9 K x qual st f fd) (S:FnScope N ps (aS st)) (len:∀ vs H Q E,sp vs H Q E->vs.length=ps.length)
  (hbody:∀ (cdv:Value) (A:Around) (outer:List Env) (s:Shared) (H:Hp) (vs:List V) (Q:VK) (E:XK),bG k (A.deeper (envOfC qual (aS st) s.heap.objs.size f cdv))->sp vs H Q E->
   ∃ t,cP (cI (cW P w) P w K mg base N qual (aS st) f cdv A outer s H E) (dE st) t/\t { nx:=fun _ H'=>Q .non H',rt:=Q } (eY N vs) H):cH P w K mg base (cW P w) (k+1) f fd ps sp:=by
 obtain ⟨oc,od,kV,doc,pm,an,cdv,ct,osl,rfl,lk,hcd⟩:=F.ex
 exact wB lk hcd S len fun A outer s H vs Q E hr hsp=>hbody cdv A outer s H vs Q E hr hsp
section
variable {X : Cx} {pins : List (Addr × Obj)} {σ : St} {H H1 H' : Hp} {s s1 s' : Shared} {B h2 : Heap} {a C : Addr}
theorem B2 {oe:Obj} (I:a5 X pins σ H1 s1) (fl:jG X.prog X.w X.stack H1 s1 H' B a C s') (st:B.StaysIn h2) (up:s'.heap.UpToSlots h2) (he:h2.get? a=some oe) :
  a5 X pins σ (upd H' a (.frz oe (.own a))) { s' with heap:=h2 }:=by
 obtain ⟨a0,fly⟩:=fl.fly
 have na:B.get? a=none:=fly.2.1
 have nf:a ∉ b9 X.stack:=fun z=>by
  obtain ⟨_,o,e,d⟩:=fly.2.2.1.mem z
  obtain ⟨o2,vs,e2,_,d2,_⟩:=fly.first
  rw [e] at e2; cases e2
  exact d vs d2
 have nb:∀ b o,s1.heap.get? b=some o->b ≠ a:=fun b o e z=>by
  subst z
  obtain ⟨o',e'⟩:=fl.b0 _ o e nf
  rw [na] at e'; cases e'
 have nt:∀ b u,H' b=some u->b ≠ a:=fun b u e z=>by
  subst z; rw [fl.fresh] at e; cases e
 have off:∀ b,b ≠ X.env.locals->b ∉ X.fs->b ∉ b9 X.stack:=fun b n1 n2 z=>(aM4.mp (I.stkSub b z)).elim n1 n2
 have slot:∀ b o,s1.heap.get? b=some o->b ∈ b9 X.stack->∃ sl,h2.get? b=some { o with slots:=sl }:=fun b o e hb=>by
  obtain ⟨sl,e1⟩:=fl.un.any e (I.stkFree b hb) (fun z=>nomatch z)
  obtain ⟨_,o2,e2,d⟩:=I.stack.mem hb
  rw [e] at e2; cases e2
  obtain ⟨sl',e3⟩:=up b _ e1 d
  exact⟨sl',e3⟩
 have ns:∀ m,s1.heap.Ns X.env.locals m->h2.Ns X.env.locals m:=fun m hm=>by
  obtain ⟨o,es,ep,e,r⟩:=hm
  obtain ⟨sl,e1⟩:=fl.un.any e I.free (fun z=>nomatch z)
  exact up.ns ⟨_,es,ep,e1,r⟩
 have hok:bC X.prog X.w (upd H' a (.frz oe (.own a))) h2:=fun b u e=>by
  by_cases hb:b=a
  ·subst hb; rw [bK] at e; cases e; exact⟨he,_,he⟩
  ·rw [aU hb] at e
   exact (fl.hok2 st b u e).stay (fun _ _ _ q=>q) (fun c q=>by rw [aU (nt c _ q)]; exact q) fun c xs q=>by rw [aU (nt c _ q)]; exact q
 have bare:=fl.bare
 have un:=fl.un
 have b0:=fl.b0
 have b1:=fl.b1
 have os:=fl.os
 clear fl fly up
 obtain ⟨hh,g,d,t,os'⟩:=s'
 obtain rfl:os'=s1.os:=os
 show a5 X pins σ _ { s1 with heap:=h2,gens:=g,drawn:=d,toks:=t }
 refine I.step (h':=h2) (g':=g) (d':=d) (t':=t) (ch:=[]) (fun _ z=>nomatch z) (fun b o n1 n2 _ e n=>st _ _ (b1 b o e n (off b n1 n2))) (fun b o n1 hb _ e n=>?_) (fun b o _ e n=>by rw [aU (nb b o e)]; exact un.free b o e n (fun z=>nomatch z)) (fun b o _ e=>?_)
  (fun b xs q=>by rw [aU (nt b _ (un.tups b xs q))]; exact un.tups b xs q) (fun b o u q=>by rw [aU (nt b _ (un.frzs b o u q))]; exact un.frzs b o u q) (fun b ps q=>by
   obtain ⟨more,q'⟩:=un.tbls b ps q
   exact⟨more,by rw [aU (nt b _ q')]; exact q'⟩) ns hok bare
 ·by_cases hs:b ∈ b9 X.stack
  ·exact slot b o e hs
  ·exact⟨o.slots,st _ _ (b1 b o e n hs)⟩
 ·by_cases hb:b ∈ b9 X.stack
  ·obtain ⟨sl,e1⟩:=slot b o e hb
   exact⟨_,e1⟩
  ·obtain ⟨o',e1⟩:=b0 b o e hb
   exact⟨o',st _ _ e1⟩
noncomputable abbrev Cx.suite (X:Cx) (a:Addr):Cx:={ X with A:=X.A.mark (some (.ref a)),calm:=false,xe:=fun _ _=>False }
theorem Cx.Ok.suite {X:Cx} (ok:X.Ok) (a:Addr):(X.suite a).Ok:=
 ⟨ok.mod,ok.kind,ok.glob,ok.blt,ok.above,ok.inj,ok.has,ok.cab,fun z=>Bool.noConfusion z,ok.frames,ok.stk,ok.exf,ok.bs,ok.bsz,ok.noex,ok.exfs,ok.funs,ok.frf⟩
theorem a5.suite (I:a5 X pins σ H s) (a:Addr):a5 (X.suite a) pins σ H s:=⟨I.ok.suite a,I.os,I.bare,I.base,I.loc,I.cell,I.free,I.freeC,I.pin,I.hok,I.len⟩
theorem a5.unsuite (I:a5 (X.suite a) pins σ H s) (ok:X.Ok):a5 X pins σ H s:=⟨ok,I.os,I.bare,I.base,I.loc,I.cell,I.free,I.freeC,I.pin,I.hok,I.len⟩
theorem oU {M:Model}{A:Around}{E:Value->Shared->Prop}{i:Nat}{x:Str}{pos:Pos}{Q:Unit->Shared->Prop} (I:a5 X pins σ H s) (hN:X.N.Nodup) (hi:X.N[i]? = some x) (hk:X.env.scope.names.lookup x=some .local)
  (h:∀ s',a5 X pins (σ.set i none) H s'->Q () s'):wpAny M A (do bindName X.env x .none; unbindBehindTheSuite X.env x pos) Q E s:=by
 obtain ⟨m,hn,hl⟩:=id I.loc
 obtain ⟨oL,_,_,hoL,_⟩:=id hn
 have ab:∀ b o,X.s₀.heap.get? b=some o->b ≠ X.env.locals:=fun b o e=>aN8 (aL3 (aM5 e) I.ok.above)
 refine wpAny_nameGoes_keeps hk hn (by rw [I.ok.kind]; rfl) fun h' v hn' hs=>?_
 refine h _ ⟨I.ok,I.os,I.bare,⟨fun b o e n hb hx=>(hs.2 b (ab b o e)).trans (I.base.keep b o e n hb hx),fun b o e n hb hx=>?_,I.base.free,fun b o e hx=>?_,I.base.tups,I.base.frzs,I.base.tbls⟩,⟨_,hn',fun j y v' e1 e2 e3=>?_⟩,fun y c e=>?_,I.free,I.freeC,fun p hp=>?_,fun b u e=>?_,by simpa using I.len⟩
 ·obtain ⟨sl,e1⟩:=I.base.slot b o e n hb hx
  exact⟨sl,(hs.2 b (ab b o e)).trans e1⟩
 ·obtain ⟨o',e1⟩:=I.base.there b o e hx
  exact⟨o',(hs.2 b (ab b o e)).trans e1⟩
 ·by_cases hj:j=i
  ·subst hj
   have hjl:j < σ.length:=by rw [I.len]; exact (aL8.mp hi).1
   rw [aQ5 hjl] at e2
   cases e2
  ·rw [aN0 (Ne.symm hj)] at e2
   obtain ⟨u',r',q⟩:=hl j y v' e1 e2 e3
   refine⟨u',r',?_⟩
   rcases q with ⟨k,e⟩ | ⟨k,c,e,z⟩
   ·have ny:y ≠ x:=fun z=>hj (pS hN e1 (z ▸ hi))
    exact .inl ⟨k,by simp [ny,e]⟩
   ·exact .inr ⟨k,c,e,z.sameBut hs (I.cne y c e)⟩
 ·obtain ⟨w',z⟩:=I.cell y c e
  exact⟨w',z.sameBut hs (I.cne y c e)⟩
 ·obtain ⟨e,n,ne,nf,d⟩:=I.pin p hp
  exact⟨(hs.2 p.1 ne).trans e,n,ne,nf,d⟩
 ·refine (I.hok b u e).stay (fun c v hc q=>(hs.2 c fun z=>?_).trans q) (fun _ q=>q) fun _ _ q=>q
  subst z
  rcases hc with z | z
  ·subst z; rw [I.free] at e; cases e
  ·rw [I.free] at z; cases z
theorem aq9 {M:Model}{A:Around}{E:Value->Shared->Prop}{K:PySem.W.Frag}{e C D:Addr}{oe:Obj}{Q:Bool->Shared->Prop} (k:K.In s.heap) (he:s.heap.get? e=some oe) (hc:oe.cls = .ref C) (h1:(PySem.W.clsIn K D).isSome=true) (h2:PySem.W.typeIn K (.ref D)=some (.type "type"))
  (h3:PySem.W.subIn K (.ref D) (.type "BaseException")=some true) (h4:PySem.W.subIn K (.ref C) (.ref D)=some true) (hq:Q true s):wpAny M A (excMatches (.ref e) (.ref D)) Q E s:=by
 obtain ⟨h,g,d,t,os⟩:=s
 have k:K.In h:=k
 have he:h.get? e=some oe:=he
 have l1:PySem.W.Looks M h (isType (.ref D)) true:=by
  unfold PySem.W.clsIn at h1
  split at h1
  ·rename_i c' d' cd' sl' ho
   intro A' Q' E' s' kk q
   unfold isType loadHead
   exact aK1 (wpAny_loadPart (kk _ _ (k _ _ ho)) (aK6 q))
  ·cases h1
 have l2:PySem.W.Looks M h (typeOf (.ref D)) (.type "type"):=PySem.W.looks_typeIn k h2
 have l3:PySem.W.Looks M h (isSubtype (.ref D) (.type "BaseException")) true:=PySem.W.looks_subIn k h3
 have l4:PySem.W.Looks M h (isSubtype (.ref C) (.ref D)) true:=PySem.W.looks_subIn k h4
 have l5:PySem.W.Looks M h (typeOf (.ref e)) (.ref C):=hc ▸ (PySem.W.Looks.ld he).andThen .now
 have l6:PySem.W.Looks M h (isInstance (.ref D) (.type "tuple")) false:=l2.andThen (PySem.W.Looks.of_pure tc_notTuple)
 have l7:PySem.W.Looks M h (isExcClass (.ref D)) true:=by
  unfold isExcClass
  exact l1.andThen (by simpa using l3)
 have f:=tc_notTuple
 unfold excMatches
 repeat (first | exact hq | (with_reducible refine l2.at ?_) | (with_reducible refine l7.at ?_) | (with_reducible refine l1.at ?_) | (with_reducible refine l3.at ?_) | (with_reducible refine l5.at ?_) | (with_reducible refine l4.at ?_) | wp_step)
end
noncomputable def tH (D:c9) (i:Nat):c9:={ nx:=fun σ H=>D.nx (σ.set i none) H,rt:=D.rt,bk:=fun σ H=>D.bk (σ.set i none) H,ct:=fun σ H=>D.ct (σ.set i none) H }
section
variable {X : Cx} {pins : List (Addr × Obj)} {σ : St} {H H1 H' : Hp} {s s1 s' : Shared} {B : Heap} {a C Ch : Addr} {i : Nat} {x n : Str} {np pos hpos : Pos} {b₀ : Stmt} {suite : List Stmt} {ts : TS} {D : c9} {cG : List ExceptHandler}
structure tI (K:PySem.W.Frag) (Ch:Addr):Prop where
 c1:(PySem.W.clsIn K Ch).isSome=true
 c2:PySem.W.typeIn K (.ref Ch)=some (.type "type")
 c3:PySem.W.subIn K (.ref Ch) (.type "BaseException")=some true
theorem ar0 (I:a5 X pins σ H1 s1) (fl:jG X.prog X.w X.stack H1 s1 H' B a C s') (hstk:X.stack=X.env :: X.outer/\X.env.frame=some X.env.locals) (hg:Gl X x) (hm:X.mg x=some (.ref Ch)) (ct:tI X.K Ch) (sub:PySem.W.subIn X.K (.ref C) (.ref Ch)=some true)
  (hN:X.N.Nodup) (hi:X.N[i]? = some n) (hl:X.env.scope.names.lookup n=some .local) (hs:cP (X.suite a) (b₀ :: suite) ts) (q:∀ oe:Obj,oe.cls = .ref C->ts (tH D i) (σ.set i (some (.ref a))) (upd H' a (.frz oe (.own a)))) (hd:(x == ("__debug__" : Str))=false) :
  wpAny (model X.prog X.w) X.A (noteFrame (.ref a) X.env) (fun _ s₂=>wpAny (model X.prog X.w) X.A (setFlight (.ref a) none) (fun _ s₃=>wpAny (model X.prog X.w) X.A (handleBy (.ref a) X.env (.ExceptHandler (some (.Name x np)) (some n) (b₀ :: suite) hpos :: cG)) (SP X pins D) X.xe s₃) X.xe s₂) X.xe s':=by
 obtain ⟨a0,fly⟩:=fl.fly
 rw [hstk.1] at fly
 refine wpAny_looks_onW (outer:=X.outer) (L:=X.env.locals) (by rw [I.ok.frames,hstk.1]) hstk.2 fly fun h4 held up4=>wpAny_landsW held fun h5 fly5 up5=>?_
 obtain ⟨o5,v5,e5,c5,_⟩:=fly5.first
 have I5:=B2 I fl fly5.1 (up4.trans up5) e5
 refine wpAny_handleBy_cons (codeAny_handlers_test (l8 (I5.suite a) hg hm ?_ hd)) (by intro z; cases z)
 refine aq9 I5.kIn e5 c5 ct.c1 ct.c2 ct.c3 sub ?_
 show codeAny (model X.prog X.w) (X.A.mark (some (.ref a))) (.handlers (.ref a) [.ExceptHandler none (some n) (b₀ :: suite) hpos] X.env) _ _
 refine codeAny_handlers_suite_as (lands_againW fly5 fun h6 fly6 up6=>?_)
 obtain ⟨o6,v6,e6,c6,_⟩:=fly6.first
 have I6:=B2 I fl fly6.1 ((up4.trans up5).trans up6) e6
 refine pU I6 hN hi (.inl hl) (v:=.ref a) rfl (fun s7 I7=>?_) (.inr hl)
 refine aP8 (hs pins s7 _ _ (tH D i) (I7.suite a) (q o6 c6)) (fun f s8 h8=>?_) fun _ _ z=>z.elim
 show wpAny (model X.prog X.w) X.A (do bindName X.env n .none; unbindBehindTheSuite X.env n hpos) (fun _ s9=>SP X pins D f s9) X.xe s8
 cases f with
 | next=>obtain ⟨σ',H',J,q⟩:=h8; exact oU (J.unsuite I.ok) hN hi hl fun s9 J9=>⟨_,_,J9,q⟩
 | brk=>obtain ⟨σ',H',J,q⟩:=h8; exact oU (J.unsuite I.ok) hN hi hl fun s9 J9=>⟨_,_,J9,q⟩
 | cont=>obtain ⟨σ',H',J,q⟩:=h8; exact oU (J.unsuite I.ok) hN hi hl fun s9 J9=>⟨_,_,J9,q⟩
 | ret u=>obtain ⟨v,σ',H',J,r,q⟩:=h8; exact oU (J.unsuite I.ok) hN hi hl fun s9 J9=>⟨v,_,_,J9,r,q⟩
end
noncomputable abbrev TB:=c9->XK->St->Hp->Prop
noncomputable def XB (X:Cx) (pins:List (Addr × Obj)) (σ:St) (Ex:XK):Value->Shared->Prop:=fun e s'=>∃ H1 s1,a5 X pins σ H1 s1/\cW X.prog X.w X.stack H1 s1 Ex e s'
noncomputable def PB (X:Cx) (sts:List Stmt) (t:TB):Prop:=
 ∀ (pins:List (Addr × Obj)) (s:Shared) (σ:St) (H:Hp) (D:c9) (Ex:XK),a5 X pins σ H s->t D Ex σ H->wpAny (model X.prog X.w) X.A (execs sts X.env) (SP X pins D) (XB X pins σ Ex) s
noncomputable def ar1 (sp:Sp) (t:TA):TB:=fun D Ex σ H=>t σ H fun vs H1=>sp vs H1 (fun _ H2=>D.nx σ H2) Ex
noncomputable def ar2 (c:TT) (t u:TB):TB:=fun D Ex σ H=>c σ H fun b H1=>if b=true then t D Ex σ H1 else u D Ex σ H1
section
variable {X : Cx} {k : Nat} {f Ch : Addr} {fd : FuncData} {ps : List Str} {sp : Sp} {x n : Str} {p cp pos np hpos : Pos} {e c : Expr} {es : List Expr} {t : TA} {tb ub : TB} {tc : TT} {sa sb body : List Stmt} {i : Nat} {b₀ : Stmt} {suite : List Stmt} {ts : TS}
theorem ar3 (F:cH X.prog X.w X.K X.mg X.base (cW X.prog X.w) k f fd ps sp) (hr:bG k X.A) (hg:Gl X x) (hm:X.mg x=some (.ref f)) (hk:PySem.W.keepIn X.K (.ref f)=true) (hb:gA X.K fd ps []) (ha:∀ E,PA (X.wish E) (e :: es) t)
  (hdb:(x == ("__debug__" : Str))=false:=by decide) (he:starEach (e :: es) X.env=(false,eval e X.env) :: starEach es X.env:=by rfl) (hpl:(backTo cp (starEach es X.env)).any (·.1)=false:=by rfl) (hsw:swapsWith (.Call (.Name x p) (e :: es) [] cp) none pos.line X.env=pure false:=by rfl) :
  PB X [.Expr (.Call (.Name x p) (e :: es) [] cp) pos] (ar1 sp t):=by
 intro pins s σ H D Ex I h
 refine wpAny_execs_cons (wpAny_Expr_any ?_ I.quiet hsw)
 refine aX3 (l8 I hg hm ?_ hdb)
 refine PySem.W.callWith_K (h₀:=X.base) I.ok.mod.kin hk (aE (ha (XB X pins σ Ex) cp pins s σ H _ (I.wish _) h) fun us s1 h1=>⟨?_,?_⟩) he hpl
 ·obtain ⟨_,_,I1,_⟩:=h1
  exact I1.kIn
 ·obtain ⟨vs,H1,I1,r,q⟩:=h1
  have I1:=I1.unwish
  have hl:us.length=ps.length:=by rw [<- r.length]; exact F.len _ _ _ _ q
  have bd:=hb s1 us I1.kIn (by rw [aQ2]; exact hl)
  rw [aQ2] at bd
  refine wpAny_call (codeAny_mono (F.run X.A X.stack s1 H1 ⟨us,[]⟩ us vs _ Ex hr I1.env0 bd r q) fun rs s' hq=>?_)
  cases rs with
  | error ev=>exact⟨H1,s1,I1,hq⟩
  | ok fl=>
   cases fl with
   | ret u=>
    obtain ⟨v,H2,I2,_,q2⟩:=I1.after hq
    exact aY2 ⟨σ,H2,I2,q2⟩
   | next=>exact False.elim hq
   | brk=>exact False.elim hq
   | cont=>exact False.elim hq
theorem ar4 (hc:∀ E,PT (X.wish E) c tc) (ha:PB X sa tb) (hb:PB X sb ub):PB X [.If c sa sb pos] (ar2 tc tb ub):=by
 intro pins s σ H D Ex I h
 refine wpAny_execs_cons (wpAny_If (aE (hc (XB X pins σ Ex) pins s σ H _ (I.wish _) h) fun d s1 h1=>?_))
 obtain ⟨H1,I1,q1⟩:=h1
 have I1:=I1.unwish
 have fin:∀ (fl:Flow) (s2:Shared),SP X pins D fl s2->(match fl with | .next=>wpAny (model X.prog X.w) X.A (execs [] X.env) (SP X pins D) (XB X pins σ Ex) s2 | fl=>SP X pins D fl s2):=fun fl s2 q=>by
  cases fl with
  | next=>exact aY2 q
  | _=>exact q
 cases d with
 | true=>exact aE (ha pins s1 σ H1 D Ex I1 q1) fin
 | false=>exact aE (hb pins s1 σ H1 D Ex I1 q1) fin
noncomputable def B3 (K:PySem.W.Frag) (Ch:Addr) (i:Nat) (tb:TB) (ts:TS):TS:=fun D σ H=>
 tb D (fun c _ H'=>∀ (a C:Addr) (oe:Obj),c = .ref C->H' a=none->oe.cls = .ref C->PySem.W.subIn K (.ref C) (.ref Ch)=some true/\ts (tH D i) (σ.set i (some (.ref a))) (upd H' a (.frz oe (.own a)))) σ H
theorem ar5 (hstk:X.stack=X.env :: X.outer/\X.env.frame=some X.env.locals) (hb:PB X body tb) (hg:Gl X x) (hm:X.mg x=some (.ref Ch)) (ct:tI X.K Ch) (hN:X.N.Nodup) (hi:X.N[i]? = some n) (hl:X.env.scope.names.lookup n=some .local) (hs:∀ a,cP (X.suite a) (b₀ :: suite) ts)
  (hd:(x == ("__debug__" : Str))=false:=by decide):PS X (.Try body [.ExceptHandler (some (.Name x np)) (some n) (b₀ :: suite) hpos] [] [] pos) (B3 X.K Ch i tb ts):=by
 intro pins s σ H D I h
 refine wpAny_Try_except (aP8 (hb pins s σ H D _ I h) (fun fl s1 q=>?_) (fun ev s1 q=>?_))
 ·cases fl with
  | next=>exact aY2 q
  | _=>exact q
 ·obtain ⟨H1,s2,I1,H',B,a,C,e1,fl,q⟩:=q
  subst e1
  obtain ⟨a0,fly⟩:=fl.fly
  obtain ⟨o5,_,_,c5,_⟩:=fly.first
  exact ar0 I1 fl hstk hg hm ct (q a C o5 rfl fl.fresh c5).1 hN hi hl (hs a) (fun oe hc=>(q a C oe rfl fl.fresh hc).2) hd
end
end L2
namespace L2
open PySem PySem.Spec PyProof.Rows PySem.Calls Builtin Builtin.ObjectAttr Builtin.Getset_descriptor
structure fY (K:PySem.W.Frag) (D:Addr):Prop where
 cls:(PySem.W.clsIn K D).isSome=true
 ga:PySem.W.findIn K (.ref D) "__getattribute__" = some (some (.builtin "BaseException.__getattribute__"))
 gt:PySem.W.findIn K (.ref D) "__getattr__" = some none
 fc:PySem.W.findIn K (.ref D) "__class__" = some (some (.builtin "object.__class__"))
 fg:PySem.W.specialIn K (.builtin "object.__class__") "__get__" = some (some (.builtin "getset_descriptor.__get__"))
 ft:PySem.W.takesIn K (.builtin "object.__class__")=some true
 ob:PySem.W.mroIn K D (.type "object")=some true
 be:PySem.W.mroIn K D (.type "BaseException")=some true
noncomputable def iH (h:Heap) (x D:Addr):Prop:=∃ ox:Obj,h.get? x=some ox/\ox.cls = .ref D
theorem iH.type {h:Heap}{x D:Addr}{M:Model} (I:iH h x D):PySem.W.Looks M h (typeOf (.ref x)) (.ref D):=by
 obtain ⟨ox,e,c⟩:=I
 exact c ▸ (PySem.W.Looks.ld e).andThen .now
section
variable {prog : Program} {w : World} {A : Around} {E : Value → Shared → Prop} {K : PySem.W.Frag} {x D : Addr} {h : Heap} {g : Array GenState} {d : Drawn} {t : Nat} {os : OsState}
theorem ar6 {M:Model} (F:fY K D) (k:K.In h):PySem.W.Looks M h (find (.ref x) (.ref D) "__class__") (.bind (.builtin "getset_descriptor.__get__") (.builtin "object.__class__")):=by
 have L1:=PySem.W.looks_findIn (M:=M) k F.fc
 have L2:=PySem.W.looks_specialIn (M:=M) k F.fg
 have L3:=PySem.W.looks_takesIn (M:=M) k F.ft
 unfold find
 refine L1.andThen (PySem.W.Looks.andThen (a:=some (Value.builtin "getset_descriptor.__get__")) L2 ?_)
 refine PySem.W.Looks.andThen (a:=some (Value.builtin "getset_descriptor.__get__",Value.builtin "object.__class__")) ?_ (PySem.W.Looks.tag .now)
 unfold dataDescriptor?
 exact L3.andThen .now
theorem ar7 {tp:Value}{R:Result->Shared->Prop} (F:fY K D) (k:K.In h) (I:iH h x D) (hq:R (.ok (.ret (.ref D))) ⟨h,g,d,t,os⟩):codeAny (model prog w) A (.call (.builtin "getset_descriptor.__get__") ⟨[.builtin "object.__class__",.ref x,tp],[]⟩) R ⟨h,g,d,t,os⟩:=by
 have L0:=I.type (M:=model prog w)
 have L1:=PySem.W.looks_mroIn (M:=model prog w) k F.ob
 refine codeAny_call_builtin PySem.W.KF.slot_gs.plain PySem.W.KF.entry_gs (PySem.W.KF.slot_gs.check _ _ _ _ _ _ _ _ PySem.W.KF.type_class (PySem.W.KF.args_gs _ _ _) ?_)
 unfold Builtin.«getset_descriptor.__get__» descrGet; rw [PySem.W.dga_obj]
 refine aK1 (aK6 ?_); unfold descrGetter descrCheckInstance descrNameAndClass isInstance
 simp only [PySem.W.KF.owner_class]
 repeat lk
 refine⟨Code.quiet_builtin _ (by decide +kernel),codeAny_builtin PySem.W.KF.entry_class ?_⟩; unfold Builtin.«object.__class__» shownTypeOf
 repeat lk
 exact hq
theorem ar8 {M:Model}{nameV:Value}{Q:Unit->Shared->Prop} (F:fY K D) (k:K.In h) (I:iH h x D) (hq:Q () ⟨h,g,d,t,os⟩):wpAny M A (checkBuiltinCall "BaseException.__getattribute__" ⟨[.ref x,nameV],[]⟩) Q E ⟨h,g,d,t,os⟩:=by
 have kd:builtinKind "BaseException.__getattribute__" = some .slot:=by decide +kernel
 have sp:splitId "BaseException.__getattribute__" = some ("BaseException","__getattribute__"):=by decide +kernel
 have L:PySem.W.Looks M h (isInstance (.ref x) (.type "BaseException")) true:=(I.type (M:=M)).andThen (PySem.W.looks_mroIn k F.be)
 have ha:=PySem.F.args_bexc_ga (.ref x) nameV
 simp only [checkBuiltinCall,kd,sp]
 refine aK1 (L.at ?_)
 repeat (any_goals (first | assumption | wp_step))
theorem ar9 {tk:Tok}{Q:Fin->Shared->Prop} (F:fY K D) (k:K.In h) (I:iH h x D) (hq:Q (.done (.ret (.ref D))) ⟨h,g,d,t,os⟩):wpAny (model prog w) A (Builtin.«object.__getattribute__» ⟨[.ref x,.str "__class__" tk],[]⟩) Q E ⟨h,g,d,t,os⟩:=by
 have L0:=I.type (M:=model prog w)
 have L1:=ar6 (M:=model prog w) F k (x:=x)
 refine aK1 (aK6 (aK1 (aK6 (aK1 (L0.at (aK1 (L1.at ?_)))))))
 show wpAny _ _ (holding [_] (call _ _) >>= ret) _ _ _
 exact aK1 (aR5 (wpAny_call (ar7 F k I (aK6 hq))))
theorem as0 {tk:Tok}{R:Result->Shared->Prop} (F:fY K D) (k:K.In h) (I:iH h x D) (hq:R (.ok (.ret (.ref D))) ⟨h,g,d,t,os⟩):codeAny (model prog w) A (.call (.builtin "BaseException.__getattribute__") ⟨[.ref x,.str "__class__" tk],[]⟩) R ⟨h,g,d,t,os⟩:=
 codeAny_call_builtin PySem.F.excAttr_ValueError.ga.plain PySem.F.entry_bexc_ga (ar8 F k I (ar9 F k I hq))
theorem as1 {Q:Option Value->Shared->Prop} (F:fY K D) (k:K.In h) (I:iH h x D) (hq:Q (some (.ref D)) ⟨h,g,d,t+1,os⟩):wpAny (model prog w) A (getAttr? (.ref x) "__class__") Q E ⟨h,g,d,t,os⟩:=by
 have L0:=I.type (M:=model prog w)
 have L1:=PySem.W.looks_findIn (M:=model prog w) k F.ga
 have L2:=PySem.W.looks_findIn (M:=model prog w) k F.gt
 have f3:=PySem.F.excAttr_ValueError.ga.bind (.ref x)
 unfold getAttr? getAttrBy? getAttrBy
 refine aK1 (wpAny_mkText (aK1 (wpAny_attempt (aR5 (aK1 (L0.at (aK1 (L1.at ?_))))))))
 have nx:(onTheHeap (Value.ref D) && Value.builtin "BaseException.__getattribute__" == Value.builtin "object.__getattribute__")=false:=by
  rw [show (Value.builtin "BaseException.__getattribute__" == Value.builtin "object.__getattribute__")=false by decide +kernel,Bool.and_false]
 dsimp only
 rw [if_neg (by rw [nx]; decide)]
 unfold getAttrByItsOwn hookBefore
 repeat (any_goals (first | assumption | (with_reducible refine L2.at ?_) | wp_step))
 exact as0 F k I (PySem.W.handed_on rfl (aK6 hq))
end
theorem as2 {K:PySem.W.Frag}{x D:Addr} (F:fY K D):PySem.W.KitX K (.ref x) (.ref D) (fun h=>iH h x D) where
 ty:=fun _ _ _ I=>I.type
 it:=fun M h k _=>by
  have z:=F.cls
  unfold PySem.W.clsIn at z
  split at z
  ·rename_i c' d' cd' sl' ho
   intro A' Q' E' s' kk q
   unfold isType loadHead
   exact aK1 (wpAny_loadPart (kk _ _ (k _ _ ho)) (aK6 q))
  ·cases z
 ne:=fun h tp dd its n sl k htp=>by
  have z:=F.cls
  refine Bool.eq_false_iff.mpr fun q=>?_
  obtain rfl:D=tp:=Value.ref.inj (beq_iff_eq.mp q)
  unfold PySem.W.clsIn at z
  split at z
  ·rename_i ho
   have y:=(k _ _ ho).symm.trans htp
   cases y
  ·cases z
 ca:=fun {_ _ _ _ _ s} k I q=>by
  obtain ⟨h,g,d,t,os⟩:=s
  exact as1 F k I q
end L2
namespace Raw
open PySem PySem.W PySem.Calls PyProof.Rows
theorem jH {α β:Type} (f:α->β):∀ (j:Nat) (l:List α),(l.eraseIdx j).map f=(l.map f).eraseIdx j
 | _,[]=>rfl
 | 0,_ :: _=>rfl
 | j+1,x :: r=>by
  show f x :: (r.eraseIdx j).map f=f x :: (r.map f).eraseIdx j
  rw [jH f j r]
section
variable {prog : Program} {w : World} {K : Type} [DecidableEq K] {knd : HeapKind prog w K} {A : Around} {E : Value → Shared → Prop} {s : Shared} {d a : Addr} {k : K} {xs : List (K × Addr × Value)}
noncomputable def B4 (knd:HeapKind prog w K) (h:Heap) (d:Addr) (xs:List (K × Addr × Value)) (j:Nat):Prop:=∃ o es ep,h.get? d=some o/\o.ExactDict/\o.data = .dict es ep/\es.toList=(xs.eraseIdx j).map (entryOfKey knd)
theorem as3 {Q:Option DictEntry->Shared->Prop} (hu:knd.room A) (hkey:knd.is s.heap k a) (hm:s.heap.DictOfH knd d xs) (hz:xs.length<=sizeLine) (is:∃ (j:Nat) (p:Addr × Value),xs[j]? = some (k,p))
  (q:∀ (j:Nat) (p:Addr × Value) h',xs[j]? = some (k,p)->B4 knd h' d xs j->Heap.SameBut d s.heap h'->Q (some (entryOfKey knd (k,p))) { s with heap:=h',toks:=s.toks+knd.draws k }):wpAny (model prog w) A (Builtin.Dict.takeOut d (.ref a)) Q E s:=by
 obtain ⟨o,es,ep,e1,e2,e3,e4,e5,e6⟩:=hm
 obtain ⟨j0,p0,h0⟩:=is
 unfold Builtin.Dict.takeOut
 try with_reducible refine aR5 ?_
 apply aK1
 apply knd.pyHash hu hkey
 apply aK1
 refine wpAny_dictFind_heap (s:={ s with toks:=s.toks+knd.draws k }) hu hkey e1 e3 e4 e5 e6 (fun no=>absurd h0 (no j0 p0)) fun j p hj=>?_
 apply aK1
 apply wpAny_dictEntries (s:={ s with toks:=s.toks+knd.draws k }) e1 e3
 rw [entry_at e4 j,hj]
 have sz:=size_of_entries e4
 apply aK1
 refine wpAny_updateDictKeys (hz:=by omega) (s:={ s with toks:=s.toks+knd.draws k }) e1 e3 (aK6 (q j p _ hj ⟨_,_,ep+1,aS6 _ e1 (Obj.isFreed_of_dict (Obj.data_mapDictKeys e3 _)),e2.mapDictKeys _,Obj.data_mapDictKeys e3 _,?_⟩ (aW4 ..)))
 rw [jH,<- e4]
 obtain ⟨l⟩:=es
 simp
end
section
variable {prog : Program} {w : World} {K : Type} [DecidableEq K] (knd : HeapKind prog w K) (d a : Addr)
theorem as4:MeetsIn prog w (Builtin.«dict.pop» ⟨[.ref d,.ref a],[]⟩) (fun A R s=>knd.room A.in1/\∃ k xs,knd.is s.heap k a/\s.heap.DictOfH knd d xs/\xs.length<=sizeLine/\(∃ (j:Nat) (p:Addr × Value),xs[j]? = some (k,p))/\
  ∀ (j:Nat) (p:Addr × Value) h',xs[j]? = some (k,p)->B4 knd h' d xs j->Heap.SameBut d s.heap h'->R (.ok (.ret p.2)) { s with heap:=h',toks:=s.toks+knd.draws k }):=
 .of_wp fun A R s h=>by
  obtain ⟨hu,k,xs,hk,hm,hz,is,q⟩:=h
  obtain ⟨o,es,ep,e1,e2,e3,e4,e5,e6⟩:=id hm
  have ne:es.isEmpty=false:=by
   obtain ⟨j,p,hj⟩:=is
   have sz:=size_of_entries e4
   have:=(aL8.mp hj).1
   rw [Array.isEmpty_eq_false_iff,ne_eq,<- Array.size_eq_zero_iff]
   omega
  unfold Builtin.«dict.pop»
  apply aK1
  unfold Builtin.Dict.keyAndDefault
  apply aK1
  apply wpAny_notOrdered_dict hm.typeIs
  change wpAny _ _ (pure (d,Value.ref a,none)) _ _ s
  apply aK6
  have kp:(keyPart (Value.ref a)).isSome=false:=rfl
  simp only [kp,aN1,aR7]
  refine aK1 (wpAny_dictEntries e1 e3 (aK1 (aK6 ?_)))
  simp only [ne,aN1,aR7]
  apply aK1
  refine as3 hu hk hm hz is fun j p h' hj c sb=>?_
  simp only [Option.isNone_some,aN1,aR7]
  exact aK1 (wpAny_letGo (aK6 ⟨p.2,rfl,q j p h' hj c sb⟩))
end
end Raw
namespace L2
open PySem PySem.Spec PyProof.Rows
theorem Paired.erase {α β:Type}{F:α->β->Prop}:∀ (j:Nat) {l:List α}{m:List β},Paired F l m->Paired F (l.eraseIdx j) (m.eraseIdx j)
 | _,_,_,.nil=>.nil
 | 0,_,_,.cons _ t=>t
 | j+1,_,_,.cons r t=>.cons r (Paired.erase j t)
theorem B5 {α β:Type}{F:α->β->Prop}:∀ {l:List α}{m:List β}{i:Nat}{y:β},Paired F l m->m[i]? = some y->∃ x,l[i]? = some x/\F x y
 | _,_,_,_,.nil,e=>by simp at e
 | _,_,0,_,.cons r _,e=>by simp at e; subst e; exact⟨_,rfl,r⟩
 | _,_,i+1,y,.cons _ t,e=>by
  rw [aP9] at e
  obtain ⟨x,h1,h2⟩:=B5 t e
  exact⟨x,by rw [aP9]; exact h1,h2⟩
theorem B6 {α β:Type}{F:α->β->Prop}:∀ {l:List α}{m:List β}{i:Nat}{x:α},Paired F l m->l[i]? = some x->∃ y,m[i]? = some y/\F x y
 | _,_,_,_,.nil,e=>by simp at e
 | _,_,0,_,.cons r _,e=>by simp at e; subst e; exact⟨_,rfl,r⟩
 | _,_,i+1,x,.cons _ t,e=>by
  rw [aP9] at e
  obtain ⟨y,h1,h2⟩:=B6 t e
  exact⟨y,by rw [aP9]; exact h1,h2⟩
section
variable {X : Cx} {pins : List (Addr × Obj)} {σ : St} {H : Hp} {s : Shared} {a b : Addr} {kvs : List (List a7 × V)} {k : List a7} {A : Around} {E : Value → Shared → Prop}
theorem as5 {Q:Value->Shared->Prop} (hu:A.units+1 < cLine) (I:a5 X pins σ H s) (e:H a=some (.dT kvs)) (eb:H b=some (.tup (k.map kV))) (is:∃ j:Nat,(kvs.map (·.1))[j]? = some k)
  (h:∀ (j:Nat) v w' s',(kvs.map (·.1))[j]? = some k->a5 X pins σ (upd H a (.dT (kvs.eraseIdx j))) s'->aF v w'->Q w' s'):wpAny (model X.prog X.w) A (call (.builtin "dict.pop") [.ref a,.ref b]) Q E s:=by
 obtain ⟨z,hd,xs,rel,dd⟩:=x5 I.hok e
 have hz:xs.length<=sizeLine:=by rw [<- Paired.length rel]; exact z
 refine call_meetsIn PySem.F.slot_dict_pop dd.typeIs PySem.F.entry_dict_pop (PySem.F.args_dict_pop_2 _ _) (Raw.as4 (tupleKind (dN X.prog X.w)) a b) ⟨tupleKind_room_in1 hu,k,xs,jU I.hok eb,dd,hz,?_,fun j p h' hj c sb=>?_⟩
 ·obtain ⟨j,hj⟩:=is
  rw [aL9] at hj
  cases ej:kvs[j]? with
  | none=>rw [ej] at hj; cases hj
  | some kv=>
   rw [ej] at hj
   cases hj
   obtain ⟨y,hy,r⟩:=B6 rel ej
   exact⟨j,y.2,by rw [hy]; exact congrArg some (Prod.ext r.1.symm rfl)⟩
 ·obtain ⟨kv,hkv,r⟩:=B5 rel hj
  obtain ⟨o,es,ep,h1,h2,h3,h4⟩:=c
  have nd:((xs.eraseIdx j).map (·.1)).Nodup:=by
   obtain ⟨_,_,_,_,_,_,_,_,nd⟩:=dd
   exact nd.sublist ((List.eraseIdx_sublist xs j).map _)
  refine h j kv.2 p.2 _ (by rw [aL9,hkv]; exact congrArg some r.1) ?_ r.2.2
  refine qZ I (by rw [e]; exact aZ8) sb ⟨o,h1⟩ ⟨aP2 (List.length_eraseIdx_le kvs j) z,hd,_,KT.keeps (Paired.erase j rel) fun c ys ec=>?_,o,es,ep,h1,h2,h3,h4,nd⟩
  rw [aU (uT ec e (fun z=>nomatch z))]
  exact ec
end
section
variable {X : Cx} {o e : Expr} {apos cpos : Pos} {td ty : TE}
noncomputable def B7 (td ty:TE):TE:=fun σ H Q=>td σ H fun x H1=>∃ a,x = .ref a/\xD H1 a/\ty σ H1 fun y H2=>∃ kvs k b,H2 a=some (.dT kvs)/\y = .ref b/\H2 b=some (.tup (k.map kV))/\(∃ j:Nat,(kvs.map (·.1))[j]? = some k)/\∀ (j:Nat) v,(kvs.map (·.1))[j]? = some k->Q v (upd H2 a (.dT (kvs.eraseIdx j)))
theorem as6 (hu:X.A.units+1 < cLine) (ho:PE X o td) (he:PE X e ty) (m:M1 X o "pop" apos e cpos):PE X (.Call (.Attribute o "pop" apos) [e] [] cpos) (B7 td ty):=by
 intro pins s σ H Q I h
 refine wpAny_Call_method m.base m.few m.line PySem.F.plainAttrs_dict PySem.F.slot_dict_pop PySem.F.type_dict_pop (aE (ho pins s σ H _ I h) fun u s1 h1=>?_)
 obtain ⟨x,H1,I1,rx,a,ex,d,q1⟩:=h1
 subst ex
 obtain rfl:u=Value.ref a:=rx
 obtain ⟨t1,t2,_⟩:=ac6 I1 d
 refine⟨t1,t2,?_⟩
 rw [m.trees]
 refine Calls.callWith_builtin rfl (Calls.evalArgs_plain (Calls.spliced_cons (aE (he pins s1 σ H1 _ I1 q1) fun iv s2 h2=>Calls.spliced_nil ?_)))
 obtain ⟨y,H2,I2,ry,kvs,k,b,ea,ey,eb,is,q2⟩:=h2
 subst ey
 obtain rfl:iv=Value.ref b:=ry
 exact as5 hu I2 ea eb is fun j v w' s3 hj I3 rw'=>⟨v,_,I3,rw',q2 j v hj⟩
end
end L2
namespace Raw
open PySem PySem.W PySem.Calls PyProof.Rows
theorem as7:isSubtype (.type "tuple") (.type "set")=pure false:=by rw [aX8]; kernel_rfl
theorem as8:isSubtype (.type "tuple") (.type "frozenset")=pure false:=by rw [aX8]; kernel_rfl
section
variable {prog : Program} {w : World} {A : Around} {E : Value → Shared → Prop} {s : Shared} {l : Addr} {items : Array Value} {ns : List Int}
noncomputable abbrev fZ (led:Bool):Obj:={ cls:=.type "set",dict:=none,data:=.set #[] 0 (.fresh 0 0 led) }
noncomputable def oV (prog:Program) (w:World) (ns:List Int) (n:Nat) (h h':Heap):Prop:=h'.SetOf (intKind prog w) h.objs.size (fun k=>(firstMet (fun i=>ns.getD i 0) n).any (· == k)) (firstMet (fun i=>ns.getD i 0) n).length/\∀ b o,b < h.objs.size->h.get? b=some o->h'.get? b=some o
theorem as9 {led:Bool}{Q:Value->Shared->Prop} (hh:A.handled=none) (hl:s.heap.IsTuple l items) (hi:IntsAre items.toList ns) (hb:items.size+1 < scanBound) (h:∀ h' tk,oV prog w ns items.size s.heap h'->Q .none { s with heap:=h',toks:=tk }) :
  wpAny (model prog w) A (Builtin.«set.__init__» ⟨[.ref s.heap.objs.size,.ref l],[]⟩) (fun fin s'=>∃ r,fin = .done (.ret r)/\Q r s') E { s with heap:=s.heap.push (fZ led) }:=by
 have hS:(s.heap.push (fZ led)).get? s.heap.objs.size=some (fZ led):=aM3 _ rfl
 have hT:Shared.TypeIs { s with heap:=s.heap.push (fZ led) } (.ref s.heap.objs.size) "set":=⟨_,hS,rfl⟩
 obtain ⟨ol,kL,hcl,nl,hdl⟩:=hl
 have lt:l < s.heap.objs.size:=aM5 kL
 obtain ⟨ocls,odict,odata,oslots⟩:=ol
 dsimp only at hcl hdl
 subst hcl hdl
 have hol1:=aK5 (fZ led) kL
 have tu:(s.heap.push (fZ led)).IsTuple l items:=⟨_,hol1,rfl,nl,rfl⟩
 have t1:=as7
 have t2:=as8
 have t3:(Value.type "tuple" == Value.type "dict")=false:=by decide
 unfold Builtin.«set.__init__» noKeywords Builtin.Frozenset.updateFrom
 generalize pi:pyIter=PI
 wp_walk
 subst pi
 apply wpAny_pyIter_tuple tu
 apply aK1
 apply wpAny_runValue
 have sz:(s.heap.push (fZ led)).objs.size=s.heap.objs.size+1:=Heap.size_push ..
 have a3:A.in1.handled=none:=by simp [hh]
 refine codeAny_set_update_loopS (Walks.tuple (by simp [hh]) (s.heap.push (fZ led)).objs.size l (by rw [sz]; exact aN8 (Nat.lt_succ_of_lt lt)) items).toS s.heap.objs.size (fun z=>?_) (fun i=>ns.getD i 0) (fun i v hv=>IntsAre.int_at hi i v (by rw [aO9]; exact hv)) hb items.size 0 _ (Nat.sub_zero _) (aO1 _) ⟨⟨_,aM3 _ rfl,rfl,rfl⟩,tu.push _⟩ ?_ ?_
 ·simp only [aM4,aT9,or_false] at z
  rcases z with z | z
  ·rw [sz] at z
   exact aN8 (Nat.lt_succ_self _) z
  ·exact aY7 lt z
 ·exact SetOf_congr ((setObjOf_fresh (knd:=intKind prog w) led).setOf (aK5 _ hS) (by decide)) (fun _=>rfl) rfl
 ·rintro ⟨h',g',d',tk',os'⟩ hm hS'
  obtain rfl:g'=s.gens:=hm.gens
  obtain rfl:d'=s.drawn:=hm.drawn
  obtain rfl:os'=s.os:=hm.os
  change wpAny _ _ _ _ _ _
  apply aK6
  change wpAny _ _ (ret Value.none) _ _ _
  refine aK6 ⟨_,rfl,h h' tk' ⟨hS',fun b o lb e=>hm.heap b o (fun z=>?_) (aK5 _ (aK5 _ e))⟩⟩
  simp only [aM4,aT9,or_false] at z
  rcases z with z | z
  ·exact aN8 lb z
  ·rw [sz] at z
   exact aN8 (Nat.lt_succ_of_lt lb) z
theorem at2 {Q:Value->Shared->Prop} (hh:A.handled=none) (hl:s.heap.IsTuple l items) (hi:IntsAre items.toList ns) (hb:items.size+1 < scanBound) (h:∀ h' tk,oV prog w ns items.size s.heap h'->Q (.ref s.heap.objs.size) { s with heap:=h',toks:=tk }) :
  wpAny (model prog w) A (call (.type "set") [.ref l]) Q E s:=by
 have C:=F.called_set
 obtain ⟨c,tl,hmro⟩:=C.mro
 have c1:=C.made
 have c2:=C.sub
 have c3:=C.notType
 have c4:=C.canCreate
 have c5:=F.typeCall_set_1 (.ref l)
 have c6:=C.init.lookup
 have c7:=C.init.bind (.ref s.heap.objs.size)
 apply wpAny_call
 apply codeAny_of_tree
 change wpAny _ _ (callAny (.type "set") _) _ _ _
 refine aK6 ⟨Code.quiet_builtin _ (by decide +kernel),codeAny_builtin F.entry_type_call ?_⟩
 rw [Around.under_plain (weight_type_call_type "set" [.ref l] []) rfl]
 repeat (any_goals first | assumption | wp_step | fail)
 refine codeAny_mono (code_set_new_1 (.ref l) (E:=E) (Q₁:=fun obj s₁=>∃ led:Bool,obj = .ref s.heap.objs.size/\s₁={ s with heap:=s.heap.push (fZ led) }) fun led=>⟨led,rfl,rfl⟩) fun r s₁ hr=>?_
 match r,hr with
 | .error _,hr=>exact hr
 | .ok (.ret obj),hr=>
  obtain ⟨led,rfl,rfl⟩:=hr
  have hT:Shared.TypeIs { s with heap:=s.heap.push (fZ led) } (.ref s.heap.objs.size) "set":=⟨_,aM3 _ rfl,rfl⟩
  repeat (any_goals first | assumption | wp_step | fail)
  refine codeAny_mono (codeAny_call_builtin (R:=wants (fun r s₂=>r = .none/\∃ h' tk,s₂={ s with heap:=h',toks:=tk }/\oV prog w ns items.size s.heap h') E) C.init.plain F.entry_set_init (check_set_init_1 hT ?_)) fun r₂ s₂ hr₂=>?_
  ·refine aP8 (as9 (E:=fun _ _=>False) (Q:=fun r s₂=>r = .none/\∃ h' tk,s₂={ s with heap:=h',toks:=tk }/\oV prog w ns items.size s.heap h') (by simp [hh]) hl hi hb fun h' tk f=>⟨rfl,h',tk,rfl,f⟩) ?_ ?_
   ·rintro fin s' ⟨r,rfl,q⟩
    exact q
   ·exact fun _ _ h=>h.elim
  match r₂,hr₂ with
  | .error _,hr₂=>exact hr₂
  | .ok (.ret _),hr₂=>
   obtain ⟨rfl,h',tk,rfl,f⟩:=hr₂
   repeat (any_goals first | assumption | wp_step | fail)
   exact h _ _ f
end
end Raw
namespace L2
open PySem PySem.Spec PyProof.Rows
section
variable {X : Cx}
theorem B8 {ns:List Int} (nd:ns.Nodup):∀ i,i<=ns.length->firstMet (fun i=>ns.getD i 0) i=ns.take i
 | 0,_=>rfl
 | i+1,h=>by
  rw [firstMet_succ,B8 nd i (by omega)]
  have g:ns[i]? = some (ns.getD i 0):=by
   rw [aK8,aK2 (by omega)]; rfl
  unfold step_dedup
  rw [aQ6,g,if_neg]
  ·rfl
  ·intro z
   obtain ⟨x,hx,e⟩:=List.any_eq_true.mp z
   obtain rfl:x=ns.getD i 0:=by simpa using e
   obtain ⟨j,hj,e2⟩:=aQ7 hx
   rw [aR1] at hj
   rw [List.getElem_take] at e2
   have g2:ns[i]'(by omega)=ns.getD i 0:=by
    rw [aK2 (by omega)] at g
    exact aN4 g
   rw [<- g2] at e2
   exact aO2.mp nd j i (by omega) (by omega) (by omega) e2
theorem at3 (hc:X.calm=true):cM X (.type "set") (fun xs H Q=>∃ (p:Addr) (ns:List Int),xs = [.ref p]/\aO X.K H p (ns.map V.int)/\ns.Nodup/\ns.length<=1000/\∀ l S,H l=none->Q (.ref l) (upd H l (.set S ns.length))):=by
 intro pins s σ H xs us Q I r h
 obtain ⟨p,ns,rfl,hq,nd,hl,q⟩:=h
 obtain ⟨u,rfl,rx⟩:=hJ r
 obtain rfl:u=Value.ref p:=rx
 obtain ⟨its,r',pl,hz⟩:=I.tuple hq
 have ia:=wG r'
 have len:its.length=ns.length:=by rw [<- r'.length,aL4]
 refine Raw.at2 (items:=its.toArray) (ns:=ns) (I.ok.hd hc) pl ia (by rw [aK3,len]; exact Nat.lt_of_le_of_lt (Nat.add_le_add_right hl 1) (by decide)) fun h' tk f=>?_
 obtain ⟨f1,f2⟩:=f
 have e1:(firstMet (fun i=>ns.getD i 0) its.toArray.size).length=ns.length:=by
  rw [aK3,len]
  rw [B8 nd _ (aK4 _),aW8]
 rw [e1] at f1
 exact⟨.ref s.heap.objs.size,_,I.laid (t':=tk) (fun b o e=>f2 b o (aM5 e) e) (aK4 _) (show bA X.prog X.w _ _ _ (.set _ _) from f1),rfl,q _ _ (I.hok.fresh (aK4 _))⟩
theorem at4:cM X (.builtin "len") (fun xs H Q=>∃ (a:Addr) (S:Int->Bool) (n:Nat),xs = [.ref a]/\H a=some (.set S n)/\n<=1000/\Q (.int n) H):=by
 intro pins s σ H xs us Q I r h
 obtain ⟨a,S,n,rfl,e,hn,q⟩:=h
 obtain ⟨u,rfl,rx⟩:=hJ r
 obtain rfl:u=Value.ref a:=rx
 have hs:s.heap.SetOf (intKind X.prog X.w) a S n:=I.hok a _ e
 obtain ⟨o,es,ep,t,ho,h1,h2,_,_,_,h3,rfl⟩:=hs
 exact call_len_set ho h1 h2 h3 (by omega) ⟨.int _,H,I.tok _,⟨_,rfl⟩,q⟩
end
end L2
namespace Core
open PySem L2 PP
noncomputable def iI (ns:List Int):Bool:=((ns.zip (ns.drop 1)).map fun p=>decide (p.1 < p.2)).all id
theorem mD:∀ {ns:List Int},iI ns=true->ns.Pairwise (· < ·)
 | [],_=>.nil
 | [x],_=>aR3 _ _
 | x :: y :: r,h=>by
  have e:iI (x :: y :: r)=(decide (x < y) && iI (y :: r)):=rfl
  rw [e,aO5] at h
  have ih:=mD h.2
  refine List.pairwise_cons.mpr ⟨fun z hz=>?_,ih⟩
  rcases aM4.mp hz with rfl | hz
  ·exact aT3 h.1
  ·exact Int.lt_trans (aT3 h.1) (List.rel_of_pairwise_cons ih hz)
theorem tJ:∀ {ns:List Int},ns.Pairwise (· < ·)->iI ns=true
 | [],_=>rfl
 | [x],_=>rfl
 | x :: y :: r,h=>by
  have e:iI (x :: y :: r)=(decide (x < y) && iI (y :: r)):=rfl
  have h':=List.pairwise_cons.mp h
  rw [e,tJ h'.2,Bool.and_true]
  exact aL2 (h'.1 y aM2)
noncomputable def kin (ws:List Int) (ls:List (Int × Int)) (S:List Int) (h:Int):Bool:=!decide (h ∈ S) && decide (ws.getD h.toNat 0<=(((aG ls h).filter fun x=>decide (x ∈ S)).length:Int))
noncomputable def oW (ws:List Int) (ls:List (Int × Int)) (S:List Int):List Int:=((List.range ws.length).map fun (i:Nat)=>(i:Int)).filter (kin ws ls S)
noncomputable def mE (ws:List Int) (ls:List (Int × Int)) (S:List Int):Nat->List Int
 | 0=>S
 | k+1=>mE ws ls S k ++ oW ws ls (mE ws ls S k)
noncomputable def B9 (ws:List Int) (S:List Int):Nat:=(((List.range ws.length).map fun (i:Nat)=>(i:Int)).filter fun x=>!decide (x ∈ S)).length
theorem C0 {α:Type} (p q:α->Bool) (h:∀ x,q x=true->p x=false):∀ L:List α,(L.filter fun x=>!p x && !q x).length+(L.filter q).length=(L.filter fun x=>!p x).length
 | []=>rfl
 | x :: r=>by
  have ih:=C0 p q h r
  cases e1:p x with
  | true=>
   have e2:q x=false:=by
    cases e:q x with
    | false=>rfl
    | true=>have:=h x e; rw [e1] at this; cases this
   simp only [aW9,e1,e2,Bool.not_true,Bool.false_and,aN1,aR7]
   exact ih
  | false=>
   cases e2:q x with
   | true=>
    simp only [aW9,e1,e2,Bool.not_true,Bool.not_false,Bool.and_false,aN1,aR7,if_true,aP6]
    omega
   | false=>
    simp only [aW9,e1,e2,Bool.not_false,Bool.and_true,aN1,aR7,if_true,aP6]
    omega
noncomputable def after (ws:List Int) (ls:List (Int × Int)) (S:List Int) (m:Nat):List (List Int):=(List.range m).map fun k=>oW ws ls (mE ws ls S k)
theorem at5 {ws ns:List Int} (hu:ns.Pairwise (· < ·)) (hin:∀ x ∈ ns,0<=x/\x < (ws.length:Int)):ns.length+B9 ws ns<=ws.length:=by
 have nd:ns.Nodup:=hu.imp fun h=>Int.ne_of_lt h
 have sub:ns ⊆ ((List.range ws.length).map fun (i:Nat)=>(i:Int)).filter fun x=>decide (x ∈ ns):=fun x hx=>by
  refine aP0.mpr ⟨aO8.mpr ⟨x.toNat,List.mem_range.mpr ?_,?_⟩,aL2 hx⟩
  ·have:=hin x hx; omega
  ·have:=hin x hx; omega
 have h1:=nd.length_le_of_subset sub
 have h2:=C0 (fun _=>false) (fun x=>decide (x ∈ ns)) (fun _ _=>rfl) ((List.range ws.length).map fun (i:Nat)=>(i:Int))
 have h3:(((List.range ws.length).map fun (i:Nat)=>(i:Int)).filter fun x=>!false && !decide (x ∈ ns)).length=B9 ws ns:=rfl
 have h4:(((List.range ws.length).map fun (i:Nat)=>(i:Int)).filter fun x=>!false).length<=ws.length:=by
  refine aP2 (List.length_filter_le _ _) ?_
  rw [aL4,List.length_range]; exact aK4 _
 rw [h3] at h2
 omega
noncomputable def c9 (ws:List Int) (ls:List (Int × Int)) (ns:List Int) (m:Nat):Prop:=(∀ k < m,oW ws ls (mE ws ls ns k) ≠ [])/\oW ws ls (mE ws ls ns m) = []
theorem tK {ns:List Int}{i:Nat}{x:PV} (h:(intz ns)[i]? = some x):∃ n,x = .int n/\ns[i]? = some n:=by
 rw [aL9] at h
 cases e:ns[i]? with
 | none=>rw [e] at h; cases h
 | some n=>rw [e] at h; exact⟨n,(aN4 h).symm,rfl⟩
theorem jI {lo:Int}{n i:Nat}{x:PV} (h:(gN lo n)[i]? = some x):x = .int (lo+i)/\i < n:=by
 have hi:i < n:=by
  have:=(aL8.mp h).1
  rwa [fW] at this
 rw [yL hi] at h
 exact⟨(aN4 h).symm,hi⟩
noncomputable def rng (n:Nat):List Int:=(List.range n).map fun (i:Nat)=>(i:Int)
theorem jJ (n:Nat):(rng n).length=n:=by unfold rng; rw [aL4,List.length_range]
theorem oX {n i:Nat} (h:i < n):(rng n)[i]? = some (i:Int):=by unfold rng; rw [aL9,List.getElem?_range h]; rfl
theorem aY {n:Nat}{x:Int}:x ∈ rng n ↔ 0<=x/\x < (n:Int):=by
 unfold rng
 rw [aO8]
 constructor
 ·rintro ⟨i,hi,rfl⟩
  have:=List.mem_range.mp hi
  omega
 ·intro h
  exact⟨x.toNat,List.mem_range.mpr (by omega),by omega⟩
theorem C1 {α:Type}{l:List α}{p:α->Bool}{i:Nat}{x:α} (h:l[i]? = some x):(l.take (i+1)).filter p=(l.take i).filter p ++ (if p x=true then [x] else []):=by
 rw [aQ6,h,List.filter_append]
 congr 1
 cases e:p x <;> simp [e]
theorem g4 (a b:List Int):intz (a ++ b)=intz a ++ intz b:=aS0
theorem bR (a:List Int):(intz a).length=a.length:=aL4 _
noncomputable def cE (ws:List Int) (ls:List (Int × Int)):PV:=.tup [.tup (intz ws),.tup (ls.map fun l=>.tup [.int l.1,.int l.2])]
structure Wb (ws:List Int) (ls:List (Int × Int)):Prop where
 few:ws.length<=40
 most:ls.length<=1700
 links:∀ l ∈ ls,(0<=l.1/\l.1 < ws.length)/\0<=l.2/\l.2 < ws.length
theorem oY:∀ (ls:List (Int × Int)),flats (ls.map fun l=>PV.tup [.int l.1,.int l.2])=true
 | []=>rfl
 | l :: r=>by
  show (flat (.tup [.int l.1,.int l.2]) && flats (r.map fun l=>PV.tup [.int l.1,.int l.2]))=true
  rw [oY r]; rfl
noncomputable def kN:bP:=fun xs Q=>∃ ws ls,xs = [cE ws ls]/\Q (.int ws.length)
noncomputable def C2:aJ:=(bW (aK dQ (aC (bX (a6 0) (qC (.int 0))) aI)))
noncomputable abbrev dU (t:aJ) (N:List Str) (p:bP):Prop:=∀ xs Q,p xs Q->t { nx:=fun _=>Q .non,rt:=Q } (eC N xs)
theorem at6:dU C2 ["web"] kN:=by
 rintro xs Q ⟨ws,ls,rfl,q⟩
 refine⟨_,rfl,_,_,_,rfl,rfl,rfl,_,_,rfl,rfl,trivial,?_⟩
 rw [bR]; exact q
noncomputable def inB (n:Nat) (x:Int):Bool:=decide (0<=x) && decide (x < (n:Int))
noncomputable def dW (n:Nat) (ns:List Int):Bool:=iI ns && (ns.map (inB n)).all id
structure DS (ps:List (a7 × PV)) (S:List Int):Prop where
 has:∀ i:Int,(dR ps (Sum.inl i:a7)).isSome=decide (i ∈ S)
 len:ps.length<=S.length
 fl:flats (ps.map (·.2))=true
section
variable {κ : Type} [DecidableEq κ]
theorem C3 {p:κ × PV}{r:List (κ × PV)}{k:κ} (e:p.1=k):dR (p :: r) k=some p.2:=by simp [dR,aT5,e]
theorem tL {p:κ × PV}{r:List (κ × PV)}{k:κ} (e : ¬ p.1=k):dR (p :: r) k=dR r k:=by simp [dR,aT5,e]
theorem C4 (k:κ):∀ kvs:List (κ × PV),(kvs.any fun kv=>decide (kv.1=k))=(dR kvs k).isSome
 | []=>rfl
 | p :: r=>by
  rw [List.any_cons]
  by_cases e:p.1=k
  ·simp only [C3 e,aL2 e,Bool.true_or,Option.isSome_some]
  ·rw [tL e,aL0 e,Bool.false_or]; exact C4 k r
theorem at7 (kvs:List (κ × PV)) (k:κ) (v:PV):(cO kvs k v).length<=kvs.length+1:=by
 unfold cO
 split
 ·rw [aL4]; omega
 ·rw [aL1,aP6,List.length_nil]; omega
end
theorem C5:∀ (xs:List PV),flats xs=true ↔ ∀ x ∈ xs,flat x=true
 | []=>by simp [flats]
 | x :: r=>by
  unfold flats
  rw [aO5,C5 r]; simp
theorem at8 {κ:Type} [DecidableEq κ] {ps:List (κ × PV)}{k:κ}{v:PV}{p:κ × PV} (h:p ∈ cO ps k v):p.2=v ∨ p ∈ ps:=by
 unfold cO at h
 split at h
 ·obtain ⟨q,hq,e⟩:=aO8.mp h
  split at e
  ·subst e; exact .inl rfl
  ·subst e; exact .inr hq
 ·rcases aM6.mp h with h | h
  ·exact .inr h
  ·rw [aK7.mp h]; exact .inl rfl
theorem at9 {κ:Type} [DecidableEq κ] {ps:List (κ × PV)}{k:κ}{v:PV} (h:flats (ps.map (·.2))=true) (hv:flat v=true):flats ((cO ps k v).map (·.2))=true:=by
 rw [C5] at h ⊢
 intro x hx
 obtain ⟨p,hp,rfl⟩:=aO8.mp hx
 rcases at8 hp with e | e
 ·rw [e]; exact hv
 ·exact h _ (aO8.mpr ⟨p,e,rfl⟩)
noncomputable def fP (n:Nat) (ls:List (Int × Int)):List PV:=(List.range n).map fun (k:Nat)=>PV.lst (intz (aG ls k))
noncomputable def tM:bP:=fun xs Q=>∃ ws ls,xs = [cE ws ls]/\Wb ws ls/\Q (.lst (fP ws.length ls))
theorem au0 {n:Nat}{ls:List (Int × Int)}{h:Int} (h0:0<=h) (h1:h < (n:Int)):atI (fP n ls) h=some (.lst (intz (aG ls h))):=by
 refine nD h0 ?_
 unfold fP
 rw [aL9,List.getElem?_range (by omega)]
 show some (PV.lst (intz (aG ls ((h.toNat:Nat):Int))))=_
 rw [show ((h.toNat:Nat):Int)=h by omega]
theorem tN {ws:List Int}{h:Int} (h0:0<=h) (h1:h < (ws.length:Int)):atI (intz ws) h=some (.int (ws.getD h.toNat 0)):=by
 refine nD h0 ?_
 have:h.toNat < ws.length:=by omega
 rw [aL9,aK8,aK2 this]; rfl
noncomputable def tups (rs:List (List Int)):List PV:=rs.map fun r=>PV.tup (intz r)
theorem oZ {n:Nat}{ns:List Int} (h:dW n ns=true):iI ns=true/\∀ x ∈ ns,0<=x/\x < (n:Int):=by
 unfold dW at h
 rw [aO5,aT1] at h
 refine⟨h.1,fun x hx=>?_⟩
 have:=h.2 _ (aO8.mpr ⟨x,hx,rfl⟩)
 unfold inB at this
 simpa using this
theorem au1 {n:Nat}{ns:List Int} (h:dW n ns=true):ns.length<=n:=by
 obtain ⟨h1,h2⟩:=oZ h
 have:=at5 (ws:=List.replicate n (0:Int)) (mD h1) (by rw [List.length_replicate]; exact h2)
 rw [List.length_replicate] at this
 omega
end Core
namespace PP
open PySem L2
noncomputable def tO:List PV->(PV->Prop)->Prop:=fun xs Q=>∃ ps:List (List a7 × PV),xs = [.dT ps]/\Q (.lst (ps.map fun p=>PV.tup (p.1.map kP)))
end PP
namespace Core
open PySem L2 PP
theorem au2 (g:Tg) (n:Int):Nw g (.int n):=by cases g <;> first | exact trivial | rfl
noncomputable def fD (x:PV) (ns:List Int):Prop:=x = .scr ns ∨ x = .lst (intz ns)
theorem fD.seq {x:PV}{ns:List Int} (h:fD x ns):k6 x=some (intz ns):=by rcases h with rfl | rfl <;> rfl
theorem fD.len {x:PV}{ns:List Int} (h:fD x ns):yF x=some ns.length:=by
 rcases h with rfl | rfl
 ·rfl
 ·show some (intz ns).length=_
  rw [bR]
noncomputable def mF:bP:=fun xs Q=>∃ x ns k,xs = [x,.int k]/\fD x ns/\0<=k/\Q (.int (ns.getD k.toNat 0))
noncomputable def C6:aJ:=(aN (cN (aV (sJ (a6 1) (aK dQ (aC (a6 0) aI)))) (bW (bX (a6 0) (a6 1))) cR)
 (bW (qC (.int 0))))
theorem au3:dU C6 ["script","k"] mF:=by
 rintro xs Q ⟨x,ns,k,rfl,hx,h0,q⟩
 refine⟨_,rfl,_,rfl,_,_,rfl,hx.len,_,_,rfl,rfl,_,rfl,?_⟩
 by_cases h:k < (ns.length:Int)
 ·rw [aL2 h]
  exact bB ⟨_,rfl,_,rfl,_,_,_,hx.seq,rfl,tN h0 h,au2 _ _,q⟩
 ·rw [aL0 h]
  rw [aK8,aY1 (by omega)] at q
  exact aW ⟨trivial,q⟩
noncomputable def aZ (ls:List (Int × Int)):List PV:=ls.map fun l=>PV.tup [.int l.1,.int l.2]
noncomputable def kO (l m:Int × Int):Prop:=l.1 < m.1 ∨ (l.1=m.1/\l.2 < m.2)
noncomputable abbrev si (n:Int):Option Slot:=some (.sh true (.int n))
noncomputable def kQ:bP:=fun xs Q=>∃ i,xs = [.int i]/\Q (.bl true)
noncomputable def C7 (K:PySem.W.Frag):aJ:=(bW (lR (gQ K "int" (a6 0)) (rP (gQ K "bool" (a6 0)))))
theorem au4 {K:PySem.W.Frag} (k1:PySem.W.kitOne K (.type "int") (.type "int")=some true) (k2:PySem.W.kitOne K (.type "int") (.type "bool")=some false):dU (C7 K) ["found"] kQ:=by
 rintro xs Q ⟨i,rfl,q⟩
 exact⟨_,rfl,_,_,rfl,k1,_,rfl,bB ⟨_,rfl,_,_,rfl,k2,_,rfl,trivial,q⟩⟩
theorem p5 {ls:List (Int × Int)}{i:Nat}{x:PV} (h:(aZ ls)[i]? = some x):∃ l,x = .tup [.int l.1,.int l.2]/\ls[i]? = some l:=by
 unfold aZ at h
 rw [aL9] at h
 cases e:ls[i]? with
 | none=>rw [e] at h; cases h
 | some n=>rw [e] at h; exact⟨n,(aN4 h).symm,rfl⟩
end Core
namespace PP
open PySem L2 PyProof.Rows
theorem Reps.rep {K:PySem.W.Frag}{M:Addr->Prop}{H:Hp}{us:List V}{xs:List PV} (r:Reps K M H us xs):∀ k:Nat,Reps K M H (List.replicate k us).flatten (List.replicate k xs).flatten
 | 0=>.nil
 | k+1=>by rw [aS5,aS5,aW1,aW1]; exact r.append (Reps.rep r k)
section
variable {X : Cx} {a b e : Expr} {ta tb te : aA} {tr : cB} {pos p2 p3 pos2 : Pos}
theorem au5:gL X tO (fun xs H Q=>∃ a kvs,xs = [.ref a]/\H a=some (.dT kvs)/\∀ l ys,H l=none->Paired (nC H) ys (kvs.map (·.1))->Q (.ref l) (upd H l (.lst ys))):=by
 rintro H vs xs Q Q' r ⟨ps,rfl,q⟩ k
 obtain ⟨v,rfl,r1⟩:=r.one
 cases r1 with
 | @dT a kvs _ m h e r2=>
  refine⟨a,kvs,rfl,h,fun l ys hl pr=>k _ _ _ (bH hl _) (.lst hl bK ?_) q⟩
  have kv:∀ (k:List a7),Reps X.K (fun a=>H a=none) H (k.map kV) (k.map kP):=fun k=>by
   induction k with
   | nil=>exact .nil
   | cons a r ih=>exact .cons (by cases a <;> constructor) ih
  have go:∀ {ys:List V}{ks:List (List a7)},Paired (nC H) ys ks->Reps X.K (fun a=>H a=none) H ys (ks.map fun k=>PV.tup (k.map kP)):=fun {ys ks} pr=>by
   induction pr with
   | nil=>exact .nil
   | cons h t ih=>
    obtain ⟨q,rfl,hq⟩:=h
    exact .cons (.tup hq (kv _)) ih
  have e2:(ps.map fun p=>PV.tup (p.1.map kP))=(kvs.map (·.1)).map fun k=>PV.tup (k.map kP):=by rw [e,List.map_map]; rfl
  rw [e2]
  exact (go pr).same (bH hl _) fun _ z=>z
theorem au6 (B:Bt X.mg) (hc:X.calm=true) (ha:QA X [e] tr) (hg:Gl X "list":=by rfl) (he:starEach [e] X.env=(false,eval e X.env) :: starEach [] X.env:=by rfl) (hpl:(backTo pos (starEach [] X.env)).any (·.1)=false:=by rfl):QE X (.Call (.Name "list" p2) [e] [] pos) (aK tO tr):=
 z5 (af0 hc) au5 hg B.list PyProof.Rows.boot_list ha (he:=he) (hpl:=hpl)
noncomputable def tP:V->Int
 | .int i=>i
 | _=>0
noncomputable def jK (H:Hp):V->List Int
 | .ref a=>match H a with
  | some (.tup us)=>us.map tP
  | _=>[]
 | _=>[]
theorem au7 {H:Hp}{a:Addr}{ns:List Int} (h:H a=some (.tup (ns.map V.int))):jK H (.ref a)=ns:=by
 show (match H a with | some (.tup us)=>us.map tP | _=>[])=ns
 rw [h]
 show (ns.map V.int).map tP=ns
 rw [List.map_map]
 exact List.map_id _
theorem C8 {K:PySem.W.Frag}{M:Addr->Prop}{H:Hp}:∀ {us:List V}{ys:List (List Int)},Reps K M H us (ys.map fun r=>PV.tup (intz r))->us.map (jK H)=ys/\∀ u ∈ us,∃ b,u = .ref b/\H b=some (.tup ((jK H u).map V.int))
 | _,[],.nil=>⟨rfl,fun u h=>nomatch h⟩
 | _,y :: ys,.cons r t=>by
  obtain ⟨a,us,rfl,h,r1⟩:=r.sqT
  obtain rfl:=r1.ofInts
  obtain ⟨h1,h2⟩:=C8 t
  have hk:=au7 h
  refine⟨by rw [aP4,h1,hk],fun u hu=>?_⟩
  rcases aM4.mp hu with rfl | hu
  ·exact⟨a,rfl,by rw [hk]; exact h⟩
  ·exact h2 u hu
theorem C9 {K:PySem.W.Frag}{M:Addr->Prop}{H:Hp}:∀ {us:List V},(∀ u ∈ us,∃ b,u = .ref b/\H b=some (.tup ((jK H u).map V.int)))->Reps K M H us ((us.map (jK H)).map fun r=>PV.tup (intz r))
 | [],_=>.nil
 | u :: us,h=>by
  obtain ⟨b,rfl,hb⟩:=h u aM2
  exact .cons (.tup hb (Reps.intz _)) (C9 fun v hv=>h v (aL5 _ hv))
end
noncomputable def E1:Sp:=fun vs H Q _=>∃ v ws ls,vs = [v]/\xS H v ws ls/\ws.length<=1000/\ls.length<=2000/\(∀ l ∈ ls,(0<=l.1/\l.1 < ws.length)/\0<=l.2/\l.2 < ws.length)/\
 ∀ (r:Addr) (bs:List Addr) (H':Hp),bs.length=ws.length->gI H H' r bs (fun k=>aG ls k)->Q (.ref r) H'
section
variable {P : Program} {w : World} {K : PySem.W.Frag} {mg : Str → Option Value} {base : Heap} {f : Addr} {fd : FuncData} {k : Nat}
theorem nE {M:Addr->Prop}{H:Hp}:∀ {us:List V}{ls:List (Int × Int)},Reps K M H us (ls.map fun l=>PV.tup [.int l.1,.int l.2])->jW H us ls
 | _,[],.nil=>.nil
 | _,l :: ls,.cons r t=>by
  obtain ⟨a,us,rfl,h,r1⟩:=r.sqT
  obtain ⟨u1,u2,rfl,q1,q2⟩:=r1.two
  cases q1; cases q2
  exact .cons ⟨a,rfl,h⟩ (nE t)
theorem au8 {M:Addr->Prop}{H:Hp}{v:V}{ws:List Int}{ls:List (Int × Int)} (r:a9 K M H v (Core.cE ws ls)):xS H v ws ls:=by
 obtain ⟨a,us,rfl,h,r1⟩:=a9.sqT r
 obtain ⟨u1,u2,rfl,q1,q2⟩:=r1.two
 obtain ⟨p,up,rfl,hp,rp⟩:=q1.sqT
 obtain ⟨q,uq,rfl,hq,rq⟩:=q2.sqT
 obtain rfl:=rp.ofInts
 exact⟨a,p,q,uq,rfl,h,hp,hq,nE rq⟩
theorem E2 {M:Addr->Prop}{H:Hp}:∀ {bs:List Addr}{ls:List (Int × Int)} (off:Nat),(∀ b ∈ bs,M b)->(∀ (k:Nat) b,bs[k]? = some b->H b=some (.lst ((aG ls ((off+k:Nat):Int)).map V.int)))->Reps K M H (bs.map V.ref) ((List.range' off bs.length).map fun (k:Nat)=>PV.lst (intz (aG ls k)))
 | [],_,_,_,_=>.nil
 | b :: bs,ls,off,hm,h=>by
  refine .cons (.lst (hm b aM2) (h 0 b rfl) (Reps.intz _)) (E2 (off+1) (fun c hc=>hm c (aL5 _ hc)) fun k c hk=>?_)
  have:=h (k+1) c (by rw [aP9]; exact hk)
  rw [show off+1+k=off+(k+1) by omega]; exact this
theorem au9 (F:cH P w K mg base dF k f fd ["web"] E1) (b:gA K fd ["web"] []) (kp:PySem.W.keepIn K (.ref f)=true) (m:mg "near_lists" = some (.ref f)):Df P w K mg base k "near_lists" ["web"] Core.tM:=by
 refine⟨f,fd,F.imp fun vs H Q E h=>?_,b,kp,m⟩
 obtain ⟨xs,Qp,r,⟨ws,ls,rfl,wb,q⟩,k⟩:=h
 obtain ⟨v,rfl,r1⟩:=r.one
 have:=wb.few
 have:=wb.most
 refine⟨v,ws,ls,rfl,au8 r1,by omega,by omega,wb.links,fun t bs H' hb R=>k _ H' _ R.same (.lst R.new R.row ?_) q⟩
 have:=E2 (K:=K) (M:=fun a=>H a=none) (H:=H') (bs:=bs) (ls:=ls) 0 (fun b hb=>(R.news b hb).1) fun k b hk=>by rw [Nat.zero_add]; exact R.rows k b hk
 rw [hb,<- List.range_eq_range'] at this
 exact this
end
end PP
namespace Core
open PySem L2 PP
noncomputable def two (l:Int × Int):List Int:=[l.1,l.2]
noncomputable def mG (r:List Int):Int × Int:=(r.getD 0 0,r.getD 1 0)
theorem tQ (ls:List (Int × Int)):aZ ls=(ls.map two).map fun r=>PV.tup (intz r):=by
 unfold aZ
 rw [List.map_map]; rfl
theorem av0 {zs:List (List Int)}{ls:List (Int × Int)} (h:zs.Perm (ls.map two)):∃ ls':List (Int × Int),zs=ls'.map two/\ls'.Perm ls:=by
 refine⟨zs.map mG,?_,?_⟩
 ·rw [List.map_map]
  have:∀ z ∈ zs,(two ∘ mG) z=z:=fun z hz=>by
   obtain ⟨l,_,rfl⟩:=aO8.mp (h.mem_iff.mp hz)
   rfl
  rw [List.map_congr_left this,List.map_id']
 ·have:=h.map mG
  rw [List.map_map] at this
  have e:ls.map (mG ∘ two)=ls:=by
   have:∀ l ∈ ls,(mG ∘ two) l=id l:=fun l _=>rfl
   rw [List.map_congr_left this,List.map_id]
  rw [e] at this
  exact this
theorem av1 {ls:List (Int × Int)} (so:(ls.map two).Pairwise fun u v=>HT.gB v u=false) (nd:ls.Nodup):ls.Pairwise kO:=by
 rw [aU9] at so
 refine (List.pairwise_and_iff.mpr ⟨so,nd⟩).imp fun {a b} h=>?_
 obtain ⟨h1,h2⟩:=h
 unfold two at h1
 rw [HT.lH] at h1
 unfold kO
 by_cases e:b.1=a.1
 ·rw [if_pos e,HT.lH] at h1
  by_cases e2:b.2=a.2
  ·exact absurd (Prod.ext e.symm e2.symm) h2
  ·rw [if_neg e2] at h1
   have:=of_decide_eq_false h1
   omega
 ·rw [if_neg e] at h1
  have:=of_decide_eq_false h1
  omega
noncomputable def eG (l:Int × Int):List a7:=[Sum.inl l.1,Sum.inl l.2]
structure DL (n:Int) (ps:List (List a7 × PV)) (i:Nat):Prop where
 key:∀ p ∈ ps,∃ l:Int × Int,p.1=eG l/\0<=l.1/\l.1 < l.2/\l.2 < n
 len:ps.length<=i
 fl:flats (ps.map (·.2))=true
 nd:(ps.map (·.1)).Nodup
theorem av2 {κ:Type} [DecidableEq κ] {ps:List (κ × PV)} (k:κ) (v:PV) (h:(ps.map (·.1)).Nodup):((cO ps k v).map (·.1)).Nodup:=by
 unfold cO
 split
 ·rw [List.map_map]
  have:((fun x:κ × PV=>x.1) ∘ fun kv:κ × PV=>if kv.1=k then (kv.1,v) else kv)=fun x=>x.1:=by
   funext x
   show (if x.1=k then (x.1,v) else x).1=x.1
   split <;> rfl
  rw [this]; exact h
 ·rename_i hn
  rw [aS0]
  refine List.nodup_append.mpr ⟨h,aR3 _ _,fun x hx y hy e=>hn ?_⟩
  obtain ⟨p,hp,rfl⟩:=aO8.mp hx
  rw [aK7.mp hy] at e
  exact List.any_eq_true.mpr ⟨p,hp,aL2 e⟩
theorem av3 {κ:Type} [DecidableEq κ] {ps:List (κ × PV)}{k:κ}{v:PV}{p:κ × PV} (h:p ∈ cO ps k v):p.1=k ∨ ∃ q ∈ ps,q.1=p.1:=by
 unfold cO at h
 split at h
 ·obtain ⟨q,hq,e⟩:=aO8.mp h
  split at e
  ·subst e; exact .inr ⟨q,hq,rfl⟩
  ·subst e; exact .inr ⟨q,hq,rfl⟩
 ·rcases aM6.mp h with h | h
  ·exact .inr ⟨p,h,rfl⟩
  ·rw [aK7.mp h]; exact .inl rfl
theorem DL.put {n:Int}{ps:List (List a7 × PV)}{i:Nat} (h:DL n ps i) (l:Int × Int) (hl:0<=l.1/\l.1 < l.2/\l.2 < n):DL n (cO ps (eG l) (.bl true)) (i+1):=by
 refine⟨fun p hp=>?_,?_,at9 h.fl rfl,av2 _ _ h.nd⟩
 ·rcases av3 hp with e | ⟨q,hq,e⟩
  ·exact⟨l,e,hl⟩
  ·obtain ⟨l',e',h'⟩:=h.key q hq
   exact⟨l',e ▸ e',h'⟩
 ·have:=at7 ps (eG l) (.bl true)
  have:=h.len
  omega
theorem DL.links {n:Int}:∀ {ps:List (List a7 × PV)},(∀ p ∈ ps,∃ l:Int × Int,p.1=eG l/\0<=l.1/\l.1 < l.2/\l.2 < n)->∃ ls:List (Int × Int),(ps.map fun p=>PV.tup (p.1.map kP))=aZ ls/\(∀ l ∈ ls,0<=l.1/\l.1 < l.2/\l.2 < n)/\ls.length=ps.length/\ps.map (·.1)=ls.map eG
 | [],_=>⟨[],rfl,(fun _ h=>nomatch h),rfl,rfl⟩
 | p :: ps,h=>by
  obtain ⟨l,e,hl⟩:=h p aM2
  obtain ⟨ls,h1,h2,h3,h4⟩:=DL.links (ps:=ps) fun q hq=>h q (aL5 _ hq)
  refine⟨l :: ls,?_,fun m hm=>?_,by rw [aP6,aP6,h3],by rw [aP4,aP4,h4,e]⟩
  ·rw [aP4,h1,e]; rfl
  ·rcases aM4.mp hm with rfl | hm
   ·exact hl
   ·exact h2 m hm
theorem av4 {x:PV}{ns:List Int} (h:fD x ns):(Slot.sh (flat x) x).tag = .rd->flat x=true:=by
 cases flat x <;> intro z <;> cases z
theorem tR (ns:List Int) {k:Int} (h:0<=k):dI (intz ns) (some k) none=intz (ns.drop k.toNat):=by
 unfold dI
 have e1:HT.aM (intz ns).length 0 (some k)=min k.toNat (intz ns).length:=by
  have:=HT.X6 (intz ns).length 0 k.toNat
  rw [show ((k.toNat:Nat):Int)=k by omega] at this
  exact this
 have e2:HT.aM (intz ns).length (intz ns).length none=(intz ns).length:=rfl
 rw [e1,e2,bR]
 rw [aO0 (by rw [aS3,bR]; omega)]
 show _=List.map PV.int _
 rw [List.map_drop]
 by_cases hk:k.toNat<=ns.length
 ·rw [Nat.min_eq_left hk]
 ·rw [Nat.min_eq_right (by omega),List.drop_of_length_le (by rw [bR]; omega),List.drop_of_length_le (by rw [bR]; omega)]
structure tS (i:Int) (ms:List Int):Prop where
 up:ms.Pairwise (· < ·)
 inn:∀ x ∈ ms,0<=x/\x < i
 len:(ms.length:Int)<=i
theorem tS.set {n:Nat}{ms:List Int} (h:tS (n:Int) ms):dW n ms=true:=by
 unfold dW
 rw [tJ h.up,Bool.true_and,aT1]
 intro b hb
 obtain ⟨x,hx,rfl⟩:=aO8.mp hb
 have:=h.inn x hx
 unfold inB
 simp [this]
theorem av5:∀ {a b:List Int},a.Perm b->a.Pairwise (· <= ·)->b.Pairwise (· <= ·)->a=b:=by
 intro a b h ha hb
 exact h.eq_of_pairwise (fun x y _ _ h1 h2=>Int.le_antisymm h1 h2) ha hb
noncomputable def E3:bP:=fun xs Q=>∃ ns:List Int,xs = [.scr ns]/\ns.length<=63/\Q (.bl true)
structure av6 (K:PySem.W.Frag):Prop where
 ii:PySem.W.kitOne K (.type "int") (.type "int")=some true
 ib:PySem.W.kitOne K (.type "int") (.type "bool")=some false
 tt:PySem.W.kitOne K (.type "tuple") (.type "tuple")=some true
 ll:PySem.W.kitOne K (.type "list") (.type "list")=some true
 bb:PySem.W.kitOne K (.type "bool") (.type "bool")=some true
theorem p6 (K:PySem.W.Frag):av6 K:=by
 have same:∀ n:String,PySem.W.kitMeta n=true->True:=fun _ _=>trivial
 refine⟨?_,?_,?_,?_,?_⟩
 ·unfold PySem.W.kitOne; rw [if_pos (by decide)]
 ·have e:(if PySem.W.kitMeta "bool" = true then (fastBuiltinMro "int").map (·.contains (Value.type "bool")) else none)=some false:=by decide +kernel
  unfold PySem.W.kitOne
  rw [if_neg (by decide)]
  exact e
 ·unfold PySem.W.kitOne; rw [if_pos (by decide)]
 ·unfold PySem.W.kitOne; rw [if_pos (by decide)]
 ·unfold PySem.W.kitOne; rw [if_pos (by decide)]
end Core
namespace PP
open PySem L2 PyProof.Rows
theorem av7 {P:Program}{w:World}{K:PySem.W.Frag}{mg:Str->Option Value}{base:Heap}{k:Nat}{x:Str}{ps N:List Str}{p:bP}{st:Stmt}{f:Addr}{fd:FuncData} (F:e9 K x x st f fd) (S:FnScope N ps (aS st))
  (len:∀ xs Q,p xs Q->xs.length=ps.length)
  (body:∀ (cdv:Value) (A:Around) (outer:List Env) (s:Shared) (H:Hp) (E:XK),bG k (A.deeper (envOfC x (aS st) s.heap.objs.size f cdv))->
   ∃ t,dJ (cI dF P w K mg base N x (aS st) f cdv A outer s H E).nox (dE st) t/\∀ xs Q,p xs Q->t { nx:=fun _=>Q .non,rt:=Q } (eC N xs)):cH P w K mg base dF (k+1) f fd ps (lV K p):=by
 refine F.ok S (fun vs H Q E h=>?_) (fun cdv A outer s H vs Q E hr h=>?_)
 ·obtain ⟨xs,Qp,r,q,_⟩:=h
  rw [r.length]; exact len xs Qp q
 ·obtain ⟨xs,Qp,r,q,k⟩:=h
  obtain ⟨t,ht,hq⟩:=body cdv A outer s H E hr
  refine⟨_,ht,fun _=>False,eC N xs,_,sX r,hq xs Qp q,?_,?_,?_,?_⟩
  ·exact fun W' σ' H' ρ' e px q=>k _ _ _ px.same .non q
  ·exact fun v H' x s r q=>k _ _ _ s r q
  ·exact fun W' σ' H' ρ' e px q=>q
  ·exact fun W' σ' H' ρ' e px q=>q
noncomputable def p7 (K:PySem.W.Frag):Sp:=fun vs H Q _=>∃ (a:Addr) (ns:List Int),vs = [.ref a]/\gK K H a ns/\ns.length<=63/\∀ H',Q (.bl true) H'
theorem av8 {P:Program}{w:World}{K:PySem.W.Frag}{mg:Str->Option Value}{base:Heap}{k:Nat}{f:Addr}{fd:FuncData} (F:cH P w K mg base dF k f fd ["script"] (lV K Core.E3)):cH P w K mg base dF k f fd ["script"] (p7 K):=
 F.imp fun vs H Q E h=>by
  obtain ⟨a,ns,rfl,hs,hl,q⟩:=h
  refine⟨[.scr ns],fun z=>z = .bl true,.cons (.scr hs) .nil,⟨ns,rfl,hl,rfl⟩,?_⟩
  rintro v H' x _ r rfl
  cases r
  exact q H'
theorem av9 {K:PySem.W.Frag}{H:Hp}{a:Addr}{ns:List Int} (hO:mY H) (h:aR K H a (ns.map V.int)):gK K H a ns:=by
 rcases h with (h | ⟨o,h⟩) | h
 ·rcases hO a with e | ⟨o,xs,e⟩ <;> (rw [h] at e; cases e)
 ·exact .inl ⟨o,h⟩
 ·exact .inr h
end PP
namespace PyProof.Rows
open PySem
end PyProof.Rows
namespace Zp
open PySem PyProof.Rows
theorem aw0 (t b:Addr) (xs ys:Array Value) (n n2:Nat) (dd dd2:Option Addr) (sl sl2:Array (Option Value)) (hx:xs.isEmpty=true):Meets (Builtin.«tuple.__add__» ⟨[.ref t,.ref b],[]⟩)
  (fun _ R s=>s.heap.get? t=some { cls:=.type "tuple",dict:=dd,data:=.seq xs n,slots:=sl }/\s.heap.get? b=some { cls:=.type "tuple",dict:=dd2,data:=.seq ys n2,slots:=sl2 }/\R (.ok (.ret (.ref b))) s):=
 .of_wp fun prog w A R s h=>by
  obtain ⟨h1,h2,h⟩:=h
  have sub:isSubtype (Value.type "tuple") (Value.type "tuple")=pure true:=rfl
  wp_walk
  exact⟨_,rfl,h⟩
end Zp
namespace L2
open PySem PySem.Spec PyProof.Rows
section
variable {X : Cx}
noncomputable def E4 (K:PySem.W.Frag):R2:=fun x y H Q=>∃ a b xs ys,x = .ref a/\y = .ref b/\aO K H a xs/\aO K H b ys/\xs.length+ys.length<=sizeLine/\
 (xs = []->Q (.ref b) H)/\(xs ≠ []->ys = []->Q (.ref a) H)/\(xs ≠ []->ys ≠ []->∀ p,H p=none->Q (.ref p) (upd H p (.tup (xs ++ ys))))
theorem aw1:bO X (binaryOp .Add) (E4 X.K):=by
 intro pins s σ H x y v u Q I rx ry h
 obtain ⟨a,b,xs,ys,ex,ey,ha,hb,hz,q0,q1,q2⟩:=h
 by_cases hx:xs = []
 ·subst ex ey
  cases rx
  cases ry
  obtain ⟨its,r1,p1,_⟩:=I.tuple ha
  obtain ⟨its2,r2,p2,_⟩:=I.tuple hb
  have hi:its = []:=r1.nil_iff.mpr hx
  obtain ⟨⟨cls,dd,data,sl⟩,ho,hc,n,hd⟩:=id p1
  obtain ⟨⟨cls2,dd2,data2,sl2⟩,ho2,hc2,n2,hd2⟩:=id p2
  simp only at hc hd hc2 hd2
  subst hc hd hc2 hd2
  exact concat_meets ⟨_,ho,rfl⟩ ⟨_,ho2,rfl⟩ noFill_tuple_add seq_tuple_add PySem.F.slot_tuple_add PySem.F.entry_tuple_add (PySem.F.args_tuple_add_2 _ _)
   (Zp.aw0 a b its.toArray its2.toArray n n2 dd dd2 sl sl2 (by simp [hi])) ⟨ho,ho2,⟨.ref b,H,I,rfl,q0 hx⟩⟩
 ·exact Z1 pins s σ H x y v u Q I rx ry ⟨a,b,xs,ys,ex,ey,ha,hb,hx,hz,q1 hx,q2 hx⟩
end
end L2
namespace PP
open PySem L2 PyProof.Rows
section
variable {X : Cx} {a b e o f : Expr} {ta tb te td tk tx : aA} {pos p2 apos cpos : Pos} {σ : L2.St} {H : Hp} {Q' : VK}
noncomputable def E5:PV->Tg->PV->Tg->PK->Prop:=fun x _ y _ Q=>∃ xs n,x = .lst xs/\y = .int n/\flats xs=true/\-1000000<=n/\n<=1000000/\xs.length<=10/\Q (.lst (List.replicate n.toNat xs).flatten) .fr
noncomputable abbrev E6 (ta tb:aA):aA:=q2 E5 ta tb
theorem aw2:dH X E5 wX:=by
 rintro W Hs H u v x y g g' Q Q' s n r1 r2 ⟨xs,m,rfl,rfl,f,h1,h2,hl,q⟩ k
 cases r2
 obtain ⟨a,us,rfl,mm,h,r⟩:=r1.sqL
 have lr:=r.length
 refine⟨a,m,us,rfl,rfl,h,by omega,by omega,lim ?_,fun p hp=>k _ _ _ .fr (bH hp _) (.lst (s.free hp) bK (((r.flat f).rep m.toNat).same (bH hp _) fun _ z=>z)) q⟩
 have h3:us.length<=10:=by omega
 have h4:m.toNat<=1000000:=by omega
 calc us.length * m.toNat<=10 * 1000000:=Nat.mul_le_mul h3 h4
  _<=16000000:=by decide
theorem aw3 (ha:QE X a ta) (hb:QE X b tb):QE X (.BinOp a .Mult b pos) (E6 ta tb):=j7 aa9 aw2 ha hb
end
section
variable {X : Cx} {a b : Expr} {ta tb : aA} {pos : Pos}
noncomputable def E7:PV->Tg->PV->Tg->PK->Prop:=fun x _ y _ Q=>∃ xs ys,x = .tup xs/\y = .tup ys/\flats xs=true/\flats ys=true/\xs.length+ys.length<=16000000/\Q (.tup (xs ++ ys)) .fr
noncomputable abbrev p8 (ta tb:aA):aA:=q2 E7 ta tb
theorem aw4:dH X E7 (E4 X.K):=by
 rintro W Hs H u v x y g g' Q Q' s n r1 r2 ⟨xs,ys,rfl,rfl,f1,f2,hl,q⟩ k
 obtain ⟨a,us,rfl,h1,q1⟩:=r1.sqT
 obtain ⟨b,ws,rfl,h2,q2⟩:=r2.sqT
 have l1:=q1.length
 have l2:=q2.length
 refine⟨a,b,us,ws,rfl,rfl,aO.of h1,aO.of h2,lim (by omega),fun z=>?_,fun _ z=>?_,fun _ _ p hp=>k _ _ _ .fr (bH hp _) (.tup bK (((q1.flat f1).append (q2.flat f2)).same (bH hp _) fun _ z=>z)) q⟩
 ·obtain rfl:xs = []:=by cases xs with
   | nil=>rfl
   | cons _ _=>rw [z] at l1; cases l1
  exact k _ _ _ .fr (a8.refl _) (.tup h2 (q2.flat f2)) q
 ·obtain rfl:ys = []:=by cases ys with
   | nil=>rfl
   | cons _ _=>rw [z] at l2; cases l2
  rw [aQ2] at q
  exact k _ _ _ .fr (a8.refl _) (.tup h1 (q1.flat f1)) q
theorem E8 (ha:QE X a ta) (hb:QE X b tb):QE X (.BinOp a .Add b pos) (p8 ta tb):=j7 aw1 aw4 ha hb
end
end PP
namespace Core
open PySem L2 PP
section
variable {ws : List Int} {ls : List (Int × Int)} {os ns : List Int}
noncomputable def aw5 (ws:List Int) (ls:List (Int × Int)) (T:List Int):Prop:=∀ h ∈ rng ws.length,kin ws ls T h=false
end
theorem jL {i:Nat}{h:Int}{g:Bool}{ρ:aX}{Q:aX->Prop} (q:Q (ρ.set i (some (.sh true (.int h))))):cJ i (.int h) g ρ Q:=by
 show Q (ρ.set i (some (.sh (g || true) (.int h))))
 rw [Bool.or_true]; exact q
noncomputable def aw6 (ns S:List Int):Int:=(ns.length:Int) - (((ns.filter fun x=>decide (x ∈ S)).length:Nat):Int)
noncomputable def aw7 (ws:List Int) (ls:List (Int × Int)) (S:List Int) (h:Int):Bool:=decide (aw6 (aG ls h) S < ws.getD h.toNat 0)
noncomputable def stay (ws:List Int) (ls:List (Int × Int)) (S:List Int):List Int:=S.filter (aw7 ws ls S)
theorem aw8 {n:Nat}{S:List Int} (h:dW n S=true) (p:Int->Bool):dW n (S.filter p)=true:=by
 obtain ⟨h1,h2⟩:=oZ h
 have u:tS (n:Int) (S.filter p):=⟨(mD h1).filter p,fun x hx=>h2 x (aP0.mp hx).1,by
  have:=au1 h
  have:=List.length_filter_le p S
  omega⟩
 exact u.set
section
variable {ws : List Int} {ls : List (Int × Int)} {S T : List Int}
theorem aw9 {n:Nat}{A B:List Int} (ha:dW n A=true) (hb:dW n B=true) (h:∀ x,x ∈ A ↔ x ∈ B):A=B:=by
 have ua:=mD (oZ ha).1
 have ub:=mD (oZ hb).1
 have p:A.Perm B:=(List.perm_ext_iff_of_nodup (ua.imp fun z=>Int.ne_of_lt z) (ub.imp fun z=>Int.ne_of_lt z)).mpr h
 exact av5 p (ua.imp fun z=>Int.le_of_lt z) (ub.imp fun z=>Int.le_of_lt z)
end
theorem ax0 {ps:List (a7 × PV)}{h:Int}{v:PV}{S:List Int} (e:ps.map (·.1)=S.map Sum.inl) (hn:h ∉ S):cO ps (Sum.inl h:a7) v=ps ++ [(Sum.inl h,v)]:=by
 unfold cO
 rw [if_neg]
 intro z
 rw [List.any_eq_true] at z
 obtain ⟨p,hp,hq⟩:=z
 have:p.1 ∈ ps.map (·.1):=aO8.mpr ⟨p,hp,rfl⟩
 rw [e,aT3 hq] at this
 obtain ⟨y,hy,e2⟩:=aO8.mp this
 exact hn (Sum.inl.inj e2 ▸ hy)
theorem cQ {ls:List (Int × Int)}{h x:Int}:x ∈ aG ls h ↔ ∃ l ∈ ls,(l.1=h/\l.2=x) ∨ (l.2=h/\l.1=x):=by
 unfold aG
 rw [List.mem_flatMap]
 constructor
 ·rintro ⟨l,hl,hx⟩
  refine⟨l,hl,?_⟩
  rcases aM6.mp hx with hx | hx
  ·split at hx
   ·rename_i e; exact .inl ⟨e,(aK7.mp hx).symm⟩
   ·cases hx
  ·split at hx
   ·rename_i e; exact .inr ⟨e,(aK7.mp hx).symm⟩
   ·cases hx
 ·rintro ⟨l,hl,⟨e1,e2⟩ | ⟨e1,e2⟩⟩
  ·exact⟨l,hl,aN5 _ (by rw [if_pos e1,e2]; exact aQ0 _)⟩
  ·exact⟨l,hl,aM1 _ (by rw [if_pos e1,e2]; exact aQ0 _)⟩
theorem E9 {h:Int}:∀ {ls:List (Int × Int)},(∀ l ∈ ls,l.1 < l.2)->ls.Pairwise kO->(aG ls h).Nodup
 | [],_,_=>.nil
 | l :: r,hl,hp=>by
  have ih:=E9 (h:=h) (ls:=r) (fun m hm=>hl m (aL5 _ hm)) (List.pairwise_cons.mp hp).2
  have h0:=hl l aM2
  have e:aG (l :: r) h=((if l.1=h then [l.2] else []) ++ (if l.2=h then [l.1] else [])) ++ aG r h:=rfl
  rw [e]
  refine List.nodup_append.mpr ⟨?_,ih,fun x hx y hy q=>?_⟩
  ·by_cases e1:l.1=h
   ·rw [if_pos e1,if_neg (by omega),aQ2]; exact aR3 _ _
   ·rw [if_neg e1]
    split
    ·exact aR3 _ _
    ·exact .nil
  ·subst q
   obtain ⟨m,hm,c⟩:=cQ.mp hy
   have h1:=hl m (aL5 _ hm)
   have h2:=(List.pairwise_cons.mp hp).1 m hm
   have c':(l.1=h/\l.2=x) ∨ (l.2=h/\l.1=x):=by
    rcases aM6.mp hx with hx | hx
    ·split at hx
     ·rename_i e; exact .inl ⟨e,(aK7.mp hx).symm⟩
     ·cases hx
    ·split at hx
     ·rename_i e; exact .inr ⟨e,(aK7.mp hx).symm⟩
     ·cases hx
   unfold kO at h2
   omega
theorem nB {ls:List (Int × Int)}{wts:List Int} (e:wts.length=ls.length):(ls.zip wts).map (·.2)=wts:=by
 rw [List.map_snd_zip]; omega
theorem ax1 (n:Nat):(rng n).Pairwise (· < ·):=by
 unfold rng
 rw [aU9]
 exact (List.pairwise_lt_range (n:=n)).imp fun h=>by omega
section
variable {ws : List Int} {ls : List (Int × Int)} {ns wts : List Int} {m : Nat}
noncomputable def loose (ls:List (Int × Int)) (wts ns:List Int):List ((Int × Int) × Int):=(ls.zip wts).filter fun z=>!(decide (z.1.1 ∈ ns) && decide (z.1.2 ∈ ns))
end
end Core
set_option maxHeartbeats 1000000
set_option maxHeartbeats 1000000
set_option maxHeartbeats 1000000
set_option maxHeartbeats 1000000
namespace PP
open PySem L2 PyProof.Rows
noncomputable abbrev eS:=(Str->Prop)->bP
noncomputable def EX (K:PySem.W.Frag) (H0:Hp) (Ep:Str->Prop):XK:=fun c d H'=>d=none/\a8 H0 H'/\∃ n C,c = .ref C/\PySem.W.nsIn K mainGlobals n=some (some (.ref C))/\Ep n
noncomputable def F0 (K:PySem.W.Frag) (p:eS):Sp:=fun vs H Q E=>∃ xs Qp Ep,Reps K (fun _=>True) H vs xs/\p Ep xs Qp/\(∀ v H' x,a8 H H'->a9 K (fun a=>H a=none) H' v x->Qp x->Q v H')/\
 ∀ n C H',a8 H H'->PySem.W.nsIn K mainGlobals n=some (some (.ref C))->Ep n->E (.ref C) none H'
structure dL (P:Program) (w:World) (K:PySem.W.Frag) (mg:Str->Option Value) (base:Heap) (k:Nat) (x:Str) (ps:List Str) (p:eS):Prop where
 ex:∃ f fd,cH P w K mg base (cW P w) k f fd ps (F0 K p)/\gA K fd ps []/\PySem.W.keepIn K (.ref f)=true/\mg x=some (.ref f)
section
variable {X : Cx} {σ : L2.St} {H : Hp} {D : c9} {tr : cB} {Q' : VK} {a b c e : Expr} {es : List Expr} {pos p2 cp np hp : Pos} {t : aJ} {te : aA} {tc : bM}
noncomputable def tT (Ep:Str->Prop) (p:eS) (t:cB):aA:=aK (p Ep) t
theorem F1 {p:eS}{Ep:Str->Prop} (h:LE X (tT Ep p tr) σ H Q'):qM (F0 X.K p) [] (EX X.K X.H₀ Ep) (LA X tr) σ H Q':=by
 obtain ⟨W,ρ,Q,px,q,k⟩:=h
 refine⟨W,ρ,_,px,q,fun vs H1 xs s1 r1 q1=>⟨_,_,Ep,by rw [aQ2]; exact r1.any,q1,fun v H' x s2 r2 q2=>k v H' x .fr (s1.trans s2) (r2.same (a8.refl _) fun _ z=>s1.free z) q2,fun n C H' s2 z1 z2=>⟨rfl,(px.same.trans s1).trans s2,n,C,rfl,z1,z2⟩⟩⟩
theorem ax2 {Ep:Str->Prop}{k j:Nat}{x:Str}{ps:List Str}{p:eS} (hX:kM X (EX X.K X.H₀ Ep)) (d:dL X.prog X.w X.K X.mg X.base k x ps p) (hr:bG j X.A) (ha:QA X (e :: es) tr) (hkj:k<=j:=by decide) (hg:Gl X x:=by rfl) (hdb:(x == ("__debug__" : Str))=false:=by decide)
  (he:starEach (e :: es) X.env=(false,eval e X.env) :: starEach es X.env:=by rfl) (hpl:(backTo pos (starEach es X.env)).any (·.1)=false:=by rfl):QE X (.Call (.Name x p2) (e :: es) [] pos) (tT Ep p tr):=by
 obtain ⟨f,fd,F,b,kp,m⟩:=d.ex
 exact bL (qN F (hr.mono hkj) hg m kp b .nil hX.pass ha hdb he hpl) fun _ _ _=>F1
theorem F2 {k j:Nat}{x:Str}{ps:List Str}{p:eS} (d:dL X.prog X.w X.K X.mg X.base k x ps p) (hr:bG j X.A) (ha:QA X (e :: es) tr) (hkj:k<=j:=by decide) (hg:Gl X x:=by rfl) (hdb:(x == ("__debug__" : Str))=false:=by decide)
  (he:starEach (e :: es) X.env=(false,eval e X.env) :: starEach es X.env:=by rfl) (hpl:(backTo pos (starEach es X.env)).any (·.1)=false:=by rfl):QE X (.Call (.Name x p2) (e :: es) [] pos) (aK (p fun _=>False) tr):=by
 obtain ⟨f,fd,F,b,kp,m⟩:=d.ex
 refine bL (qN F (E:=EX X.K X.H₀ fun _=>False) (hr.mono hkj) hg m kp b .nil (fun _ _ _ _ _ _ _ h=>?_) ha hdb he hpl) fun _ _ _ h=>F1 (Ep:=fun _=>False) h
 obtain ⟨_,_,_,_,_,_,_,_,_,_,_,_,z⟩:=h
 exact z.elim
noncomputable def tU (Ep:Str->Prop) (n:Str) (t:cB):aJ:=fun _ ρ=>t ρ fun xs=>xs.length<=1000/\Ep n
theorem ax3 {Ep:Str->Prop}{n:Str}{C:Addr} (hn:PySem.W.nsIn X.K mainGlobals n=some (some (.ref C))) (h:LS X (tU Ep n tr) D σ H):B1 (EX X.K X.H₀ Ep) C (LA X tr) D σ H:=by
 obtain ⟨W,ρ,D',px,q,k⟩:=h
 exact⟨W,ρ,_,px,q,fun vs H1 xs s1 r z=>⟨by rw [r.length]; exact rQ z.1,rfl,px.same.trans s1,n,C,rfl,hn,z.2⟩⟩
structure Xc (K:PySem.W.Frag) (mg:Str->Option Value) (base:Heap) (n:Str):Prop where
 ex:∃ C B newId initId bm,OwnCls n C bm newId mg base/\ExcBaseFacts B newId initId bm/\PySem.W.nsIn K mainGlobals n=some (some (.ref C))
theorem ax4 {Ep:Str->Prop}{n:Str} (hX:kM X (EX X.K X.H₀ Ep)) (x:Xc X.K X.mg X.base n) (ha:QA X (e :: es) tr) (hc:X.calm=true:=by rfl) (hg:Gl X n:=by rfl) (hd:(n == ("__debug__" : Str))=false:=by decide)
  (he:starEach (e :: es) X.env=(false,eval e X.env) :: starEach es X.env:=by rfl) (hpl:(backTo cp (starEach es X.env)).any (·.1)=false:=by rfl):QS X (.Raise (some (.Call (.Name n np) (e :: es) [] cp)) none pos) (tU Ep n tr):=by
 obtain ⟨C,B,newId,initId,bm,O,FB,hn⟩:=x.ex
 exact cT (aq8 hX hc O FB ha hg hd he hpl) fun _ _ _=>ax3 hn
noncomputable abbrev gU:=fC->(Str->Prop)->aX->Prop
noncomputable def LB (X:Cx) (t:gU):TB:=fun D Ex σ H=>∃ (W:Addr->Prop) (ρ:aX) (D':fC) (Ep:Str->Prop),PX X.K X.H₀ W σ ρ H/\t D' Ep ρ/\lS X W H D' D/\∀ n C H',a8 H H'->PySem.W.nsIn X.K mainGlobals n=some (some (.ref C))->Ep n->Ex (.ref C) none H'
noncomputable def QB (X:Cx) (sts:List Stmt) (t:gU):Prop:=PB X sts (LB X t)
theorem F3 {sts:List Stmt}{t t':TB} (h:PB X sts t) (m:∀ D Ex σ H,t' D Ex σ H->t D Ex σ H):PB X sts t':=fun pins s σ H D Ex I q=>h pins s σ H D Ex I (m D Ex σ H q)
noncomputable def tV (p:eS) (t:cB):gU:=fun D Ep ρ=>t ρ fun xs=>p Ep (xs.map (·.1)) fun _=>D.nx ρ
noncomputable def F4 (c:bM) (t u:gU):gU:=fun D Ep ρ=>c ρ fun b=>if b=true then t D Ep ρ else u D Ep ρ
theorem F5 {k j:Nat}{x:Str}{ps:List Str}{p:eS} (d:dL X.prog X.w X.K X.mg X.base k x ps p) (hr:bG j X.A) (ha:∀ E,QA (X.wish E) (e :: es) tr) (hkj:k<=j:=by decide) (hg:Gl X x:=by rfl) (hdb:(x == ("__debug__" : Str))=false:=by decide)
  (he:starEach (e :: es) X.env=(false,eval e X.env) :: starEach es X.env:=by rfl) (hpl:(backTo cp (starEach es X.env)).any (·.1)=false:=by rfl) (hsw:swapsWith (.Call (.Name x p2) (e :: es) [] cp) none pos.line X.env=pure false:=by rfl):QB X [.Expr (.Call (.Name x p2) (e :: es) [] cp) pos] (tV p tr):=by
 obtain ⟨f,fd,F,b,kp,m⟩:=d.ex
 refine F3 (ar3 (t:=LA X tr) F (hr.mono hkj) hg m kp b (fun E=>ha E) hdb he hpl hsw) fun D Ex σ H h=>?_
 obtain ⟨W,ρ,D',Ep,px,q,k,ke⟩:=h
 exact⟨W,ρ,_,px,q,fun vs H1 xs s1 r q1=>⟨_,_,Ep,r.any,q1,fun v H' x s2 r2 q2=>k.nx W σ H' ρ (Ev.same (s1.trans s2)) (px.mono (s1.trans s2)) q2,fun n C H' s2 z1 z2=>ke n C H' (s1.trans s2) z1 z2⟩⟩
theorem ax5 {sa sb:List Stmt}{tb ub:gU} (hc:∀ E,QT (X.wish E) c tc) (ha:QB X sa tb) (hb:QB X sb ub):QB X [.If c sa sb pos] (F4 tc tb ub):=by
 refine F3 (ar4 (tc:=LT X tc) (fun E=>hc E) ha hb) fun D Ex σ H h=>?_
 obtain ⟨W,ρ,D',Ep,px,q,k,ke⟩:=h
 refine⟨W,ρ,_,px,q,fun b H1 s1 q1=>?_⟩
 have ke':∀ n C H',a8 H1 H'->PySem.W.nsIn X.K mainGlobals n=some (some (.ref C))->Ep n->Ex (.ref C) none H':=fun n C H' s2 z1 z2=>ke n C H' (s1.trans s2) z1 z2
 cases b with
 | true=>exact bB ⟨W,ρ,D',Ep,px.mono s1,by simpa using q1,k.step (Ev.same s1),ke'⟩
 | false=>exact aW ⟨W,ρ,D',Ep,px.mono s1,by simpa using q1,k.step (Ev.same s1),ke'⟩
noncomputable def F6 (D:fC) (i:Nat):fC:={ nx:=fun ρ=>D.nx (ρ.set i none),rt:=D.rt,bk:=fun ρ=>D.bk (ρ.set i none),ct:=fun ρ=>D.ct (ρ.set i none) }
noncomputable def kR:List Str:=["BadWeb","BadSet","BadOrder","BadPrices","BadBoard","BadDeed","NotWood","NoPaper","NoSuch","TooMany","NoText","OddRound"]
noncomputable def jM (n m:Str):Option Bool:=if kR.contains n then some (n == m || m == "HearthError" || m == "ValueError") else none
noncomputable def tW (m:Str) (i:Nat) (tb:gU) (ts:aJ):aJ:=fun D ρ=>tb D (fun n=>jM n m=some true/\ts (F6 D i) (ρ.set i (some (.sh true (.exc n))))) ρ
theorem ax6 {m:Str}{Ch:Addr}{i:Nat}{tb:gU}{ts:aJ} (hs:∀ n C,jM n m=some true->PySem.W.nsIn X.K mainGlobals n=some (some (.ref C))->PySem.W.subIn X.K (.ref C) (.ref Ch)=some true) (h:LS X (tW m i tb ts) D σ H):B3 X.K Ch i (LB X tb) (LS X ts) D σ H:=by
 obtain ⟨W,ρ,D',px,q,k⟩:=h
 refine⟨W,ρ,D',_,px,q,k,fun n C H' s z1 z2 a C' oe hc na hcl=>?_⟩
 cases hc
 refine⟨hs n C z2.1 z1,W,_,F6 D' i,(px.mono (s.trans (bH na _))).setSh (g:=true) (.exc bK z1 hcl),z2.2,?_⟩
 have k':=k.step (Ev.same (W:=W) (s.trans (bH na (.frz oe (.own a)))))
 exact⟨fun W' σ' H2 ρ' ev px' q'=>k'.nx W' _ H2 _ ev px'.setNone q',k'.rt,fun W' σ' H2 ρ' ev px' q'=>k'.bk W' _ H2 _ ev px'.setNone q',fun W' σ' H2 ρ' ev px' q'=>k'.ct W' _ H2 _ ev px'.setNone q'⟩
structure tX (K:PySem.W.Frag) (mg:Str->Option Value) (m:Str):Prop where
 ex:∃ Ch,mg m=some (.ref Ch)/\tI K Ch/\∀ n C,jM n m=some true->PySem.W.nsIn K mainGlobals n=some (some (.ref C))->PySem.W.subIn K (.ref C) (.ref Ch)=some true
theorem ax7 (i:Nat) {m n:Str}{b₀:Stmt}{suite body:List Stmt}{tb:gU}{ts:aJ} (ct:tX X.K X.mg m) (hN:X.N.Nodup) (hb:QB X body tb) (hs:∀ a,dJ (X.suite a) (b₀ :: suite) ts) (hstk:X.stack=X.env :: X.outer/\X.env.frame=some X.env.locals:=by exact⟨rfl,rfl⟩) (hi:X.N[i]? = some n:=by rfl) (hl:X.env.scope.names.lookup n=some .local:=by rfl) (hg:Gl X m:=by rfl)
  (hd:(m == ("__debug__" : Str))=false:=by decide):QS X (.Try body [.ExceptHandler (some (.Name m np)) (some n) (b₀ :: suite) hp] [] [] pos) (tW m i tb ts):=by
 obtain ⟨Ch,hm,c,sub⟩:=ct.ex
 exact cT (ar5 (ts:=LS X ts) hstk hb hg hm c hN hi hl (fun a=>sL (hs a) fun _ _ _ ⟨W,ρ,D',px,q,k⟩=>⟨W,ρ,D',px,q,⟨k.nx,k.rt,k.bk,k.ct⟩⟩) hd) fun _ _ _=>ax6 sub
noncomputable def eZ:V->Value
 | .ref a=>.ref a
 | .ty n=>.type n
 | _=>.none
noncomputable def ax8 (K:PySem.W.Frag):List V->Hp->VK->Prop:=fun xs H Q=>∃ v v2 b,xs = [v,v2]/\eZ v2 ≠ .none/\((∃ a o C,v = .ref a/\H a=some (.frz o (.own a))/\o.cls = .ref C/\fY K C/\PySem.W.kitOne K (.ref C) (eZ v2)=some b) ∨ (v = .non/\PySem.W.kitOne K (.type "NoneType") (eZ v2)=some b))/\Q (.bl b) H
theorem ax9:cM X (.builtin "isinstance") (ax8 X.K):=by
 intro pins s σ H xs us Q I r h
 obtain ⟨v,v2,b,rfl,hv,hk,q⟩:=h
 obtain ⟨u,u',rfl,ru,ru'⟩:=lF r
 obtain rfl:u'=eZ v2:=by
  cases v2 <;> first | exact ru' | exact absurd rfl hv
 rcases hk with ⟨a,o,C,rfl,hH,hc,F,e⟩ | ⟨rfl,e⟩
 ·obtain ⟨h1,_⟩:=I.hok a _ hH
  cases (show u=Value.ref a from ru)
  exact aQ1 (as2 F) I.kIn ⟨o,h1,hc⟩ e (fun z=>nomatch z) fun tk=>⟨.bl b,H,I.tok tk,rfl,q⟩
 ·cases (show u=Value.none from ru)
  exact aQ1 PySem.W.kitx_none I.kIn trivial e (fun z=>nomatch z) fun tk=>⟨.bl b,H,I.tok tk,rfl,q⟩
noncomputable def ay0 (m:Str):PV->Option Bool
 | .exc n=>jM n m
 | .non=>some false
 | _=>none
noncomputable def kS (m:Str) (te:aA):aA:=fun ρ Q=>te ρ fun x _=>∃ b,ay0 m x=some b/\Q (.bl b) .fr
structure tY (K:PySem.W.Frag) (m:Str) (v2:V):Prop where
 nn:eZ v2 ≠ .none
 ex:∀ n C b,PySem.W.nsIn K mainGlobals n=some (some (.ref C))->jM n m=some b->fY K C/\PySem.W.kitOne K (.ref C) (eZ v2)=some b
 no:PySem.W.kitOne K (.type "NoneType") (eZ v2)=some false
theorem F7 {x:Str}{v2:V}{px:Pos} (B:Bt X.mg) (A:tY X.K x v2) (hx:PE X (.Name x px) (tC v2)) (ha:QE X a te) (hg:Gl X "isinstance":=by rfl)
  (he:starEach [a,.Name x px] X.env=(false,eval a X.env) :: starEach [.Name x px] X.env:=by rfl) (he2:starEach [.Name x px] X.env=(false,eval (.Name x px) X.env) :: starEach [] X.env:=by rfl) (hpl:(backTo pos (starEach [.Name x px] X.env)).any (·.1)=false:=by rfl):QE X (.Call (.Name "isinstance" p2) [a,.Name x px] [] pos) (kS x te):=
 bL (mW ax9 hg B.isinst PyProof.Rows.boot_isinstance (eI ha (eI hx fI he2) he) (he:=he) (hpl:=hpl)) fun σ H Q' h=>by
  obtain ⟨W,ρ,Q,px,q,k⟩:=h
  refine⟨W,ρ,_,px,q,?_⟩
  rintro v H1 y g s r ⟨b,e,q⟩
  refine⟨v,v2,b,rfl,A.nn,?_,k _ _ _ .fr s (.bl _) q⟩
  cases r with
  | exc h z c=>
   obtain ⟨F,kt⟩:=A.ex _ _ _ z e
   exact .inl ⟨_,_,_,rfl,h,c,F,kt⟩
  | non=>cases e; exact .inr ⟨rfl,A.no⟩
  | _=>cases e
end
section
variable {X : Cx} {a : Expr} {pos p2 px : Pos} {te : aA}
structure mH (K:PySem.W.Frag) (mg:Str->Option Value) (m:Str):Prop where
 ex:∃ C,mg m=some (.ref C)/\tY K m (.ref C)
structure tZ (K:PySem.W.Frag) (mg:Str->Option Value):Prop where
 mg:mg "ValueError" = none
 is:tY K "ValueError" (.ty "ValueError")
theorem F8 {x:Str} (B:Bt X.mg) (A:mH X.K X.mg x) (ha:QE X a te) (hgx:Gl X x:=by rfl) (hdx:(x == ("__debug__" : Str))=false:=by decide) (hg:Gl X "isinstance":=by rfl)
  (he:starEach [a,.Name x px] X.env=(false,eval a X.env) :: starEach [.Name x px] X.env:=by rfl) (he2:starEach [.Name x px] X.env=(false,eval (.Name x px) X.env) :: starEach [] X.env:=by rfl) (hpl:(backTo pos (starEach [.Name x px] X.env)).any (·.1)=false:=by rfl):QE X (.Call (.Name "isinstance" p2) [a,.Name x px] [] pos) (kS x te):=by
 obtain ⟨C,m,i⟩:=A.ex
 exact F7 B i (R4 hgx m rfl hdx) ha hg he he2 hpl
theorem ay1 (B:Bt X.mg) (A:tZ X.K X.mg) (ha:QE X a te) (hgx:Gl X "ValueError":=by rfl) (hg:Gl X "isinstance":=by rfl)
  (he:starEach [a,.Name "ValueError" px] X.env=(false,eval a X.env) :: starEach [.Name "ValueError" px] X.env:=by rfl) (he2:starEach [.Name "ValueError" px] X.env=(false,eval (.Name "ValueError" px) X.env) :: starEach [] X.env:=by rfl) (hpl:(backTo pos (starEach [.Name "ValueError" px] X.env)).any (·.1)=false:=by rfl):QE X (.Call (.Name "isinstance" p2) [a,.Name "ValueError" px] [] pos) (kS "ValueError" te):=
 F7 B A.is (uU (v:=.ty "ValueError") hgx A.mg PyProof.Rows.Boot.«ValueError» rfl (by decide) (by decide)) ha hg he he2 hpl
end
structure jN (K:PySem.W.Frag) (C:Addr):Prop where
 cls:PySem.W.isClsIn K C=true
 ty:PySem.W.typeIn K (.ref C)=some (.type "type")
 ga:PySem.W.findIn K (.ref C) "__getattribute__" = some (some (.builtin "BaseException.__getattribute__"))
 gt:PySem.W.findIn K (.ref C) "__getattr__" = some none
 fc:PySem.W.findIn K (.ref C) "__class__" = some (some (.builtin "object.__class__"))
 fg:PySem.W.specialIn K (.builtin "object.__class__") "__get__" = some (some (.builtin "getset_descriptor.__get__"))
 ft:PySem.W.takesIn K (.builtin "object.__class__")=some true
 ob:PySem.W.mroIn K C (.type "object")=some true
 be:PySem.W.mroIn K C (.type "BaseException")=some true
theorem jN.exc {K:PySem.W.Frag}{C:Addr} (h:jN K C):fY K C:=⟨h.cls,h.ga,h.gt,h.fc,h.fg,h.ft,h.ob,h.be⟩
theorem ay2 {K:PySem.W.Frag}{h₀:Heap}{mg:Str->Option Value}{x:Str}{C:Addr}{bmB:List Value}{newId:String} (X:K.In h₀) (m:mg x=some (.ref C)) (q:PySem.W.excIn K C bmB newId=true):OwnCls x C bmB newId mg h₀:=by
 refine⟨m,?_⟩
 unfold PySem.W.excIn at q
 split at q
 case h_2=>cases q
 rename_i dd cd sl ho
 split at q
 case h_2=>cases q
 rename_i C' bm k0 k1 k2 k3 n k5 hm hs
 simp only [aO5,beq_iff_eq,Bool.not_eq_true'] at q
 obtain ⟨⟨⟨⟨⟨rfl,rfl⟩,dl⟩,ht⟩,hok⟩,hni⟩:=q
 obtain ⟨nm,bs,mro,ns,qn,hd,sn,sub,ab,col,del⟩:=cd
 dsimp only at hm dl hok hni
 subst hm dl
 obtain rfl:sl = #[k0,k1,k2,k3,some (.builtin n),k5]:=by
  obtain ⟨l⟩:=sl
  exact congrArg Array.mk hs
 exact⟨bm,ns,nm,qn,bs,hd,sn,sub,ab,col,dd,k0,k1,k2,k3,k5,_,X _ _ ho,.of_isNs (PySem.W.isNs_of_in X hok),PySem.W.nsMap_none_of_in X hok hni,PySem.W.tail_of_in X ht⟩
theorem p9 {n m:Str}{b:Bool} (h:jM n m=some b):n ∈ kR/\b=(n == m || m == "HearthError" || m == "ValueError"):=by
 unfold jM at h
 split at h
 ·rename_i z
  exact⟨by simpa using z,by cases h; rfl⟩
 ·cases h
theorem F9 {K:PySem.W.Frag}{C D:Addr}{b:Bool} (hd:jN K D) (ne:(C == D)=false) (s:PySem.W.subIn K (.ref C) (.ref D)=some b):PySem.W.kitOne K (.ref C) (.ref D)=some b:=by
 have ne':(Value.ref C == Value.ref D)=false:=by
  rw [aW3] at ne ⊢
  exact fun z=>ne (Value.ref.inj z)
 have c:=hd.cls
 unfold PySem.W.isClsIn at c
 unfold PySem.W.kitOne PySem.W.kitCls
 rw [if_neg (by rw [ne']; decide)]
 dsimp only
 rw [if_pos (by rw [c,hd.ty]; decide)]
 exact s
theorem G0 {K:PySem.W.Frag}{C:Addr}:PySem.W.kitOne K (.ref C) (.ref C)=some true:=by
 unfold PySem.W.kitOne
 rw [if_pos (aR2 _)]
theorem G1 {K:PySem.W.Frag}{C:Addr} (s:PySem.W.subIn K (.ref C) (.type "ValueError")=some true):PySem.W.kitOne K (.ref C) (.type "ValueError")=some true:=by
 unfold PySem.W.kitOne PySem.W.kitCls
 rw [if_neg (fun z=>by cases beq_iff_eq.mp z)]
 dsimp only
 rw [if_pos (by decide +kernel)]
 exact s
theorem G2 {K:PySem.W.Frag}{D:Addr} (hd:jN K D) (s:PySem.W.subIn K (.type "NoneType") (.ref D)=some false):PySem.W.kitOne K (.type "NoneType") (.ref D)=some false:=by
 have c:=hd.cls
 unfold PySem.W.isClsIn at c
 unfold PySem.W.kitOne PySem.W.kitCls
 rw [if_neg (fun z=>by cases beq_iff_eq.mp z)]
 dsimp only
 rw [if_pos (by rw [c,hd.ty]; decide)]
 exact s
theorem ay3 {K:PySem.W.Frag}:PySem.W.kitOne K (.type "NoneType") (.type "ValueError")=some false:=by
 have e:(if PySem.W.kitMeta "ValueError" = true then (fastBuiltinMro "NoneType").map (·.contains (Value.type "ValueError")) else none)=some false:=by decide +kernel
 unfold PySem.W.kitOne
 rw [if_neg (by decide)]
 exact e
theorem dL.of {P:Program}{w:World}{K:PySem.W.Frag}{mg:Str->Option Value}{base:Heap}{k:Nat}{x:Str}{ps N:List Str}{p:eS}{st:Stmt}{f:Addr}{fd:FuncData} (F:e9 K x x st f fd) (m:mg x=some (.ref f)) (S:FnScope N ps (aS st))
  (hb:∀ (kV doc pm:Value) (an:Option Addr) (cdv ct:Value) (us:List Value),us.length=ps.length->bindArgs (PySem.W.fnOf x x (gG st) (dE st) (aS st) .none kV doc pm an cdv ct) ⟨us,[]⟩=pure (ps.zip us))
  (t:(Str->Prop)->aJ) (len:∀ Ep xs Q,p Ep xs Q->xs.length=ps.length) (rd:∀ Ep xs Q,p Ep xs Q->t Ep { nx:=fun _=>Q .non,rt:=Q } (eC N xs))
  (body:∀ (cdv:Value) (A:Around) (outer:List Env) (s:Shared) (H:Hp) (E:XK) (Ep:Str->Prop),bG k (A.deeper (envOfC x (aS st) s.heap.objs.size f cdv))->kM (cI (cW P w) P w K mg base N x (aS st) f cdv A outer s H E) (EX K H Ep)->
   dJ (cI (cW P w) P w K mg base N x (aS st) f cdv A outer s H E) (dE st) (t Ep)):dL P w K mg base (k+1) x ps p:=by
 refine⟨f,fd,F.okX S (fun vs H Q E h=>?_) (fun cdv A outer s H vs Q E hr h=>?_),F.binds hb,F.kp,m⟩
 ·obtain ⟨xs,Qp,Ep,r,q,_⟩:=h
  rw [r.length]; exact len Ep xs Qp q
 ·obtain ⟨xs,Qp,Ep,r,q,k,ke⟩:=h
  have ht:=body cdv A outer s H E Ep hr (aq7 fun c d H' z=>?_)
  ·refine⟨_,ht,fun _=>False,eC N xs,_,sX r,rd Ep xs Qp q,?_,?_,?_,?_⟩
   ·exact fun W' σ' H' ρ' e px q=>k _ _ _ px.same .non q
   ·exact fun v H' x s r q=>k _ _ _ s r q
   ·exact fun W' σ' H' ρ' e px q=>q
   ·exact fun W' σ' H' ρ' e px q=>q
  ·obtain ⟨rfl,s1,n,C,rfl,z1,z2⟩:=z
   exact ke n C H' s1 z1 z2
end PP
namespace Core
open PySem L2 PP
noncomputable abbrev G3 (t:(Str->Prop)->aJ) (N:List Str) (p:eS):Prop:=∀ Ep xs Q,p Ep xs Q->t Ep { nx:=fun _=>Q .non,rt:=Q } (eC N xs)
end Core
namespace PP
open PySem L2
theorem pA {us:List Value} (h:us.length=1):∃ a,us = [a]:=List.length_eq_one_iff.mp h
theorem G4 {us:List Value} (h:us.length=2):∃ a b,us = [a,b]:=by
 cases us with
 | nil=>cases h
 | cons a r=>
  obtain ⟨b,rfl⟩:=pA (us:=r) (by simpa using h)
  exact⟨a,b,rfl⟩
section
variable {X : Cx} {e : Expr} {tk : aA} {D : c9} {σ : St} {H : Hp} {pos : Pos}
noncomputable def u0 (i:Nat) (tk:aA):aJ:=fun D ρ=>∃ ps,ρ[i]? = some (some (.own (.dT ps)))/\tk ρ fun y _=>∃ k,y = .tup (k.map kP)/\(∃ j:Nat,(ps.map (·.1))[j]? = some k)/\∀ j:Nat,(ps.map (·.1))[j]? = some k->D.nx (ρ.set i (some (.own (.dT (ps.eraseIdx j)))))
theorem ay4 {i:Nat} (h:LS X (u0 i tk) D σ H):mR (B7 (fS i) (LE X tk)) D σ H:=by
 obtain ⟨W,ρ,D',px,⟨ps,hi,q⟩,k⟩:=h
 obtain ⟨v,ev,a,rfl,wa,kvs,ea,e1,r⟩:=px.sl i _ hi
 refine⟨_,ev,a,rfl,.inr ⟨kvs,.inl ea⟩,W,ρ,_,px,q,?_⟩
 rintro kv H2 y g s ry ⟨kk,rfl,is,q⟩
 obtain ⟨b,us,rfl,hb,rb⟩:=ry.sqT
 obtain rfl:=nT rb
 have ea2:=s _ _ ea
 refine⟨kvs,kk,b,ea2,rfl,hb,by rw [e1]; exact is,fun j v hj=>?_⟩
 rw [e1] at hj
 refine k.nx W σ _ _ ((Ev.same s).trans (Ev.upd wa)) ((px.mono s).updT hi ev wa ⟨?_,?_⟩) (q j hj)
 ·rw [Raw.jH,Raw.jH,e1]
 ·rw [Raw.jH,Raw.jH]
  exact ((r.same s fun _ z=>z).eraseIdx j).keep (.upd ea2 rfl fun b m=>⟨iV wa m,m⟩)
theorem ay5 (i:Nat) {x:Str}{apos cpos xpos:Pos} (hu:X.A.units+1 < cLine) (he:QE X e tk) (hm:M1 X (.Name x xpos) "pop" apos e cpos:=by exact⟨rfl,rfl,rfl,rfl⟩) (hN:X.N[i]? = some x:=by rfl) (hv:eV X.env.scope x:=by first | exact Or.inl rfl | exact Or.inr (Or.inl rfl) | exact Or.inr (Or.inr rfl)) (hd:(x == ("__debug__" : Str))=false:=by decide) (hcd:(x == ("__classdict__" : Str))=false:=by decide)
  (hsw:swapsWith (.Call (.Attribute (.Name x xpos) "pop" apos) [e] [] cpos) none pos.line X.env=pure false:=by rfl):QS X (.Expr (.Call (.Attribute (.Name x xpos) "pop" apos) [e] [] cpos) pos) (u0 i tk):=
 cT (l9 (as6 hu (g9 hN hv hd hcd) he hm) hsw) fun _ _ _=>ay4
end
end PP
namespace Core
open PySem L2 PP
noncomputable def kT:bP:=fun xs Q=>∃ c k:Int,xs = [.int c,.int k]/\0<=k/\k<=1000/\∀ z:Int,0<=z->Q (.int z)
noncomputable def G5:aJ:=(aN (bJ 2 (dA (sI (iA (iA (dA (a6 0) (qC (.int 1000000007))) (sI (a6 1) (a6 1))) (qC (.int 1))) (qC (.int 48271))) (qC (.int 2147483647))))
 (bW (j6 (dA (sI (a6 2) (a6 2)) (qC (.int 2147483647))) (qC (.int 8)))))
theorem ay6:dU G5 ["cell","k","turn"] kT:=by
 rintro xs Q ⟨c,k,rfl,k0,k1,q⟩
 refine⟨_,rfl,_,_,rfl,rfl,(by show (0:Int) < 1000000007; decide),_,rfl,_,rfl,_,_,rfl,rfl,.inl ⟨by show -(2 ^ 64) < k; omega,by show k < 2 ^ 64; omega⟩,_,_,rfl,rfl,_,_,rfl,rfl,_,_,rfl,rfl,.inr ⟨by decide,by decide⟩,_,_,rfl,rfl,(by show (0:Int) < 2147483647; decide),trivial,?_⟩
 dsimp only
 have t0:0<=(c % 1000000007+k * k+1) * 48271 % 2147483647:=aY4 _ (by decide)
 have t1:(c % 1000000007+k * k+1) * 48271 % 2147483647 < 2147483647:=aX9 _ (by decide)
 generalize (c % 1000000007+k * k+1) * 48271 % 2147483647=t at t0 t1
 refine⟨_,rfl,_,rfl,_,_,rfl,rfl,.inl ⟨by show -(2 ^ 64) < t; omega,by show t < 2 ^ 64; omega⟩,_,_,rfl,rfl,(by show (0:Int) < 2147483647; decide),_,_,rfl,rfl,⟨by decide,by decide⟩,trivial,q _ ?_⟩
 have:=aY4 (t * t) (show (2147483647:Int) ≠ 0 by decide)
 omega
noncomputable abbrev DK (n:Int) (ps:List (List a7 × PV)):Prop:=DL n ps ps.length
theorem DL.dk {n:Int}{ps:List (List a7 × PV)}{i:Nat} (h:DL n ps i):DK n ps:=⟨h.key,aK4 _,h.fl,h.nd⟩
theorem DK.nil (n:Int):DK n []:=⟨(fun _ h=>nomatch h),aK4 _,rfl,.nil⟩
theorem u5:∀ (m:Nat) (l:List Nat),l.Nodup->(∀ x ∈ l,x < m)->l.length<=m
 | 0,[],_,_=>aK4 _
 | 0,x :: _,_,h=>absurd (h x aM2) (Nat.not_lt_zero _)
 | m+1,l,nd,h=>by
  by_cases hm:m ∈ l
  ·have h1:=u5 m (l.erase m) (nd.erase m) fun x hx=>by
    obtain ⟨h2,h3⟩:=(nd.mem_erase_iff).mp hx
    have:=h x h3
    omega
   rw [List.length_erase_of_mem hm] at h1
   omega
  ·have h1:=u5 m l nd fun x hx=>by
    have:=h x hx
    have:x ≠ m:=fun z=>hm (z ▸ hx)
    omega
   omega
theorem fD.seqTF {x:PV}{ns:List Int} (h:fD x ns):rV x=some (intz ns):=by rcases h with rfl | rfl <;> rfl
theorem DK.put {n:Int}{ps:List (List a7 × PV)} (h:DK n ps) (l:Int × Int) (hl:0<=l.1/\l.1 < l.2/\l.2 < n):DK n (cO ps (eG l) (.bl true)):=(DL.put h l hl).dk
theorem DK.cut {n:Int}{ps:List (List a7 × PV)} (h:DK n ps) (j:Nat):DK n (ps.eraseIdx j):=
 ⟨fun p hp=>h.key p (List.mem_of_mem_eraseIdx hp),aK4 _,by
  rw [Raw.jH]
  have:∀ (j:Nat) {xs:List PV},flats xs=true->flats (xs.eraseIdx j)=true:=by
   intro j
   induction j with
   | zero=>
    intro xs h
    cases xs with
    | nil=>rfl
    | cons x r=>unfold flats at h; rw [aO5] at h; exact h.2
   | succ j ih=>
    intro xs h
    cases xs with
    | nil=>rfl
    | cons x r=>
     unfold flats at h
     rw [aO5] at h
     show (flat x && flats (r.eraseIdx j))=true
     rw [h.1,ih h.2]; rfl
  exact this j h.fl,(h.nd).sublist ((List.eraseIdx_sublist ps j).map _)⟩
noncomputable def u6 (i:Nat) (S:List Int):Prop:=S.Pairwise (· < ·)/\∀ x ∈ S,0<=x/\x < (i:Int)
theorem u6.set {i:Nat}{S:List Int} (h:u6 i S):dW i S=true:=by
 unfold dW
 rw [tJ h.1,Bool.true_and,aT1]
 intro b hb
 obtain ⟨x,hx,rfl⟩:=aO8.mp hb
 have:=h.2 x hx
 unfold inB
 simp only [id,aO5,aO3]
 exact this
end Core
namespace PP
open PySem L2
section
variable {X : Cx} {a b e : Expr} {ta tb : aA} {tr : cB} {D : c9} {σ : St} {H : Hp} {pos p2 p3 p4 : Pos}
noncomputable def G6:List PV->(PV->Prop)->Prop:=fun xs Q=>∃ ns:List Int,xs = [.tup (intz ns)]/\ns.Nodup/\ns.length<=1000/\Q (.int ns.length)
theorem ay7 (B:Bt X.mg) (bs:X.mg "set" = none) (hc:X.calm=true) (ha:QA X [e] tr) (hg:Gl X "len":=by rfl) (hg2:Gl X "set":=by rfl) (he:starEach [e] X.env=(false,eval e X.env) :: starEach [] X.env:=by rfl) (hpl:∀ p:Pos,(backTo p (starEach [] X.env)).any (·.1)=false:=by intro _; rfl)
  (he2:starEach [.Call (.Name "set" p3) [e] [] p4] X.env=(false,eval (.Call (.Name "set" p3) [e] [] p4) X.env) :: starEach [] X.env:=by rfl):QE X (.Call (.Name "len" p2) [.Call (.Name "set" p3) [e] [] p4] [] pos) (aK G6 tr):=
 bL (mW at4 hg B.len PySem.boot_len (eI (wC (at3 hc) hg2 bs PyProof.Rows.boot_set ha (by decide) (by decide) he (hpl _)) fI he2) (by decide) (by decide) he2 (hpl _)) fun σ H Q' h=>by
  obtain ⟨W,ρ,Q,px,q,k⟩:=h
  refine⟨W,ρ,_,px,q,fun vs H1 xs s1 r1 q1=>?_⟩
  obtain ⟨ns,e1,nd,hl,q⟩:=q1
  have r2:=r1.any
  rw [e1] at r2
  obtain ⟨v,rfl,r3⟩:=r2.one
  obtain ⟨p,us,rfl,hp,r4⟩:=r3.sqT
  obtain rfl:=r4.ofInts
  refine⟨p,ns,rfl,aO.of hp,nd,hl,fun l S hf=>⟨l,S,ns.length,rfl,bK,hl,?_⟩⟩
  exact k _ _ _ .fr (s1.trans (bH hf _)) (.int _) q
end
section
variable {X : Cx} {e : Expr} {tr : cB} {pos p2 : Pos}
noncomputable def u7:List PV->(PV->Prop)->Prop:=fun xs Q=>∃ ys:List (List Int),xs = [.lst (ys.map fun r=>PV.tup (intz r))]/\ys.length<=4096/\(∀ y ∈ ys,y.length=2)/\∀ zs:List (List Int),zs.Perm ys->zs.Pairwise (fun u v=>HT.gB v u=false)->Q (.lst (zs.map fun r=>PV.tup (intz r)))
theorem ay8:gL X u7 (B0 X.K):=by
 rintro H vs xs Q Q' r ⟨ys,rfl,hl,hne,q⟩ k
 obtain ⟨v,rfl,r1⟩:=r.one
 obtain ⟨a,us,rfl,_,h,r2⟩:=r1.sqL
 obtain ⟨h1,h2⟩:=C8 r2
 have lr:=r2.length
 rw [aL4] at lr
 refine⟨a,us,jK H,rfl,aR.of h,by omega,fun y hy=>?_,fun l zs hl' pm so=>?_⟩
 ·obtain ⟨b,rfl,hb⟩:=h2 y hy
  refine⟨b,rfl,aO.of hb,hne _ ?_⟩
  rw [<- h1]; exact aO8.mpr ⟨_,hy,rfl⟩
 ·have hz:∀ u ∈ zs,∃ b,u = .ref b/\H b=some (.tup ((jK H u).map V.int)):=fun u hu=>h2 u (pm.mem_iff.mp hu)
  refine k _ _ _ (bH hl' _) (.lst hl' bK ((C9 hz).same (bH hl' _) fun _ z=>z)) (q _ ?_ ?_)
  ·rw [<- h1]; exact pm.map _
  ·rw [aU9]; exact so
theorem ay9 (B:Bt X.mg) (ha:QA X [e] tr) (hg:Gl X "sorted":=by rfl) (he:starEach [e] X.env=(false,eval e X.env) :: starEach [] X.env:=by rfl) (hpl:(backTo pos (starEach [] X.env)).any (·.1)=false:=by rfl):QE X (.Call (.Name "sorted" p2) [e] [] pos) (aK u7 tr):=
 o8 aq4 ay8 hg B.sorted PyProof.Rows.boot_sorted ha (he:=he) (hpl:=hpl)
end
end PP
namespace Core
open PySem L2 PP
theorem DK.few40 {n:Int}{ps:List (List a7 × PV)} (h:DK n ps) (hn:n<=40):ps.length<=1600:=by
 obtain ⟨ls,_,e2,e3,e4⟩:=DL.links h.key
 have nd:ls.Nodup:=by
  have:=h.nd
  rw [e4] at this
  exact (aU9.mp this).imp fun h e=>h (congrArg eG e)
 have:=u5 1600 (ls.map fun l=>(l.1 * 40+l.2).toNat) (by
  refine aU9.mpr (nd.imp_of_mem fun {a b} ha hb hab e=>hab ?_)
  have:=e2 a ha
  have:=e2 b hb
  exact Prod.ext (by omega) (by omega)) fun x hx=>by
   obtain ⟨l,hl,rfl⟩:=aO8.mp hx
   have:=e2 l hl
   omega
 rw [aL4,e3] at this
 omega
noncomputable def pB:bP:=fun xs Q=>∃ c:Int,xs = [.int c]/\∀ z:Int,0<=z->z<=40->Q (.int z)
noncomputable def G7:aJ:=(aN (cN (aV (eD (dA (j6 (a6 0) (qC (.int 8))) (qC (.int 3))) (qC (.int 1)))) (bW (dA (j6 (a6 0) (qC (.int 24))) (qC (.int 41)))) cR)
 (bW (dA (a6 0) (qC (.int 8)))))
theorem az0:dU G7 ["cell"] pB:=by
 rintro xs Q ⟨c,rfl,q⟩
 refine⟨_,rfl,_,_,rfl,rfl,⟨by decide,by decide⟩,_,_,rfl,rfl,(by show (0:Int) < 3; decide),.inl ⟨_,_,rfl,rfl,_,rfl,?_⟩⟩
 cases h:(if false=true then !decide (c / 8 % 3=1) else decide (c / 8 % 3=1)) with
 | true=>exact bB ⟨_,rfl,_,_,rfl,rfl,⟨by decide,by decide⟩,_,_,rfl,rfl,(by show (0:Int) < 41; decide),trivial,q _ (aY4 _ (by decide)) (by have:=aX9 (c / 24) (show (0:Int) < 41 by decide); omega)⟩
 | false=>exact aW ⟨_,rfl,_,_,rfl,rfl,(by show (0:Int) < 8; decide),trivial,q _ (aY4 _ (by decide)) (by have:=aX9 c (show (0:Int) < 8 by decide); omega)⟩
end Core
namespace PP
open PySem L2
section
variable {X : Cx} {a : Expr} {tk : aA} {σ : St} {H : Hp} {Q' : VK} {pos p2 : Pos}
theorem G8 (hN:X.N.Nodup) (i j:Nat) {x y:Str}{apos cpos xpos:Pos} (hi:X.N[i]? = some x:=by rfl) (hj:X.N[j]? = some y:=by rfl) (hv:eV X.env.scope x:=by first | exact Or.inl rfl | exact Or.inr (Or.inl rfl) | exact Or.inr (Or.inr rfl)) (hd:(x == ("__debug__" : Str))=false:=by decide) (hcd:(x == ("__classdict__" : Str))=false:=by decide)
  (hbase:attributeBase (.Name x xpos) "pop" X.env (eval (.Name x xpos) X.env)=eval (.Name x xpos) X.env:=by rfl) (hline:(apos.endLine == cpos.line)=true:=by rfl)
  (hx:fR X.env.scope y:=by first | exact Or.inl rfl | exact Or.inr rfl) (hs:swapsWith (.Call (.Attribute (.Name x xpos) "pop" apos) [] [] cpos) (some (.Name y p2)) pos.line X.env=pure false:=by rfl) (hf:X.fn y=true ∨ X.env.scope.names.lookup y=some .local:=by first | exact .inl rfl | exact .inr rfl) :
  QS X (.Assign [.Name y p2] (.Call (.Attribute (.Name x xpos) "pop" apos) [] [] cpos) pos) (nM i j):=
 cT (qD hN hj hx (aa4 aW2 PySem.F.slot_list_pop PySem.F.type_list_pop aa7 (g9 hi hv hd hcd) hbase hline) hs hf) fun _ _ _=>ai1
end
end PP
namespace Core
open PySem L2 PP
theorem G9:∀ (g:Bool) {x:PV},flat x=true->Nw (Slot.sh g x).tag x
 | true,_,_=>trivial
 | false,_,h=>h
section
variable {ws : List Int} {ls : List (Int × Int)}
noncomputable def cne (ws:List Int) (ls:List (Int × Int)) (S:List Int):Bool:=!decide (S = []) && decide (stay ws ls S=S)
end
end Core
namespace PP
open PySem L2
section
variable {X : Cx} {a b : Expr} {ta tb : aA} {pos : Pos}
theorem az1 {K:PySem.W.Frag}{M M':Addr->Prop}{H:Hp}{v:V}{m n:List Int} (r1:a9 K M H v (.tup (intz m))) (r2:a9 K M' H v (.tup (intz n))):m=n:=by
 obtain ⟨p,us,rfl,h1,q1⟩:=r1.sqT
 obtain ⟨p2,ws,e,h2,q2⟩:=r2.sqT
 cases e
 rw [h1] at h2
 cases h2
 have:=(q1.ofInts).symm.trans q2.ofInts
 exact (List.map_inj_right fun _ _ e=>by cases e; rfl).mp this
end
end PP
namespace Core
open PySem L2 PP
noncomputable def far (ns S:List Int):Bool:=decide (((S.filter fun x=>decide (x ∈ ns)).length:Int)=0)
noncomputable def gV (ls:List (Int × Int)) (S U:List Int):Prop:=∀ x ∈ U,∀ y ∈ aG ls x,y ∈ S->y ∈ U
noncomputable def bV (ls:List (Int × Int)) (S:List Int) (h:Int):List Int:=S.filter fun x=>@decide (∀ U:List Int,gV ls S U->h ∈ U->x ∈ U) (Classical.propDecidable _)
section
variable {ws : List Int} {ls : List (Int × Int)} {S : List Int} {n : Nat} {h x : Int}
theorem g5:x ∈ bV ls S h ↔ x ∈ S/\∀ U,gV ls S U->h ∈ U->x ∈ U:=by
 unfold bV
 rw [aP0]
 exact⟨fun z=>⟨z.1,@aT3 _ (Classical.propDecidable _) z.2⟩,fun z=>⟨z.1,@aL2 _ (Classical.propDecidable _) z.2⟩⟩
theorem pC:∀ x ∈ bV ls S h,x ∈ S:=fun x hx=>(g5.mp hx).1
theorem gW (hh:h ∈ S):h ∈ bV ls S h:=g5.mpr ⟨hh,fun _ _ z=>z⟩
theorem kU:gV ls S (bV ls S h):=fun x hx y hy yS=>g5.mpr ⟨yS,fun U hU z=>hU x ((g5.mp hx).2 U hU z) y hy yS⟩
theorem J0 (hS:dW n S=true):dW n (bV ls S h)=true:=aw8 hS _
theorem iJ (hS:dW n S=true) (hx:x ∈ bV ls S h) (hh:h ∈ S):bV ls S x=bV ls S h:=by
 have back:h ∈ bV ls S x:=by
  refine g5.mpr ⟨hh,fun U hU xU=>?_⟩
  refine Classical.byContradiction fun hn=>?_
  have sv:gV ls S (S.filter fun z=>!decide (z ∈ U)):=fun a ha b hb bS=>by
   rw [aP0] at ha ⊢
   refine⟨bS,?_⟩
   by_cases bU:b ∈ U
   ·have:=hU b bU a (nF hb) ha.1
    rw [aL2 this] at ha; exact absurd ha.2 (by decide)
   ·rw [aL0 bU]; rfl
  have:=(g5.mp hx).2 _ sv (aP0.mpr ⟨hh,by rw [aL0 hn]; rfl⟩)
  rw [aP0,aL2 xU] at this
  exact absurd this.2 (by decide)
 exact aw9 (J0 hS) (J0 hS) fun y=>⟨fun hy=>(g5.mp hy).2 _ kU hx,fun hy=>(g5.mp hy).2 _ kU back⟩
noncomputable def az2 (ls:List (Int × Int)) (S:List Int) (h:Int):Bool:=decide ((bV ls S h).head? = some h)
noncomputable def az3 (ls:List (Int × Int)) (S:List Int):List Int:=S.filter (az2 ls S)
end
noncomputable def J1 (ws:List Int) (ls:List (Int × Int)):List Int->List Int->Bool
 | _,[]=>true
 | B,h :: R=>inB ws.length h && (kin ws ls B h && J1 ws ls (B ++ [h]) R)
end Core
namespace Raw
open PySem PySem.W PySem.Calls PyProof.Rows
theorem u8 {xs:List Nat} (a:xs.Pairwise (· < ·)) {i k:Nat} (hk:k < xs.length) (h:i<=k):xs.getD i 0<=xs.getD k 0:=by
 rcases aO4 i k with z | z
 ·have:=aO2.mp a i k (by omega) hk z
  rw [aK8,aK8,aK2 (by omega),aK2 hk]
  exact aU5 this
 ·rw [Nat.le_antisymm h z]; exact aK4 _
theorem az4 {xs:Array Nat}{i j:Nat} (h:i < xs.size):xs.getD i j=xs.toList.getD i 0:=by
 rw [aK8,aO9,Array.getD_eq_getD_getElem?,Array.getElem?_eq_getElem h]; rfl
theorem u9 {xs:Array Nat}{j:Nat} (a:xs.toList.Pairwise (· < ·)):∀ (fuel lo hi:Nat),lo<=hi->hi<=xs.size->hi - lo<=fuel->(∀ i,i < lo->xs.toList.getD i 0 < j)->(∀ i,hi<=i->i < xs.size->j<=xs.toList.getD i 0)->
  SetTable.below.go xs j fuel lo hi<=xs.size/\(∀ i,i < SetTable.below.go xs j fuel lo hi->xs.toList.getD i 0 < j)/\∀ i,SetTable.below.go xs j fuel lo hi<=i->i < xs.size->j<=xs.toList.getD i 0
 | 0,lo,hi,h1,h2,h3,h4,h5=>by
  have e:lo=hi:=by omega
  subst e
  exact⟨h2,h4,h5⟩
 | fuel+1,lo,hi,h1,h2,h3,h4,h5=>by
  have sz:xs.toList.length=xs.size:=aN7
  unfold SetTable.below.go
  by_cases lt:lo < hi
  ·rw [if_pos lt]
   dsimp only
   have m1:lo<=(lo+hi) / 2:=by omega
   have m2:(lo+hi) / 2 < hi:=by omega
   rw [az4 (by omega)]
   by_cases c:xs.toList.getD ((lo+hi) / 2) 0 < j
   ·rw [if_pos c]
    exact u9 a fuel _ _ (by omega) h2 (by omega) (fun i hi'=>Nat.lt_of_le_of_lt (u8 a (by omega) (by omega)) c) h5
   ·rw [if_neg c]
    exact u9 a fuel _ _ (by omega) (by omega) (by omega) h4 fun i h6 h7=>aP2 (aW7 c) (u8 a (by omega) h6)
  ·rw [if_neg lt]
   have e:lo=hi:=by omega
   subst e
   exact⟨h2,h4,h5⟩
theorem az5 {xs:Array Nat}{j:Nat} (a:xs.toList.Pairwise (· < ·)):SetTable.below xs j<=xs.size/\(∀ i,i < SetTable.below xs j->xs.toList.getD i 0 < j)/\∀ i,SetTable.below xs j<=i->i < xs.size->j<=xs.toList.getD i 0:=
 u9 a xs.size 0 xs.size (aO1 _) (aK4 _) (by omega) (fun i h=>absurd h (Nat.not_lt_zero _)) fun i h1 h2=>absurd h2 (by omega)
theorem az6 {α:Type} (xs:Array α) (p:Nat) (x:α):(SetTable.insertAt xs p x).toList=xs.toList.take p ++ x :: xs.toList.drop p:=by
 unfold SetTable.insertAt
 simp
 exact aO0 (by simp)
theorem az7 {xs:Array Nat}{j:Nat} (a:xs.toList.Pairwise (· < ·)) (ne:xs[SetTable.below xs j]? ≠ some j):(SetTable.insertAt xs (SetTable.below xs j) j).toList.Pairwise (· < ·):=by
 obtain ⟨b1,b2,b3⟩:=az5 (j:=j) a
 have sz:xs.toList.length=xs.size:=aN7
 rw [az6]
 refine aP5.mpr ⟨a.sublist (List.take_sublist _ _),List.pairwise_cons.mpr ⟨fun x hx=>?_,a.sublist (List.drop_sublist _ _)⟩,fun x hx y hy=>?_⟩
 ·obtain ⟨i,hi,e⟩:=aQ7 hx
  rw [aS3] at hi
  rw [List.getElem_drop] at e
  have h1:=b3 (SetTable.below xs j) (aK4 _) (by omega)
  have h2:=u8 a (i:=SetTable.below xs j) (k:=SetTable.below xs j+i) (by omega) (by omega)
  have h3:xs.toList.getD (SetTable.below xs j+i) 0=x:=by rw [aK8,aK2 (by omega),e]; rfl
  rcases aO4 j x with z | z
  ·exact z
  ·exfalso
   have h4:xs.toList.getD (SetTable.below xs j) 0=j:=by omega
   rw [aK8,aK2 (by omega)] at h4
   refine ne ?_
   rw [<- aO9,aK2 (by omega)]
   exact congrArg some h4
 ·have hx':x < j:=by
   obtain ⟨i,hi,e⟩:=aQ7 hx
   rw [aR1] at hi
   rw [List.getElem_take] at e
   have:=b2 i (by omega)
   rw [aK8,aK2 (by omega),e] at this
   exact this
  rcases aM4.mp hy with e | hy
  ·rw [e]; exact hx'
  ·obtain ⟨i,hi,e⟩:=aQ7 hy
   rw [aS3] at hi
   rw [List.getElem_drop] at e
   have:=b3 (SetTable.below xs j+i) (by omega) (by omega)
   rw [aK8,aK2 (by omega),e] at this
   exact aL3 hx' this
structure fQ (b:Bool) (t:SetTable):Prop where
 asc:t.place.toList.Pairwise (· < ·)
 dm:t.dummies = #[]
 led:t.led=b
theorem J2 (j:Nat):SetTable.has #[] j=false:=by
 unfold SetTable.has
 simp
theorem J3 {t:SetTable} (dm:t.dummies = #[]) {h:Int}{j:Nat}{d:Option Nat}:∀ (fuel:Nat) (p:SetTable.Probe),p.dummy=none->SetTable.probe.go t (fun _=>h+1) h fuel p=some (.empty j d)->d=none/\t.slot j = .empty
 | 0,p,_,e=>by cases e
 | fuel+1,p,hp,e=>by
  unfold SetTable.probe.go at e
  have adv:∀ p:SetTable.Probe,p.dummy=none->(t.advance p).dummy=none:=fun p hp=>by
   unfold SetTable.advance
   split <;> exact hp
  cases hs:t.slot p.j with
  | empty=>
   rw [hs] at e
   cases e
   exact⟨hp,hs⟩
  | dummy=>
   exfalso
   unfold SetTable.slot at hs
   dsimp only at hs
   rw [dm,J2] at hs
   split at hs <;> cases hs
  | live i=>
   rw [hs] at e
   dsimp only at e
   rw [if_neg (by simp; omega)] at e
   exact J3 dm fuel _ (adv p hp) e
theorem az8 {t:SetTable} (dm:t.dummies = #[]) {h:Int}{sl:Nat}{d:Bool} (e:t.freeSlot h=some (sl,d)):t.slot sl = .empty:=by
 unfold SetTable.freeSlot at e
 split at e
 ·rename_i j dummy hm
  obtain ⟨e1,e2⟩:=J3 dm _ _ rfl hm
  subst e1
  cases e
  exact e2
 ·cases e
theorem pD {b:Bool}{t:SetTable} (h:fQ b t) (n:Nat):fQ b (t.standIn n):=⟨by
 show (Array.range n).toList.Pairwise (· < ·)
 rw [Array.toList_range]; exact List.pairwise_lt_range,rfl,h.led⟩
theorem az9 {b:Bool}{t:SetTable} (h:fQ b t) {j:Nat} (hs:t.slot j = .empty):fQ b (t.put j).1:=by
 refine⟨?_,?_,h.led⟩
 ·refine az7 h.asc fun e=>?_
  unfold SetTable.slot at hs
  dsimp only at hs
  rw [if_pos (by rw [e]; exact aR2 _)] at hs
  cases hs
 ·show (if SetTable.has t.dummies j then SetTable.eraseAt t.dummies (SetTable.below t.dummies j) else t.dummies) = #[]
  rw [h.dm,J2]; rfl
theorem aA0 {b:Bool}{t:SetTable} (h:fQ b t) (es:Array (Int × Value)) (k:Int) (x:Value):fQ b (layNew t es k x).2.1:=by
 unfold layNew
 split
 ·rename_i sl wd e
  have p:=az9 h (az8 h.dm e)
  show fQ b (SetTable.orStandIn _ _)
  unfold SetTable.orStandIn
  split
  ·exact p
  ·exact pD p _
 ·exact pD h _
theorem aA1 {b:Bool}{t:SetTable} (h:fQ b t) (es:Array (Int × Value)) (n:Nat):fQ b (relayAll t es n).2.1:=by
 unfold relayAll
 split
 ·rename_i t' order e
  dsimp only
  split
  ·show fQ b t'
   unfold SetTable.relaid SetTable.laid at e
   cases hc:SetTable.layClean (SetTable.sizeAbove n - 1) (es.map (·.1)) with
   | none=>rw [hc] at e; cases e
   | some owner=>
    rw [hc] at e
    cases e
    refine⟨?_,rfl,h.led⟩
    show (List.map _ _).Pairwise (· < ·)
    refine aU9.mpr (List.Pairwise.filterMap _ (R:=(· < ·)) ?_ List.pairwise_lt_range)
    intro i i' hlt x hx y hy
    cases ho:owner.getD i none with
    | none=>rw [ho] at hx; cases hx
    | some v=>
     rw [ho] at hx
     cases ho2:owner.getD i' none with
     | none=>rw [ho2] at hy; cases hy
     | some v2=>
      rw [ho2] at hy
      cases hx; cases hy
      exact hlt
  ·exact pD h _
 ·exact pD h _
theorem J4 {us vs:List Value} (p:us.Perm vs):∀ {ns:List Int},IntsAre vs ns->∃ ms,IntsAre us ms/\ms.Perm ns:=by
 induction p with
 | nil=>intro ns h; exact⟨ns,h,List.Perm.refl _⟩
 | cons x _ ih=>
  intro ns h
  cases h with
  | cons n t r=>
   obtain ⟨ms,h1,h2⟩:=ih r
   exact⟨n :: ms,.cons n t h1,h2.cons n⟩
 | swap x y l=>
  intro ns h
  cases h with
  | cons n t r=>
   cases r with
   | cons n' t' r=>
    exact⟨n' :: n :: _,.cons n' t' (.cons n t r),List.Perm.swap _ _ _⟩
 | trans _ _ ih1 ih2=>
  intro ns h
  obtain ⟨ms,h1,h2⟩:=ih2 h
  obtain ⟨ms',h3,h4⟩:=ih1 h1
  exact⟨ms',h3,h4.trans h2⟩
theorem J5:∀ {us:List Value}{ns:List Int},IntsAre us ns->∀ (k:Int) (t:Nat),IntsAre (us ++ [.int k t]) (ns ++ [k])
 | _,_,.nil,k,t=>.cons k t .nil
 | _,_,.cons n u r,k,t=>.cons n u (J5 r k t)
theorem pE:∀ {us:List Value}{ns:List Int},IntsAre us ns->∀ k:Int,k ∈ ns ↔ ∃ t,Value.int k t ∈ us
 | _,_,.nil,k=>⟨(fun h=>nomatch h),(fun ⟨_,h⟩=>nomatch h)⟩
 | _,_,.cons n u r,k=>by
  constructor
  ·intro h
   rcases aM4.mp h with e | h
   ·exact⟨u,by rw [e]; exact aM2⟩
   ·obtain ⟨t,ht⟩:=(pE r k).mp h
    exact⟨t,aL5 _ ht⟩
  ·rintro ⟨t,h⟩
   rcases aM4.mp h with e | h
   ·cases e; exact aM2
   ·exact aL5 _ ((pE r k).mpr ⟨t,h⟩)
noncomputable abbrev mI (es:Array (Int × Value)) (ep:Nat) (t:SetTable):Obj:={ cls:=.type "set",dict:=none,data:=.set es ep t,slots:=#[] }
section
variable {prog : Program} {w : World} {A : Around} {E : Value → Shared → Prop} {s : Shared}
noncomputable def aA2 (prog:Program) (w:World) (es:Array (Int × Value)) (t:SetTable) (ms:List Int):Prop:=ElemsOf (intKind prog w) es.toList/\IntsAre (es.toList.map (·.2)) ms/\es.size < scanBound/\t.fits es.size=true/\fQ (!w.params.followText "set-order") t
noncomputable def J6 (prog:Program) (w:World) (h:Heap) (a:Addr) (ms:List Int):Prop:=∃ es ep t,h.get? a=some (mI es ep t)/\aA2 prog w es t ms
theorem J7 {h:Heap}{a:Addr}{es es':Array (Int × Value)}{ep:Nat}{t t':SetTable} (ho:h.get? a=some (mI es ep t)):(h.update a (Obj.putSet es' t')).get? a=some (mI es' (ep+1) t'):=by
 have:=aS6 (Obj.putSet es' t') ho (by rw [putSet_of es' t' (rfl:(mI es ep t).data=_)]; rfl)
 rw [putSet_of es' t' (rfl:(mI es ep t).data=_)] at this
 exact this
theorem add_int {a:Addr}{ms:List Int}{k:Int}{u:Nat}{Q:Bool->Shared->Prop} (hS:J6 prog w s.heap a ms) (room:ms.length+1 < scanBound)
  (h:∀ b h' ms',Heap.SameBut a s.heap h'->J6 prog w h' a ms'->(k ∈ ms->ms'.Perm ms)->(k ∉ ms->ms'.Perm (ms ++ [k]))->Q b { s with heap:=h' }) :
  wpAny (model prog w) A (setAddHashed a (.int k u) ((intKind prog w).hash k)) Q E s:=by
 obtain ⟨es,ep,t,ho,hel,hi,hb,hf,tk⟩:=hS
 have key:(intKind prog w).is k (.int k u)=true:=intKind_is _ _ _ _
 have ln:ms.length=es.size:=by
  have:=IntsAre.length hi
  rw [aL4,aN7] at this
  exact this.symm
 have isk:∀ v,(intKind prog w).is k v=true->∃ u,v = .int k u:=fun v hv=>Value.isInt_shape hv
 unfold setAddHashed setAddHashedIn
 refine aR5 (aK1 (wpAny_setState_of ho rfl hf ?_))
 dsimp only
 rw [byScan_of (knd:=intKind prog w) (x:=.int k u) rfl hb hel,if_pos rfl]
 unfold setAddByScan
 refine aK1 (aK1 (aX6 ?_))
 refine aK1 (wpAny_setScan_of key ho rfl hf hel ?_)
 cases hr:List.findIdx? (fun e=>(intKind prog w).is k e.2) es.toList with
 | some j=>
  dsimp only
  obtain ⟨hj,hp,_⟩:=List.findIdx?_eq_some_iff_getElem.mp hr
  have km:k ∈ ms:=by
   obtain ⟨u',e⟩:=isk _ hp
   exact (pE hi k).mpr ⟨u',by rw [<- e]; exact aO8.mpr ⟨_,aT7 hj,rfl⟩⟩
  have e:s={ s with heap:=s.heap }:=by cases s; rfl
  rw [e]
  exact aK6 (aK6 (h _ s.heap ms (Heap.SameBut.refl a s.heap) ⟨es,ep,t,ho,hel,hi,hb,hf,tk⟩ (fun _=>List.Perm.refl _) fun n=>absurd km n))
 | none=>
  dsimp only
  have km:k ∉ ms:=fun z=>by
   obtain ⟨u',hm⟩:=(pE hi k).mp z
   obtain ⟨e,he,e2⟩:=aO8.mp hm
   have:=List.findIdx?_eq_none_iff.mp hr e he
   rw [e2,intKind_is _ _ _ _] at this; cases this
  have lp:=layNew_perm t es ((intKind prog w).hash k) (.int k u)
  have lf:=layNew_fits t es ((intKind prog w).hash k) (.int k u)
  have lk:=aA0 tk es ((intKind prog w).hash k) (.int k u)
  generalize hL:layNew t es ((intKind prog w).hash k) (.int k u)=L at lp lf lk ⊢
  obtain ⟨es1,t1,wd,gave⟩:=L
  dsimp only at lp lf lk ⊢
  rw [Array.toList_push] at lp
  have el1:ElemsOf (intKind prog w) es1.toList:=(hel.push key rfl).perm lp
  have sz1:es1.size=es.size+1:=by rw [<- aN7,lp.length_eq,aL1,aN7]; rfl
  obtain ⟨ms1,i1,p1⟩:∃ ms1,IntsAre (es1.toList.map (·.2)) ms1/\ms1.Perm (ms ++ [k]):=J4 (lp.map (·.2)) (by rw [aS0]; exact J5 hi k u)
  have hb1:es1.size < scanBound:=by omega
  have gw:∀ (b:Bool) (s₁:Shared) (Q':Unit->Shared->Prop),Q' () s₁->wpAny (model prog w) A (match b with | true=>rule "set.scan.the-table-gave-way" | false=>pure ()) Q' E s₁:=fun b s₁ Q' hq=>by
   cases b
   ·exact aK6 hq
   ·exact aX6 hq
  refine aK1 (gw _ _ _ ?_)
  split <;> (
   show wpAny _ _ (storeSet a es1 t1 >>= _) _ _ _
   simp only [↓reduceIte]
   refine aK1 (wpAny_storeSet_of ho rfl ?_ (fits_of_scanBound hb1))
   have ho1:=J7 (es':=es1) (t':=t1) ho
   have sb1:=aW4 s.heap a (Obj.putSet es1 t1)
   split
   ·have rp:=relayAll_perm t1 es1 (SetTable.grown es1.size)
    have rf:=relayAll_fits t1 es1 (SetTable.grown es1.size)
    have rk:=aA1 lk es1 (SetTable.grown es1.size)
    generalize relayAll t1 es1 (SetTable.grown es1.size)=L at rp rf rk ⊢
    obtain ⟨es2,t2,gave2⟩:=L
    dsimp only at rp rf rk ⊢
    have sz2:es2.size=es1.size:=by rw [<- aN7,rp.length_eq,aN7]
    obtain ⟨ms2,i2,p2⟩:=J4 (rp.map (·.2)) i1
    refine aK1 (gw _ _ _ ?_)
    refine aK1 (wpAny_storeSet_of ho1 rfl ?_ (fits_of_scanBound (by omega)))
    exact aK6 (aK6 (h _ _ ms2 (sb1.trans (aW4 _ a _)) ⟨es2,_,t2,J7 ho1,el1.perm rp,i2,by omega,rf,rk⟩ (fun z=>absurd z km) fun _=>p2.trans p1))
   ·exact aK6 (aK6 (h _ _ ms1 sb1 ⟨es1,_,t1,ho1,el1,i1,hb1,lf,lk⟩ (fun z=>absurd z km) fun _=>p1)))
end
end Raw
namespace Core
open PySem L2 PP
theorem iK (n:Nat):dW n (rng n)=true:=u6.set ⟨ax1 n,fun x hx=>aY.mp hx⟩
end Core
namespace PP
open PySem L2
section
variable {X : Cx} {a b e o : Expr} {ta tb te to : aA} {tr : cB} {pos p2 apos cpos : Pos} {σ : St} {H : Hp} {Q' : VK}
open Classical in
theorem aA3 {A:Around} (hu:A.units+2 < cLine) {pins:List (Addr × Obj)}{s:Shared}{H:Hp}{us:List V}{its:List Value}{rs:List (List Int)}{ns:List Int}{x:V}{v:Value} (I:a5 X pins σ H s) (rx:aF x v) (r:aB us its)
  (rn:a9 X.K (fun _=>True) H x (.tup (intz ns))) (rr:Reps X.K (fun _=>True) H us (rs.map fun r=>PV.tup (intz r))):∃ f:Value->Bool,∀ (j:Nat) (w:Value),its[j]? = some w->∃ m,rs[j]? = some m/\SeqAt.EqAt A s w v (f w)/\f w=decide (m=ns):=by
 have lr:=r.length
 have lp:=rr.length
 rw [aL4] at lp
 refine⟨fun w=>decide (∃ v',aF v' w/\a9 X.K (fun _=>True) H v' (.tup (intz ns))),fun j w hw=>?_⟩
 have hj:=(aL8.mp hw).1
 have h1:j < us.length:=by omega
 obtain ⟨w',hw',rw'⟩:=r.get (aK2 h1)
 rw [hw] at hw'
 cases hw'
 obtain ⟨m',hm',rm⟩:=rr.get (aK2 h1)
 rw [aL9] at hm'
 cases hm:rs[j]? with
 | none=>rw [hm] at hm'; cases hm'
 | some m=>
  rw [hm] at hm'
  cases hm'
  have e2:(decide (∃ v',aF v' w/\a9 X.K (fun _=>True) H v' (.tup (intz ns))))=decide (m=ns):=by
   have:(∃ v',aF v' w/\a9 X.K (fun _=>True) H v' (.tup (intz ns))) ↔ m=ns:=by
    refine⟨fun ⟨v',h1',h2'⟩=>?_,fun e=>⟨_,rw',by rw [<- e]; exact rm⟩⟩
    obtain ⟨p1,w1,e1,_,_⟩:=rm.sqT
    obtain ⟨p2,w2,e2,_,_⟩:=h2'.sqT
    rw [e1] at rw' rm
    rw [e2] at h1' h2'
    cases rw'
    cases h1'
    exact az1 rm h2'
   exact decide_eq_decide.mpr this
  refine⟨m,rfl,?_,e2⟩
  show SeqAt.EqAt A s w v (decide _)
  rw [e2]
  have:=zA I 2 (A:=A) hu rm rn rw' rx (by exact al0 1 m ns)
  rw [ak8 1] at this
  exact this
noncomputable def J8 (K:PySem.W.Frag):R2:=fun x y H Q=>∃ p us ns,∃ rs:List (List Int),y = .ref p/\H p=some (.lst us)/\a9 K (fun _=>True) H x (.tup (intz ns))/\Reps K (fun _=>True) H us (rs.map fun r=>PV.tup (intz r))/\Q (.bl (!decide (ns ∈ rs))) H
theorem aA4 (hu:X.A.units+3 < cLine):bO X (compareOp .NotIn) (J8 X.K):=by
 intro pins s σ H x y v u Q I rx ry h
 obtain ⟨p,us,ns,rs,rfl,hp,rn,rr,q⟩:=h
 cases ry
 obtain ⟨its,r,pl,hz⟩:=I.list (aR.of (K:=X.K) hp)
 have lr:=r.length
 have lp:=rr.length
 rw [aL4] at lp
 obtain ⟨f,key⟩:=aA3 (A:=X.A.in1) (by show X.A.units+1+2 < cLine; omega) I rx r rn rr
 refine SeqAt.notIn_listAt f pl.isList (fun w hw=>?_) ⟨.bl _,H,I,rfl,?_⟩
 ·have hw:w ∈ its:=by simpa using hw
  obtain ⟨j,hj⟩:=aV9 hw
  obtain ⟨m,_,h1,h2⟩:=key j w hj
  exact h1
 ·have:its.toArray.any f=decide (ns ∈ rs):=by
   rw [show its.toArray.any f=its.any f by simp,aV0,List.any_eq_true,aO3]
   refine⟨fun ⟨w,hw,e⟩=>?_,fun h=>?_⟩
   ·obtain ⟨j,hj⟩:=aV9 hw
    obtain ⟨m,hm,_,h2⟩:=key j w hj
    rw [h2,aO3] at e
    rw [<- e]; exact aP3 hm
   ·obtain ⟨j,hj⟩:=aV9 h
    have hl:=(aL8.mp hj).1
    obtain ⟨m,hm,_,h2⟩:=key j its[j] (aK2 (by omega))
    rw [hj] at hm
    cases hm
    exact⟨its[j]'(by omega),aT7 _,by rw [h2]; exact aL2 rfl⟩
  rw [this]
  exact q
noncomputable def uA:PV->Tg->PV->Tg->PK->Prop:=fun x _ y _ Q=>∃ ns,∃ rs:List (List Int),x = .tup (intz ns)/\y = .lst (rs.map fun r=>PV.tup (intz r))/\Q (.bl (!decide (ns ∈ rs))) .fr
theorem aA5:dH X uA (J8 X.K):=by
 rintro W Hs H u v x y g g' Q Q' s n r1 r2 ⟨ns,rs,rfl,rfl,q⟩ k
 obtain ⟨p,us,rfl,_,h,r⟩:=r2.sqL
 exact⟨p,us,ns,rs,rfl,h,r1.same (a8.refl _) (fun _ _=>trivial),r.same (a8.refl _) (fun _ _=>trivial),k _ _ _ .fr (a8.refl _) (.bl _) q⟩
theorem aA6 (hu:X.A.units+3 < cLine) (ha:QE X a ta) (hb:QE X b tb) (hm:behindInMarks .NotIn b=false:=by rfl):QT X (.Compare a [.NotIn] [b] pos) (aV (q2 uA ta tb)):=iD (aA4 hu) aA5 ha hb hm
end
section
variable {X : Cx} {σ : St} {H : Hp} {D : c9} {te tix tk tv : aA} {e eix ek ev : Expr} {pos p1 p2 p3 p4 : Pos}
theorem wJ {α:Type} (us:List α) (v:α):L2.atI (us ++ [v]) (-1)=some v:=by
 unfold L2.atI dZ
 have h1:(1:Int)<=(us.length:Int)+1:=by omega
 have h2:(-1+((us.length:Int)+1)).toNat=us.length:=by omega
 simp [h1,h2]
end
end PP
namespace Core
open PySem L2 PP
theorem K0 {n k:Nat} (h:k < n):dZ n (k:Int)=some k:=by
 unfold dZ
 rw [if_pos (by omega),if_pos (by omega),aR6]
noncomputable def aJ9 (ps:List (Int × Int)):Int:=if ps = [] then 1 else (ps.map (·.2)).sum
noncomputable def xO (ws:List Int) (ls:List (Int × Int)) (ns R:List Int):Prop:=J1 ws ls ns R=true/\aw5 ws ls (ns ++ R)
end Core
namespace L2
open PySem PySem.Spec PyProof.Rows PP
section
variable {prog : Program} {w : World} {A : Around} {R : Result → Shared → Prop} {I S : Addr} {n : Nat} {l : Addr} {its : Array Value} {s0 : Shared} {bt : Nat → Nat → Bool}
noncomputable abbrev at_ (s:Shared) (h:Heap) (k:Nat):Shared:={ s with heap:=h,toks:=k }
noncomputable abbrev aA7 (g h:Heap):Prop:=∀ b o,g.get? b=some o->h.get? b=some o
noncomputable def bN (prog:Program) (w:World) (A:Around) (s0:Shared) (its:Array Value) (bt:Nat->Nat->Bool):Prop:=
 ∀ (i j:Nat) (v u:Value) (h:Heap) (k:Nat) (Q E:Value->Shared->Prop),its[i]? = some v->its[j]? = some u->aA7 s0.heap h->Q (.bool (bt i j)) (at_ s0 h k)->wpAny (model prog w) A (richCompare .Lt v u) Q E (at_ s0 h k)
end
end L2
namespace Core
open PySem L2 PP
theorem K1 (ps:List Int):dI (intz ps) (some 1) none=intz (ps.drop 1):=by
 unfold dI
 have e1:HT.aM (intz ps).length 0 (some 1)=min 1 ps.length:=by
  rw [bR]
  show (if (1:Int) < 0 then ((1:Int)+(ps.length:Int)).toNat else min (1:Int).toNat ps.length)=_
  rw [if_neg (by decide)]; rfl
 rw [e1]
 show ((intz ps).drop (min 1 ps.length)).take ((intz ps).length - min 1 ps.length)=_
 rw [aO0 (by rw [aS3]; exact aK4 _)]
 show (List.map PV.int ps).drop _=List.map PV.int _
 cases ps with
 | nil=>rfl
 | cons x xs=>rw [show min 1 (x :: xs).length=1 by simp]; rfl
end Core
namespace HT
open PySem PyProof.Rows
section
open PySem.SeqAt
open PySem.AutoSeq1 (wpAny_loadPart')
open PySem.MeetsSeq PySem.MeetsSeq2 PySem.MeetsSeq3
theorem int_at {its:List Value}{ns:List Int} (h:IntsAre its ns) {i:Nat} (hi:i < its.length):∃ a t,its[i]? = some (.int a t)/\ns[i]? = some a:=by
 induction h generalizing i with
 | nil=>exact absurd hi (Nat.not_lt_zero _)
 | cons a t h ih=>
  cases i with
  | zero=>exact⟨a,t,rfl,rfl⟩
  | succ i=>exact ih (by simpa using hi)
end
end HT
namespace Core
open PySem L2 PP
noncomputable def FB (L:List (List Int)) (f:List Int->Int) (r:List Int):Prop:=∃ i,L[i]? = some r/\(∀ (j:Nat) (s:List Int),j < i->L[j]? = some s->f s < f r)/\∀ s ∈ L,f s<=f r
noncomputable def cL (n:Nat) (ls:List (Int × Int)):Prop:=(∀ l ∈ ls,0<=l.1/\l.1 < l.2/\l.2 < (n:Int))/\ls.length<=1700/\ls.Pairwise kO
noncomputable def inL (S:List Int) (l:Int × Int):Bool:=decide (l.1 ∈ S) && decide (l.2 ∈ S)
noncomputable def pF:bP:=fun xs Q=>∃ x ns,∃ n:Nat,xs = [x,.int n]/\fD x ns/\ns.length<=63/\n<=40/\∀ ls,cL n ls->Q (.lst (aZ ls))
noncomputable def uB:aJ:=(aN (eN (gM (a6 0)) (cJ 3)
  (cN (aV (nX (a6 1) (qC (.int 1)))) (aN (bJ 6 (aK kT (aC (a6 3) (aC (qC (.int 0)) aI))))
   (aN (bJ 4 (dA (a6 6) (a6 1)))
   (aN (bJ 5 (dA (iA (iA (a6 4) (qC (.int 1))) (dA (j6 (a6 6) (qC (.int 64))) (iB (a6 1) (qC (.int 1))))) (a6 1)))
   (aN (bJ 7 (i5 (aC (aK lU (aC (a6 4) (aC (a6 5) aI))) (aC (aK nN (aC (a6 4) (aC (a6 5) aI))) aI))))
   (cN (jY (aV (iY false (a6 7) (a6 2))) (aV (eD (dA (j6 (a6 6) (qC (.int 4096))) (qC (.int 2))) (qC (.int 0))))) (u0 2 (a6 7)) (lX 2 (a6 7) (qC (.bl true)))))))) cR))
 (bW (aK u7 (aC (aK tO (aC (a6 2) aI)) aI))))
noncomputable def K2:aJ:=(aN (iW 2 (qC (.dT [])))
 (aN (cN (jY (aV (nX (aK dQ (aC (a6 0) aI)) (qC (.int 0)))) (aV (eD (dA (bX (a6 0) (qC (.int 0))) (qC (.int 2))) (qC (.int 1))))) (aN (bJ 3 (j6 (bX (a6 0) (qC (.int 0))) (qC (.int 2))))
  (aN (eN (i7 (a6 1)) (cJ 4)
   (eN (sA (iA (a6 4) (qC (.int 1))) (a6 1)) (cJ 5)
    (aN (cN (aV (eD (dA (a6 3) (qC (.int 2))) (qC (.int 1)))) (lX 2 (i5 (aC (a6 4) (aC (a6 5) aI))) (qC (.bl true))) cR)
    (bJ 3 (j6 (a6 3) (qC (.int 2)))))))
  (bJ 0 (j5 (a6 0) (j4 (qC (.int 1))) iZ)))) cR)
 uB))
theorem aA8 {n one t:Int} (h:1 < n) (o0:0<=one) (o1:one < n) (t0:0<=t):(one+1+t % (n - 1)) % n ≠ one:=by
 have r0:0<=t % (n - 1):=aY4 _ (by omega)
 have r1:t % (n - 1) < n - 1:=aX9 _ (by omega)
 generalize t % (n - 1)=r at r0 r1
 by_cases c:one+1+r < n
 ·rw [Int.emod_eq_of_lt (by omega) c]; omega
 ·rw [show one+1+r=(one+1+r - n)+n by omega,Int.add_emod_right,Int.emod_eq_of_lt (by omega) (by omega)]; omega
theorem K3 {x:PV}{ns:List Int}{n:Nat}{g:Bool}{ps:List (List a7 × PV)}{y3 y4 y5:Option Slot}{Q:PV->Prop} (hx:fD x ns) (hg:(Slot.sh g x).tag = .rd->flat x=true) (n1:n<=40) (dk:DK (n:Int) ps) (q:∀ ls,cL n ls->Q (.lst (aZ ls))) :
  uB { nx:=fun _=>Q .non,rt:=Q } [some (.sh g x),si (n:Nat),some (.own (.dT ps)),y3,y4,y5,none,none]:=by
 refine⟨_,rfl,_,hx.seq,hg,fun i ρ=>∃ (a b c d e:Option Slot) (ps:List (List a7 × PV)),ρ = [some (.sh g x),si (n:Nat),some (.own (.dT ps)),a,b,c,d,e]/\DK (n:Int) ps,⟨y3,y4,y5,none,none,ps,rfl,dk⟩,?_,?_⟩
 ·rintro i y ρ hy ⟨a,b,c,d,e,ps,rfl,dk⟩
  obtain ⟨cell,rfl,hc⟩:=tK hy
  have few:=dk.few40 (by omega)
  refine jL ?_
  refine⟨_,rfl,_,_,rfl,rfl,_,rfl,?_⟩
  by_cases h1:(n:Int) > 1
  ·dsimp only
   rw [aL2 h1]
   refine bB ⟨_,rfl,cell,0,rfl,by decide,by decide,fun t t0=>⟨trivial,?_⟩⟩
   refine⟨_,rfl,_,rfl,_,_,rfl,rfl,(by show (0:Int) < (n:Int); omega),trivial,?_⟩
   dsimp only
   generalize hone:t % (n:Int)=one
   have o1:0<=one/\one < n:=by rw [<- hone]; exact⟨aY4 _ (by omega),aX9 _ (by omega)⟩
   refine⟨_,rfl,_,_,rfl,rfl,_,rfl,_,_,rfl,rfl,⟨by decide,by decide⟩,_,rfl,_,_,rfl,rfl,_,_,rfl,rfl,(by show (0:Int) < (n:Int) - 1; omega),_,_,rfl,rfl,_,rfl,_,_,rfl,rfl,(by show (0:Int) < (n:Int); omega),trivial,?_⟩
   dsimp only
   have ne:=aA8 h1 o1.1 o1.2 (Int.ediv_nonneg t0 (by decide:(0:Int)<=64))
   generalize hoth:(one+1+t / 64 % ((n:Int) - 1)) % (n:Int)=oth
   have o2:0<=oth/\oth < n:=by rw [<- hoth]; exact⟨aY4 _ (by omega),aX9 _ (by omega)⟩
   rw [hoth] at ne
   have lk:0<=(if oth < one then oth else one)/\(if oth < one then oth else one) < (if oth > one then oth else one)/\(if oth > one then oth else one) < (n:Int):=by
    split <;> split <;> omega
   refine⟨_,rfl,_,rfl,_,_,rfl,_,rfl,_,rfl,_,_,rfl,by show 2<=1000; decide,rfl,trivial,?_⟩
   dsimp only
   revert lk
   generalize (if oth < one then oth else one)=mn
   generalize (if oth > one then oth else one)=mx
   intro lk
   have put:∀ D:fC,(∀ ρ,(∃ (a b c d e:Option Slot) (ps:List (List a7 × PV)),ρ = [some (.sh g x),si (n:Nat),some (.own (.dT ps)),a,b,c,d,e]/\DK (n:Int) ps)->D.nx ρ)->(lX 2 (a6 7) (qC (.bl true))) D [some (.sh g x),si (n:Nat),some (.own (.dT ps)),si cell,si one,si oth,si t,some (.sh true (.tup [.int mn,.int mx]))]:=fun D hD=>
    ⟨ps,rfl,_,rfl,eG (mn,mx),rfl,trivial,by omega,hD _ ⟨_,_,_,_,_,_,rfl,dk.put (mn,mx) lk⟩⟩
   refine⟨_,rfl,_,rfl,_,.inr ⟨ps,eG (mn,mx),rfl,rfl,rfl⟩,_,rfl,?_⟩
   cases hv:(dR ps (eG (mn,mx))).isSome with
   | false=>exact aW (aW (put _ fun ρ h=>h))
   | true=>
    have is:∃ j:Nat,(ps.map (·.1))[j]? = some (eG (mn,mx)):=by
     rw [<- C4] at hv
     obtain ⟨p,hp,e⟩:=List.any_eq_true.mp hv
     have e:=aT3 e
     obtain ⟨j,hj,ej⟩:=aQ7 hp
     exact⟨j,by rw [aL9,aK2 hj,ej]; exact congrArg some e⟩
    refine bB ⟨_,rfl,_,_,rfl,rfl,⟨by decide,by decide⟩,_,_,rfl,rfl,(by show (0:Int) < 2; decide),.inl ⟨_,_,rfl,rfl,_,rfl,?_⟩⟩
    dsimp only
    cases (if false=true then !decide (t / 4096 % 2=0) else decide (t / 4096 % 2=0)) with
    | true=>exact bB ⟨ps,rfl,_,rfl,eG (mn,mx),rfl,is,fun j hj=>⟨_,_,_,_,_,_,rfl,dk.cut j⟩⟩
    | false=>exact aW (put _ fun ρ h=>h)
  ·dsimp only
   rw [aL0 h1]
   exact aW ⟨_,_,_,_,_,ps,rfl,dk⟩
 rintro ρ ⟨a,b,c,d,e,ps,rfl,dk⟩
 have few:=dk.few40 (by omega)
 obtain ⟨ls,e1,e2,e3,e4⟩:=DL.links dk.key
 have lnd:ls.Nodup:=by
  have:=dk.nd
  rw [e4] at this
  exact (aU9.mp this).imp fun h e=>h (congrArg eG e)
 refine⟨_,rfl,ps,rfl,ls.map two,?_,by rw [aL4]; omega,?_,fun us pz so=>?_⟩
 ·show [PV.lst (ps.map fun p=>PV.tup (p.1.map kP))]=_
  rw [e1,tQ]
 ·intro y hy
  obtain ⟨l,_,rfl⟩:=aO8.mp hy
  rfl
 obtain ⟨ls',rfl,pl⟩:=av0 pz
 rw [<- tQ]
 exact⟨trivial,q ls' ⟨fun l hl=>e2 l (pl.mem_iff.mp hl),by rw [pl.length_eq]; omega,av1 so (pl.nodup_iff.mpr lnd)⟩⟩
theorem aA9:dU K2 ["flow","many","links","cell","one","other","turn","pair"] pF:=by
 rintro xs Q ⟨x,ns,n,rfl,hx,hns,n1,q⟩
 refine⟨rfl,rfl,?_⟩
 have last:uB { nx:=fun _=>Q .non,rt:=Q } [some (.sh (flat x) x),si (n:Nat),some (.own (.dT [])),none,none,none,none,none]:=K3 hx (av4 hx) n1 (DK.nil n) q
 refine⟨_,rfl,_,_,rfl,hx.len,_,_,rfl,rfl,_,rfl,?_⟩
 by_cases h1:(0:Int) < (ns.length:Int)
 ·dsimp only
  rw [aL2 h1]
  have g0:ns[0]? = some (ns[0]'(by omega)):=aK2 (by omega)
  have i0:L2.atI (intz ns) (0:Int)=some (.int (ns[0]'(by omega))):=lI (xs:=intz ns) (j:=0) (by rw [aL9,g0]; rfl)
  refine bB ⟨_,rfl,_,_,_,hx.seq,rfl,i0,_,_,rfl,rfl,(by show (0:Int) < 2; decide),.inl ⟨_,_,rfl,rfl,_,rfl,?_⟩⟩
  cases h2:(if false=true then !decide (ns[0]'(by omega) % 2=1) else decide (ns[0]'(by omega) % 2=1)) with
  | false=>exact aW last
  | true=>
   refine bB ⟨_,rfl,_,_,_,hx.seq,rfl,i0,_,_,rfl,rfl,⟨by decide,by decide⟩,trivial,?_⟩
   refine⟨_,rfl,(n:Int),rfl,by omega,by omega,fun i ρ=>∃ (c:Int) (y z:Option Slot) (ps:List (List a7 × PV)),ρ = [some (.sh (flat x) x),si (n:Nat),some (.own (.dT ps)),si c,y,z,none,none]/\DK (n:Int) ps,⟨_,none,none,[],rfl,DK.nil n⟩,?_,?_⟩
   ·rintro i y ρ hy ⟨c,y1,z1,ps,rfl,dl⟩
    obtain ⟨rfl,hi⟩:=jI hy
    refine jL ?_
    refine⟨_,rfl,_,_,rfl,rfl,_,rfl,_,(n:Int),rfl,rfl,⟨by omega,by omega,by omega,by omega⟩,fun j ρ=>∃ (c:Int) (z:Option Slot) (ps:List (List a7 × PV)),ρ = [some (.sh (flat x) x),si (n:Nat),some (.own (.dT ps)),si c,si (0+(i:Int)),z,none,none]/\DK (n:Int) ps,⟨c,z1,ps,rfl,dl⟩,?_,?_⟩
    ·rintro j y ρ hy ⟨c,z2,ps,rfl,dl⟩
     obtain ⟨rfl,hj⟩:=jI hy
     have few:=dl.few40 (by omega)
     refine jL ?_
     refine⟨_,rfl,_,_,rfl,rfl,(by show (0:Int) < 2; decide),.inl ⟨_,_,rfl,rfl,_,rfl,?_⟩⟩
     cases h:(if false=true then !decide (c % 2=1) else decide (c % 2=1)) with
     | true=>
      refine bB ⟨_,rfl,_,rfl,_,rfl,by show 2<=1000; decide,rfl,eG (0+(i:Int),0+(i:Int)+1+(j:Int)),rfl,trivial,by omega,?_⟩
      refine⟨_,rfl,_,_,rfl,rfl,⟨by decide,by decide⟩,trivial,c / 2,si (0+(i:Int)+1+(j:Int)),_,rfl,?_⟩
      exact dl.put _ ⟨by show (0:Int)<=0+(i:Int); omega,by show (0:Int)+(i:Int) < 0+(i:Int)+1+(j:Int); omega,by show (0:Int)+(i:Int)+1+(j:Int) < n; omega⟩
     | false=>exact aW ⟨_,rfl,_,_,rfl,rfl,⟨by decide,by decide⟩,trivial,c / 2,si (0+(i:Int)+1+(j:Int)),ps,rfl,dl⟩
    ·rintro ρ ⟨c,z2,ps,rfl,dl⟩
     exact⟨c,si (0+(i:Int)),z2,ps,rfl,dl⟩
   ·rintro ρ ⟨c,y1,z1,ps,rfl,dl⟩
    refine⟨_,rfl,_,rfl,_,hx.seqTF,eJ _,trivial,?_⟩
    have hc:fD (sH x (dI (intz ns) (some 1) none)) (ns.drop 1):=by
     rcases hx with rfl | rfl
     ·exact .inr (by show PV.lst (dI (intz ns) (some 1) none)=_; rw [K1])
     ·exact .inr (by show PV.lst (dI (intz ns) (some 1) none)=_; rw [K1])
    exact K3 (g:=true) hc (fun z=>by cases z) n1 dl q
 ·dsimp only
  rw [aL0 h1]
  exact aW (aW last)
theorem aB0 (ls:List (Int × Int)):tups (ls.map two)=aZ ls:=(tQ ls).symm
noncomputable def uC (r c:Int) (l:Int × Int):Bool:=decide (0<=l.1) && (decide (l.1 < r) && (decide (0<=l.2) && decide (l.2 < c)))
noncomputable def aB1 (l:Int × Int):List (Int × Int):=[(l.1 - 1,l.2),(l.1,l.2 - 1),(l.1,l.2+1),(l.1+1,l.2)]
noncomputable def uD (r c:Int) (l:Int × Int):List (Int × Int):=(aB1 l).filter (uC r c)
theorem pG:∀ {l m:List Int},l.Nodup->(∀ x ∈ l,x ∈ m)->l.length<=m.length
 | [],_,_,_=>aO1 _
 | a :: r,m,nd,h=>by
  have hm:=h a aM2
  have:=pG (l:=r) (m:=m.erase a) (aS9.mp nd).2 fun x hx=>(List.mem_erase_of_ne (show x ≠ a from fun e=>(aS9.mp nd).1 (by rw [<- e]; exact hx))).mpr (h x (aL5 _ hx))
  rw [List.length_erase_of_mem hm] at this
  have:=List.length_pos_of_mem hm
  rw [aP6]; omega
section
variable {ls : List (Int × Int)} {n : Nat} {B : List Int}
noncomputable def ins (ls:List (Int × Int)) (S:List Int) (h:Int):Nat:=((aG ls h).filter fun x=>decide (x ∈ S)).length
noncomputable def Two (ls:List (Int × Int)) (S:List Int):Prop:=∀ h ∈ S,2<=ins ls S h
theorem aB2 {S:List Int}{h a b:Int} (ha:a ∈ aG ls h) (hb:b ∈ aG ls h) (sa:a ∈ S) (sb:b ∈ S) (ne:a ≠ b):2<=ins ls S h:=by
 unfold ins
 have m1:a ∈ (aG ls h).filter fun x=>decide (x ∈ S):=aP0.mpr ⟨ha,aL2 sa⟩
 have m2:b ∈ (aG ls h).filter fun x=>decide (x ∈ S):=aP0.mpr ⟨hb,aL2 sb⟩
 cases e:(aG ls h).filter fun x=>decide (x ∈ S) with
 | nil=>rw [e] at m1; cases m1
 | cons x r=>
  cases r with
  | nil=>
   rw [e] at m1 m2
   rw [aK7.mp m1,aK7.mp m2] at ne
   exact absurd rfl ne
  | cons y z=>simp
theorem aB3 {S:List Int}{h:Int} (nd:(aG ls h).Nodup) (t:2<=ins ls S h):∃ a b,a ∈ aG ls h/\b ∈ aG ls h/\a ∈ S/\b ∈ S/\a ≠ b:=by
 unfold ins at t
 have n2:=nd.filter (fun x=>decide (x ∈ S))
 have mem:∀ x ∈ (aG ls h).filter fun x=>decide (x ∈ S),x ∈ aG ls h/\x ∈ S:=fun x hx=>⟨(aP0.mp hx).1,aT3 (aP0.mp hx).2⟩
 cases e:(aG ls h).filter fun x=>decide (x ∈ S) with
 | nil=>rw [e] at t; simp at t
 | cons x r=>
  cases r with
  | nil=>rw [e] at t; simp at t
  | cons y z=>
   rw [e] at n2 mem
   have h1:=mem x aM2
   have h2:=mem y (aL5 _ aM2)
   exact⟨x,y,h1.1,h2.1,h1.2,h2.2,fun z=>(aS9.mp n2).1 (by rw [z]; exact aM2)⟩
noncomputable def chn (ls:List (Int × Int)):List Int->Prop
 | a :: b :: r=>b ∈ aG ls a/\chn ls (b :: r)
 | _=>True
theorem aB4 {a:Int}:∀ {r:List Int},chn ls (a :: r)->chn ls r
 | [],_=>trivial
 | _ :: _,h=>h.2
theorem uE:∀ (k:Nat) {c:List Int},chn ls c->chn ls (c.drop k)
 | 0,_,h=>h
 | k+1,[],_=>trivial
 | k+1,_ :: _,h=>uE k (aB4 h)
theorem uF:∀ {c:List Int}{i:Nat}{a b:Int},chn ls c->c[i]? = some a->c[i+1]? = some b->b ∈ aG ls a
 | [],_,_,_,_,h,_=>by simp at h
 | [_],0,_,_,_,_,h=>by simp at h
 | [_],_+1,_,_,_,h,_=>by simp at h
 | x :: y :: r,0,a,b,h,h1,h2=>by
  simp at h1 h2
  subst h1 h2
  exact h.1
 | x :: y :: r,i+1,a,b,h,h1,h2=>uF h.2 (by simpa using h1) (by simpa using h2)
theorem pH {a:Int}:∀ {r:List Int}{b:Int},chn ls r->r.getLast? = some b->a ∈ aG ls b->chn ls (r ++ [a])
 | [],_,_,h,_=>by simp at h
 | [x],b,_,h,ha=>by
  simp at h
  subst h
  exact⟨ha,trivial⟩
 | x :: y :: r,b,h,hl,ha=>⟨h.1,pH (r:=y :: r) h.2 (by simpa using hl) ha⟩
theorem K4:∀ {r:List Int},chn ls r->chn ls r.reverse
 | [],_=>trivial
 | [_],_=>trivial
 | x :: y :: r,h=>by
  rw [List.reverse_cons]
  exact pH (b:=y) (K4 (r:=y :: r) h.2) (by rw [List.getLast?_reverse]; rfl) (nF h.1)
structure dD (ls:List (Int × Int)) (c:List Int):Prop where
 len:3<=c.length
 nd:c.Nodup
 ch:chn ls c
 cl:∃ a b,c.head? = some a/\c.getLast? = some b/\a ∈ aG ls b
theorem aB5 {a:Int}{r:List Int} (h:dD ls (a :: r)):dD ls (r ++ [a]):=by
 obtain ⟨x,y,hx,hy,hxy⟩:=h.cl
 have hl:=h.len
 cases r with
 | nil=>simp at hl
 | cons b r=>
  cases hx
  have hy2:(b :: r).getLast? = some y:=by simpa using hy
  refine⟨by simpa using hl,?_,pH h.ch.2 hy2 hxy,b,a,rfl,List.getLast?_concat,h.ch.1⟩
  have:=h.nd
  exact (aV3 (l₁:=[a]) (l₂:=b :: r)).nodup_iff.mp this
theorem K5 {x:Int}:∀ {A Z:List Int},dD ls (A ++ x :: Z)->∃ r,dD ls (x :: r)/\(x :: r).Perm (A ++ x :: Z)
 | [],Z,h=>⟨Z,h,List.Perm.refl _⟩
 | a :: A,Z,h=>by
  have h2:=aB5 (a:=a) (r:=A ++ x :: Z) h
  rw [aM7,List.cons_append] at h2
  obtain ⟨r,h3,p⟩:=K5 h2
  refine⟨r,h3,p.trans ?_⟩
  have:(A ++ x :: (Z ++ [a]))=(A ++ x :: Z) ++ [a]:=by rw [aM7,List.cons_append]
  rw [this]
  exact aV3
theorem aB6 {c:List Int}{x:Int} (h:dD ls c) (hx:x ∈ c):∃ r,dD ls (x :: r)/\(x :: r).Perm c:=by
 obtain ⟨A,Z,rfl⟩:=List.append_of_mem hx
 exact K5 h
theorem aB7 {c:List Int} (h:dD ls c):Two ls c:=fun x hx=>by
 obtain ⟨r,h2,p⟩:=aB6 h hx
 have hl:=h2.len
 obtain ⟨u,v,hu,hv,huv⟩:=h2.cl
 cases hu
 cases r with
 | nil=>simp at hl
 | cons a r=>
  cases r with
  | nil=>simp at hl
  | cons b r=>
   have hv2:(b :: r).getLast? = some v:=by simpa using hv
   have vm:v ∈ b :: r:=List.mem_of_getLast? hv2
   have nd:=h2.nd
   refine aB2 (a:=a) (b:=v) h2.ch.1 (nF huv) (p.mem_iff.mp (aL5 _ aM2)) (p.mem_iff.mp (aL5 _ (aL5 _ vm))) fun e=>?_
   rw [e] at nd
   exact (aS9.mp (aS9.mp nd).2).1 vm
end
section
variable {ls : List (Int × Int)} {B : List Int}
structure pI (ls:List (Int × Int)):Prop where
 lt:∀ l ∈ ls,l.1 < l.2
 ord:ls.Pairwise kO
theorem pI.nnd (f:pI ls) (h:Int):(aG ls h).Nodup:=E9 f.lt f.ord
end
theorem cL.fit {n:Nat}{ls:List (Int × Int)} (lk:cL n ls):pI ls:=⟨fun l hl=>(lk.1 l hl).2.1,lk.2.2⟩
theorem aB8 {c:List Int}{k:Nat}{a:Int} (ha:c[k]? = some a):L2.atI (intz (c.take (k+1))) (-1)=some (.int a):=by
 have e:c.take (k+1)=c.take k ++ [a]:=by rw [aQ6,ha]; rfl
 rw [e,g4]
 exact L2.wJ (intz (c.take k)) (.int a)
noncomputable def jO (c:List Int) (k:Nat):Nat:=if k=0 then c.length - 1 else k - 1
noncomputable def iL (c:List Int) (k:Nat):Int:=c.getD (jO c k) 0
noncomputable def gX (c:List Int) (k:Nat):Int × Int:=(if c.getD k 0 < iL c k then c.getD k 0 else iL c k,if c.getD k 0 > iL c k then c.getD k 0 else iL c k)
section
variable {ls : List (Int × Int)} {B c : List Int}
theorem mJ {k:Nat} (h:k < c.length):c[k]? = some (c.getD k 0):=by rw [aK8,aK2 h]; rfl
theorem aB9 (R:dD ls c) {k:Nat} (h:k < c.length):jO c k < c.length:=by unfold jO; split <;> omega
theorem aC0 (R:dD ls c) {k:Nat} (h:k < c.length):c.getD k 0 ∈ aG ls (iL c k):=by
 have hp:=aB9 R h
 unfold iL
 by_cases e:k=0
 ·subst e
  obtain ⟨a,b,ha,hb,ab⟩:=R.cl
  rw [aW6,mJ h] at ha
  rw [List.getLast?_eq_getElem?,mJ (by omega)] at hb
  cases ha
  have:jO c 0=c.length - 1:=rfl
  rw [this]
  rw [aN4 hb]
  exact ab
 ·have:jO c k=k - 1:=by unfold jO; rw [if_neg e]
  rw [this]
  exact uF R.ch (mJ (by omega)) (by rw [show k - 1+1=k by omega]; exact mJ h)
end
end Core
namespace L2
open PySem PySem.Spec PyProof.Rows SO
noncomputable abbrev kk (l:Int × Int):List a7:=[Sum.inl l.1,Sum.inl l.2]
end L2
namespace Core
open PySem L2 PP
inductive mK (r c:Int) (S:List (Int × Int)):Int × Int->Prop
 | seed {x:Int × Int}:x ∈ S->mK r c S x
 | kin {x a b:Int × Int}:uC r c x=true->a ∈ uD r c x->b ∈ uD r c x->a ≠ b->mK r c S a->mK r c S b->mK r c S x
noncomputable def nbC (r c:Int) (P:List (Int × Int)) (x:Int × Int):Nat:=(P.filter fun p=>decide (x ∈ uD r c p)).length
structure Wk (r c:Int) (S K P:List (Int × Int)):Prop where
 nd:K.Nodup
 ndP:P.Nodup
 sub:∀ x ∈ P,x ∈ K
 brn:∀ x ∈ K,mK r c S x
 sd:∀ x ∈ S,x ∈ K
 bd:∀ x ∈ K,uC r c x=true
 low:∀ x,x ∉ K->nbC r c P x < 2
structure Bx where
 t:Int
 l:Int
 b:Int
 r:Int
deriving DecidableEq
noncomputable def Bx.k (x:Bx):List Int:=[x.t,x.l,x.b,x.r]
noncomputable def okX (x:Bx):Prop:=x.t<=x.b/\x.l<=x.r
noncomputable def K6 (x:Bx) (p:Int × Int):Prop:=x.t<=p.1/\p.1<=x.b/\x.l<=p.2/\p.2<=x.r
noncomputable def K7 (x a:Int × Int):Prop:=(a.1=x.1/\(a.2=x.2 - 1 ∨ a.2=x.2+1)) ∨ (a.2=x.2/\(a.1=x.1 - 1 ∨ a.1=x.1+1))
noncomputable def Clo (B:Bx) (U:Int × Int->Prop):Prop:=∀ x a b,K6 B x->K7 x a->K7 x b->a ≠ b->U a->U b->U x
section
variable {B : Bx} {U : Int × Int → Prop}
variable {t l b r : Int}
section
variable (cl : Clo B U) {p1 p2 : Int} (u : U (p1, p2)) (ip : K6 B (p1, p2))
include cl u ip
end
end
theorem aC1 {i:Nat}{x:PV}{g:Bool}{ρ:aX}{Q:aX->Prop} (f:flat x=true) (q:Q (ρ.set i (some (.sh true x)))):cJ i x g ρ Q:=by
 unfold cJ
 rw [f,Bool.or_true]
 exact q
theorem pJ {b:Bool}{x:PV}{P:Prop} (h:(Slot.sh b x).tag = .rd):P:=by cases b <;> cases h
noncomputable abbrev bxP (x:Bx):PV:=.tup (intz x.k)
theorem aC2 {i j:Nat}{a b:Int}{g:Bool}{ρ:aX}{Q:aX->Prop} (q:Q ((ρ.set i (si a)).set j (si b))):nS i j (.tup [.int a,.int b]) g ρ Q:=by
 refine⟨_,_,rfl,?_⟩
 rw [show flat (.int a)=true from rfl,show flat (.int b)=true from rfl,Bool.or_true]
 exact q
section
variable {ns : List Int} {a r c z t l : Int} {Q : PV → Prop} (q : ∀ x : Bx, Q (bxP x))
include q
end
section
variable {ls : List (Int × Int)} {n : Nat} {U : List Int} {v : Int}
noncomputable def mu (ls:List (Int × Int)) (U:List Int):Int:=((ls.filter (inL U)).length:Int) - (U.length:Int)+((az3 ls U).length:Int)
end
noncomputable abbrev bZ:=List (Int × List Int)
noncomputable def bD (D:bZ):List (a7 × PV):=D.map fun p=>((Sum.inl p.1:a7),PV.tup (intz p.2))
noncomputable def aQ (D:bZ):List Int:=D.map (·.1)
theorem aC3 (D:bZ):(bD D).map (·.1)=(aQ D).map (Sum.inl:Int->a7):=by unfold bD aQ; rw [List.map_map,List.map_map]; rfl
theorem aC4 (D:bZ) (h:Int) (w:List Int):bD (D ++ [(h,w)])=bD D ++ [(Sum.inl h,.tup (intz w))]:=by unfold bD; rw [aS0]; rfl
theorem K8 {D:bZ}{h:Int}{w:List Int} (hn:h ∉ aQ D):cO (bD D) (Sum.inl h:a7) (.tup (intz w))=bD (D ++ [(h,w)]):=by
 rw [ax0 (aC3 D) hn,aC4]
theorem kW:∀ {D:bZ}{h:Int}{w:List Int},(aQ D).Nodup->(h,w) ∈ D->dR (bD D) (Sum.inl h:a7)=some (.tup (intz w))
 | [],_,_,_,z=>by cases z
 | p :: D,h,w,nd,z=>by
  obtain ⟨n1,n2⟩:=aS9.mp (show (p.1 :: aQ D).Nodup from nd)
  rcases aM4.mp z with rfl | z
  ·exact C3 (p:=((Sum.inl h:a7),PV.tup (intz w))) rfl
  ·have ne:p.1 ≠ h:=fun e=>n1 (e ▸ aO8.mpr ⟨(h,w),z,rfl⟩)
   exact (tL (p:=((Sum.inl p.1:a7),PV.tup (intz p.2))) fun e=>ne (Sum.inl.inj e)).trans (kW n2 z)
theorem uG:∀ {D:bZ}{h:Int},h ∉ aQ D->dR (bD D) (Sum.inl h:a7)=none
 | [],_,_=>rfl
 | p :: D,h,z=>by
  have ne:p.1 ≠ h:=fun e=>z (by rw [<- e]; exact aM2)
  exact (tL (p:=((Sum.inl p.1:a7),PV.tup (intz p.2))) fun e=>ne (Sum.inl.inj e)).trans (uG fun q=>z (aL5 _ q))
theorem c8 {D:bZ}{h:Int}:h ∈ aQ D ↔ ∃ w,(h,w) ∈ D:=by
 unfold aQ
 rw [aO8]
 exact⟨fun ⟨p,hp,e⟩=>⟨p.2,by rw [<- e]; exact hp⟩,fun ⟨w,hw⟩=>⟨_,hw,rfl⟩⟩
noncomputable def fE (n:Nat) (ls:List (Int × Int)) (h:Int):Prop:=∀ x ∈ bV ls (rng n) h,h<=x
structure b7 (n:Nat) (ls:List (Int × Int)) (D:bZ):Prop where
 nd:(aQ D).Nodup
 inn:∀ h ∈ aQ D,h ∈ rng n
 up:∀ h w,(h,w) ∈ D->(w = [h]/\fE n ls h) ∨ ∃ g u,(g,u) ∈ D/\w=u ++ [h]/\h ∈ aG ls g
section
variable {n : Nat} {ls : List (Int × Int)} {D : bZ}
theorem b7.nil:b7 n ls []:=⟨List.Pairwise.nil,(fun h hh=>by cases hh),fun h w z=>by cases z⟩
theorem pK (h:Int) (w:List Int):aQ (D ++ [(h,w)])=aQ D ++ [h]:=by unfold aQ; rw [aS0]; rfl
theorem b7.snoc (t:b7 n ls D) {h:Int}{w:List Int} (hn:h ∉ aQ D) (hr:h ∈ rng n) (hw:(w = [h]/\fE n ls h) ∨ ∃ g u,(g,u) ∈ D/\w=u ++ [h]/\h ∈ aG ls g):b7 n ls (D ++ [(h,w)]):=by
 refine⟨?_,fun x hx=>?_,fun x v hx=>?_⟩
 ·rw [pK]
  exact List.nodup_append.mpr ⟨t.nd,aR3 _ _,fun a ha b hb e=>hn (by rw [aK7.mp hb] at e; rw [<- e]; exact ha)⟩
 ·rw [pK] at hx
  rcases aM6.mp hx with hx | hx
  ·exact t.inn x hx
  ·rw [aK7.mp hx]; exact hr
 ·rcases aM6.mp hx with hx | hx
  ·rcases t.up x v hx with z | ⟨g,u,m,e,b⟩
   ·exact .inl z
   ·exact .inr ⟨g,u,aN5 _ m,e,b⟩
  ·cases aK7.mp hx
   rcases hw with z | ⟨g,u,m,e,b⟩
   ·exact .inl z
   ·exact .inr ⟨g,u,aN5 _ m,e,b⟩
theorem b7.len (t:b7 n ls D):D.length<=n:=by
 have:=pG t.nd t.inn
 rw [jJ] at this
 unfold aQ at this
 rw [aL4] at this
 exact this
theorem aC5 (t:b7 n ls D) (cl:gV ls (rng n) (aQ D)) {i:Nat} (hi:i < n) (lo:∀ k:Nat,k < i->(k:Int) ∈ aQ D) (hn:(i:Int) ∉ aQ D):fE n ls (i:Int):=fun x hx=>by
 have xr:=pC x hx
 have b:=aY.mp xr
 refine Classical.byContradiction fun lt=>hn ?_
 have xk:x ∈ aQ D:=by
  have:=lo x.toNat (by omega)
  rwa [show ((x.toNat:Nat):Int)=x by omega] at this
 have im:(i:Int) ∈ rng n:=aY.mpr ⟨by omega,by omega⟩
 have back:(i:Int) ∈ bV ls (rng n) x:=by rw [iJ (iK n) hx im]; exact gW im
 exact (g5.mp back).2 _ cl xk
theorem b7.pre (t:b7 n ls D):∀ (k:Nat) {h:Int}{w a b:List Int},w.length<=k->(h,w) ∈ D->w=a ++ b->a ≠ []->∃ g,(g,a) ∈ D/\a.getLast? = some g
 | 0,h,w,a,b,hk,_,e,ne=>by
  rw [e,aL1] at hk
  exact absurd (List.length_eq_zero_iff.mp (by omega)) ne
 | k+1,h,w,a,b,hk,hw,e,ne=>by
  rcases List.eq_nil_or_concat b with rfl | ⟨b',z,rfl⟩
  ·rw [aQ2] at e
   subst e
   refine⟨h,hw,?_⟩
   rcases t.up h w hw with ⟨e,_⟩ | ⟨g,u,_,e,_⟩
   ·rw [e]; rfl
   ·rw [e]; exact List.getLast?_concat
  ·rcases t.up h w hw with ⟨e2,_⟩ | ⟨g,u,m,e2,_⟩
   ·rw [e2] at e
    have:([h]:List Int).length=(a ++ (b'.concat z)).length:=congrArg List.length e
    rw [aL1,List.length_concat] at this
    have:=aT2.mpr ne
    simp at *
    omega
   ·rw [e2,List.concat_eq_append,<- aM7] at e
    have:=List.append_inj_left' e rfl
    rw [e2,aL1] at hk
    exact t.pre k (w:=u) (a:=a) (b:=b') (by simp at hk; omega) m this ne
end
section
variable {n : Nat} {ls : List (Int × Int)} {D : bZ}
theorem kX:∀ {D:bZ}{h:Int}{w v:List Int},(aQ D).Nodup->(h,w) ∈ D->(h,v) ∈ D->w=v
 | [],_,_,_,_,z,_=>by cases z
 | p :: D,h,w,v,nd,z,z'=>by
  obtain ⟨n1,n2⟩:=aS9.mp (show (p.1 :: aQ D).Nodup from nd)
  rcases aM4.mp z with e | z <;> rcases aM4.mp z' with e' | z'
  ·have:=e.trans e'.symm
   exact (Prod.mk.inj this).2
  ·exact absurd (c8.mpr ⟨v,z'⟩) (by rw [<- e] at n1; exact n1)
  ·exact absurd (c8.mpr ⟨w,z⟩) (by rw [<- e'] at n1; exact n1)
  ·exact kX n2 z z'
theorem b7.at_ (t:b7 n ls D) {h:Int}{w:List Int} (hw:(h,w) ∈ D) {i:Nat}{x:Int} (hx:w[i]? = some x):(x,w.take (i+1)) ∈ D:=by
 have il:=(aL8.mp hx).1
 obtain ⟨g,hg,hl⟩:=t.pre _ (aK4 _) hw (aN9 (i+1) w).symm (fun e=>by
  have z:(w.take (i+1)).length=0:=by rw [e]; rfl
  rw [aR1] at z
  omega)
 have:(w.take (i+1)).getLast? = some x:=by rw [aQ6,hx]; exact List.getLast?_concat
 rw [this] at hl
 cases hl
 exact hg
theorem b7.way (t:b7 n ls D) {h:Int}{w:List Int} (hw:(h,w) ∈ D):w.Nodup/\∀ x ∈ w,x ∈ aQ D:=by
 constructor
 ·refine aO2.mpr fun i j hi hj ij e=>?_
  have a:=t.at_ hw (aK2 hi)
  have b:=t.at_ hw (aK2 hj)
  rw [<- e] at b
  have:=congrArg List.length (kX t.nd a b)
  rw [aR1,aR1] at this
  omega
 ·intro x hx
  obtain ⟨i,hi⟩:=aV9 hx
  exact c8.mpr ⟨_,t.at_ hw hi⟩
theorem b7.way_len (t:b7 n ls D) {h:Int}{w:List Int} (hw:(h,w) ∈ D):w.length<=n:=by
 obtain ⟨a,b⟩:=t.way hw
 have:=pG a fun x hx=>t.inn x (b x hx)
 rw [jJ] at this
 exact this
end
noncomputable def kY:bP:=fun xs Q=>∃ ws ls,xs = [cE ws ls]/\ws.length<=40/\cL ws.length ls/\∀ D:bZ,b7 ws.length ls D->(∀ h ∈ rng ws.length,h ∈ aQ D)->Q (.dK (bD D))
noncomputable def K9:aJ:=(cN (aV (iY true (a6 6) (a6 2))) (aN (nV 2 (a6 6) (p8 (i9 (a6 2) (a6 5)) (i5 (aC (a6 6) aI))))
     (k7 4 (a6 6))) cR)
noncomputable def uH:aJ:=(lT (rW (a6 4))
   (aN (nM 4 5)
   (eN (gM (bX (a6 1) (a6 5))) (cJ 6)
    K9)))
noncomputable def L4:aJ:=(aN (bJ 1 (aK tM (aC (a6 0) aI)))
 (aN (iW 2 (qC (.dK [])))
 (aN (eN (i7 (aK kN (aC (a6 0) aI))) (cJ 3)
  (aN (iW 4 (i6 aI))
  (aN (cN (aV (iY true (a6 3) (a6 2))) (aN (nV 2 (a6 3) (i5 (aC (a6 3) aI)))
   (k7 4 (a6 3))) cR)
  uH)))
 (nK 2))))
section
variable {ws : List Int} {n : Nat} {ls : List (Int × Int)} {D : bZ} {E : fC} {V : List Int} {f o : Int} {w : List Int} {s0 s1 s3 y5 y6 : Option Slot}
theorem aC6 (t:b7 n ls D) (n40:n<=40) (hw:(f,w) ∈ D) (vl:V.length<=1000)
  (k1:o ∈ aQ D->E.nx [s0,s1,some (.own (.dK (bD D))),s3,some (.own (.lst (intz V))),si f,si o])
  (k2:o ∉ aQ D->E.nx [s0,s1,some (.own (.dK (bD (D ++ [(o,w ++ [o])])))),s3,some (.own (.lst (intz (V ++ [o])))),si f,si o]) :
  K9 E [s0,s1,some (.own (.dK (bD D))),s3,some (.own (.lst (intz V))),si f,si o]:=by
 have dl:=t.len
 have pl:(bD D).length=D.length:=aL4 _
 have wl:=t.way_len hw
 refine⟨_,rfl,_,rfl,_,.inl ⟨bD D,Sum.inl o,rfl,rfl,rfl⟩,_,rfl,?_⟩
 by_cases h:o ∈ aQ D
 ·obtain ⟨v,hv⟩:=c8.mp h
  rw [kW t.nd hv]
  exact aW (k1 h)
 ·rw [uG h]
  refine bB ⟨_,rfl,_,rfl,.tup (intz w),.inl ⟨bD D,Sum.inl f,rfl,rfl,(kW t.nd hw).symm⟩,_,rfl,by show 1<=1000; decide,rfl,intz w,[.int o],rfl,rfl,eJ _,rfl,by rw [bR]; show w.length+1<=16000000; omega,bD D,rfl,_,rfl,Sum.inl o,rfl,trivial,by rw [pl]; omega,?_⟩
  have e:PV.tup (intz w ++ [.int o]) = .tup (intz (w ++ [o])):=by rw [g4]; rfl
  rw [e,K8 h]
  refine⟨_,rfl,_,rfl,trivial,by rw [bR]; omega,?_⟩
  have:=k2 h
  rw [g4] at this
  exact this
theorem L5 (n40:n<=40) (lk:cL n ls) (t:b7 n ls D) (sub:∀ x ∈ V,x ∈ aQ D) (vl:V.length<=D.length) (cl:∀ x ∈ aQ D,x ∉ V->∀ y ∈ aG ls x,y ∈ aQ D) {P:List Int} (low:∀ x ∈ P,x ∈ aQ D)
  (k:∀ D' y4 y5 y6,b7 n ls D'->gV ls (rng n) (aQ D')->(∀ x ∈ P,x ∈ aQ D')->E.nx [s0,some (.sh true (.lst (fP n ls))),some (.own (.dK (bD D'))),s3,y4,y5,y6]) :
  uH E [s0,some (.sh true (.lst (fP n ls))),some (.own (.dK (bD D))),s3,some (.own (.lst (intz V))),y5,y6]:=by
 have nin:∀ x y,y ∈ aG ls x->y ∈ rng n:=fun x y hy=>by
  rcases L2.cQ.mp hy with z | z
  ·have:=lk.1 _ z; exact aY.mpr ⟨by dsimp only at this; omega,by dsimp only at this; omega⟩
  ·have:=lk.1 _ z; exact aY.mpr ⟨by dsimp only at this; omega,by dsimp only at this; omega⟩
 refine⟨fun m ρ=>∃ (D:bZ) (V:List Int) (y5 y6:Option Slot),ρ = [s0,some (.sh true (.lst (fP n ls))),some (.own (.dK (bD D))),s3,some (.own (.lst (intz V))),y5,y6]/\b7 n ls D/\(∀ x ∈ V,x ∈ aQ D)/\V.length<=D.length/\(∀ x ∈ aQ D,x ∉ V->∀ y ∈ aG ls x,y ∈ aQ D)/\(∀ x ∈ P,x ∈ aQ D)/\m=2 * (n - D.length)+V.length,⟨_,D,V,y5,y6,rfl,t,sub,vl,cl,low,rfl⟩,?_⟩
 rintro m ρ ⟨D,V,y5,y6,rfl,t,sub,vl,cl,low,rfl⟩
 have dl:=t.len
 refine⟨_,rfl,_,rfl,?_⟩
 rcases List.eq_nil_or_concat V with rfl | ⟨V',f,rfl⟩
 ·exact aW (k D _ _ _ t (fun x hx y hy _=>cl x hx (by simp) y hy) low)
 ·rw [List.concat_eq_append] at *
  have ne:(!(intz (V' ++ [f])).isEmpty)=true:=by rw [g4]; simp
  rw [ne]
  rw [aL1,aN2] at vl
  refine bB ⟨intz V',.int f,by show _=some (some (Slot.own (.lst (intz V' ++ [PV.int f])))); rw [g4]; rfl,?_⟩
  have fk:=sub f (aM1 _ (aQ0 _))
  have fr:=aY.mp (t.inn f fk)
  obtain ⟨w,hw⟩:=c8.mp fk
  refine⟨_,rfl,_,rfl,_,_,_,rfl,rfl,au0 fr.1 fr.2,intz (aG ls f),rfl,(fun z=>by cases z),fun j ρ=>∃ (D':bZ) (V2:List Int) (y6:Option Slot),ρ = [s0,some (.sh true (.lst (fP n ls))),some (.own (.dK (bD D'))),s3,some (.own (.lst (intz V2))),si f,y6]/\b7 n ls D'/\(f,w) ∈ D'/\(∀ x ∈ V2,x ∈ aQ D')/\V2.length<=D'.length/\(∀ x ∈ aQ D',x ∉ V2->x ≠ f->∀ y ∈ aG ls x,y ∈ aQ D')/\(∀ y ∈ (aG ls f).take j,y ∈ aQ D')/\(∀ x ∈ P,x ∈ aQ D')/\2 * (n - D'.length)+V2.length<=2 * (n - D.length)+V'.length,⟨D,V',y6,rfl,t,hw,(fun x hx=>sub x (aN5 _ hx)),by omega,(fun x hx hn ne=>cl x hx fun z=>(aM6.mp z).elim hn fun q=>ne (aK7.mp q)),(fun y hy=>by rw [List.take_zero] at hy; cases hy),low,aK4 _⟩,?_,?_⟩
  ·rintro j z ρ hz ⟨D',V2,y6,rfl,t',hw',sub',vl',cl',dn,low',ms⟩
   obtain ⟨o,rfl,ho⟩:=tK hz
   have om:=aP3 ho
   have dl':=t'.len
   have tk:(aG ls f).take (j+1)=(aG ls f).take j ++ [o]:=by rw [aQ6,ho]; rfl
   refine jL ?_
   refine aC6 t' n40 hw' (by omega) (fun h=>⟨D',V2,_,rfl,t',hw',sub',vl',cl',fun y hy=>?_,low',ms⟩) fun h=>?_
   ·rw [tk] at hy
    rcases aM6.mp hy with hy | hy
    ·exact dn y hy
    ·rw [aK7.mp hy]; exact h
   ·have t2:=t'.snoc h (nin f o om) (.inr ⟨f,w,hw',rfl,om⟩)
    have l2:=t2.len
    rw [aL1,aN2] at l2
    have kk:=pK (D:=D') o (w ++ [o])
    have up:∀ x,x ∈ aQ D'->x ∈ aQ (D' ++ [(o,w ++ [o])]):=fun x hx=>by rw [kk]; exact aN5 _ hx
    refine⟨_,V2 ++ [o],_,rfl,t2,aN5 _ hw',fun x hx=>?_,by rw [aL1,aL1]; simp; omega,fun x hx hn ne y hy=>?_,fun y hy=>?_,fun x hx=>up x (low' x hx),by rw [aL1,aL1]; simp; omega⟩
    ·rcases aM6.mp hx with hx | hx
     ·exact up x (sub' x hx)
     ·rw [aK7.mp hx,kk]; exact aM1 _ (aQ0 _)
    ·rw [kk] at hx
     rcases aM6.mp hx with hx | hx
     ·exact up y (cl' x hx (fun z=>hn (aN5 _ z)) ne y hy)
     ·exact absurd (aM1 V2 hx) hn
    ·rw [tk] at hy
     rcases aM6.mp hy with hy | hy
     ·exact up y (dn y hy)
     ·rw [aK7.mp hy,kk]; exact aM1 _ (aQ0 _)
  ·rintro ρ ⟨D',V2,y6,rfl,t',hw',sub',vl',cl',dn,low',ms⟩
   rw [bR,aW8] at dn
   refine⟨2 * (n - D'.length)+V2.length,by rw [aL1,aN2]; omega,D',V2,_,_,rfl,t',sub',vl',fun x hx hn y hy=>?_,low',rfl⟩
   by_cases e:x=f
   ·rw [e] at hy; exact dn y hy
   ·exact cl' x hx hn e y hy
end
theorem aC7:dU L4 ["web","around","ways","root","waiting","hearth","other"] kY:=by
 rintro xs Q ⟨ws,ls,rfl,n40,lk,q⟩
 have wb:Wb ws ls:=⟨by omega,by have:=lk.2.1; omega,fun l hl=>by have:=lk.1 l hl; omega⟩
 refine⟨_,rfl,ws,ls,rfl,wb,trivial,?_⟩
 refine⟨rfl,rfl,?_⟩
 refine⟨_,rfl,ws,ls,rfl,_,rfl,by omega,by omega,fun i ρ=>∃ (D:bZ) (y3 y4 y5 y6:Option Slot),ρ = [some (.sh (flat (cE ws ls)) (cE ws ls)),some (.sh true (.lst (fP ws.length ls))),some (.own (.dK (bD D))),y3,y4,y5,y6]/\b7 ws.length ls D/\gV ls (rng ws.length) (aQ D)/\∀ x ∈ (rng ws.length).take i,x ∈ aQ D,⟨[],none,none,none,none,rfl,b7.nil,(fun x hx=>by cases hx),fun x hx=>by rw [List.take_zero] at hx; cases hx⟩,?_,?_⟩
 ·rintro i y ρ hy ⟨D,y3,y4,y5,y6,rfl,t,cl,low⟩
  obtain ⟨rfl,hi⟩:=jI hy
  have hi:i < ws.length:=by omega
  have dl:=t.len
  have pl:(bD D).length=D.length:=aL4 _
  have tk:(rng ws.length).take (i+1)=(rng ws.length).take i ++ [(i:Int)]:=by rw [aQ6,oX hi]; rfl
  have im:(i:Int) ∈ rng ws.length:=aY.mpr ⟨by omega,by omega⟩
  refine jL ?_
  rw [Int.zero_add]
  refine⟨by show 0<=1000; decide,rfl,rfl,rfl,?_⟩
  refine⟨_,rfl,_,rfl,_,.inl ⟨bD D,Sum.inl (i:Int),rfl,rfl,rfl⟩,_,rfl,?_⟩
  have nin:∀ x y,y ∈ aG ls x->y ∈ rng ws.length:=fun x y hy=>by
   rcases L2.cQ.mp hy with z | z
   ·have:=lk.1 _ z; exact aY.mpr ⟨by dsimp only at this; omega,by dsimp only at this; omega⟩
   ·have:=lk.1 _ z; exact aY.mpr ⟨by dsimp only at this; omega,by dsimp only at this; omega⟩
  by_cases h:(i:Int) ∈ aQ D
  ·obtain ⟨v,hv⟩:=c8.mp h
   rw [kW t.nd hv]
   refine aW ?_
   refine L5 (V:=[]) (P:=(rng ws.length).take (i+1)) n40 lk t (fun x hx=>by cases hx) (aO1 _) (fun x hx _ y hy=>cl x hx y hy (nin x y hy)) (fun x hx=>?_) fun D' y4 y5 y6 t' cl' low'=>⟨D',_,y4,y5,y6,rfl,t',cl',low'⟩
   rw [tk] at hx
   rcases aM6.mp hx with hx | hx
   ·exact low x hx
   ·rw [aK7.mp hx]; exact h
  ·rw [uG h]
   have lo:∀ k:Nat,k < i->(k:Int) ∈ aQ D:=fun k hk=>low _ (aP3 (l:=(rng ws.length).take i) (i:=k) (by rw [aS2 hk,oX (by omega)]))
   have t2:=t.snoc h im (.inl ⟨rfl,aC5 t cl hi lo h⟩)
   have kk:=pK (D:=D) (i:Int) [(i:Int)]
   refine bB ⟨_,rfl,by show 1<=1000; decide,rfl,bD D,rfl,_,rfl,Sum.inl (i:Int),rfl,trivial,by rw [pl]; omega,?_⟩
   have e:PV.tup [.int (i:Int)] = .tup (intz [(i:Int)]):=rfl
   show (k7 4 (a6 3)) _ _
   refine⟨_,rfl,_,rfl,trivial,by show 0 < 16000000; decide,?_⟩
   have go:=L5 (E:={ nx:=fun ρ=>∃ (D:bZ) (y3 y4 y5 y6:Option Slot),ρ = [some (.sh (flat (cE ws ls)) (cE ws ls)),some (.sh true (.lst (fP ws.length ls))),some (.own (.dK (bD D))),y3,y4,y5,y6]/\b7 ws.length ls D/\gV ls (rng ws.length) (aQ D)/\∀ x ∈ (rng ws.length).take (i+1),x ∈ aQ D,rt:=Q,ct:=fun ρ=>∃ (D:bZ) (y3 y4 y5 y6:Option Slot),ρ = [some (.sh (flat (cE ws ls)) (cE ws ls)),some (.sh true (.lst (fP ws.length ls))),some (.own (.dK (bD D))),y3,y4,y5,y6]/\b7 ws.length ls D/\gV ls (rng ws.length) (aQ D)/\∀ x ∈ (rng ws.length).take (i+1),x ∈ aQ D }) (s0:=some (.sh (flat (cE ws ls)) (cE ws ls))) (s3:=si (i:Int)) (y5:=y5) (y6:=y6) (V:=[(i:Int)]) (P:=(rng ws.length).take (i+1)) n40 lk t2 (fun x hx=>by rw [aK7.mp hx,kk]; exact aM1 _ (aQ0 _)) (by rw [aL1]; simp) (fun x hx hn y hy=>?_) (fun x hx=>?_) fun D' y4 y5 y6 t' cl' low'=>⟨D',_,y4,y5,y6,rfl,t',cl',low'⟩
   ·show uH _ [some (.sh (flat (cE ws ls)) (cE ws ls)),some (.sh true (.lst (fP ws.length ls))),some (.own (.dK (cO (bD D) (Sum.inl (i:Int):a7) (.tup (intz [(i:Int)]))))),si (i:Int),some (.own (.lst (intz [(i:Int)]))),y5,y6]
    rw [K8 h]
    exact go
   ·rw [kk] at hx ⊢
    rcases aM6.mp hx with hx | hx
    ·exact aN5 _ (cl x hx y hy (nin x y hy))
    ·exact absurd hx hn
   ·rw [tk] at hx
    rw [kk]
    rcases aM6.mp hx with hx | hx
    ·exact aN5 _ (low x hx)
    ·exact aM1 _ hx
 ·rintro ρ ⟨D,y3,y4,y5,y6,rfl,t,cl,low⟩
  rw [fW,aR6,aO0 (by rw [jJ]; omega)] at low
  exact⟨_,rfl,trivial,q D t low⟩
section
variable {n : Nat} {ls : List (Int × Int)} {D : bZ}
theorem b7.last (t:b7 n ls D) {h:Int}{w:List Int} (hw:(h,w) ∈ D):w.getLast? = some h:=by
 rcases t.up h w hw with ⟨e,_⟩ | ⟨g,u,_,e,_⟩
 ·rw [e]; rfl
 ·rw [e]; exact List.getLast?_concat
theorem b7.chn (t:b7 n ls D):∀ (k:Nat) {h:Int}{w:List Int},w.length<=k->(h,w) ∈ D->Core.chn ls w
 | 0,h,w,hk,hw=>by
  have:w = []:=List.length_eq_zero_iff.mp (by omega)
  rw [this]; trivial
 | k+1,h,w,hk,hw=>by
  rcases t.up h w hw with ⟨e,_⟩ | ⟨g,u,m,e,b⟩
  ·rw [e]; trivial
  ·rw [e,aL1,aN2] at hk
   rw [e]
   exact pH (t.chn k (by omega) m) (t.last m) b
theorem b7.head (t:b7 n ls D):∀ (k:Nat) {h:Int}{w:List Int},w.length<=k->(h,w) ∈ D->∃ r,w.head? = some r/\fE n ls r/\r ∈ bV ls (rng n) h
 | 0,h,w,hk,hw=>by
  have e:w = []:=List.length_eq_zero_iff.mp (by omega)
  have:=t.last hw
  rw [e] at this; cases this
 | k+1,h,w,hk,hw=>by
  have hr:=t.inn h (c8.mpr ⟨w,hw⟩)
  rcases t.up h w hw with ⟨e,r⟩ | ⟨g,u,m,e,b⟩
  ·rw [e]; exact⟨h,rfl,r,gW hr⟩
  ·rw [e,aL1,aN2] at hk
   obtain ⟨r,h1,h2,h3⟩:=t.head k (by omega) m
   have gr:=t.inn g (c8.mpr ⟨u,m⟩)
   have hg:h ∈ bV ls (rng n) g:=kU g (gW gr) h b hr
   refine⟨r,?_,h2,by rw [iJ (iK n) hg gr]; exact h3⟩
   rw [e,List.head?_append,h1]; rfl
theorem uI {r r' h:Int} (hr:h ∈ rng n) (a:fE n ls r) (b:fE n ls r') (ha:r ∈ bV ls (rng n) h) (hb:r' ∈ bV ls (rng n) h):r=r':=by
 have e1:=iJ (iK n) ha hr
 have e2:=iJ (iK n) hb hr
 have:=a r' (by rw [e1]; exact hb)
 have:=b r (by rw [e2]; exact ha)
 omega
theorem L6:∀ {A B:List Int},chn ls A->chn ls B->(∀ x y,A.getLast? = some x->B.head? = some y->y ∈ aG ls x)->chn ls (A ++ B)
 | [],B,_,hb,_=>hb
 | [x],[],_,_,_=>trivial
 | [x],y :: B,_,hb,j=>⟨j x y rfl rfl,hb⟩
 | x :: y :: A,B,ha,hb,j=>⟨ha.1,L6 (A:=y :: A) ha.2 hb fun u v hu hv=>j u v (by rw [List.getLast?_cons_cons]; exact hu) hv⟩
structure uJ (wa wb:List Int) (s:Nat):Prop where
 la:s<=wa.length
 lb:s<=wb.length
 eq:wa.take s=wb.take s
 stop:s < wa.length->s < wb.length->wa[s]? ≠ wb[s]?
noncomputable def eU (wa wb:List Int) (s:Nat):List Int:=wa.drop (s - 1) ++ (wb.drop s).reverse
theorem aC8 (t:b7 n ls D) {a b:Int}{wa wb:List Int} (ha:(a,wa) ∈ D) (hb:(b,wb) ∈ D) (ab:b ∈ aG ls a) (ne:a ≠ b) (par:(wa.length+wb.length) % 2=0) {s:Nat} (S:uJ wa wb s) :
  1<=s/\dD ls (eU wa wb s)/\(eU wa wb s).length % 2=1:=by
 have la:=t.last ha
 have lb:=t.last hb
 have ar:=t.inn a (c8.mpr ⟨wa,ha⟩)
 have br:=t.inn b (c8.mpr ⟨wb,hb⟩)
 obtain ⟨r,h1,h2,h3⟩:=t.head _ (aK4 _) ha
 obtain ⟨r',g1,g2,g3⟩:=t.head _ (aK4 _) hb
 have bc:b ∈ bV ls (rng n) a:=kU a (gW ar) b ab br
 have rr:r=r':=uI ar h2 g2 h3 (by rw [<- iJ (iK n) bc ar]; exact g3)
 have pa:0 < wa.length:=aT2.mpr fun e=>by rw [e] at la; cases la
 have pb:0 < wb.length:=aT2.mpr fun e=>by rw [e] at lb; cases lb
 have s1:1<=s:=by
  rcases Nat.eq_zero_or_pos s with e | e
  ·subst e
   refine absurd ?_ (S.stop pa pb)
   rw [<- aW6,<- aW6,h1,g1,rr]
  ·exact e
 have sla:=S.la
 have slb:=S.lb
 have at_:∀ i,i < s->wa[i]? = wb[i]?:=fun i hi=>by
  have:=congrArg (fun l:List Int=>l[i]?) S.eq
  rwa [aS2 hi,aS2 hi] at this
 have len:(eU wa wb s).length=wa.length - (s - 1)+(wb.length - s):=by unfold eU; rw [aL1,List.length_reverse,aS3,aS3]
 have odd:(eU wa wb s).length % 2=1:=by rw [len]; omega
 have same:∀ i j x,wa[i]? = some x->wb[j]? = some x->i=j/\wa.take (i+1)=wb.take (j+1):=fun i j x hi hj=>by
  have e:=kX t.nd (t.at_ ha hi) (t.at_ hb hj)
  have il:=(aL8.mp hi).1
  have jl:=(aL8.mp hj).1
  have:=congrArg List.length e
  rw [aR1,aR1] at this
  exact⟨by omega,e⟩
 have l3:3<=(eU wa wb s).length:=by
  rcases aO4 (eU wa wb s).length 3 with z | z
  ·exfalso
   have e1:wa.length=s:=by omega
   have e2:wb.length=s:=by omega
   have:=S.eq
   rw [aO0 (by omega),aO0 (by omega)] at this
   rw [this,lb] at la
   exact ne (aN4 la).symm
  ·exact z
 obtain ⟨x0,hx0⟩:∃ x,wa[s - 1]? = some x:=⟨_,aK2 (by omega)⟩
 have hd:(eU wa wb s).head? = some x0:=by
  unfold eU
  rw [List.head?_append,List.head?_drop,hx0]; rfl
 refine⟨s1,⟨l3,?_,?_,x0,?_⟩,odd⟩
 ·unfold eU
  refine List.nodup_append.mpr ⟨(t.way ha).1.sublist (List.drop_sublist _ _),((List.reverse_perm _).nodup_iff.mpr ((t.way hb).1.sublist (List.drop_sublist _ _))),fun x hx y hy e=>?_⟩
  subst e
  obtain ⟨i,hi⟩:=aV9 hx
  obtain ⟨j,hj⟩:=aV9 (List.mem_reverse.mp hy)
  rw [List.getElem?_drop] at hi hj
  obtain ⟨e1,e2⟩:=same _ _ _ hi hj
  have il:=(aL8.mp hi).1
  have jl:=(aL8.mp hj).1
  refine S.stop (by omega) (by omega) ?_
  have:=congrArg (fun l:List Int=>l[s]?) e2
  rwa [aS2 (by omega),aS2 (by omega)] at this
 ·unfold eU
  refine L6 (uE _ (t.chn _ (aK4 _) ha)) (K4 (uE _ (t.chn _ (aK4 _) hb))) fun x y hx hy=>?_
  rw [List.head?_reverse] at hy
  have ex:x=a:=by
   rw [List.getLast?_drop] at hx
   split at hx
   ·cases hx
   ·rw [la] at hx; exact (aN4 hx).symm
  have ey:y=b:=by
   rw [List.getLast?_drop] at hy
   split at hy
   ·cases hy
   ·rw [lb] at hy; exact (aN4 hy).symm
  rw [ex,ey]; exact ab
 ·unfold eU
  by_cases e:s=wb.length
  ·have dn:wb.drop s = []:=List.drop_of_length_le (by omega)
   refine⟨a,by rw [<- hd]; rfl,?_,?_⟩
   ·rw [dn,List.reverse_nil,aQ2,List.getLast?_drop,if_neg (by omega),la]
   ·have:x0=b:=by
     rw [at_ _ (by omega),e,<- List.getLast?_eq_getElem?,lb] at hx0
     exact (aN4 hx0).symm
    rw [this]; exact ab
  ·obtain ⟨y0,hy0⟩:∃ y,wb[s]? = some y:=⟨_,aK2 (by omega)⟩
   refine⟨y0,by rw [<- hd]; rfl,?_,?_⟩
   ·rw [List.getLast?_append,List.getLast?_reverse,List.head?_drop,hy0]; rfl
   ·rw [at_ _ (by omega)] at hx0
    have:=uF (t.chn _ (aK4 _) hb) hx0 (by rw [show s - 1+1=s by omega]; exact hy0)
    exact nF this
end
end Core
namespace PP
open PySem L2
noncomputable def uK:List PV->(PV->Prop)->Prop:=fun xs Q=>∃ ys,xs = [.tup ys]/\flats ys=true/\Q (.tup ys.reverse)
end PP
namespace Core
open PySem L2 PP
noncomputable def pL:bP:=fun xs Q=>∃ wa wb:List Int,xs = [.tup (intz wa),.tup (intz wb)]/\wa ≠ []/\wb ≠ []/\wa.head? = wb.head?/\wa.length<=1000/\wb.length<=1000/\∀ s,1<=s->uJ wa wb s->Q (.tup (intz (eU wa wb s)))
noncomputable def L7:aJ:=(aN (bJ 2 (qC (.int 0)))
 (aN (lT (jY (aV (sJ (a6 2) (aK lU (aC (aK dQ (aC (a6 0) aI)) (aC (aK dQ (aC (a6 1) aI)) aI))))) (aV (eD (bX (a6 0) (a6 2)) (bX (a6 1) (a6 2)))))
  (bJ 2 (iA (a6 2) (qC (.int 1)))))
 (bW (p8 (j5 (a6 0) (j4 (iB (a6 2) (qC (.int 1)))) iZ) (aK uK (aC (j5 (a6 1) (j4 (a6 2)) iZ) aI))))))
theorem aC9:dU L7 ["way","other","shared"] pL:=by
 rintro xs Q ⟨wa,wb,rfl,na,nb,hh,la,lb,q⟩
 have pa:=aT2.mpr na
 have pb:=aT2.mpr nb
 refine⟨trivial,?_⟩
 refine⟨fun m ρ=>∃ s:Nat,ρ = [some (.sh (flat (.tup (intz wa))) (.tup (intz wa))),some (.sh (flat (.tup (intz wb))) (.tup (intz wb))),si s]/\s<=wa.length/\s<=wb.length/\wa.take s=wb.take s/\m=wa.length - s,⟨_,0,rfl,aO1 _,aO1 _,rfl,rfl⟩,?_⟩
 rintro m ρ ⟨s,rfl,sa,sb,eq,rfl⟩
 have out:uJ wa wb s->(bW (p8 (j5 (a6 0) (j4 (iB (a6 2) (qC (.int 1)))) iZ) (aK uK (aC (j5 (a6 1) (j4 (a6 2)) iZ) aI)))) { nx:=fun _=>Q .non,rt:=Q } [some (.sh (flat (.tup (intz wa))) (.tup (intz wa))),some (.sh (flat (.tup (intz wb))) (.tup (intz wb))),si s]:=fun S=>by
  have s1:1<=s:=by
   rcases Nat.eq_zero_or_pos s with e | e
   ·subst e
    exact absurd (by rw [<- aW6,<- aW6,hh]) (S.stop pa pb)
   ·exact e
  have c1:dI (intz wa) (some ((s:Int) - 1)) none=intz (wa.drop (s - 1)):=by
   rw [tR wa (by omega),show ((s:Int) - 1).toNat=s - 1 by omega]
  have c2:dI (intz wb) (some (s:Int)) none=intz (wb.drop s):=by
   rw [tR wb (by omega),aR6]
  refine⟨_,rfl,_,rfl,(s:Int),1,rfl,rfl,_,rfl,intz wa,rfl,eJ _,_,rfl,_,rfl,_,rfl,intz wb,rfl,eJ _,intz (wb.drop s),by show [PV.tup (dI (intz wb) (some (s:Int)) none)]=_; rw [c2],eJ _,intz (wa.drop (s - 1)),(intz (wb.drop s)).reverse,by show PV.tup (dI (intz wa) (some ((s:Int) - 1)) none)=_; rw [c1],rfl,eJ _,?_,?_,trivial,?_⟩
  ·rw [show (intz (wb.drop s)).reverse=intz (wb.drop s).reverse from List.map_reverse.symm]; exact eJ _
  ·rw [List.length_reverse,bR,bR,aS3,aS3]; omega
  ·rw [show (intz (wb.drop s)).reverse=intz (wb.drop s).reverse from List.map_reverse.symm,<- g4]
   exact q s s1 S
 refine⟨_,rfl,_,rfl,_,_,rfl,rfl,_,rfl,_,_,rfl,rfl,_,_,rfl,_,_,rfl,rfl,_,rfl,?_⟩
 rw [bR,bR]
 show if decide ((s:Int) < (if (wb.length:Int) < (wa.length:Int) then (wb.length:Int) else (wa.length:Int)))=true then _ else _
 by_cases lt:s < wa.length/\s < wb.length
 ·obtain ⟨l1,l2⟩:=lt
  rw [aL2 (by split <;> omega)]
  obtain ⟨x,hx⟩:∃ x,wa[s]? = some x:=⟨_,aK2 l1⟩
  obtain ⟨y,hy⟩:∃ y,wb[s]? = some y:=⟨_,aK2 l2⟩
  have ix:L2.atI (intz wa) (s:Int)=some (.int x):=lI (by unfold intz; rw [aL9,hx]; rfl)
  have iy:L2.atI (intz wb) (s:Int)=some (.int y):=lI (by unfold intz; rw [aL9,hy]; rfl)
  refine bB ⟨_,rfl,_,rfl,_,_,_,rfl,rfl,ix,_,rfl,_,rfl,_,_,_,rfl,rfl,iy,.inl ⟨_,_,rfl,rfl,_,rfl,?_⟩⟩
  show if decide (x=y)=true then _ else _
  by_cases e:x=y
  ·rw [aL2 e]
   refine bB ⟨_,rfl,_,_,rfl,rfl,trivial,wa.length - (s+1),by omega,s+1,rfl,by omega,by omega,?_,rfl⟩
   rw [aQ6,aQ6,eq,hx,hy,e]
  ·rw [aL0 e]
   exact aW (out ⟨sa,sb,eq,fun _ _ z=>e (by rw [hx,hy] at z; exact aN4 z)⟩)
 ·rw [aL0 (by split <;> omega)]
  exact aW (aW (out ⟨sa,sb,eq,fun a b=>absurd ⟨a,b⟩ lt⟩))
noncomputable def jP:bP:=fun xs Q=>∃ w:List Int,xs = [.tup (intz w)]/\Q (.int (((w.length:Int) - 1) % 2))
noncomputable def L8:aJ:=(bW (dA (iB (aK dQ (aC (a6 0) aI)) (qC (.int 1))) (qC (.int 2))))
theorem aD0:dU L8 ["way"] jP:=by
 rintro xs Q ⟨w,rfl,q⟩
 refine⟨_,rfl,_,_,rfl,rfl,_,_,rfl,rfl,_,_,rfl,rfl,(by show (0:Int) < 2; decide),trivial,?_⟩
 rw [bR]
 exact q
noncomputable def cF (w:List Int):Int:=((w.length:Int) - 1) % 2
noncomputable def aD1:bP:=fun xs Q=>∃ ws ls,xs = [cE ws ls]/\ws.length<=40/\cL ws.length ls/\∀ D:bZ,b7 ws.length ls D->(∀ h ∈ rng ws.length,h ∈ aQ D)->
 ((∀ l ∈ ls,∀ wa wb,(l.1,wa) ∈ D->(l.2,wb) ∈ D->cF wa ≠ cF wb)->Q .non)/\((∃ l ∈ ls,∃ wa wb,(l.1,wa) ∈ D/\(l.2,wb) ∈ D/\cF wa=cF wb)->∀ c,dD ls c->c.length % 2=1->Q (.tup (intz c)))
noncomputable def L9:aJ:=(aN (bJ 1 (aK kY (aC (a6 0) aI)))
 (aN (eN (gM (bX (a6 0) (qC (.int 1)))) (nS 2 3)
  (cN (aV (eD (aK jP (aC (i9 (a6 1) (a6 2)) aI)) (aK jP (aC (i9 (a6 1) (a6 3)) aI)))) (bW (aK pL (aC (i9 (a6 1) (a6 2)) (aC (i9 (a6 1) (a6 3)) aI)))) cR))
 (bW (qC .non))))
end Core
set_option maxHeartbeats 1000000
namespace Raw
open PySem PySem.W PySem.Calls PyProof.Rows
theorem aD2:Slot "reversed" "__init__" "object.__init__":=
 .of (owner:="object") (n:="__init__") (by rw [typeLookup_type,aV4]; kernel_rfl) (by decide +kernel) (by decide +kernel) (by decide +kernel)
  (by first | exact .inl (by decide +kernel) | exact .inr (by decide +kernel)) (by rw [aX8]; kernel_rfl)
theorem aD3:TypeCalled "reversed" "reversed.__new__" "object.__init__":=
 ⟨by decide +kernel,by decide +kernel,⟨_,_,F.mro_reversed⟩,F.made_reversed,F.plain_reversed_new,F.sub_reversed_self,aD2⟩
theorem aD4:typeLookup (.type "tuple") "__reversed__" = pure none:=by rw [typeLookup_type,aV4]; kernel_rfl
noncomputable def pM (t:Addr) (i:Int):Obj:={ cls:=.type "reversed",data:=.fields #[.ref t,rawInt i] }
theorem aD5 (t:Addr) (items:Array Value) (hz:(items.size:Int) < 2 ^ 62) :
  Meets (Builtin.«reversed.__new__» ⟨[.type "reversed",.ref t],[]⟩) (fun _ R s=>IsTup s.heap t items/\∀ tk,R (.ok (.ret (.ref s.heap.objs.size))) { s with heap:=s.heap.push (pM t ((items.size:Int) - 1)),toks:=tk }):=
 .of_wp fun prog w A R s h=>by
  obtain ⟨ht,h⟩:=h
  have hT:s.TypeIs (.ref t) "tuple":=ht.typeIs
  unfold Builtin.«reversed.__new__»
  refine aK1 (aZ7 (newClass_reversed _) ?_)
  try dsimp only
  refine aK1 (aZ7 (a:=()) (by first | rfl | kernel_rfl) ?_)
  refine aK1 (aZ7 (a:=()) (by first | rfl | kernel_rfl) ?_)
  try dsimp only
  refine aK1 (wpAny_specialOf hT aD4 ?_)
  try dsimp only
  have hg:=F.slot_tuple_getitem.lookup
  have hsd:isSubtype (.type "tuple") (.type "dict")=pure false:=by rw [aX8]; kernel_rfl
  generalize pc:call (Value.builtin "len") [Value.ref t]=CL
  refine aK1 ?_
  show wpAny _ _ (isInstance (.ref t) (.type "dict") >>= fun b=>_) _ _ _
  wp_walk using wpAny_typeOf hT,wpAny_specialOf hT hg
  subst pc
  refine len_tuple ht (by omega) ?_
  refine aK1 (m:=asInt? _) (aK6 ?_)
  show wpAny _ _ (newObj (.type "reversed") (.fields #[.ref t,rawInt ((items.size:Int) - 1)]) >>= fun v=>ret v) _ _ _
  refine aK1 (aP7 ?_)
  exact aK6 ⟨_,rfl,h _⟩
theorem uL:Manifest.owners.lookup (String.ofList ['d','e','s','r','e','v','e','r'].reverse)=some Manifest.sig_reversed:=by kernel_rfl
theorem mL:Slot "reversed" "__next__" "reversed.__next__":=
 .of (owner:="reversed") (n:="__next__") (by rw [typeLookup_type,aV4]; kernel_rfl) (by decide +kernel) (by decide +kernel) (by decide +kernel)
  (by first | exact .inl (by decide +kernel) | exact .inr (by decide +kernel)) (by rw [aX8]; kernel_rfl)
theorem M0:entryFor table "reversed.__next__" = some Builtin.«reversed.__next__»:=entryFor_of_tree (by kernel_rfl)
theorem M3 (a:Value):argsOk "reversed.__next__" ⟨[a],[]⟩:=by
 unfold argsOk; rw [signature?_of (id:="reversed.__next__") (n:=['_','_','t','x','e','n','_','_']) (o:=['d','e','s','r','e','v','e','r']) (by kernel_rfl) uL]; kernel_rfl
theorem M4:Slot "reversed" "__iter__" "reversed.__iter__":=
 .of (owner:="reversed") (n:="__iter__") (by rw [typeLookup_type,aV4]; kernel_rfl) (by decide +kernel) (by decide +kernel) (by decide +kernel)
  (by first | exact .inl (by decide +kernel) | exact .inr (by decide +kernel)) (by rw [aX8]; kernel_rfl)
theorem aD6 (a:Value):argsOk "reversed.__iter__" ⟨[a],[]⟩:=by
 unfold argsOk; rw [signature?_of (id:="reversed.__iter__") (n:=['_','_','r','e','t','i','_','_']) (o:=['d','e','s','r','e','v','e','r']) (by kernel_rfl) uL]; kernel_rfl
theorem aD7:entryFor table "reversed.__iter__" = some Builtin.«dict_keyiterator.__iter__»:=
 entryFor_alias (id':="dict_keyiterator.__iter__") (by kernel_rfl) (by first | rfl | decide +kernel | (unfold String.splitOn; simp +decide [String.splitOnAux])) (by decide +kernel) (by kernel_rfl)
theorem aD8:typeLookup (.type "reversed") "__len__" = pure none:=by rw [typeLookup_type,aV4]; kernel_rfl
theorem uM:Slot "reversed" "__length_hint__" "reversed.__length_hint__":=
 .of (owner:="reversed") (n:="__length_hint__") (by rw [typeLookup_type,aV4]; kernel_rfl) (by decide +kernel) (by decide +kernel) (by decide +kernel)
  (by first | exact .inl (by decide +kernel) | exact .inr (by decide +kernel)) (by rw [aX8]; kernel_rfl)
theorem aD9:entryFor table "reversed.__length_hint__" = some Builtin.«reversed.__length_hint__»:=entryFor_of_tree (by kernel_rfl)
theorem aE0 (a:Value):argsOk "reversed.__length_hint__" ⟨[a],[]⟩:=by
 unfold argsOk; rw [signature?_of (id:="reversed.__length_hint__") (n:=['_','_','t','n','i','h','_','h','t','g','n','e','l','_','_']) (o:=['d','e','s','r','e','v','e','r']) (by kernel_rfl) uL]; kernel_rfl
noncomputable def cS (h:Heap) (a t:Addr) (i:Int):Prop:=∃ o,h.get? a=some o/\o.cls = .type "reversed"/\o.data = .fields #[.ref t,rawInt i]
theorem cS.at {h h':Heap}{a t:Addr}{i:Int} (x:cS h a t i) (e:∀ o,h.get? a=some o->h'.get? a=some o):cS h' a t i:=let ⟨o,ho,r⟩:=x; ⟨o,e _ ho,r⟩
section
variable {prog : Program} {w : World} {A : Around} {E : Value → Shared → Prop} {s : Shared}
theorem cS.typeIs {a t:Addr}{i:Int} (x:cS s.heap a t i):s.TypeIs (.ref a) "reversed":=let ⟨o,ho,hc,_⟩:=x; ⟨o,ho,hc⟩
theorem aE1 {it t:Addr}{i:Nat}{items:Array Value}{x:Value}{Q:Option Value->Shared->Prop} (hit:cS s.heap it t (i:Int)) (ht:IsTup s.heap t items) (hz:(items.size:Int) < 2 ^ 62) (hx:items[i]? = some x)
  (hQ:∀ h' tk,cS h' it t ((i:Int) - 1)->Heap.SameBut it s.heap h'->Q (some x) { s with heap:=h',toks:=tk }):wpAny (model prog w) A (pyNext (.ref it)) Q E s:=by
 obtain ⟨o,ho,hc,hd⟩:=id hit
 have hi:i < items.size:=(Array.getElem?_eq_some_iff.mp hx).1
 unfold pyNext
 refine aK1 (wpAny_attempt (aW0 (name:=Str.ofString "__next__") hit.typeIs mL
  (aT0 mL hit.typeIs M0 ?_ (M3 _))))
 unfold Builtin.«reversed.__next__»
 refine aK1 (aZ7 (a:=(Value.ref it,[])) rfl ?_)
 try dsimp only
 refine aK1 (aY8 ho hd (x:=.ref t) rfl ?_)
 refine aK1 (aY8 ho hd (x:=rawInt (i:Int)) rfl ?_)
 show wpAny _ _ (if (i:Int) < 0 then _ else _) _ _ s
 rw [if_neg (by omega)]
 refine aK1 (wpAny_specialOf ht.typeIs PySem.F.slot_tuple_getitem.lookup ?_)
 rw [if_neg (by simp)]
 refine aK1 (wpAny_mkInt ?_)
 refine aK1 (wpAny_attempt (getItem_tuple (s:={ s with toks:=s.toks+1 }) (j:=i) ht (by omega) (by omega) (by simp [seqIndex?]; omega) hx ?_))
 refine aK1 (aY8 (s:={ s with toks:=s.toks+1 }) ho hd (x:=rawInt (i:Int)) rfl ?_)
 refine aK1 (wpAny_setField (s:={ s with toks:=s.toks+1 }) ho hd (by simp) ?_)
 refine aK6 ⟨x,rfl,aK6 (hQ _ _ ?_ (aW4 ..))⟩
 exact⟨_,aS6 _ ho (Obj.isFreed_of_fields (aX5 hd _)),(Obj.cls_mapFields ..).trans hc,by
  rw [aX5 hd]; simp⟩
theorem aE2 {it t:Addr}{Q:Option Value->Shared->Prop} (hh:A.handled=none) (hit:cS s.heap it t (-1))
  (hQ:∀ h',Heap.ExtBut it s.heap h'->Q none { s with heap:=h' }):wpAny (model prog w) A (pyNext (.ref it)) Q E s:=by
 obtain ⟨o,ho,hc,hd⟩:=id hit
 unfold pyNext
 refine aK1 (wpAny_attempt (aW0 (name:=Str.ofString "__next__") hit.typeIs mL
  (aT0 mL hit.typeIs M0 ?_ (M3 _))))
 unfold Builtin.«reversed.__next__»
 refine aK1 (aZ7 (a:=(Value.ref it,[])) rfl ?_)
 try dsimp only
 refine aK1 (aY8 ho hd (x:=.ref t) rfl ?_)
 refine aK1 (aY8 ho hd (x:=rawInt (-1)) rfl ?_)
 show wpAny _ _ (if (-1:Int) < 0 then _ else _) _ _ s
 rw [if_pos (by decide)]
 refine aK1 (aX6 ?_)
 refine aK1 ?_
 show wpAny _ _ (setField (.ref it) 1 (rawInt (-1)) >>= fun _=>setField (.ref it) 0 .none) _ _ s
 refine aK1 (wpAny_setField ho hd (by simp) ?_)
 refine wpAny_setField (aS6 _ ho (Obj.isFreed_of_fields (aX5 hd _))) (aX5 hd _) (by simp) ?_
 first
 | show wpAny _ _ (newExc (.type "StopIteration") [] >>= _) _ _ _
 | (refine aK1 ?_; show wpAny _ _ (newExc (.type "StopIteration") [] >>= _) _ _ _)
 refine aK1 ?_
 simp only [newExc,newTuple]
 refine aK1 (aP7 ?_ (by size_fits))
 refine aK1 (m:=firstArgMember _ _) (aZ7 (a:=Value.none) (by first | rfl | (simp only [firstArgMember]; rfl)) ?_)
 refine aP7 ?_ (by size_fits)
 simp only [raiseNew]
 refine aK1 (wpAny_handled ?_)
 first | rw [show A.in1.handled=none from hh] | rw [hh]
 refine aK1 (aK6 (wpAny_throw ?_))
 refine aK1 (wpAny_isInstance (T:="StopIteration") (b:=true) ⟨_,aM3 _ rfl,rfl⟩ isSubtype_stop ?_)
 refine aK6 (hQ _ ?_)
 intro b o' hb e
 exact aK5 _ (aK5 _ ((aU7 _ _ (Ne.symm hb)).trans ((aU7 _ _ (Ne.symm hb)).trans e)))
theorem M5 {it t:Addr}{i:Int}{Q:Value->Shared->Prop} (hit:cS s.heap it t i) (h:Q (.ref it) s):wpAny (model prog w) A (pyIter (.ref it)) Q E s:=by
 refine wpAny_pyIter_slot hit.typeIs M4 (aT0 M4 hit.typeIs aD7 ?_ (aD6 _))
 show wpAny _ _ (ret (.ref it)) _ _ s
 exact aK6 ⟨_,rfl,"reversed",_,hit.typeIs,mL.lookup,h⟩
end
theorem aE3 {prog:Program}{w:World}{A:Around} (hh:A.handled=none) (I l:Addr) (hne:l ≠ I) (items:Array Value) (hz:(items.size:Int) < 2 ^ 62) :
  Walks prog w A I [I,l] [I] items.size (fun i v=>items[items.size - 1 - i]? = some v) (fun i h=>i<=items.size/\cS h I l ((items.size:Int) - 1 - (i:Int))/\IsTup h l items) where
 sub:=fun b hb=>by simp at hb; simp [hb]
 frame:=fun _ _ _ x hk=>⟨x.1,x.2.1.at fun o e=>hk I (by simp) o e,let ⟨o,ho,r⟩:=x.2.2; ⟨o,hk l (by simp) o ho,r⟩⟩
 item:=fun i s Q E hi x hQ=>by
  have e:(items.size:Int) - 1 - (i:Int)=((items.size - 1 - i:Nat):Int):=by omega
  have hit:=x.2.1
  rw [e] at hit
  have hx:items[items.size - 1 - i]? = some (items[items.size - 1 - i]'(by omega)):=Array.getElem?_eq_getElem (by omega)
  refine aE1 hit x.2.2 hz hx fun h' tk hit' hs'=>?_
  have e2:((items.size - 1 - i:Nat):Int) - 1=(items.size:Int) - 1 - ((i+1:Nat):Int):=by omega
  rw [e2] at hit'
  exact hQ _ h' tk hx ⟨hi,hit',let ⟨o,ho,r⟩:=x.2.2; ⟨o,(hs'.2 l hne).trans ho,r⟩⟩ fun b o hb eo=>hs'.extBut b o (fun h=>hb (by simp [h])) eo
 done:=fun s Q E x hQ=>by
  have e:(items.size:Int) - 1 - (items.size:Int) = -1:=by omega
  have hit:=x.2.1
  rw [e] at hit
  exact aE2 hh hit fun h' he'=>hQ h' s.toks fun b o hb eo=>he' b o (fun h=>hb (by simp [h])) eo
 self:=fun _ _ _ _ x hQ=>M5 x.2.1 hQ
section
variable {prog : Program} {w : World} {A : Around} {E : Value → Shared → Prop} {s : Shared}
theorem aE4 {it t:Addr}{items:Array Value}{Q:Value->Shared->Prop} (hit:cS s.heap it t ((items.size:Int) - 1)) (ht:IsTup s.heap t items) (hz:(items.size:Int) < 2 ^ 62)
  (h:∀ u tk,s.toks<=tk->Q (.int items.size u) { s with toks:=tk }):wpAny (model prog w) A (call (.builtin "reversed.__length_hint__") [.ref it]) Q E s:=by
 obtain ⟨o,ho,hc,hd⟩:=id hit
 refine aT0 uM hit.typeIs aD9 ?_ (aE0 _)
 unfold Builtin.«reversed.__length_hint__»
 refine aK1 (aZ7 (a:=Value.ref it) rfl ?_)
 refine aK1 (aY8 ho hd (x:=.ref t) rfl ?_)
 rw [if_neg (show ¬ ((Value.ref t == Value.none)=true) from aL6)]
 refine aK1 (len_tuple ht (by omega) ?_)
 refine aK1 (m:=asInt? _) (aK6 ?_)
 dsimp only
 refine aK1 (aY8 (s:={ s with toks:=_ }) ho hd (x:=rawInt ((items.size:Int) - 1)) rfl ?_)
 show wpAny _ _ (if (items.size:Int) < (items.size:Int) - 1+1 then _ else _) _ _ _
 rw [if_neg (by omega),show (items.size:Int) - 1+1=items.size by omega]
 exact aK1 (wpAny_mkInt (aK6 ⟨_,rfl,h _ _ (by show s.toks<=s.toks+1+1+1; omega)⟩))
theorem aE5 {it t:Addr}{items:Array Value}{Q:Bool->Shared->Prop} (hit:cS s.heap it t ((items.size:Int) - 1)) (ht:IsTup s.heap t items) (hz:items.size<=2 ^ 24)
  (h:∀ tk,s.toks<=tk->Q ((items.size:Int) != 0) { s with toks:=tk }):wpAny (model prog w) A (Builtin.List.listLengthHint (.ref it)) Q E s:=by
 unfold Builtin.List.listLengthHint
 refine aK1 (wpAny_specialOf hit.typeIs aD8 ?_)
 show wpAny _ _ (specialOf (Value.ref it) (Str.ofString "__length_hint__") >>= _) _ _ _
 refine aK1 (wpAny_specialOf hit.typeIs uM.lookup ?_)
 generalize hid:("reversed.__length_hint__" : String)=id0
 wp_delta
 rw [show splitId id0=some ("reversed","__length_hint__") from by subst hid; decide +kernel]
 subst hid
 refine aK1 (wpAny_isInstance (b:=true) hit.typeIs (by rw [aX8]; kernel_rfl) ?_)
 refine wpAny_ite_split (fun hab=>absurd hab (by decide)) (fun _=>?_)
 refine wpAny_ite_split (fun hab=>absurd hab (by decide +kernel)) (fun _=>?_)
 refine aK1 (aX6 ?_)
 refine aK1 (aZ7 (uM.bind _) ?_)
 dsimp only
 refine aK1 (wpAny_attempt (aE4 hit ht (by omega) fun u tk htk=>?_))
 have h0:0<=(items.size:Int):=by omega
 have h1:(items.size:Int)<=2 ^ 24:=by omega
 replace h:=h tk htk
 generalize (items.size:Int)=k at h h0 h1 ⊢
 have htl:Builtin.List.listTooLong k.toNat=false:=by simp [Builtin.List.listTooLong,sizeLine]; omega
 have hfi:Builtin.List.listFitsIndex k=true:=by simp [Builtin.List.listFitsIndex]; omega
 refine aK1 (m:=asInt? _) (aK6 ?_)
 dsimp only
 rw [if_neg (by rw [hfi]; decide),if_neg (by omega),if_neg (by rw [htl]; decide)]
 exact aK6 h
theorem aE6 {R:Result->Shared->Prop}{it t:Addr}{items:Array Value} (hh:A.handled=none) (hne:t ≠ it) (hit:cS s.heap it t ((items.size:Int) - 1)) (ht:IsTup s.heap t items) (hlen:items.size<=2 ^ 24)
  (S:Addr) (res:Value) (c₀:Nat) (hS:s.heap.get? S=some { cls:=.type "list",data:=.seq #[] c₀ })
  (hR:∀ h' tk acc' c',(∀ b o,b ≠ S->b ≠ it->s.heap.get? b=some o->h'.get? b=some o)->h'.get? S=some { cls:=.type "list",dict:=none,data:=.seq acc' c',slots:=#[] }->
   ItemsOf (fun i v=>items[items.size - 1 - i]? = some v) acc' items.size->R (.ok (.ret res)) { s with heap:=h',toks:=tk }) :
  wpAny (model prog w) A.in1 (Builtin.List.listExtendWith (.ref S) (.ref it) res)
   (fun fin s'=>match fin with | .done f=>R (.ok f) s' | .again c'=>c'.quiet=true/\codeAny (model prog w) A c' R s') (fun e s'=>R (.error e) s') s:=by
 have hSi:S ≠ it:=fun e=>by obtain ⟨o,ho,hc,_⟩:=hit; rw [e,ho] at hS; cases hS; exact absurd hc (by show ¬ Value.type "list" = _; decide)
 have hSt:S ≠ t:=fun e=>by obtain ⟨o,ho,hc,_⟩:=ht; rw [e,ho] at hS; cases hS; exact absurd hc (by show ¬ Value.type "list" = _; decide)
 have hSf:S ∉ [it,t]:=fun hm=>by rcases aM4.mp hm with e | e; exact hSi e; exact hSt (aK7.mp e)
 have W:=(aE3 (prog:=prog) (w:=w) (A:=A.in1) hh it t hne items (by omega)).toS
 have key:∀ (h:Heap) (c₁ tk:Nat),(∀ b o,b ≠ S->s.heap.get? b=some o->h.get? b=some o)->
   h.get? S=some { cls:=.type "list",data:=.seq #[] c₁ }->codeAny (model prog w) A (.builtin "list.extend.loop" ⟨[.ref S,.ref it,res],[]⟩) R { s with heap:=h,toks:=tk }:=by
  intro h c₁ tk hk hS₁
  have st:0<=items.size/\cS h it t ((items.size:Int) - 1 - ((0:Nat):Int))/\IsTup h t items:=
   ⟨aO1 _,by rw [show (items.size:Int) - 1 - ((0:Nat):Int)=(items.size:Int) - 1 by omega]; exact hit.at fun o e=>hk it o (Ne.symm hSi) e,let ⟨o,ho,r⟩:=ht; ⟨o,hk t o (Ne.symm hSt) ho,r⟩⟩
  refine codeAny_extend_loopS W (by rw [sizeLine_eq]; omega) S hSf res items.size 0 _ #[] c₁ rfl (aO1 _) st hS₁ (ItemsOf.nil _) fun s' acc' c' hm hS' hacc=>?_
  rw [hm.eq_with]
  refine hR s'.heap s'.toks acc' c' (fun b o hb hb2 e=>hm.heap b o (fun hmem=>?_) (hk b o hb e)) hS' hacc
  rcases aM4.mp hmem with e' | hmem
  ·exact hb e'
  ·exact hb2 (aK7.mp hmem)
 unfold Builtin.List.listExtendWith
 refine aK1 (wpAny_typeOf (T:="reversed") hit.typeIs ?_)
 have h1:Builtin.List.listSameRef (.ref S) (.ref it)=false:=by simp [Builtin.List.listSameRef,hSi]
 have h2:(Value.type "reversed" == Value.type "list")=false:=by decide
 have h3:(Value.type "reversed" == Value.type "tuple")=false:=by decide
 simp only [h1,h2,h3,Bool.or_false,aN1,aR7]
 refine aK1 (M5 hit ?_)
 refine aK1 (aR5 (aE5 hit ht hlen fun tk htk=>?_))
 refine wpAny_ite_split (fun _=>?_) (fun _=>aK6 ⟨plainId_quiet F.plain_extend_loop _,key _ c₀ _ (fun b o _ e=>e) hS⟩)
 refine aK1 (aX6 ?_)
 refine aK1 ?_
 show wpAny _ _ (updateSeq S (·.push .none) >>= fun _=>updateSeq S (·.pop)) _ _ _
 refine aK1 (wpAny_updateSeq hS rfl ?_)
 have hS₂:=aS6 (Obj.mapSeq (·.push Value.none)) hS rfl
 refine wpAny_updateSeq (hz:=by seq_fits) hS₂ rfl ?_
 have hS₃:=aS6 (Obj.mapSeq (·.pop)) hS₂ rfl
 refine aK6 ⟨plainId_quiet F.plain_extend_loop _,key _ _ _ (fun b o hb e=>?_) hS₃⟩
 exact (aU7 _ _ (Ne.symm hb)).trans ((aU7 _ _ (Ne.symm hb)).trans e)
theorem aE7 {R:Result->Shared->Prop}{it t:Addr}{items:Array Value} (hh:A.handled=none) (hne:t ≠ it) (hit:cS s.heap it t ((items.size:Int) - 1)) (ht:IsTup s.heap t items) (hlen:items.size<=2 ^ 24)
  (hR:∀ h' tk acc c,(∀ b o,b ≠ s.heap.objs.size->b ≠ it->(s.heap.push { cls:=.type "list",data:=.seq ([]:List Value).toArray }).get? b=some o->h'.get? b=some o)->h'.get? s.heap.objs.size=some { cls:=.type "list",dict:=none,data:=.seq acc c,slots:=#[] }->ItemsOf (fun i v=>items[items.size - 1 - i]? = some v) acc items.size->R (.ok (.ret (.ref s.heap.objs.size))) { s with heap:=h',toks:=tk }) :
  codeAny (model prog w) A (.builtin "proto.collect" ⟨[.ref it],[]⟩) R s:=by
 refine codeAny_builtin PySem.F.entry_proto_collect ?_
 rw [Around.under_plainId PySem.F.plain_proto_collect _]
 show wpAny _ A.in1 (newList [] >>= fun l=>again (.builtin "list.__iadd__" ⟨[l,.ref it],[]⟩)) _ _ s
 refine aK1 (aP7 ?_)
 refine aK6 ⟨plainId_quiet PySem.F.plain_list_iadd _,codeAny_builtin PySem.F.entry_list_iadd ?_⟩
 rw [Around.under_plainId PySem.F.plain_list_iadd _]
 show wpAny _ A.in1 (Builtin.List.listExtendWith (.ref s.heap.objs.size) (.ref it) (.ref s.heap.objs.size)) _ _ _
 exact aE6 (s:={ s with heap:=s.heap.push { cls:=.type "list",data:=.seq ([]:List Value).toArray } }) (R:=R) hh hne (hit.at fun o e=>aK5 _ e) (let ⟨o,ho,r⟩:=ht; ⟨o,aK5 _ ho,r⟩) hlen s.heap.objs.size _ 0 (aM3 _ rfl) hR
theorem aE8 {Q:List Value->Shared->Prop}{it t:Addr}{items:Array Value} (hh:A.handled=none) (hne:t ≠ it) (hit:cS s.heap it t ((items.size:Int) - 1)) (ht:IsTup s.heap t items) (hlen:items.size<=2 ^ 24)
  (hQ:∀ h' tk acc,(∀ b o,b ≠ it->s.heap.get? b=some o->h'.get? b=some o)->ItemsOf (fun i v=>items[items.size - 1 - i]? = some v) acc items.size->Q acc.toList { s with heap:=h',toks:=tk }):wpAny (model prog w) A (collect (.ref it)) Q E s:=by
 unfold collect
 refine aK1 (wpAny_runValue (aE7 (s:=s) hh hne hit ht hlen fun h' tk acc c kp at1 i1=>?_))
 show wpAny _ A (load s.heap.objs.size >>= _) _ _ _
 refine aK1 (wpAny_load at1 ?_)
 exact aK6 (hQ h' tk acc (fun b o hb e=>kp b o (aN8 (aM5 e)) hb (aK5 _ e)) i1)
theorem aE9 (it t:Addr) (items:Array Value) (hne:t ≠ it) (hlen:items.size<=2 ^ 24) :
  Meets (Builtin.«tuple.__new__» ⟨[.type "tuple",.ref it],[]⟩) (fun A R s=>A.handled=none/\cS s.heap it t ((items.size:Int) - 1)/\IsTup s.heap t items/\∀ (h':Heap) tk (acc:Array Value),(∀ b o',b ≠ it->s.heap.get? b=some o'->h'.get? b=some o')->ItemsOf (fun i v=>items[items.size - 1 - i]? = some v) acc items.size->R (.ok (.ret (.ref h'.objs.size))) { s with heap:=h'.push { cls:=.type "tuple",data:=.seq acc },toks:=tk }):=
 .of_wp fun prog w A R s h=>by
  obtain ⟨hp,g,d,tk,os⟩:=s
  obtain ⟨hh,hit,ht,h⟩:=h
  have hsub:=sub_tuple_self
  have hinit:=init_tuple_lookup
  have hmh:=madeHere_tuple
  have hT:Shared.TypeIs ⟨hp,g,d,tk,os⟩ (.ref it) "reversed":=cS.typeIs (s:=⟨hp,g,d,tk,os⟩) hit
  unfold Builtin.«tuple.__new__»
  generalize pi:collect=CC
  wp_walk using wpAny_typeOf hT
  subst pi
  refine aE8 (s:=⟨hp,g,d,tk,os⟩) hh hne hit ht hlen fun h' tk' acc kp i1=>?_
  refine aK1 (aK6 ?_)
  show wpAny _ _ (Builtin.Tuple.tupleExact acc.toList.toArray >>= fun v=>ret v) _ _ _
  unfold Builtin.Tuple.tupleExact
  refine aK1 (aP7 ?_ (by show acc.toList.toArray.size<=sizeLine; rw [aK3,aN7,i1.1,sizeLine_eq]; omega))
  refine aK6 ⟨_,rfl,?_⟩
  have e:acc.toList.toArray=acc:=by simp
  rw [e]
  exact h h' tk' acc kp i1
theorem aF0 {Q:Value->Shared->Prop}{it t:Addr}{items:Array Value} (hh:A.handled=none) (hne:t ≠ it) (hit:cS s.heap it t ((items.size:Int) - 1)) (ht:IsTup s.heap t items) (hlen:items.size<=2 ^ 24)
  (h:∀ (h':Heap) tk (acc:Array Value),(∀ b o',b ≠ it->s.heap.get? b=some o'->h'.get? b=some o')->ItemsOf (fun i v=>items[items.size - 1 - i]? = some v) acc items.size->Q (.ref h'.objs.size) { s with heap:=h'.push { cls:=.type "tuple",data:=.seq acc },toks:=tk }) :
  wpAny (model prog w) A (call (.type "tuple") [.ref it]) Q E s:=
 callType_new F.called_tuple (by decide) (F.typeCall_tuple_1 _) (F.newCall_tuple_1 _) (fun obj=>F.args_object_init_2 obj _) F.entry_tuple_new (aE9 it t items hne hlen) ⟨by simp [hh],hit,ht,fun h' tk acc hk i1=>⟨⟨_,aM3 _ rfl,rfl⟩,h h' tk acc hk i1⟩⟩
theorem aF1 {t:Addr}{items:Array Value}{Q:Value->Shared->Prop} (ht:IsTup s.heap t items) (hz:(items.size:Int) < 2 ^ 62)
  (h:∀ tk,Q (.ref s.heap.objs.size) { s with heap:=s.heap.push (pM t ((items.size:Int) - 1)),toks:=tk }):wpAny (model prog w) A (call (.type "reversed") [.ref t]) Q E s:=
 callType_new aD3 (by decide) (PySem.F.typeCall_reversed_1 _) (PySem.F.newCall_reversed_1 _) (fun obj=>PySem.F.args_object_init_2 obj _) PySem.F.entry_reversed_new (aD5 t items hz) ⟨ht,fun tk=>⟨⟨_,aM3 _ rfl,rfl⟩,h tk⟩⟩
end
end Raw
namespace L2
open PySem PySem.Spec PyProof.Rows
section
variable {X : Cx}
theorem aF2 {xs:List V}{its acc:Array Value} (rv:aB xs its.toList) (h:ItemsOf (fun i v=>its[its.size - 1 - i]? = some v) acc its.size):aB xs.reverse acc.toList:=by
 have e:acc.toList=its.toList.reverse:=by
  refine List.ext_getElem? fun i=>?_
  by_cases hi:i < its.size
  ·obtain ⟨hl,hv⟩:=h
   have h2:acc[i]? = some (acc[i]'(by omega)):=Array.getElem?_eq_getElem (by omega)
   rw [List.getElem?_reverse (by simpa using hi),aN7,aO9,aO9,h2,hv i _ h2]
  ·rw [aY1 (by rw [aN7,h.1]; omega),aY1 (by rw [List.length_reverse,aN7]; omega)]
 rw [e]
 exact rv.reverse
noncomputable def aF3 (ta:TA):TE:=fun σ H Q=>ta σ H fun vs H1=>∃ t xs,vs = [.ref t]/\H1 t=some (.tup xs)/\∀ p,H1 p=none->Q (.ref p) (upd H1 p (.tup xs.reverse))
theorem aF4 {a:Expr}{ta:TA}{p2 p3 pos pos2:Pos} (hc:X.calm=true) (hg:Gl X "tuple") (hm:X.mg "tuple" = none) (hgr:Gl X "reversed") (hmr:X.mg "reversed" = none) (ha:PA X [a] ta) (hs:starEach [a] X.env = [(false,eval a X.env)]:=by rfl)
  (he:starEach [.Call (.Name "reversed" p3) [a] [] pos2] X.env=(false,eval (.Call (.Name "reversed" p3) [a] [] pos2) X.env) :: starEach [] X.env:=by rfl) (hpl:(backTo pos (starEach [] X.env)).any (·.1)=false:=by rfl) (hnl:starEach [] X.env = []:=by rfl) :
  PE X (.Call (.Name "tuple" p2) [.Call (.Name "reversed" p3) [a] [] pos2] [] pos) (aF3 ta):=by
 intro pins s σ H Q I h
 refine aX3 (iM I hg hm PyProof.Rows.boot_tuple ?_)
 refine aU1 ?_ he hpl
 rw [he,hnl]
 show wpAny _ _ (spliced ((false,eval _ X.env) :: [])) _ _ s
 refine Calls.spliced_cons ?_
 refine aX3 (iM I hgr hmr PyProof.Rows.boot_reversed (aU1 (aE (ha pos2 pins s σ H _ I h) fun us s1 ⟨vs,H1,I1,r1,q1⟩=>?_) (by rw [hs]; rfl) (by rfl)))
 obtain ⟨t,xs,e,h1,q⟩:=q1
 subst e
 obtain ⟨u,rfl,rx⟩:=hJ r1
 cases rx
 obtain ⟨hz,its,rv,tp,nd⟩:=(show bA X.prog X.w H1 s1.heap t (.tup xs) from I1.hok t _ h1)
 have hl:xs.length<=2 ^ 24:=by have e:=sizeLine_eq; omega
 have lv:its.length=xs.length:=rv.length.symm
 have tlt:t < s1.heap.objs.size:=by obtain ⟨o,ho,_⟩:=tp; exact aM5 ho
 refine Raw.aF1 tp (by rw [aK3,lv]; omega) fun tk=>?_
 refine Calls.spliced_nil ?_
 have I2:a5 X pins σ H1 { s1 with heap:=s1.heap.push (Raw.pM t ((its.toArray.size:Int) - 1)),toks:=tk }:=I1.kept (t':=tk) fun b o e=>aK5 _ e
 have fr:H1 s1.heap.objs.size=none:=I1.hok.fresh (aK4 _)
 obtain ⟨f0,f1,f2,f3,f4,f5⟩:=I1.fpOk (b:=s1.heap.objs.size) (aK4 _) fr
 refine Raw.aF0 (s:={ s1 with heap:=s1.heap.push (Raw.pM t ((its.toArray.size:Int) - 1)),toks:=tk }) (t:=t) (items:=its.toArray) (I2.ok.hd hc) (aN8 tlt) ⟨_,aM3 _ rfl,rfl,rfl⟩ (let ⟨o,ho,r⟩:=tp; ⟨o,aK5 _ ho,r⟩) (by rw [aK3,lv]; omega) fun h' tk' acc kp it=>?_
 have vv:=aF2 (its:=its.toArray) (by simpa using rv) it
 have eq:acc.toList.toArray=acc:=by simp
 have I3:a5 X pins σ H1 { s1 with heap:=h',toks:=tk' }:=I2.turned (t':=tk') (fun b o hb e=>kp b o hb e) f0 f1 f3 f4 f5
 have I4:a5 X pins σ (upd H1 h'.objs.size (.tup xs.reverse)) { s1 with heap:=h'.push { cls:=.type "tuple",data:=.seq acc.toList.toArray },toks:=tk' }:=
  I3.laid (t':=tk') (fun b o e=>aK5 _ e) (aK4 _) (show bA X.prog X.w _ _ _ (.tup _) from ⟨by rw [List.length_reverse]; exact hz,acc.toList,vv,PyProof.Rows.IsTup.new _ _,fH.new _ _ rfl⟩)
 rw [eq] at I4
 exact⟨.ref h'.objs.size,_,I4,rfl,q _ (I3.hok.fresh (aK4 _))⟩
end
end L2
namespace PP
open PySem L2
theorem aF5 {K:PySem.W.Frag}{M:Addr->Prop}{H:Hp}{vs:List V}{xs:List PV} (r:Reps K M H vs xs):Reps K M H vs.reverse xs.reverse:=by
 induction vs generalizing xs with
 | nil=>cases r; exact .nil
 | cons v vs ih=>
  cases r with
  | cons r t=>rw [List.reverse_cons,List.reverse_cons]; exact (ih t).append (.cons r .nil)
section
variable {X : Cx} {a : Expr} {tr : cB} {pos pos2 p2 p3 : Pos}
theorem aF6 (B:Bt X.mg) (bs:X.mg "reversed" = none) (ha:QA X [a] tr) (hc:X.calm=true:=by rfl) (hg:Gl X "tuple":=by rfl) (hgr:Gl X "reversed":=by rfl) (hs:starEach [a] X.env = [(false,eval a X.env)]:=by rfl)
  (he:starEach [.Call (.Name "reversed" p3) [a] [] pos2] X.env=(false,eval (.Call (.Name "reversed" p3) [a] [] pos2) X.env) :: starEach [] X.env:=by rfl) (hpl:(backTo pos (starEach [] X.env)).any (·.1)=false:=by rfl) (hnl:starEach [] X.env = []:=by rfl) :
  QE X (.Call (.Name "tuple" p2) [.Call (.Name "reversed" p3) [a] [] pos2] [] pos) (aK uK tr):=
 bL (aF4 hc hg B.tuple hgr bs ha hs he hpl hnl) fun σ H Q' h=>by
  obtain ⟨W,ρ,Q,px,q,k⟩:=h
  refine⟨W,ρ,_,px,q,fun vs H1 xs s1 r1 q1=>?_⟩
  obtain ⟨ys,e1,fl,q⟩:=q1
  have r2:=r1.any
  rw [e1] at r2
  obtain ⟨v,rfl,r3⟩:=r2.one
  obtain ⟨p,us,rfl,hp,r4⟩:=r3.sqT
  exact⟨p,us,rfl,hp,fun l hl=>k _ _ _ .fr (s1.trans (bH hl _)) (.tup bK ((aF5 (r4.flat fl)).same (bH hl _) fun _ z=>z)) q⟩
end
end PP
namespace Core
open PySem L2 PP
theorem aF7:dU L9 ["web","ways","one","other"] aD1:=by
 rintro xs Q ⟨ws,ls,rfl,n40,lk,q⟩
 refine⟨_,rfl,ws,ls,rfl,n40,lk,fun D t all=>⟨trivial,?_⟩⟩
 obtain ⟨q1,q2⟩:=q D t all
 have val:∀ {h:Int}{w:List Int},(h,w) ∈ D->nU (.dK (bD D)) (.int h) (some (.tup (intz w))):=fun hw=>.inl ⟨bD D,Sum.inl _,rfl,rfl,(kW t.nd hw).symm⟩
 refine⟨_,rfl,_,_,_,rfl,rfl,rfl,aZ ls,rfl,(fun z=>oY ls),fun i ρ=>(∀ l ∈ ls.take i,∀ wa wb,(l.1,wa) ∈ D->(l.2,wb) ∈ D->cF wa ≠ cF wb)/\∃ y2 y3,ρ = [some (.sh (flat (cE ws ls)) (cE ws ls)),some (.sh true (.dK (bD D))),y2,y3],⟨fun l hl=>(by rw [List.take_zero] at hl; cases hl),none,none,rfl⟩,?_,?_⟩
 ·rintro i y ρ hy ⟨inv,y2,y3,rfl⟩
  obtain ⟨l,rfl,hl⟩:=p5 hy
  have lm:=aP3 hl
  have lb:=lk.1 l lm
  obtain ⟨wa,ha⟩:=c8.mp (all l.1 (aY.mpr ⟨by omega,by omega⟩))
  obtain ⟨wb,hb⟩:=c8.mp (all l.2 (aY.mpr ⟨by omega,by omega⟩))
  have la:=t.way_len ha
  have lb2:=t.way_len hb
  refine aC2 ?_
  refine⟨_,rfl,_,rfl,_,val ha,wa,rfl,_,rfl,_,rfl,_,val hb,wb,rfl,.inl ⟨_,_,rfl,rfl,_,rfl,?_⟩⟩
  show if decide (cF wa=cF wb)=true then _ else _
  by_cases e:cF wa=cF wb
  ·rw [aL2 e]
   have na:wa ≠ []:=fun z=>by have:=t.last ha; rw [z] at this; cases this
   have nb:wb ≠ []:=fun z=>by have:=t.last hb; rw [z] at this; cases this
   have pa:=aT2.mpr na
   have pb:=aT2.mpr nb
   have ab:l.2 ∈ aG ls l.1:=L2.cQ.mpr (.inl lm)
   have ar:=t.inn l.1 (c8.mpr ⟨wa,ha⟩)
   have br:=t.inn l.2 (c8.mpr ⟨wb,hb⟩)
   obtain ⟨r,h1,h2,h3⟩:=t.head _ (aK4 _) ha
   obtain ⟨r',g1,g2,g3⟩:=t.head _ (aK4 _) hb
   have bc:l.2 ∈ bV ls (rng ws.length) l.1:=kU l.1 (gW ar) l.2 ab br
   have rr:r=r':=uI ar h2 g2 h3 (by rw [<- iJ (iK _) bc ar]; exact g3)
   have par:(wa.length+wb.length) % 2=0:=by unfold cF at e; omega
   refine bB ⟨_,rfl,_,rfl,_,val ha,_,rfl,_,rfl,_,val hb,wa,wb,rfl,na,nb,by rw [h1,g1,rr],by omega,by omega,fun s s1 S=>⟨trivial,?_⟩⟩
   obtain ⟨_,cy,od⟩:=aC8 t ha hb ab (by omega) par S
   exact q2 ⟨l,lm,wa,wb,ha,hb,e⟩ _ cy od
  ·rw [aL0 e]
   refine aW ⟨fun l' hl' wa' wb' ha' hb'=>?_,_,_,rfl⟩
   rw [aQ6,hl] at hl'
   rcases aM6.mp hl' with hl' | hl'
   ·exact inv l' hl' wa' wb' ha' hb'
   ·have:l'=l:=by simpa using hl'
    subst this
    rw [kX t.nd ha' ha,kX t.nd hb' hb]; exact e
 ·rintro ρ ⟨inv,y2,y3,rfl⟩
  rw [show (aZ ls).length=ls.length from aL4 _,aW8] at inv
  exact⟨trivial,q1 inv⟩
structure dM (n:Nat) (ls:List (Int × Int)) (κ:Int->Int):Prop where
 link:∀ x y,x ∈ rng n->y ∈ aG ls x->κ y=1 - κ x
 root:∀ r,r ∈ rng n->fE n ls r->κ r=0
theorem b7.col {n:Nat}{ls:List (Int × Int)}{D:bZ} (t:b7 n ls D) {κ:Int->Int} (p:dM n ls κ):∀ (k:Nat) {h:Int}{w:List Int},w.length<=k->(h,w) ∈ D->κ h=cF w
 | 0,h,w,hk,hw=>by
  have e:w = []:=List.length_eq_zero_iff.mp (by omega)
  have:=t.last hw
  rw [e] at this; cases this
 | k+1,h,w,hk,hw=>by
  rcases t.up h w hw with ⟨e,r⟩ | ⟨g,u,m,e,b⟩
  ·rw [e,p.root h (t.inn h (c8.mpr ⟨w,hw⟩)) r]; rfl
  ·rw [e,aL1,aN2] at hk
   have ih:=t.col p k (by omega) m
   rw [p.link g h (t.inn g (c8.mpr ⟨u,m⟩)) b,ih,e]
   unfold cF
   rw [aL1,aN2]
   omega
theorem aF8 {n:Nat}{ls:List (Int × Int)}{D:bZ} (t:b7 n ls D) {r:Int}{w:List Int} (hr:fE n ls r) (hw:(r,w) ∈ D):w = [r]:=by
 obtain ⟨r',h1,h2,h3⟩:=t.head _ (aK4 _) hw
 have rr:=t.inn r (c8.mpr ⟨w,hw⟩)
 have e:=uI rr h2 hr h3 (gW rr)
 subst e
 rcases t.up _ w hw with ⟨z,_⟩ | ⟨g,u,m,z,_⟩
 ·exact z
 ·exfalso
  have nd:=(t.way hw).1
  rw [z] at h1 nd
  cases u with
  | nil=>have:=t.last m; cases this
  | cons a v=>
   have:a=r':=by simpa using h1
   subst this
   simp at nd
section
variable {n : Nat} {ls : List (Int × Int)} {D : bZ}
theorem M6 (w:List Int):cF w=0 ∨ cF w=1:=by unfold cF; omega
theorem M7 (lk:cL n ls) (t:b7 n ls D) (all:∀ h ∈ rng n,h ∈ aQ D):(∃ κ,dM n ls κ) ↔ ∀ l ∈ ls,∀ wa wb,(l.1,wa) ∈ D->(l.2,wb) ∈ D->cF wa ≠ cF wb:=by
 constructor
 ·rintro ⟨κ,p⟩ l hl wa wb ha hb e
  have h1:=t.col p _ (aK4 _) ha
  have h2:=t.col p _ (aK4 _) hb
  have:=p.link l.1 l.2 (t.inn _ (c8.mpr ⟨wa,ha⟩)) (L2.cQ.mpr (.inl hl))
  rw [h1,h2] at this
  omega
 ·intro h
  have ex:∀ x,∃ c:Int,∀ w,(x,w) ∈ D->c=cF w:=fun x=>by
   by_cases hx:x ∈ aQ D
   ·obtain ⟨w,hw⟩:=c8.mp hx
    exact⟨cF w,fun v hv=>by rw [kX t.nd hw hv]⟩
   ·exact⟨0,fun v hv=>absurd (c8.mpr ⟨v,hv⟩) hx⟩
  refine⟨fun x=>Classical.choose (ex x),fun x y hx hy=>?_,fun r hr rl=>?_⟩
  ·have cx:=Classical.choose_spec (ex x)
   have cy:=Classical.choose_spec (ex y)
   obtain ⟨wx,hwx⟩:=c8.mp (all x hx)
   have yr:y ∈ rng n:=by
    rcases L2.cQ.mp hy with z | z
    ·have:=lk.1 _ z; exact aY.mpr ⟨by dsimp only at this; omega,by dsimp only at this; omega⟩
    ·have:=lk.1 _ z; exact aY.mpr ⟨by dsimp only at this; omega,by dsimp only at this; omega⟩
   obtain ⟨wy,hwy⟩:=c8.mp (all y yr)
   show Classical.choose (ex y)=1 - Classical.choose (ex x)
   rw [cx wx hwx,cy wy hwy]
   have d:cF wx ≠ cF wy:=by
    rcases L2.cQ.mp hy with z | z
    ·exact h _ z wx wy hwx hwy
    ·exact fun e=>h _ z wy wx hwy hwx e.symm
   have a:=M6 wx
   have b:=M6 wy
   omega
  ·obtain ⟨w,hw⟩:=c8.mp (all r hr)
   show Classical.choose (ex r)=0
   rw [Classical.choose_spec (ex r) w hw,aF8 t rl hw]; rfl
end
noncomputable def kZ:bP:=fun xs Q=>∃ ws ls,xs = [cE ws ls]/\ws.length<=40/\cL ws.length ls/\((∃ κ,dM ws.length ls κ)->Q .non)/\((¬ ∃ κ,dM ws.length ls κ)->∀ c,dD ls c->c.length % 2=1->Q (.tup (intz c)))
noncomputable abbrev M8:aJ:=L9
theorem aF9:dU M8 ["web","ways","one","other"] kZ:=by
 rintro xs Q ⟨ws,ls,e,n40,lk,q1,q2⟩
 refine aF7 xs Q ⟨ws,ls,e,n40,lk,fun D t all=>⟨fun h=>q1 ((M7 lk t all).mpr h),fun ⟨l,hl,wa,wb,ha,hb,ec⟩=>q2 fun z=>(M7 lk t all).mp z l hl wa wb ha hb ec⟩⟩
noncomputable def gY:eS:=fun Ep xs Q=>∃ ws ls,xs = [cE ws ls]/\ws.length<=40/\cL ws.length ls/\(∀ κ,dM ws.length ls κ->Q (.lst (intz ((rng ws.length).map κ))))/\((¬ ∃ κ,dM ws.length ls κ)->(∃ c,dD ls c/\c.length % 2=1)->Ep "OddRound")
noncomputable def M9 (Ep:Str->Prop):aJ:=(aN (cN (aV (yU (aK kZ (aC (a6 0) aI)) (qC .non))) (tU Ep "OddRound" (aC (qC (.str "a round has an odd count of hearths")) aI)) cR)
 (aN (bJ 1 (aK kY (aC (a6 0) aI)))
 (bW (gO (i7 (aK kN (aC (a6 0) aI))) [none,some 1] (cJ 0) k9 (aK jP (aC (i9 (a6 1) (a6 0)) aI))))))
theorem aG0:G3 M9 ["web","ways"] gY:=by
 rintro Ep xs Q ⟨ws,ls,rfl,n40,lk,q1,q2⟩
 refine⟨_,rfl,ws,ls,rfl,n40,lk,fun h=>?_,fun h c cy od=>?_⟩
 ·refine⟨rfl,_,rfl,aW ?_⟩
  refine⟨_,rfl,ws,ls,rfl,n40,lk,fun D t all=>⟨trivial,?_⟩⟩
  obtain ⟨κ,p⟩:=h
  refine⟨_,rfl,ws,ls,rfl,_,rfl,by omega,by omega,by rw [fW]; omega,fun i acc=>acc=intz (((rng ws.length).take i).map κ),rfl,?_,?_⟩
  ·rintro i y acc hy rfl
   obtain ⟨rfl,hi⟩:=jI hy
   have hi:i < ws.length:=by omega
   have e0:(0:Int)+(i:Int)=(i:Int):=by omega
   rw [e0]
   obtain ⟨w,hw⟩:=c8.mp (all (i:Int) (aY.mpr ⟨by omega,by omega⟩))
   refine⟨_,rfl,_,rfl,_,.inl ⟨bD D,Sum.inl (i:Int),rfl,rfl,(kW t.nd hw).symm⟩,w,rfl,trivial,?_⟩
   have:=t.col p _ (aK4 _) hw
   dsimp only
   rw [aQ6,oX hi,aS0,g4]
   show _ ++ [PV.int (cF w)]=_ ++ [PV.int (κ (i:Int))]
   rw [this]
  rintro acc rfl
  rw [fW,aR6,aO0 (by rw [jJ]; omega)]
  exact⟨trivial,q1 κ p⟩
 ·exact⟨rfl,_,rfl,bB ⟨by show 1<=1000; decide,q2 h ⟨c,cy,od⟩⟩⟩
noncomputable def pN:eS:=fun Ep xs Q=>∃ ws ls,xs = [cE ws ls]/\ws.length<=40/\cL ws.length ls/\(¬ ∃ κ,dM ws.length ls κ)/\Ep "OddRound"
noncomputable def N0 (Ep:Str->Prop):aJ:=(aN (bJ 1 (tT Ep gY (aC (a6 0) aI)))
 (aN gR
 (aN gR
 (aN gR
 (aN gR
 (aN gR
 (aN gR
 (aN gR
 gR))))))))
theorem aG1:G3 N0 ["web","colours","around","firsts","partners","hearth","reached","seeds","links"] pN:=by
 rintro Ep xs Q ⟨ws,ls,rfl,n40,lk,no,q⟩
 exact⟨_,rfl,ws,ls,rfl,n40,lk,(fun κ p=>absurd ⟨κ,p⟩ no),fun _ _=>q⟩
noncomputable def mM:bP:=fun xs Q=>∃ (ws:List Int) (ls:List (Int × Int)) (w:Int),xs = [cE ws ls,.int w]/\ws.length<=40/\cL ws.length ls/\(¬ ∃ κ,dM ws.length ls κ)/\Q (.bl true)
noncomputable def N1:aJ:=(aN (bJ 2 (i6 aI))
 (aN (tW "HearthError" 3 (F4 (aV (eD (a6 1) (qC (.int 0)))) (tV gY (aC (a6 0) aI)) (tV pN (aC (a6 0) aI))) (bJ 2 (i6 (aC (kS "OddRound" (a6 3)) (aC (kS "ValueError" (a6 3)) (aC (kS "NotWood" (a6 3)) aI))))))
 (bW (q2 (lY 2 false) (a6 2) (i6 (aC (qC (.bl true)) (aC (qC (.bl true)) (aC (qC (.bl false)) aI))))))))
theorem aG2:dU N1 ["web","way","signs","e"] mM:=by
 rintro xs Q ⟨ws,ls,w,rfl,n40,lk,no,q⟩
 refine⟨by show 0<=1000; decide,rfl,trivial,?_⟩
 refine⟨_,rfl,.inl ⟨_,_,rfl,rfl,_,rfl,?_⟩⟩
 generalize decide (w=0)=d
 show if d=true then _ else _
 cases d with
 | true=>
  refine bB ⟨_,rfl,ws,ls,rfl,n40,lk,(fun κ p=>absurd ⟨κ,p⟩ no),fun _ _=>?_⟩
  exact⟨by decide,_,rfl,true,(by decide),_,rfl,true,(by decide),_,rfl,false,(by decide),by show 3<=1000; decide,rfl,trivial,_,rfl,by show 3<=1000; decide,rfl,.inr ⟨_,_,rfl,rfl⟩,rfl,trivial,q⟩
 | false=>
  refine aW ⟨_,rfl,ws,ls,rfl,n40,lk,no,?_⟩
  exact⟨by decide,_,rfl,true,(by decide),_,rfl,true,(by decide),_,rfl,false,(by decide),by show 3<=1000; decide,rfl,trivial,_,rfl,by show 3<=1000; decide,rfl,.inr ⟨_,_,rfl,rfl⟩,rfl,trivial,q⟩
noncomputable abbrev gC (C:List Int) (h:Int):Int:=C.getD h.toNat (-1)
section
variable {n : Nat} {ls : List (Int × Int)} {C V : List Int} {o : Int}
theorem uN {v h:Int} (ho:0<=o/\o < (C.length:Int)) (hh:0<=h):gC (C.set o.toNat v) h=if h=o then v else gC C h:=by
 unfold gC
 rw [aK8,aK8]
 by_cases e:h=o
 ·rw [if_pos e,e,aQ5 (by omega)]; rfl
 ·rw [if_neg e,aN0 (by omega)]
theorem mO {h:Int} (hh:0<=h/\h < (C.length:Int)):L2.atI (intz C) h=some (.int (gC C h)):=by
 have:C[h.toNat]? = some (gC C h):=by unfold gC; rw [aK8,aK2 (by omega)]; rfl
 have:=lI (xs:=intz C) (j:=h.toNat) (by unfold intz; rw [aL9,this]; rfl)
 rwa [show ((h.toNat:Nat):Int)=h by omega] at this
noncomputable def fF (C:List Int):Nat:=(C.filter fun c=>decide (c = -1)).length
theorem uO:∀ {C:List Int}{j:Nat}{v:Int},C[j]? = some (-1)->v ≠ -1->fF (C.set j v)+1=fF C
 | [],j,v,h,_=>by simp at h
 | c :: C,0,v,h,hv=>by
  have:c = -1:=by simpa using h
  subst this
  unfold fF
  rw [List.set_cons_zero,aW9,aW9,aL0 hv,aL2 rfl]
  rw [if_neg (by decide),if_pos rfl,aP6]
 | c :: C,j+1,v,h,hv=>by
  have ih:=uO (C:=C) (j:=j) (v:=v) (by simpa using h) hv
  unfold fF at ih ⊢
  rw [List.set_cons_succ,aW9,aW9]
  by_cases e:c = -1
  ·rw [aL2 e,if_pos rfl,if_pos rfl,aP6,aP6]; omega
  ·rw [aL0 e,if_neg (by decide),if_neg (by decide)]; omega
structure cX (n:Nat) (ls:List (Int × Int)) (C:List Int):Prop where
 len:C.length=n
 three:∀ h ∈ rng n,gC C h = -1 ∨ gC C h=0 ∨ gC C h=1
 own:∀ κ,dM n ls κ->∀ h ∈ rng n,gC C h ≠ -1->gC C h=κ h
 root:∀ r ∈ rng n,fE n ls r->gC C r ≠ -1->gC C r=0
theorem cX.put (I:cX n ls C) (ho:o ∈ rng n) {v:Int} (hv:v=0 ∨ v=1) (hk:∀ κ,dM n ls κ->v=κ o) (hr:fE n ls o->v=0):cX n ls (C.set o.toNat v):=by
 have ob:=aY.mp ho
 have len:=I.len
 have g:∀ h ∈ rng n,gC (C.set o.toNat v) h=if h=o then v else gC C h:=fun h hh=>uN ⟨ob.1,by omega⟩ (aY.mp hh).1
 refine⟨by rw [aQ3]; exact len,fun h hh=>?_,fun κ p h hh ne=>?_,fun r hr' rl ne=>?_⟩
 ·rw [g h hh]; split
  ·exact .inr hv
  ·exact I.three h hh
 ·rw [g h hh] at ne ⊢
  by_cases e:h=o
  ·rw [if_pos e,e]; exact hk κ p
  ·rw [if_neg e] at ne ⊢; exact I.own κ p h hh ne
 ·rw [g r hr'] at ne ⊢
  by_cases e:r=o
  ·rw [if_pos e]; exact hr (e ▸ rl)
  ·rw [if_neg e] at ne ⊢; exact I.root r hr' rl ne
theorem aG3 {P:Int->Prop} (cl:∀ x ∈ rng n,P x->∀ y ∈ aG ls x,P y) {i:Nat} (hi:i < n) (lo:∀ k:Nat,k < i->P (k:Int)) (hn : ¬ P (i:Int)):fE n ls (i:Int):=fun x hx=>by
 have xr:=pC x hx
 have b:=aY.mp xr
 refine Classical.byContradiction fun lt=>hn ?_
 have xk:P x:=by
  have:=lo x.toNat (by omega)
  rwa [show ((x.toNat:Nat):Int)=x by omega] at this
 have im:(i:Int) ∈ rng n:=aY.mpr ⟨by omega,by omega⟩
 have back:(i:Int) ∈ bV ls (rng n) x:=by rw [iJ (iK n) hx im]; exact gW im
 have:=(g5.mp back).2 ((rng n).filter fun z=>@decide (P z) (Classical.propDecidable _)) (fun a ha b hb bS=>by
  rw [aP0] at ha ⊢
  exact⟨bS,@aL2 _ (Classical.propDecidable _) (cl a ha.1 (@aT3 _ (Classical.propDecidable _) ha.2) b hb)⟩) (aP0.mpr ⟨xr,@aL2 _ (Classical.propDecidable _) xk⟩)
 exact @aT3 _ (Classical.propDecidable _) (aP0.mp this).2
end
noncomputable def pO:bP:=fun xs Q=>∃ (n:Nat) (ls:List (Int × Int)),xs = [.lst (aZ ls),.int n]/\n<=40/\cL n ls/\∀ C,cX n ls C->(∀ h ∈ rng n,gC C h ≠ -1)->Q (.lst (intz C))
noncomputable def N2:aJ:=(aN (bJ 7 (iB (iA (bX (a6 6) (qC (.int 0))) (bX (a6 6) (qC (.int 1)))) (a6 5)))
     (cN (jY (aV (q2 (sG false) (a6 5) (a6 6))) (aV (eD (bX (a6 2) (a6 7)) (nW (qC (.int 1)))))) (aN (nL 2 (a6 7) (iB (qC (.int 1)) (bX (a6 2) (a6 5))))
      (k7 4 (a6 7))) cR))
noncomputable def uP:aJ:=(lT (aV (nX (aK dQ (aC (a6 4) aI)) (qC (.int 0))))
    (aN (nM 4 5)
    (eN (gM (a6 0)) (cJ 6)
     N2)))
noncomputable def N3:aJ:=(aN (iW 2 (E6 (i6 (aC (nW (qC (.int 1))) aI)) (a6 1)))
 (aN (eN (i7 (a6 1)) (cJ 3)
  (cN (aV (eD (bX (a6 2) (a6 3)) (nW (qC (.int 1))))) (aN (nL 2 (a6 3) (qC (.int 0)))
   (aN (iW 4 (i6 (aC (a6 3) aI)))
   uP)) cR))
 (nK 2)))
section
variable {n : Nat} {ls : List (Int × Int)} {C V : List Int} {f : Int} {l : Int × Int} {E : fC} {s0 s1 s3 y7 : Option Slot}
theorem aG4 (I:cX n ls C) (n40:n<=40) (lk:cL n ls) (lm:l ∈ ls) (fr:f ∈ rng n) (vl:V.length<=1000)
  (k1:(f ∈ [l.1,l.2]->gC C (l.1+l.2 - f) ≠ -1)->∀ y7,E.nx [s0,s1,some (.own (.lst (intz C))),s3,some (.own (.lst (intz V))),si f,some (.sh true (.tup [.int l.1,.int l.2])),y7])
  (k2:f ∈ [l.1,l.2]->gC C (l.1+l.2 - f) = -1->∀ y7,E.nx [s0,s1,some (.own (.lst (intz (C.set (l.1+l.2 - f).toNat (1 - gC C f))))),s3,some (.own (.lst (intz (V ++ [l.1+l.2 - f])))),si f,some (.sh true (.tup [.int l.1,.int l.2])),y7]) :
  N2 E [s0,s1,some (.own (.lst (intz C))),s3,some (.own (.lst (intz V))),si f,some (.sh true (.tup [.int l.1,.int l.2])),y7]:=by
 have lb:=lk.1 l lm
 have fb:=aY.mp fr
 have len:=I.len
 refine⟨_,rfl,_,_,_,rfl,rfl,rfl,_,rfl,_,_,_,rfl,rfl,rfl,l.1,l.2,rfl,rfl,_,rfl,_,_,rfl,rfl,trivial,?_⟩
 dsimp only
 refine⟨_,rfl,_,rfl,f,[l.1,l.2],rfl,rfl,_,rfl,?_⟩
 show if decide (f ∈ [l.1,l.2])=true then _ else _
 by_cases h1:f ∈ [l.1,l.2]
 ·rw [aL2 h1]
  have ob:0<=l.1+l.2 - f/\l.1+l.2 - f < (C.length:Int):=by
   simp only [aM4,aT9,or_false] at h1
   omega
  refine bB ⟨_,rfl,_,rfl,_,_,_,rfl,rfl,mO ob,_,rfl,.inl ⟨_,_,rfl,rfl,_,rfl,?_⟩⟩
  show if decide (gC C (l.1+l.2 - f) = -1)=true then _ else _
  by_cases h2:gC C (l.1+l.2 - f) = -1
  ·rw [aL2 h2]
   have fat:=mO (C:=C) (h:=f) ⟨fb.1,by omega⟩
   refine bB ⟨_,rfl,_,rfl,_,_,_,rfl,rfl,fat,1,gC C f,rfl,rfl,intz C,rfl,_,rfl,l.1+l.2 - f,(l.1+l.2 - f).toNat,rfl,?_,trivial,?_⟩
   ·rw [bR]
    have:=K0 (n:=C.length) (k:=(l.1+l.2 - f).toNat) (by omega)
    rwa [show (((l.1+l.2 - f).toNat:Nat):Int)=l.1+l.2 - f by omega] at this
   ·refine⟨_,rfl,_,rfl,trivial,by rw [bR]; omega,?_⟩
    have:=k2 h1 h2 (si (l.1+l.2 - f))
    rw [g4,show intz (C.set (l.1+l.2 - f).toNat (1 - gC C f))=(intz C).set (l.1+l.2 - f).toNat (.int (1 - gC C f)) from List.map_set] at this
    exact this
  ·rw [aL0 h2]
   exact aW (k1 (fun _=>h2) _)
 ·rw [aL0 h1]
  exact aW (aW (k1 (fun z=>absurd z h1) _))
end
section
variable {n : Nat} {ls : List (Int × Int)} {C V : List Int} {E : fC} {s0 s1 s3 y5 y6 y7 : Option Slot} {i : Nat} {b0 : Bool}
theorem aG5 (n40:n<=40) (lk:cL n ls) (hi:i < n) (I:cX n ls C) (sub:∀ x ∈ V,x ∈ bV ls (rng n) (i:Int)/\gC C x ≠ -1) (vl:V.length+fF C<=n) (cl:∀ x ∈ rng n,gC C x ≠ -1->x ∉ V->∀ y ∈ aG ls x,gC C y ≠ -1) (low:∀ k:Nat,k < i+1->gC C (k:Int) ≠ -1)
  (k:∀ C' y4 y5 y6 y7,cX n ls C'->(∀ x ∈ rng n,gC C' x ≠ -1->∀ y ∈ aG ls x,gC C' y ≠ -1)->(∀ k:Nat,k < i+1->gC C' (k:Int) ≠ -1)->E.nx [some (.sh b0 (.lst (aZ ls))),s1,some (.own (.lst (intz C'))),s3,y4,y5,y6,y7]) :
  uP E [some (.sh b0 (.lst (aZ ls))),s1,some (.own (.lst (intz C))),s3,some (.own (.lst (intz V))),y5,y6,y7]:=by
 have im:(i:Int) ∈ rng n:=aY.mpr ⟨by omega,by omega⟩
 have nin:∀ x y,y ∈ aG ls x->y ∈ rng n:=fun x y hy=>by
  rcases L2.cQ.mp hy with z | z
  ·have:=lk.1 _ z; exact aY.mpr ⟨by dsimp only at this; omega,by dsimp only at this; omega⟩
  ·have:=lk.1 _ z; exact aY.mpr ⟨by dsimp only at this; omega,by dsimp only at this; omega⟩
 refine⟨fun m ρ=>∃ (C V:List Int) (y5 y6 y7:Option Slot),ρ = [some (.sh b0 (.lst (aZ ls))),s1,some (.own (.lst (intz C))),s3,some (.own (.lst (intz V))),y5,y6,y7]/\cX n ls C/\(∀ x ∈ V,x ∈ bV ls (rng n) (i:Int)/\gC C x ≠ -1)/\V.length+fF C<=n/\(∀ x ∈ rng n,gC C x ≠ -1->x ∉ V->∀ y ∈ aG ls x,gC C y ≠ -1)/\(∀ k:Nat,k < i+1->gC C (k:Int) ≠ -1)/\m=2 * fF C+V.length,⟨_,C,V,y5,y6,y7,rfl,I,sub,vl,cl,low,rfl⟩,?_⟩
 rintro m ρ ⟨C,V,y5,y6,y7,rfl,I,sub,vl,cl,low,rfl⟩
 refine⟨_,rfl,_,_,rfl,rfl,_,_,rfl,rfl,_,rfl,?_⟩
 show if decide (0 < ((intz V).length:Int))=true then _ else _
 rw [bR]
 rcases List.eq_nil_or_concat V with rfl | ⟨V',f,rfl⟩
 ·rw [aL0 (by simp)]
  exact aW (k C _ _ _ _ I (fun x hx ne y hy=>cl x hx ne (by simp) y hy) low)
 ·rw [List.concat_eq_append] at *
  rw [aL1,aN2] at vl
  rw [aL2 (by rw [aL1,aN2]; omega)]
  refine bB ⟨intz V',.int f,by show _=some (some (Slot.own (.lst (intz V' ++ [PV.int f])))); rw [g4]; rfl,?_⟩
  obtain ⟨fc,fa⟩:=sub f (aM1 _ (aQ0 _))
  have fr:=pC f fc
  refine⟨_,rfl,aZ ls,rfl,pJ,fun j ρ=>∃ (C' V2:List Int) (y6 y7:Option Slot),ρ = [some (.sh b0 (.lst (aZ ls))),s1,some (.own (.lst (intz C'))),s3,some (.own (.lst (intz V2))),si f,y6,y7]/\cX n ls C'/\gC C' f ≠ -1/\(∀ x ∈ V2,x ∈ bV ls (rng n) (i:Int)/\gC C' x ≠ -1)/\V2.length+fF C'<=n/\(∀ x ∈ rng n,gC C' x ≠ -1->x ∉ V2->x ≠ f->∀ y ∈ aG ls x,gC C' y ≠ -1)/\(∀ l ∈ ls.take j,f ∈ [l.1,l.2]->gC C' (l.1+l.2 - f) ≠ -1)/\(∀ k:Nat,k < i+1->gC C' (k:Int) ≠ -1)/\2 * fF C'+V2.length<=2 * fF C+V'.length,⟨C,V',y6,y7,rfl,I,fa,(fun x hx=>sub x (aN5 _ hx)),by omega,(fun x hx ne hn nf=>cl x hx ne fun z=>(aM6.mp z).elim hn fun q=>nf (aK7.mp q)),(fun l hl=>by rw [List.take_zero] at hl; cases hl),low,aK4 _⟩,?_,?_⟩
  ·rintro j z ρ hz ⟨C',V2,y6,y7,rfl,I',fa',sub',vl',cl',dn,low',ms⟩
   obtain ⟨l,rfl,hl⟩:=p5 hz
   have lm:=aP3 hl
   have lb:=lk.1 l lm
   have fb:=aY.mp fr
   have tk:ls.take (j+1)=ls.take j ++ [l]:=by rw [aQ6,hl]; rfl
   refine aC1 rfl ?_
   refine aG4 I' n40 lk lm fr (by omega) (fun h y7=>⟨C',V2,_,y7,rfl,I',fa',sub',vl',cl',fun l' hl' hf'=>?_,low',ms⟩) fun h1 h2 y7=>?_
   ·rw [tk] at hl'
    rcases aM6.mp hl' with hl' | hl'
    ·exact dn l' hl' hf'
    ·rw [aK7.mp hl'] at hf' ⊢; exact h hf'
   ·have on:l.1+l.2 - f ∈ aG ls f:=by
     simp only [aM4,aT9,or_false] at h1
     refine L2.cQ.mpr ?_
     rcases h1 with e | e
     ·left; rw [show l.1+l.2 - f=l.2 by omega,e]; exact lm
     ·right; rw [show l.1+l.2 - f=l.1 by omega,e]; exact lm
    generalize ho:l.1+l.2 - f=o at h2 on
    have orr:=nin f o on
    have ob:=aY.mp orr
    have len:=I'.len
    have oc:o ∈ bV ls (rng n) (i:Int):=kU f fc o on orr
    have g:∀ h,0<=h->gC (C'.set o.toNat (1 - gC C' f)) h=if h=o then 1 - gC C' f else gC C' h:=fun h hh=>uN ⟨ob.1,by omega⟩ hh
    have t3:=I'.three f fr
    have v1:1 - gC C' f=0 ∨ 1 - gC C' f=1:=by omega
    have keep:∀ h,0<=h->gC C' h ≠ -1->gC (C'.set o.toNat (1 - gC C' f)) h ≠ -1:=fun h hh ne=>by
     rw [g h hh]; split
     ·omega
     ·exact ne
    have I2:cX n ls (C'.set o.toNat (1 - gC C' f)):=I'.put orr v1 (fun κ p=>by rw [I'.own κ p f fr fa',p.link f o fr on]) fun rl=>by
     exfalso
     have ic:(i:Int) ∈ bV ls (rng n) o:=by rw [iJ (iK n) oc im]; exact gW im
     have:=rl (i:Int) ic
     have:=low' o.toNat (by omega)
     rw [show ((o.toNat:Nat):Int)=o by omega] at this
     exact this h2
    have at1:C'[o.toNat]? = some (-1):=by
     have:C'[o.toNat]? = some (gC C' o):=by unfold gC; rw [aK8,aK2 (by omega)]; rfl
     rw [this,h2]
    have ct:=uO (v:=1 - gC C' f) at1 (by omega)
    refine⟨_,V2 ++ [o],_,y7,rfl,I2,keep f fb.1 fa',fun x hx=>?_,by rw [aL1,aN2]; omega,fun x hx ne hn nf y hy=>?_,fun l' hl' hf'=>?_,fun k hk=>keep _ (by omega) (low' k hk),by rw [aL1,aN2]; omega⟩
    ·rcases aM6.mp hx with hx | hx
     ·exact⟨(sub' x hx).1,keep x (aY.mp (pC x (sub' x hx).1)).1 (sub' x hx).2⟩
     ·rw [aK7.mp hx]
      refine⟨oc,?_⟩
      rw [g o ob.1,if_pos rfl]; omega
    ·have xo:x ≠ o:=fun e=>hn (by rw [e]; exact aM1 _ (aQ0 _))
     rw [g x (aY.mp hx).1,if_neg xo] at ne
     exact keep y (aY.mp (nin x y hy)).1 (cl' x hx ne (fun z=>hn (aN5 _ z)) nf y hy)
    ·rw [tk] at hl'
     rcases aM6.mp hl' with hl' | hl'
     ·have lb':=lk.1 l' (aZ1 hl')
      have h5:=dn l' hl' hf'
      simp only [aM4,aT9,or_false] at hf'
      exact keep _ (by omega) h5
     ·rw [aK7.mp hl',ho,g o ob.1,if_pos rfl]; omega
  ·rintro ρ ⟨C',V2,y6,y7,rfl,I',fa',sub',vl',cl',dn,low',ms⟩
   rw [show (aZ ls).length=ls.length from aL4 _,aW8] at dn
   refine⟨2 * fF C'+V2.length,by rw [aL1,aN2]; omega,C',V2,_,_,_,rfl,I',sub',vl',fun x hx ne hn y hy=>?_,low',rfl⟩
   by_cases e:x=f
   ·subst e
    rcases L2.cQ.mp hy with z | z
    ·have:=dn _ z (by simp)
     rwa [show x+y - x=y by omega] at this
    ·have:=dn _ z (by simp)
     rwa [show y+x - x=y by omega] at this
   ·exact cl' x hx ne hn e y hy
end
theorem uQ:∀ n:Nat,(List.replicate n [PV.int (-1)]).flatten=intz (List.replicate n (-1))
 | 0=>rfl
 | n+1=>by rw [aS5,aW1,uQ n,aS5]; rfl
theorem pP {n:Nat}{h:Int}:gC (List.replicate n (-1)) h = -1:=by
 unfold gC
 rw [aK8,List.getElem?_replicate]
 split <;> rfl
theorem aG6 (C:List Int):fF C<=C.length:=List.length_filter_le _ _
theorem aG7:dU N3 ["links","many","colours","first","waiting","hearth","pair","other"] pO:=by
 rintro xs Q ⟨n,ls,rfl,n40,lk,q⟩
 refine⟨_,rfl,by show 1<=1000; decide,rfl,_,rfl,[.int (-1)],(n:Int),rfl,rfl,rfl,by omega,by omega,by decide,rfl,?_,?_⟩
 ·show flats (List.replicate (n:Int).toNat [PV.int (-1)]).flatten=true
  rw [uQ]; exact eJ _
 show (aN _ _) _ [some (.sh false (.lst (aZ ls))),si n,some (Slot.own (.lst (List.replicate (n:Int).toNat [PV.int (-1)]).flatten)),none,none,none,none,none]
 rw [uQ,aR6]
 refine⟨_,rfl,(n:Int),rfl,by omega,by omega,fun i ρ=>∃ (C:List Int) (y3 y4 y5 y6 y7:Option Slot),ρ = [some (.sh false (.lst (aZ ls))),si n,some (.own (.lst (intz C))),y3,y4,y5,y6,y7]/\cX n ls C/\(∀ x ∈ rng n,gC C x ≠ -1->∀ y ∈ aG ls x,gC C y ≠ -1)/\∀ k:Nat,k < i->gC C (k:Int) ≠ -1,⟨List.replicate n (-1),none,none,none,none,none,rfl,⟨List.length_replicate,fun _ _=>.inl pP,fun _ _ _ _ ne=>absurd pP ne,fun _ _ _ ne=>absurd pP ne⟩,fun _ _ ne=>absurd pP ne,fun k hk=>absurd hk (Nat.not_lt_zero _)⟩,?_,?_⟩
 ·rintro i y ρ hy ⟨C,y3,y4,y5,y6,y7,rfl,I,cl,low⟩
  obtain ⟨rfl,hi⟩:=jI hy
  have hi:i < n:=by omega
  have len:=I.len
  have im:(i:Int) ∈ rng n:=aY.mpr ⟨by omega,by omega⟩
  refine jL ?_
  rw [Int.zero_add]
  refine⟨_,rfl,_,rfl,_,_,_,rfl,rfl,mO (C:=C) ⟨by omega,by omega⟩,_,rfl,.inl ⟨_,_,rfl,rfl,_,rfl,?_⟩⟩
  show if decide (gC C (i:Int) = -1)=true then _ else _
  by_cases h:gC C (i:Int) = -1
  ·rw [aL2 h]
   have rl:fE n ls (i:Int):=aG3 (P:=fun x=>gC C x ≠ -1) cl hi low fun z=>z h
   have I2:cX n ls (C.set (i:Int).toNat 0):=I.put im (.inl rfl) (fun κ p=>(p.root _ im rl).symm) fun _=>rfl
   have g:∀ x,0<=x->gC (C.set (i:Int).toNat 0) x=if x=(i:Int) then 0 else gC C x:=fun x hx=>uN ⟨by omega,by omega⟩ hx
   have keep:∀ x,0<=x->gC C x ≠ -1->gC (C.set (i:Int).toNat 0) x ≠ -1:=fun x hx ne=>by
    rw [g x hx]; split
    ·decide
    ·exact ne
   have ig:gC (C.set (i:Int).toNat 0) (i:Int) ≠ -1:=by rw [g _ (by omega),if_pos rfl]; decide
   have at1:C[(i:Int).toNat]? = some (-1):=by
    have:C[(i:Int).toNat]? = some (gC C (i:Int)):=by unfold gC; rw [aK8,aK2 (by omega)]; rfl
    rw [this,h]
   have ct:=uO (v:=0) at1 (by decide)
   have cle:=aG6 C
   have nin:∀ x y,y ∈ aG ls x->0<=y:=fun x y hy=>by
    rcases L2.cQ.mp hy with z | z
    ·have:=lk.1 _ z; dsimp only at this; omega
    ·have:=lk.1 _ z; dsimp only at this; omega
   refine bB ⟨intz C,rfl,_,rfl,(i:Int),(i:Int).toNat,rfl,?_,trivial,?_⟩
   ·rw [bR,aR6]; exact K0 (by omega)
   refine⟨_,rfl,by show 1<=1000; decide,rfl,rfl,rfl,?_⟩
   show uP _ [some (.sh false (.lst (aZ ls))),si n,some (.own (.lst ((intz C).set (i:Int).toNat (.int 0)))),si (i:Int),some (.own (.lst (intz [(i:Int)]))),y5,y6,y7]
   rw [show (intz C).set (i:Int).toNat (.int 0)=intz (C.set (i:Int).toNat 0) from List.map_set.symm]
   refine aG5 n40 lk hi I2 (fun x hx=>by rw [aK7.mp hx]; exact⟨gW im,ig⟩) (by rw [aN2]; omega) (fun x hx ne hn y hy=>?_) (fun k hk=>?_) fun C' y4 y5 y6 y7 I' cl' low'=>⟨C',_,y4,y5,y6,y7,rfl,I',cl',low'⟩
   ·have xi:x ≠ (i:Int):=fun e=>hn (by rw [e]; exact aQ0 _)
    rw [g x (aY.mp hx).1,if_neg xi] at ne
    exact keep y (nin x y hy) (cl x hx ne y hy)
   ·by_cases e:k=i
    ·rw [e]; exact ig
    ·exact keep _ (by omega) (low k (by omega))
  ·rw [aL0 h]
   refine aW ⟨C,_,y4,y5,y6,y7,rfl,I,cl,fun k hk=>?_⟩
   by_cases e:k=i
   ·rw [e]; exact h
   ·exact low k (by omega)
 ·rintro ρ ⟨C,y3,y4,y5,y6,y7,rfl,I,cl,low⟩
  rw [fW,aR6] at low
  refine⟨_,rfl,trivial,q C I fun h hh=>?_⟩
  have b:=aY.mp hh
  have:=low h.toNat (by omega)
  rwa [show ((h.toNat:Nat):Int)=h by omega] at this
theorem aG8 {ls:List (Int × Int)}{c:List Int} (f:pI ls) (R:dD ls c) {k:Nat} (h:k < c.length):gX c k ∈ ls:=by
 have a:=aC0 R h
 unfold gX
 rcases L2.cQ.mp a with z | z
 ·have:=f.lt _ z
  dsimp only at this
  rw [if_neg (by omega),if_pos (by omega)]; exact z
 ·have:=f.lt _ z
  dsimp only at this
  rw [if_pos (by omega),if_neg (by omega)]; exact z
noncomputable def pQ:bP:=fun xs Q=>∃ (n:Nat) (ls:List (Int × Int)) (c:List Int),xs = [.tup (intz c),.lst (aZ ls)]/\n<=40/\cL n ls/\c.length<=1000/\dD ls c/\c.length % 2=1/\Q (.bl true)
noncomputable def N4 (K:PySem.W.Frag):aJ:=(aN (cN (iU (jZ (aV (gQ K "tuple" (a6 0)))) (iU (aV (sJ (aK dQ (aC (a6 0) aI)) (qC (.int 3)))) (iU (aV (eD (dA (aK dQ (aC (a6 0) aI)) (qC (.int 2))) (qC (.int 0)))) (aV (qNe (aK G6 (aC (a6 0) aI)) (aK dQ (aC (a6 0) aI))))))) (bW (qC (.bl false))) cR)
 (aN (eN (i7 (aK dQ (aC (a6 0) aI))) (cJ 2)
  (aN (bJ 3 (i5 (aC (aK lU (aC (bX (a6 0) (iB (a6 2) (qC (.int 1)))) (aC (bX (a6 0) (a6 2)) aI))) (aC (aK nN (aC (bX (a6 0) (iB (a6 2) (qC (.int 1)))) (aC (bX (a6 0) (a6 2)) aI))) aI))))
  (cN (iU (jZ (aV (aK kQ (aC (bX (a6 0) (a6 2)) aI)))) (aV (q2 uA (a6 3) (a6 1)))) (bW (qC (.bl false))) cR)))
 (bW (qC (.bl true)))))
theorem aG9 {K:PySem.W.Frag} (kt:PySem.W.kitOne K (.type "tuple") (.type "tuple")=some true):dU (N4 K) ["found","links","k","pair"] pQ:=by
 rintro xs Q ⟨n,ls,c,rfl,n40,lk,cl,R,od,q⟩
 have l3:=R.len
 refine⟨_,rfl,_,_,rfl,kt,_,rfl,aW ⟨_,rfl,_,_,rfl,rfl,_,_,rfl,rfl,_,rfl,?_⟩⟩
 show if decide (((intz c).length:Int) < 3)=true then _ else _
 rw [bR,aL0 (by omega)]
 refine aW ⟨_,rfl,_,_,rfl,rfl,_,_,rfl,rfl,(by show (0:Int) < 2; decide),.inl ⟨_,_,rfl,rfl,_,rfl,?_⟩⟩
 show if decide (((intz c).length:Int) % 2=0)=true then _ else _
 rw [bR,aL0 (by omega)]
 refine aW ⟨_,rfl,c,rfl,R.nd,cl,_,rfl,_,_,rfl,rfl,.inl ⟨_,_,rfl,rfl,_,rfl,?_⟩⟩
 show if (!decide ((c.length:Int)=((intz c).length:Int)))=true then _ else _
 rw [bR,aL2 rfl]
 refine aW ?_
 refine⟨_,rfl,_,_,rfl,rfl,_,rfl,by omega,by rw [bR]; omega,fun i ρ=>∃ y2 y3:Option Slot,ρ = [some (.sh (flat (.tup (intz c))) (.tup (intz c))),some (.sh false (.lst (aZ ls))),y2,y3],⟨none,none,rfl⟩,?_,?_⟩
 ·rintro i z ρ hz ⟨y2,y3,rfl⟩
  obtain ⟨rfl,hi⟩:=jI hz
  rw [bR] at hi
  have e0:(0:Int)+(i:Int)=(i:Int):=by omega
  rw [e0]
  have i1:i < c.length:=by omega
  have at1:L2.atI (intz c) (i:Int)=some (.int (c.getD i 0)):=tN (h:=(i:Int)) (by omega) (by omega)
  have at0:L2.atI (intz c) ((i:Int) - 1)=some (.int (iL c i)):=by
   unfold iL jO
   by_cases e:i=0
   ·subst e
    rw [if_pos rfl]
    have:=aB8 (c:=c) (k:=c.length - 1) (mJ (by omega))
    rw [aO0 (by omega)] at this
    exact this
   ·rw [if_neg e,show (i:Int) - 1=((i - 1:Nat):Int) by omega]
    exact tN (h:=((i - 1:Nat):Int)) (by omega) (by omega)
  have em:=aG8 lk.fit R i1
  refine jL ?_
  refine⟨_,rfl,_,rfl,_,_,rfl,rfl,_,_,_,rfl,rfl,at0,_,rfl,_,rfl,_,_,_,rfl,rfl,at1,_,_,rfl,?_⟩
  refine⟨_,rfl,_,rfl,_,_,rfl,rfl,_,_,_,rfl,rfl,at0,_,rfl,_,rfl,_,_,_,rfl,rfl,at1,_,_,rfl,by show 2<=1000; decide,rfl,trivial,?_⟩
  refine⟨_,rfl,_,rfl,_,_,_,rfl,rfl,at1,_,rfl,_,rfl,aW ⟨_,rfl,_,rfl,[(gX c i).1,(gX c i).2],ls.map two,rfl,?_,_,rfl,?_⟩⟩
  ·show PV.lst (aZ ls) = .lst (tups (ls.map two))
   rw [aB0]
  ·have : [(gX c i).1,(gX c i).2] ∈ ls.map two:=aO8.mpr ⟨gX c i,em,rfl⟩
   show if (!decide ([(gX c i).1,(gX c i).2] ∈ ls.map two))=true then _ else _
   rw [aL2 this]
   exact aW ⟨_,_,rfl⟩
 ·rintro ρ ⟨y2,y3,rfl⟩
  exact⟨trivial,q⟩
noncomputable def uR:bP:=E3
noncomputable def N5 (K:PySem.W.Frag):aJ:=(aN (cN (aV (yU (a6 6) (qC .non))) (bW (qC (.bl false))) cR)
 (aN (rS (aK (gY fun _=>False) (aC (a6 4) aI)) (qC (.int 0)))
 (aN (bJ 7 (aK (gY fun _=>False) (aC (a6 4) aI)))
 (aN (cN (iU (jZ (aV (gQ K "list" (a6 7)))) (aV (q2 (lY 2 true) (a6 7) (a6 5)))) (bW (qC (.bl false))) cR)
 (bW (eD (aK dQ (aC (gO (gM (a6 7)) [none] (cJ 0) (jZ (aV (aK kQ (aC (a6 0) aI)))) (a6 0)) aI)) (qC (.int 0))))))))
noncomputable def N6 (K:PySem.W.Frag):aJ:=(aN (cN (aV (nX (aK dQ (aC (gO (gM (a6 3)) [none,some 5] (cJ 0) (aV (eD (bX (a6 1) (bX (a6 0) (qC (.int 0)))) (bX (a6 1) (bX (a6 0) (qC (.int 1)))))) (a6 0)) aI)) (qC (.int 0)))) (bW (lR (aK pQ (aC (a6 6) (aC (a6 3) aI))) (lR (aK mM (aC (a6 4) (aC (qC (.int 0)) aI))) (aK mM (aC (a6 4) (aC (qC (.int 1)) aI)))))) cR)
 (N5 K))
noncomputable def N7 (K:PySem.W.Frag):aJ:=(aN (bJ 4 (i5 (aC (aK sK (aC (gO (i7 (a6 1)) [none,some 2] (cJ 0) k9 (dA (aK kT (aC (a6 1) (aC (a6 0) aI))) (qC (.int 5)))) aI)) (aC (aK sK (aC (a6 3) aI)) aI))))
 (aN (bJ 5 (aK pO (aC (a6 3) (aC (a6 1) aI))))
 (aN (bJ 6 (aK kZ (aC (a6 4) aI)))
 (N6 K))))
noncomputable def N8 (K:PySem.W.Frag):aJ:=(aN (bJ 1 (aK pB (aC (aK mF (aC (a6 0) (aC (qC (.int 0)) aI))) aI)))
 (aN (bJ 2 (aK mF (aC (a6 0) (aC (qC (.int 1)) aI))))
 (aN (bJ 3 (aK pF (aC (j5 (a6 0) (j4 (qC (.int 3))) iZ) (aC (a6 1) aI))))
 (aN (cN (aV (eD (dA (a6 2) (qC (.int 2))) (qC (.int 1)))) (bJ 3 (gO (gM (a6 3)) [none] (cJ 0) (aV (eD (dA (iA (bX (a6 0) (qC (.int 0))) (bX (a6 0) (qC (.int 1)))) (qC (.int 2))) (qC (.int 1)))) (a6 0))) cR)
 (N7 K)))))
theorem aH0 {n:Nat}{ls:List (Int × Int)}{c:List Int} (lk:cL n ls) (R:dD ls c):c.length<=n:=by
 have:=pG R.nd (m:=rng n) fun x hx=>by
  have t:=aB7 R x hx
  obtain ⟨a,b,ha,_⟩:=aB3 (lk.fit.nnd x) t
  rcases L2.cQ.mp ha with z | z
  ·have:=lk.1 _ z; exact aY.mpr ⟨by dsimp only at this; omega,by dsimp only at this; omega⟩
  ·have:=lk.1 _ z; exact aY.mpr ⟨by dsimp only at this; omega,by dsimp only at this; omega⟩
 rw [jJ] at this
 exact this
section
variable {K : PySem.W.Frag} {ns : List Int} {n : Nat} {ls : List (Int × Int)} {C W : List Int} {Q : PV → Prop} {cz : Int} {s0 : Option Slot}
theorem cX.prop (lk:cL n ls) (I:cX n ls C) (all:∀ h ∈ rng n,gC C h ≠ -1) (no:ls.filter (fun l=>decide (gC C l.1=gC C l.2)) = []):∃ κ,dM n ls κ:=by
 have two:∀ h ∈ rng n,gC C h=0 ∨ gC C h=1:=fun h hh=>(I.three h hh).resolve_left (all h hh)
 have ne:∀ l ∈ ls,gC C l.1 ≠ gC C l.2:=fun l hl e=>by
  have:=List.filter_eq_nil_iff.mp no l hl
  exact this (aL2 e)
 refine⟨gC C,fun x y hx hy=>?_,fun r hr rl=>I.root r hr rl (all r hr)⟩
 have yr:y ∈ rng n:=by
  rcases L2.cQ.mp hy with z | z
  ·have:=lk.1 _ z; exact aY.mpr ⟨by dsimp only at this; omega,by dsimp only at this; omega⟩
  ·have:=lk.1 _ z; exact aY.mpr ⟨by dsimp only at this; omega,by dsimp only at this; omega⟩
 have a:=two x hx
 have b:=two y yr
 rcases L2.cQ.mp hy with z | z
 ·have:=ne _ z; dsimp only at this; omega
 ·have:=ne _ z; dsimp only at this; omega
theorem cX.eq {κ:Int->Int} (I:cX n ls C) (all:∀ h ∈ rng n,gC C h ≠ -1) (p:dM n ls κ):(rng n).map κ=C:=by
 have len:=I.len
 refine List.ext_getElem? fun i=>?_
 rw [aL9]
 by_cases hi:i < n
 ·rw [oX hi]
  have:=I.own κ p (i:Int) (aY.mpr ⟨by omega,by omega⟩) (all _ (aY.mpr ⟨by omega,by omega⟩))
  show some (κ (i:Int))=_
  rw [<- this]
  unfold gC
  rw [aR6,aK8,aK2 (by omega)]; rfl
 ·rw [aY1 (by rw [jJ]; omega),aY1 (by omega)]; rfl
theorem aH1 (kl:PySem.W.kitOne K (.type "list") (.type "list")=some true) (n40:n<=40) (lk:cL n ls) (wl:W.length=n) (I:cX n ls C) (all:∀ h ∈ rng n,gC C h ≠ -1) {κ:Int->Int} (p:dM n ls κ) (q:Q (.bl true)) :
  N5 K { nx:=fun _=>Q .non,rt:=Q } [s0,si n,si cz,some (.sh true (.lst (aZ ls))),some (.sh true (cE W ls)),some (.sh true (.lst (intz C))),some (.sh true .non),none]:=by
 refine⟨_,rfl,rfl,_,rfl,aW ?_⟩
 refine⟨_,rfl,W,ls,rfl,by omega,by rw [wl]; exact lk,fun κ1 p1=>?_,fun no=>absurd ⟨κ,by rw [wl]; exact p⟩ no⟩
 have rl:((rng W.length).map κ1).length=n:=by rw [aL4,jJ]; exact wl
 refine⟨_,rfl,rfl,by rw [bR]; omega,?_⟩
 refine⟨_,rfl,W,ls,rfl,by omega,by rw [wl]; exact lk,fun κ2 p2=>⟨trivial,?_⟩,fun no=>absurd ⟨κ,by rw [wl]; exact p⟩ no⟩
 rw [wl] at p2 ⊢
 rw [I.eq all p2]
 refine⟨_,rfl,_,_,rfl,kl,_,rfl,aW ⟨_,rfl,_,rfl,.inr ⟨_,_,rfl,rfl⟩,al1 2 _ _,_,rfl,?_⟩⟩
 show if (!bQ 3 (.lst (intz C)) (.lst (intz C)))=true then _ else _
 rw [ak9,aL2 rfl]
 have len:=I.len
 refine aW ⟨_,rfl,_,rfl,pJ,by rw [bR]; omega,fun i acc=>acc = [],rfl,?_,?_⟩
 ·rintro i y acc hy rfl
  obtain ⟨d,rfl,hd⟩:=tK hy
  exact⟨_,rfl,d,rfl,_,rfl,aW rfl⟩
 ·rintro acc rfl
  exact⟨_,_,rfl,rfl,.inl ⟨_,_,rfl,rfl,trivial,q⟩⟩
theorem N9 (kl:PySem.W.kitOne K (.type "list") (.type "list")=some true) (n40:n<=40) (lk:cL n ls) (wl:W.length=n) (I:cX n ls C) (all:∀ h ∈ rng n,gC C h ≠ -1) {f:PV} (hf:(f = .non/\∃ κ,dM n ls κ) ∨ ((¬ ∃ κ,dM n ls κ)/\∃ c,f = .tup (intz c)/\dD ls c/\c.length % 2=1)) (q:Q (.bl true)) :
  N6 K { nx:=fun _=>Q .non,rt:=Q } [s0,si n,si cz,some (.sh true (.lst (aZ ls))),some (.sh true (cE W ls)),some (.sh true (.lst (intz C))),some (.sh true f),none]:=by
 have pl:(aZ ls).length=ls.length:=aL4 _
 have lm:=lk.2.1
 have len:=I.len
 refine⟨_,rfl,aZ ls,rfl,pJ,by rw [pl]; omega,fun j acc=>acc=aZ ((ls.take j).filter fun l=>decide (gC C l.1=gC C l.2)),rfl,?_,?_⟩
 ·rintro j w acc hw rfl
  obtain ⟨l,rfl,hl⟩:=p5 hw
  have lb:=lk.1 l (aP3 hl)
  have tk:=C1 (p:=fun l:Int × Int=>decide (gC C l.1=gC C l.2)) hl
  refine⟨_,rfl,_,rfl,_,_,_,rfl,rfl,rfl,_,_,_,rfl,rfl,mO (C:=C) (h:=l.1) ⟨by omega,by omega⟩,_,rfl,_,rfl,_,_,_,rfl,rfl,rfl,_,_,_,rfl,rfl,mO (C:=C) (h:=l.2) ⟨by omega,by omega⟩,.inl ⟨_,_,rfl,rfl,_,rfl,?_⟩⟩
  show if decide (gC C l.1=gC C l.2)=true then _ else _
  cases hm:decide (gC C l.1=gC C l.2) with
  | true=>
   rw [hm] at tk
   refine bB ⟨_,rfl,G9 _ rfl,?_⟩
   dsimp only
   rw [tk]
   unfold aZ
   rw [aS0]; rfl
  | false=>
   rw [hm] at tk
   refine aW ?_
   dsimp only
   rw [tk]; simp
 rintro acc rfl
 rw [pl,aW8]
 refine⟨_,_,rfl,rfl,_,_,rfl,rfl,_,rfl,?_⟩
 show if decide (0 < ((aZ (ls.filter fun l=>decide (gC C l.1=gC C l.2))).length:Int))=true then _ else _
 rw [show (aZ (ls.filter fun l=>decide (gC C l.1=gC C l.2))).length=(ls.filter fun l=>decide (gC C l.1=gC C l.2)).length from aL4 _]
 rcases hf with ⟨rfl,κ,p⟩ | ⟨no,c,rfl,cy,od⟩
 ·have e:ls.filter (fun l=>decide (gC C l.1=gC C l.2)) = []:=List.filter_eq_nil_iff.mpr fun l hl z=>by
   have lb:=lk.1 l hl
   have z:=aT3 z
   have a:=I.own κ p l.1 (aY.mpr ⟨by omega,by omega⟩) (all _ (aY.mpr ⟨by omega,by omega⟩))
   have b:=I.own κ p l.2 (aY.mpr ⟨by omega,by omega⟩) (all _ (aY.mpr ⟨by omega,by omega⟩))
   have:=p.link l.1 l.2 (aY.mpr ⟨by omega,by omega⟩) (L2.cQ.mpr (.inl hl))
   omega
  rw [e,aL0 (by simp)]
  exact aW (aH1 kl n40 lk wl I all p q)
 ·have ne:ls.filter (fun l=>decide (gC C l.1=gC C l.2)) ≠ []:=fun z=>no (I.prop lk all z)
  have pos:=aT2.mpr ne
  rw [aL2 (by omega)]
  have cf:=aH0 lk cy
  have no' : ¬ ∃ κ,dM W.length ls κ:=by rw [wl]; exact no
  refine bB ⟨_,rfl,_,rfl,n,ls,c,rfl,n40,lk,by omega,cy,od,_,rfl,bB ?_⟩
  refine⟨_,rfl,W,ls,0,rfl,by omega,by rw [wl]; exact lk,no',_,rfl,bB ?_⟩
  exact⟨_,rfl,W,ls,1,rfl,by omega,by rw [wl]; exact lk,no',trivial,q⟩
theorem O0 (kl:PySem.W.kitOne K (.type "list") (.type "list")=some true) (n40:n<=40) (lk:cL n ls) (q:Q (.bl true)) :
  N7 K { nx:=fun _=>Q .non,rt:=Q } [s0,si n,si cz,some (.sh true (.lst (aZ ls))),none,none,none,none]:=by
 refine⟨_,rfl,(n:Int),rfl,by omega,by omega,by rw [fW]; omega,fun i acc=>∃ W:List Int,acc=intz W/\W.length=i,⟨[],rfl,rfl⟩,?_,?_⟩
 ·rintro i y acc hy ⟨W,rfl,wl⟩
  obtain ⟨rfl,hi⟩:=jI hy
  have hi':i < n:=by omega
  refine⟨_,rfl,_,rfl,_,_,rfl,by omega,by omega,fun z z0=>⟨_,_,rfl,rfl,(by show (0:Int) < 5; decide),trivial,W ++ [z % 5],by rw [g4]; rfl,by rw [aL1,wl]; rfl⟩⟩
 rintro acc ⟨W,rfl,wl⟩
 rw [fW,aR6] at wl
 have fw:flats [PV.tup (intz W),.tup (aZ ls)]=true:=by
  show (flats (intz W) && (flats (aZ ls) && true))=true
  rw [eJ,show flats (aZ ls)=true from oY ls]; rfl
 refine⟨⟨_,_,rfl,rfl,eJ _,?_⟩,fun ns z=>by cases z⟩
 refine⟨_,rfl,⟨_,_,rfl,rfl,oY ls,by show 2<=1000; decide,fw,trivial,?_⟩,fun ns z=>by cases z⟩
 refine⟨_,rfl,_,rfl,n,ls,rfl,n40,lk,fun C I all=>⟨trivial,?_⟩⟩
 refine⟨_,rfl,W,ls,rfl,by omega,by rw [wl]; exact lk,fun h=>⟨trivial,?_⟩,fun h c cy od=>⟨trivial,?_⟩⟩
 ·exact N9 kl n40 lk wl I all (.inl ⟨rfl,by rw [wl] at h; exact h⟩) q
 ·exact N9 kl n40 lk wl I all (.inr ⟨by rw [wl] at h; exact h,c,rfl,cy,od⟩) q
end
theorem aH2 {K:PySem.W.Frag} (kl:PySem.W.kitOne K (.type "list") (.type "list")=some true):dU (N8 K) ["script","many","cell","links","web","due","found","told"] uR:=by
 rintro xs Q ⟨ns,rfl,hl,q⟩
 refine⟨_,rfl,_,ns,0,rfl,.inl rfl,by decide,_,rfl,fun M m0 m1=>⟨trivial,?_⟩⟩
 obtain ⟨n,rfl⟩:∃ n:Nat,M=n:=⟨M.toNat,by omega⟩
 have n40:n<=40:=by omega
 refine⟨_,rfl,_,ns,1,rfl,.inl rfl,by decide,trivial,?_⟩
 generalize ns.getD (1:Int).toNat 0=cz
 have hc:fD (sH (.scr ns) (dI (intz ns) (some 3) none)) (ns.drop 3):=.inr (by show PV.lst (dI (intz ns) (some 3) none)=_; rw [tR ns (by decide)]; rfl)
 refine⟨_,rfl,_,rfl,_,rfl,eJ _,_,rfl,_,_,n,rfl,hc,by rw [aS3]; omega,n40,fun ls lk=>⟨trivial,?_⟩⟩
 have pl:(aZ ls).length=ls.length:=aL4 _
 have lm:=lk.2.1
 refine⟨_,rfl,_,_,rfl,rfl,(by show (0:Int) < 2; decide),.inl ⟨_,_,rfl,rfl,_,rfl,?_⟩⟩
 generalize decide (cz % 2=1)=d
 show if d=true then _ else _
 cases d with
 | false=>exact aW (O0 kl n40 lk q)
 | true=>
  refine bB ⟨_,rfl,aZ ls,rfl,pJ,by rw [pl]; omega,fun j acc=>acc=aZ ((ls.take j).filter fun l=>decide ((l.1+l.2) % 2=1)),rfl,?_,?_⟩
  ·rintro j w acc hw rfl
   obtain ⟨l,rfl,hl⟩:=p5 hw
   have tk:=C1 (p:=fun l:Int × Int=>decide ((l.1+l.2) % 2=1)) hl
   refine⟨_,rfl,_,_,_,rfl,rfl,rfl,_,rfl,_,_,_,rfl,rfl,rfl,l.1,l.2,rfl,rfl,_,_,rfl,rfl,(by show (0:Int) < 2; decide),.inl ⟨_,_,rfl,rfl,_,rfl,?_⟩⟩
   show if decide ((l.1+l.2) % 2=1)=true then _ else _
   cases hm:decide ((l.1+l.2) % 2=1) with
   | true=>
    rw [hm] at tk
    refine bB ⟨_,rfl,G9 _ rfl,?_⟩
    dsimp only
    rw [tk]
    unfold aZ
    rw [aS0]; rfl
   | false=>
    rw [hm] at tk
    refine aW ?_
    dsimp only
    rw [tk]; simp
  rintro acc rfl
  rw [pl,aW8]
  refine⟨trivial,?_⟩
  exact O0 kl n40 ⟨fun l hl=>lk.1 l (aP0.mp hl).1,aP2 (List.length_filter_le _ _) lm,lk.2.2.sublist List.filter_sublist⟩ q
end Core
namespace K_k79
open PySem PySem.W L2 PP Core
theorem _root_.L2.FnScope.au {N P:List Str}{s:Scope} (a:s.kind=.function:=by rfl) (b:s.isCoroutine=false:=by rfl) (c:s.isGenerator=false:=by rfl) (d:N.Nodup:=by decide +kernel) (e:N.take P.length=P:=by rfl) (f:∀ x∈P,s.names.lookup x=some .local∨s.names.lookup x=some .cell:=by decide +kernel) (g:∀ y∈s.names,y.2≠.free:=by decide +kernel):FnScope N P s:=⟨a,b,c,d,e,f,g⟩
noncomputable def b6 (i:Nat):Stmt:=PySem.Challenge.pw_kindleweb_k79_whole_colours.main.body.getD i (.Pass ⟨0,0,0,0⟩)
structure FK (K:Frag) (n:Str) (i:Nat) (f:Addr) (d:FuncData):Prop where
 a:nsIn K mainGlobals n=some (some (.ref f))
 F:e9 K n n (b6 i) f d
structure FM (K:Frag) (mg:Str->Option Value) (n:Str) (i:Nat) (f:Addr) (d:FuncData):Prop where
 F:e9 K n n (b6 i) f d
 m:mg n=some (.ref f)
theorem FK.M {K:Frag}{mg:Str->Option Value}{n:Str}{i:Nat}{f:Addr}{d:FuncData}{h:Heap} (z:FK K n i f d) (X:K.In h) (G:h.Ns mainGlobals mg):FM K mg n i f d:=⟨z.F,mg_of X G z.a⟩
noncomputable abbrev Hb (x:Str) (ps:List Str) (i:Nat):Prop:=∀ (kV doc pm:Value) (an:Option Addr) (cdv ct:Value) (us:List Value),us.length=ps.length->bindArgs (fnOf x x (gG (b6 i)) (dE (b6 i)) (aS (b6 i)) .none kV doc pm an cdv ct) ⟨us,[]⟩=pure (ps.zip us)
theorem uS {A:Around}{k:Nat} (hr:bG k A):A.units+3 < cLine:=by have:=hr.units; omega
section
variable {P : Program} {w : World} {K : Frag} {mg : Str → Option Value} {base : Heap} {f : Addr} {fd : FuncData} {k i : Nat} {x : Str} {ps N : List Str}
theorem Df.au {p:bP} (F:FM K mg x i f fd) (S:FnScope N ps (aS (b6 i))) (body:∀ (cdv:Value) (A:Around) (outer:List Env) (s:Shared) (H:Hp) (E:XK),bG k (A.deeper (PyProof.Rows.envOfC x (aS (b6 i)) s.heap.objs.size f cdv))->∃ t,dJ (cI dF P w K mg base N x (aS (b6 i)) f cdv A outer s H E).nox (dE (b6 i)) t/\∀ xs Q,p xs Q->t { nx:=fun _=>Q .non,rt:=Q } (eC N xs)) (hb:Hb x ps i:=by intro _ _ _ _ _ _ us hl; first | (obtain ⟨_,rfl⟩:=pA hl; rfl) | (obtain ⟨_,_,rfl⟩:=G4 hl; rfl) | (obtain ⟨_,_,_,rfl⟩:=us3 hl; rfl) | (obtain ⟨_,_,_,_,rfl⟩:=us4 hl; rfl) | (obtain ⟨_,_,_,_,_,rfl⟩:=us5 hl; rfl)) (len:∀ xs Q,p xs Q->xs.length=ps.length:=by intro xs Q h; repeat (first | (obtain ⟨rfl,_⟩:=h; rfl) | (obtain ⟨_,h⟩:=h))):Df P w K mg base (k+1) x ps p:=
 Df.of F.F F.m S hb len body
theorem dL.au {p:eS} (F:FM K mg x i f fd) (S:FnScope N ps (aS (b6 i))) (t:(Str->Prop)->aJ) (rd:∀ Ep xs Q,p Ep xs Q->t Ep { nx:=fun _=>Q .non,rt:=Q } (eC N xs)) (body:∀ (cdv:Value) (A:Around) (outer:List Env) (s:Shared) (H:Hp) (E:XK) (Ep:Str->Prop),bG k (A.deeper (PyProof.Rows.envOfC x (aS (b6 i)) s.heap.objs.size f cdv))->kM (cI (cW P w) P w K mg base N x (aS (b6 i)) f cdv A outer s H E) (EX K H Ep)->dJ (cI (cW P w) P w K mg base N x (aS (b6 i)) f cdv A outer s H E) (dE (b6 i)) (t Ep)) (hb:Hb x ps i:=by intro _ _ _ _ _ _ us hl; first | (obtain ⟨_,rfl⟩:=pA hl; rfl) | (obtain ⟨_,_,rfl⟩:=G4 hl; rfl) | (obtain ⟨_,_,_,rfl⟩:=us3 hl; rfl) | (obtain ⟨_,_,_,_,rfl⟩:=us4 hl; rfl) | (obtain ⟨_,_,_,_,_,rfl⟩:=us5 hl; rfl)) (len:∀ Ep xs Q,p Ep xs Q->xs.length=ps.length:=by intro Ep xs Q h; repeat (first | (obtain ⟨rfl,_⟩:=h; rfl) | (obtain ⟨_,h⟩:=h))):dL P w K mg base (k+1) x ps p:=
 dL.of F.F F.m S hb t len rd body
end
section
variable {P : Program} {w : World} {K : Frag} {mg : Str → Option Value} {base : Heap} {f : Addr} {fd : FuncData}
noncomputable abbrev O1:Stmt:=b6 6
theorem pR:FnScope ["web","around","one","other"] ["web"] (aS O1):=.au
theorem aH3 (F:e9 K "near_lists" "near_lists" O1 f fd):cH P w K mg base dF 1 f fd ["web"] E1:=by
 refine F.ok pR (fun vs H Q E h=>?_) (fun cdv A outer s H vs Q E hr h=>?_)
 ·obtain ⟨v,ws,ls,rfl,_⟩:=h
  rfl
 obtain ⟨v,ws,ls,rfl,W,hn,hm,hin,q⟩:=h
 refine⟨_,mQ (ae0 (i:=1) (N:=["want"]) (fr:=[none]) rfl (dG.of rfl rfl) (vG (lJ qR (pv 0) pV (fun _ _=>rfl)))
   ⟨fun _ _ _ _=>iO (i:=0) (aR3 _ _) rfl (Or.inl rfl) (.inr rfl),fun _ _ _ _=>xJ,fun _ _ _ _=>vZ fI⟩ pR.nd rfl rfl rfl)
  (mQ (vL PassesOwn.never rfl (vG (lJ qR (pv 0) pV (fun _ _=>rfl))) (vC (n:=2) rfl (mT (iO (i:=2) pR.nd rfl (Or.inl rfl) (.inr rfl)) (mT (iO (i:=3) pR.nd rfl (Or.inl rfl) (.inr rfl)) vA)) )
   (mQ (l9 (mX aW2 PySem.F.slot_list_append PySem.F.type_list_append lM (lJ qQ (pv 1) (pv 2) (fun _ _=>rfl)) (eI (pv 3) fI)))
   (pW (l9 (mX aW2 PySem.F.slot_list_append PySem.F.type_list_append lM (lJ qQ (pv 1) (pv 3) (fun _ _=>rfl)) (eI (pv 2) fI))))))
  (pW (pY (pv 1)))),?_⟩
 obtain ⟨a,p,q',ys,rfl,ha,hp,hq,hL⟩:=W.at_
 have lw:(ws.map V.int).length=ws.length:=aL4 _
 refine⟨_,rfl,a,_,_,_,rfl,rfl,aO.of ha,rfl,p,rfl,⟨_,aO.of hp⟩,ae3 (ae2 (aO.of hp)) (fun i acc H'=>∃ bs:List Addr,acc=bs.map V.ref/\bs.length=i/\bs.Nodup/\∀ b ∈ bs,H b=none/\H' b=some (.lst [])) (by rw [lw]; exact aU5 (xH hn))
  (fun D hD=>⟨[],rfl,rfl,List.nodup_nil,fun _ z=>nomatch z⟩) (fun i x acc D H' hx c hPv=>?_) (fun D acc H' hD sm hDa hlen hPv=>?_)⟩
 ·obtain ⟨bs,rfl,hbl,nd,hb⟩:=hPv
  refine⟨wk0 (n:=none),af4 ⟨aO1 _,fun r hr'=>?_⟩⟩
  have hrD:r ≠ D:=fun z=>by rw [z,c.acc] at hr'; cases hr'
  have hrH:H r=none:=c.same.free hr'
  refine c.yes (bH hr' _) ⟨bs ++ [r],by simp,by simp [hbl],?_,fun b hm=>?_⟩
  ·refine List.nodup_append.mpr ⟨nd,aR3 _ _,fun b hb1 b' hb2 e=>?_⟩
   rw [aK7.mp hb2] at e
   rw [e] at hb1
   rw [(hb r hb1).2] at hr'; cases hr'
  ·rcases aM6.mp hm with hm | hm
   ·have hbD:b ≠ D:=fun z=>by
     rw [z] at hm
     have:=(hb D hm).2
     rw [c.acc] at this
     have:bs.map V.ref = []:=by injection this with e1; injection e1
     have:bs = []:=List.map_eq_nil_iff.mp this
     rw [this] at hm; simp at hm
    refine⟨(hb b hm).1,?_⟩
    rw [aU hbD,aU (g7 (hb b hm).2 hr')]
    exact (hb b hm).2
   ·rw [aK7.mp hm]
    exact⟨hrH,by rw [aU hrD,bK]⟩
 ·obtain ⟨bs,rfl,hbl,nd,hb⟩:=hPv
  rw [lw] at hbl
  have R0:gI H H' D bs (fun k=>aG (ls.take 0) k):=by
   refine⟨hD,fun b hm=>⟨(hb b hm).1,fun z=>?_⟩,nd,hDa,fun k b hk=>(hb b (aP3 hk)).2,sm⟩
   rw [z] at hm
   have:=(hb D hm).2
   rw [hDa] at this
   have:bs.map V.ref = []:=by injection this with e1; injection e1
   have:bs = []:=List.map_eq_nil_iff.mp this
   rw [this] at hm; simp at hm
  have lL:=hL.length
  refine⟨_,rfl,a,_,_,_,rfl,rfl,aO.of (sm _ _ ha),rfl,q',rfl,⟨_,aO.of (sm _ _ hq)⟩,T9 (K:=K) (a:=q') (xs:=ys) (fun i σ H2=>∃ x y:Option V,σ = [some (.ref a),some (.ref D),x,y]/\gI H H2 D bs (fun k=>aG (ls.take i) k))
   ⟨none,none,rfl,R0⟩ (fun i σ H2 _ ⟨_,_,_,R⟩=>aO.of (R.same _ _ hq)) ?_ ?_⟩
  ·rintro i y σ H2 hi ⟨x1,x2,rfl,R⟩
   obtain ⟨l,b,hl,rfl,hbt⟩:=hL.get hi
   have hlm:l ∈ ls:=aP3 hl
   obtain ⟨⟨h1,h2⟩,h3,h4⟩:=hin l hlm
   have k1:l.1.toNat < bs.length:=by omega
   have k2:l.2.toNat < bs.length:=by omega
   have e1:bs[l.1.toNat]? = some (bs[l.1.toNat]):=aK2 k1
   have e2:bs[l.2.toNat]? = some (bs[l.2.toNat]):=aK2 k2
   refine⟨b,_,rfl,aO.of (R.same _ _ hbt),rfl,_,_,rfl,_,_,rfl,rfl,?_⟩
   refine⟨_,rfl,_,rfl,D,_,_,.ref bs[l.1.toNat],rfl,rfl,aR.of R.row,nD h1 (by rw [aL9,e1]; rfl),lP (aR.of (R.rows _ _ e1)),_,rfl,_,_,_,rfl,rfl,R.rows _ _ e1,?_,?_⟩
   ·rw [aL4]
    have:=xT (ls.take i) (l.1.toNat:Nat)
    rw [aR1] at this
    exact gJ (by omega)
   ·have R1:=R.app e1 l.2
    refine⟨_,rfl,_,rfl,D,_,_,.ref bs[l.2.toNat],rfl,rfl,aR.of R1.row,nD h3 (by rw [aL9,e2]; rfl),lP (aR.of (R1.rows _ _ e2)),_,rfl,_,_,_,rfl,rfl,R1.rows _ _ e2,?_,?_⟩
    ·rw [aL4]
     have:=xT (ls.take i) (l.2.toNat:Nat)
     rw [aR1] at this
     split
     ·rw [aL1,aN2]; exact gJ (by omega)
     ·exact gJ (by omega)
    ·have R2:=R1.app e2 l.1
     refine⟨_,_,rfl,R2.congr fun k hk=>?_⟩
     rw [af3 hl]
     have c1:(k=l.1.toNat) ↔ l.1=(k:Int):=by omega
     have c2:(k=l.2.toNat) ↔ l.2=(k:Int):=by omega
     by_cases d1:k=l.1.toNat
     ·by_cases d2:k=l.2.toNat
      ·rw [if_pos d2,if_pos d1,if_pos (c1.mp d1),if_pos (c2.mp d2)]; simp
      ·rw [if_neg d2,if_pos d1,if_pos (c1.mp d1),if_neg (fun z=>d2 (c2.mpr z))]; simp
     ·by_cases d2:k=l.2.toNat
      ·rw [if_pos d2,if_neg d1,if_neg (fun z=>d1 (c1.mpr z)),if_pos (c2.mp d2)]; simp
      ·rw [if_neg d2,if_neg d1,if_neg (fun z=>d1 (c1.mpr z)),if_neg (fun z=>d2 (c2.mpr z))]; simp
  ·
   rintro σ H2 ⟨x1,x2,rfl,R⟩
   refine⟨_,rfl,q D bs H2 hbl ?_⟩
   rw [lL,aW8] at R
   exact R
theorem aH4:FnScope ["web"] ["web"] (aS (b6 5)):=.au
theorem aH5 (B:Bt mg) (F:FM K mg "hearths_in" 5 f fd)  : Df P w K mg base 1 "hearths_in" ["web"] kN:=
 Df.au F aH4 (fun cdv A outer s H E hr=>by
  exact⟨(C2),(aT (cK (eQ B (aD (bY (qv 0) aH) aL)))),at6⟩)
theorem aH6:FnScope ["way"] ["way"] (aS (b6 10)):=.au
theorem aH7 (B:Bt mg) (F:FM K mg "colour_behind" 10 f fd)  : Df P w K mg base 1 "colour_behind" ["way"] jP:=
 Df.au F aH6 (fun cdv A outer s H E hr=>by
  exact⟨(L8),(aT (cK (dB (j8 (eQ B (aD (qv 0) aL)) aH) aH))),aD0⟩)
theorem O2:FnScope ["way","other","shared"] ["way","other"] (aS (b6 13)):=.au
theorem aH8 (B:Bt mg) (F:FM K mg "closed_round" 13 f fd) (rv:mg "reversed" = none):Df P w K mg base 1 "closed_round" ["way","other"] pL:=
 Df.au F O2 (fun cdv A outer s H E hr=>by
  have nd:=O2.nd
  exact⟨(L7),(aP (bT (i:=2) nd aH)
   (aP (sS PassesOwn.never (jA (o4 (sP (qv 2) (sU B rfl (aD (eQ B (aD (qv 0) aL)) (aD (eQ B (aD (qv 1) aL)) aL)))) (o3 (eO (bY (qv 0) (qv 2)) (bY (qv 1) (qv 2))))))
    (aT (bT (i:=2) nd (iC (qv 2) aH))))
   (aT (cK (E8 (oC (qv 0) (oB (j8 (qv 2) aH)) oA) (aF6 B rv (aD (oC (qv 1) (oB (qv 2)) oA) aL))))))),aC9⟩)
theorem aH9:FnScope ["script","k"] ["script","k"] (aS (b6 19)):=.au
theorem aI0 (B:Bt mg) (F:FM K mg "_law_cell_at" 19 f fd)  : Df P w K mg base 1 "_law_cell_at" ["script","k"] mF:=
 Df.au F aH9 (fun cdv A outer s H E hr=>by
  exact⟨(C6),(aP (cU (sP (qv 1) (eQ B (aD (qv 0) aL))) (aT (cK (bY (qv 0) (qv 1)))) dC)
   (aT (cK aH))),au3⟩)
theorem aI1:FnScope ["found"] ["found"] (aS (b6 20)):=.au
theorem aI2 (B:Bt mg) (F:FM K mg "_law_whole" 20 f fd)  : Df P w K mg base 1 "_law_whole" ["found"] kQ:=
 Df.au F aI1 (fun cdv A outer s H E hr=>by
  exact⟨(C7 K),(aT (cK (sR (am7 B (qv 0)) (z4 (al7 (am8 B (qv 0))))))),au4 (p6 K).ii (p6 K).ib⟩)
theorem O3:FnScope ["cell","k","turn"] ["cell","k"] (aS (b6 21)):=.au
theorem aI3 (B:Bt mg) (F:FM K mg "_law_stir" 21 f fd)  : Df P w K mg base 1 "_law_stir" ["cell","k"] kT:=
 Df.au F O3 (fun cdv A outer s H E hr=>by
  have nd:=O3.nd
  exact⟨(G5),(aP (bT (i:=2) nd (dB (sO (iC (iC (dB (qv 0) aH) (sO (qv 1) (qv 1))) aH) aH) aH))
   (aT (cK (j9 (dB (sO (qv 2) (qv 2)) aH) aH)))),ay6⟩)
theorem aI4:FnScope ["cell"] ["cell"] (aS (b6 22)):=.au
theorem aI5 (B:Bt mg) (F:FM K mg "_law_many" 22 f fd)  : Df P w K mg base 1 "_law_many" ["cell"] pB:=
 Df.au F aI4 (fun cdv A outer s H E hr=>by
  exact⟨(G7),(aP (cU (eO (dB (j9 (qv 0) aH) aH) aH) (aT (cK (dB (j9 (qv 0) aH) aH))) dC)
   (aT (cK (dB (qv 0) aH)))),az0⟩)
theorem O4:FnScope ["links","many","colours","first","waiting","hearth","pair","other"] ["links","many"] (aS (b6 24)):=.au
theorem aI6 (B:Bt mg) (F:FM K mg "_law_colours" 24 f fd)  : Df P w K mg base 1 "_law_colours" ["links","many"] pO:=
 Df.au F O4 (fun cdv A outer s H E hr=>by
  have nd:=O4.nd
  exact⟨(N3),(aP (m3 (i:=2) nd (aw3 (kD (aD (sV aH) aL)) (qv 1)))
   (aP (iF 3 nd (kF rfl B.range (qv 1))
    (aT (cU (eO (bY (qv 2) (qv 3)) (sV aH)) (aP (zJ (i:=2) (qv 3) aH)
     (aP (m3 (i:=4) nd (kD (aD (qv 3) aL)))
     (aT (sS PassesOwn.never (nY (eQ B (aD (qv 4) aL)) aH)
      (aP (G8 nd 4 5)
      (aT (iF 6 nd (jB (qv 0))
       (aP (bT (i:=7) nd (j8 (iC (bY (qv 6) aH) (bY (qv 6) aH)) (qv 5)))
       (aT (cU (jA (o4 (am4 (qv 5) (qv 6)) (o3 (eO (bY (qv 2) (qv 7)) (sV aH))))) (aP (zJ (i:=2) (qv 7) (j8 aH (bY (qv 2) (qv 5))))
        (aT (sT 4 (qv 7)))) dC)))))))))) dC)))
   (aT (z6 2)))),aG7⟩)
theorem O5:FnScope ["web","around","ways","root","waiting","hearth","other"] ["web"] (aS (b6 9)):=.au
theorem aI7 (B:Bt mg) (F:FM K mg "ways_out" 9 f fd) (d_near_lists:Df P w K mg base 1 "near_lists" ["web"] tM) (d_hearths_in:Df P w K mg base 1 "hearths_in" ["web"] kN):Df P w K mg base 2 "ways_out" ["web"] kY:=
 Df.au F O5 (fun cdv A outer s H E hr=>by
  have nd:=O5.nd
  have hu:=mZ hr
  exact⟨(L4),(aP (bT (i:=1) nd (cC d_near_lists hr (aD (qv 0) aL)))
   (aP (m3 (i:=2) nd al8)
   (aP (iF 3 nd (kF rfl B.range (cC d_hearths_in hr (aD (qv 0) aL)))
    (aP (m3 (i:=4) nd (kD aL))
    (aP (cU (yZ hu (qv 3) (qv 2)) (aP (z7 hu (i:=2) (qv 3) (kC (aD (qv 3) aL)))
     (aT (sT 4 (qv 3)))) dC)
    (aT (sS PassesOwn.never (al6 (qv 4))
     (aP (G8 nd 4 5)
     (aT (iF 6 nd (jB (bY (qv 1) (qv 5)))
      (aT (cU (yZ hu (qv 6) (qv 2)) (aP (z7 hu (i:=2) (qv 6) (E8 (kE hu (qv 2) (qv 5)) (kC (aD (qv 6) aL))))
       (aT (sT 4 (qv 6)))) dC))))))))))
   (aT (z6 2))))),aC7⟩)
theorem O6:FnScope ["flow","many","links","cell","one","other","turn","pair"] ["flow","many"] (aS (b6 23)):=.au
theorem aI8 (B:Bt mg) (F:FM K mg "_law_links" 23 f fd) (d__law_stir:Df P w K mg base 1 "_law_stir" ["cell","k"] kT):Df P w K mg base 2 "_law_links" ["flow","many"] pF:=
 Df.au F O6 (fun cdv A outer s H E hr=>by
  have nd:=O6.nd
  have hu:=mZ hr
  exact⟨(K2),(aP (m3 (i:=2) nd al9)
   (aP (cU (jA (o4 (nY (eQ B (aD (qv 0) aL)) aH) (o3 (eO (dB (bY (qv 0) aH) aH) aH)))) (aP (bT (i:=3) nd (j9 (bY (qv 0) aH) aH))
    (aP (iF 4 nd (kF rfl B.range (qv 1))
     (aT (iF 5 nd (am2 rfl B.range (iC (qv 4) aH) (qv 1))
      (aP (cU (eO (dB (qv 3) aH) aH) (aT (z8 hu (i:=2) (kC (aD (qv 4) (aD (qv 5) aL))) fX)) dC)
      (aT (bT (i:=3) nd (j9 (qv 3) aH)))))))
    (aT (bT (i:=0) nd (oC (qv 0) (oB aH) oA))))) dC)
   (aP (iF 3 nd (jB (qv 0))
    (aT (cU (nY (qv 1) aH) (aP (bT (i:=6) nd (cC d__law_stir hr (aD (qv 3) (aD aH aL))))
     (aP (bT (i:=4) nd (dB (qv 6) (qv 1)))
     (aP (bT (i:=5) nd (dB (iC (iC (qv 4) aH) (dB (j9 (qv 6) aH) (j8 (qv 1) aH))) (qv 1)))
     (aP (bT (i:=7) nd (kC (aD (sU B rfl (aD (qv 4) (aD (qv 5) aL))) (aD (zC B rfl (aD (qv 4) (aD (qv 5) aL))) aL))))
     (aT (cU (jA (o4 (al5 hu (qv 7) (qv 2)) (o3 (eO (dB (j9 (qv 6) aH) aH) aH)))) (aT (ay5 2 hu (qv 7))) (aT (z8 hu (i:=2) (qv 7) fX)))))))) dC)))
   (aT (cK (ay9 B (aD (au6 B rfl (aD (qv 2) aL)) aL))))))),aA9⟩)
theorem O7:FnScope ["found","links","k","pair"] ["found","links"] (aS (b6 25)):=.au
theorem aI9 (B:Bt mg) (F:FM K mg "_law_round_good" 25 f fd) (d__law_whole:Df P w K mg base 1 "_law_whole" ["found"] kQ) (bs:mg "set" = none):Df P w K mg base 2 "_law_round_good" ["found","links"] pQ:=
 Df.au F O7 (fun cdv A outer s H E hr=>by
  have nd:=O7.nd
  have hu3:=uS hr
  exact⟨(N4 K),(aP (cU (jA (lZ (o7 (nZ (am9 B (qv 0)))) (lZ (sP (eQ B (aD (qv 0) aL)) aH) (lZ (eO (dB (eQ B (aD (qv 0) aL)) aH) aH) (sQ (al4 (ay7 B bs rfl (aD (qv 0) aL)) (eQ B (aD (qv 0) aL)))))))) (aT (cK fX)) dC)
   (aP (iF 2 nd (kF rfl B.range (eQ B (aD (qv 0) aL)))
    (aP (bT (i:=3) nd (kC (aD (sU B rfl (aD (bY (qv 0) (j8 (qv 2) aH)) (aD (bY (qv 0) (qv 2)) aL))) (aD (zC B rfl (aD (bY (qv 0) (j8 (qv 2) aH)) (aD (bY (qv 0) (qv 2)) aL))) aL))))
    (aT (cU (jA (lZ (o7 (nZ (cC d__law_whole hr (aD (bY (qv 0) (qv 2)) aL)))) (sQ (aA6 hu3 (qv 3) (qv 1))))) (aT (cK fX)) dC))))
   (aT (cK fX)))),aG9 (p6 K).tt⟩)
theorem O8:FnScope ["web","ways","one","other"] ["web"] (aS (b6 12)):=.au
theorem aJ0 (B:Bt mg) (F:FM K mg "odd_round" 12 f fd) (d_ways_out:Df P w K mg base 2 "ways_out" ["web"] kY) (d_colour_behind:Df P w K mg base 1 "colour_behind" ["way"] jP) (d_closed_round:Df P w K mg base 1 "closed_round" ["way","other"] pL):Df P w K mg base 3 "odd_round" ["web"] kZ:=
 Df.au F O8 (fun cdv A outer s H E hr=>by
  have nd:=O8.nd
  have hu:=mZ hr
  exact⟨(M8),(aP (bT (i:=1) nd (cC d_ways_out hr (aD (qv 0) aL)))
   (aP (an5 2 3 nd (jB (bY (qv 0) aH))
    (aT (cU (eO (cC d_colour_behind hr (aD (kE hu (qv 1) (qv 2)) aL)) (cC d_colour_behind hr (aD (kE hu (qv 1) (qv 3)) aL))) (aT (cK (cC d_closed_round hr (aD (kE hu (qv 1) (qv 2)) (aD (kE hu (qv 1) (qv 3)) aL))))) dC)))
   (aT (cK sN)))),aF9⟩)
theorem O9:FnScope ["web","ways"] ["web"] (aS (b6 11)):=.au
theorem aJ1 (B:Bt mg) (F:FM K mg "colours_of" 11 f fd) (d_odd_round:Df P w K mg base 3 "odd_round" ["web"] kZ) (d_ways_out:Df P w K mg base 2 "ways_out" ["web"] kY) (d_colour_behind:Df P w K mg base 1 "colour_behind" ["way"] jP) (d_hearths_in:Df P w K mg base 1 "hearths_in" ["web"] kN) (x_OddRound:Xc K mg base "OddRound"):dL P w K mg base 4 "colours_of" ["web"] gY:=
 dL.au F O9 M9 aG0 (fun cdv A outer s H E Ep hr hX=>by
  have nd:=O9.nd
  have hu:=mZ hr
  exact (aP (cU (yY (cC d_odd_round hr (aD (qv 0) aL)) sN) (aT (ax4 hX x_OddRound (aD al2 aL))) dC)
   (aP (bT (i:=1) nd (cC d_ways_out hr (aD (qv 0) aL)))
   (aT (cK (zH (N:=["hearth","ways"]) (fr:=[none,some 1]) (kF rfl B.range (cC d_hearths_in hr (aD (qv 0) aL))) (fun _ _ _ _=>(cC d_colour_behind hr (aD (kE hu (qv 1) (qv 0)) aL)))))))))
theorem P0:FnScope ["web","colours","around","firsts","partners","hearth","reached","seeds","links"] ["web"] (aS (b6 14)):=.au
theorem aJ2 (B:Bt mg) (F:FM K mg "cover_of" 14 f fd) (d_colours_of:dL P w K mg base 4 "colours_of" ["web"] gY):dL P w K mg base 5 "cover_of" ["web"] pN:=
 dL.au F P0 N0 aG1 (fun cdv A outer s H E Ep hr hX=>by
  have nd:=P0.nd
  exact (aP (bT (i:=1) nd (ax2 hX d_colours_of hr (aD (qv 0) aL)))
   (aP iE
   (aP iE
   (aP iE
   (aP iE
   (aP iE
   (aP iE
   (aP iE
   (aT iE))))))))))
theorem P1:FnScope ["web","way","signs","e"] ["web","way"] (aS (b6 26)):=.au
theorem aJ3 (B:Bt mg) (F:FM K mg "_law_refused" 26 f fd) (d_colours_of:dL P w K mg base 4 "colours_of" ["web"] gY) (d_cover_of:dL P w K mg base 5 "cover_of" ["web"] pN) (cat_HearthError:tX K mg "HearthError") (is_NotWood:mH K mg "NotWood") (is_OddRound:mH K mg "OddRound") (is_ValueError:tZ K mg):Df P w K mg base 6 "_law_refused" ["web","way"] mM:=
 Df.au F P1 (fun cdv A outer s H E hr=>by
  have nd:=P1.nd
  have hu3:=uS hr
  exact⟨(N1),(aP (bT (i:=2) nd (kD aL))
   (aP (ax7 3 cat_HearthError nd (ax5 (fun _=>(eO (qv 1) aH)) (F5 d_colours_of hr (fun _=>(aD (qv 0) aL))) (F5 d_cover_of hr (fun _=>(aD (qv 0) aL)))) (fun _=>(aT (bT (i:=2) nd (kD (aD (F8 B is_OddRound (qv 3)) (aD (ay1 B is_ValueError (qv 3)) (aD (F8 B is_NotWood (qv 3)) aL))))))))
   (aT (cK (an4 hu3 (qv 2) (kD (aD fX (aD fX (aD fX aL))))))))),aG2⟩)
theorem P2:FnScope ["script","many","cell","links","web","due","found","told"] ["script"] (aS (b6 27)):=.au
theorem aJ4 (B:Bt mg) (F:e9 K "law" "law" (b6 27) f fd) (d__law_many:Df P w K mg base 1 "_law_many" ["cell"] pB) (d__law_cell_at:Df P w K mg base 1 "_law_cell_at" ["script","k"] mF) (d__law_links:Df P w K mg base 2 "_law_links" ["flow","many"] pF) (d__law_stir:Df P w K mg base 1 "_law_stir" ["cell","k"] kT) (d__law_colours:Df P w K mg base 1 "_law_colours" ["links","many"] pO) (d_odd_round:Df P w K mg base 3 "odd_round" ["web"] kZ) (d__law_round_good:Df P w K mg base 2 "_law_round_good" ["found","links"] pQ) (d__law_refused:Df P w K mg base 6 "_law_refused" ["web","way"] mM) (d_colours_of:dL P w K mg base 4 "colours_of" ["web"] gY) (d__law_whole:Df P w K mg base 1 "_law_whole" ["found"] kQ):cH P w K mg base dF 7 f fd ["script"] (lV K uR):=
 av7 F P2 (fun xs Q h=>by unfold uR at h; repeat (first | (obtain ⟨rfl,_⟩:=h; rfl) | (obtain ⟨_,h⟩:=h))) (fun cdv A outer s H E hr=>by
  have nd:=P2.nd
  have hu3:=uS hr
  exact⟨(N8 K),(aP (bT (i:=1) nd (cC d__law_many hr (aD (cC d__law_cell_at hr (aD (qv 0) (aD aH aL))) aL)))
   (aP (bT (i:=2) nd (cC d__law_cell_at hr (aD (qv 0) (aD aH aL))))
   (aP (bT (i:=3) nd (cC d__law_links hr (aD (oC (qv 0) (oB aH) oA) (aD (qv 1) aL))))
   (aP (cU (eO (dB (qv 2) aH) aH) (aT (an7 (i:=3) nd (N:=["pair"]) (fr:=[none]) (jB (qv 3)) (fun _ _ _ _=>(eO (dB (iC (bY (qv 0) aH) (bY (qv 0) aH)) aH) aH)) (fun _ _ _ _=>(qv 0)))) dC)
   (aP (bT (i:=4) nd (kC (aD (zB B (aD (zH (N:=["k","cell"]) (fr:=[none,some 2]) (kF rfl B.range (qv 1)) (fun _ _ _ _=>(dB (cC d__law_stir hr (aD (qv 1) (aD (qv 0) aL))) aH))) aL)) (aD (zB B (aD (qv 3) aL)) aL))))
   (aP (bT (i:=5) nd (cC d__law_colours hr (aD (qv 3) (aD (qv 1) aL))))
   (aP (bT (i:=6) nd (cC d_odd_round hr (aD (qv 4) aL)))
   (aP (cU (nY (eQ B (aD (zI (N:=["pair","due"]) (fr:=[none,some 5]) (jB (qv 3)) (fun _ _ _ _=>(eO (bY (qv 1) (bY (qv 0) aH)) (bY (qv 1) (bY (qv 0) aH)))) (fun _ _ _ _=>(qv 0))) aL)) aH) (aT (cK (sR (cC d__law_round_good hr (aD (qv 6) (aD (qv 3) aL))) (sR (cC d__law_refused hr (aD (qv 4) (aD aH aL))) (z4 (cC d__law_refused hr (aD (qv 4) (aD aH aL)))))))) dC)
   (aP (cU (yY (qv 6) sN) (aT (cK fX)) dC)
   (aP (am0 (F2 d_colours_of hr (aD (qv 4) aL)) aH)
   (aP (bT (i:=7) nd (F2 d_colours_of hr (aD (qv 4) aL)))
   (aP (cU (jA (lZ (o7 (nZ (an0 B (qv 7)))) (sQ (an3 hu3 (qv 7) (qv 5))))) (aT (cK fX)) dC)
   (aT (cK (al3 (eQ B (aD (zI (N:=["colour"]) (fr:=[none]) (jB (qv 7)) (fun _ _ _ _=>(o7 (nZ (cC d__law_whole hr (aD (qv 0) aL))))) (fun _ _ _ _=>(qv 0))) aL)) aH))))))))))))))),aH2 (p6 K).ll⟩)
end
set_option autoImplicit true in
theorem aJ5 {l:OpenLaw}{w:World}{K:Frag}{h:Heap}{mg:Str->Option Value} (X:K.In h) (G:h.Ns mainGlobals mg) (hfa:mg "law" = some (.ref fa))
  (h0:FK K "hearths_in" 5 f0 d0)
  (h1:FK K "near_lists" 6 f1 d1)
  (h2:FK K "colour_behind" 10 f2 d2)
  (h3:FK K "closed_round" 13 f3 d3)
  (h4:FK K "_law_cell_at" 19 f4 d4)
  (h5:FK K "_law_whole" 20 f5 d5)
  (h6:FK K "_law_stir" 21 f6 d6)
  (h7:FK K "_law_many" 22 f7 d7)
  (h8:FK K "_law_colours" 24 f8 d8)
  (h9:FK K "ways_out" 9 f9 d9)
  (h10:FK K "_law_links" 23 f10 d10)
  (h11:FK K "_law_round_good" 25 f11 d11)
  (h12:FK K "odd_round" 12 f12 d12)
  (h13:FK K "colours_of" 11 f13 d13)
  (h14:FK K "cover_of" 14 f14 d14)
  (h15:FK K "_law_refused" 26 f15 d15)
  (a16:nsIn K mainGlobals "law" = some (some (.ref f16))) (l16:K.lookup f16=some ⟨oc16,od16,.func (fnOf "law" "law" (gG (b6 27)) (dE (b6 27)) (aS (b6 27)) .none kV16 dc16 pm16 an16 cd16 ct16),sl16⟩) (c16:codeIn K cd16 "law" = true) (k16:keepIn K (.ref f16)=true)
  (z_len:nsIn K mainGlobals "len" = some none)
  (z_range:nsIn K mainGlobals "range" = some none)
  (z_tuple:nsIn K mainGlobals "tuple" = some none)
  (z_list:nsIn K mainGlobals "list" = some none)
  (z_sorted:nsIn K mainGlobals "sorted" = some none)
  (z_all:nsIn K mainGlobals "all" = some none)
  (z_any:nsIn K mainGlobals "any" = some none)
  (z_zip:nsIn K mainGlobals "zip" = some none)
  (z_min:nsIn K mainGlobals "min" = some none)
  (z_max:nsIn K mainGlobals "max" = some none)
  (z_sum:nsIn K mainGlobals "sum" = some none)
  (z_isinstance:nsIn K mainGlobals "isinstance" = some none)
  (z_int:nsIn K mainGlobals "int" = some none)
  (z_bool:nsIn K mainGlobals "bool" = some none)
  (z_enumerate:nsIn K mainGlobals "enumerate" = some none)
  (z_set:nsIn K mainGlobals "set" = some none)
  (z_reversed:nsIn K mainGlobals "reversed" = some none)
  {C_HearthError C_NotWood C_OddRound:Addr}
  (aX_HE:nsIn K mainGlobals "HearthError" = some (some (.ref C_HearthError)))
  (aX_NW:nsIn K mainGlobals "NotWood" = some (some (.ref C_NotWood)))
  (aX_OR:nsIn K mainGlobals "OddRound" = some (some (.ref C_OddRound)))
  (zX_BW:nsIn K mainGlobals "BadWeb" = some none)
  (zX_BS:nsIn K mainGlobals "BadSet" = some none)
  (zX_BO:nsIn K mainGlobals "BadOrder" = some none)
  (zX_BP:nsIn K mainGlobals "BadPrices" = some none)
  (zX_BB:nsIn K mainGlobals "BadBoard" = some none)
  (zX_BD:nsIn K mainGlobals "BadDeed" = some none)
  (zX_NP:nsIn K mainGlobals "NoPaper" = some none)
  (zX_NS:nsIn K mainGlobals "NoSuch" = some none)
  (zX_TM:nsIn K mainGlobals "TooMany" = some none)
  (zX_NT:nsIn K mainGlobals "NoText" = some none)
  (y_fg:specialIn K (.builtin "object.__class__") "__get__" = some (some (.builtin "getset_descriptor.__get__")))
  (y_ft:takesIn K (.builtin "object.__class__")=some true)
  (z_VE:nsIn K mainGlobals "ValueError" = some none)
  (y1_HE:isClsIn K C_HearthError=true)
  (y2_HE:typeIn K (.ref C_HearthError)=some (.type "type"))
  (y3_HE:findIn K (.ref C_HearthError) "__getattribute__" = some (some (.builtin "BaseException.__getattribute__")))
  (y4_HE:findIn K (.ref C_HearthError) "__getattr__" = some none)
  (y5_HE:findIn K (.ref C_HearthError) "__class__" = some (some (.builtin "object.__class__")))
  (y6_HE:mroIn K C_HearthError (.type "object")=some true)
  (y7_HE:mroIn K C_HearthError (.type "BaseException")=some true)
  (y1_NW:isClsIn K C_NotWood=true)
  (y2_NW:typeIn K (.ref C_NotWood)=some (.type "type"))
  (y3_NW:findIn K (.ref C_NotWood) "__getattribute__" = some (some (.builtin "BaseException.__getattribute__")))
  (y4_NW:findIn K (.ref C_NotWood) "__getattr__" = some none)
  (y5_NW:findIn K (.ref C_NotWood) "__class__" = some (some (.builtin "object.__class__")))
  (y6_NW:mroIn K C_NotWood (.type "object")=some true)
  (y7_NW:mroIn K C_NotWood (.type "BaseException")=some true)
  (y1_OR:isClsIn K C_OddRound=true)
  (y2_OR:typeIn K (.ref C_OddRound)=some (.type "type"))
  (y3_OR:findIn K (.ref C_OddRound) "__getattribute__" = some (some (.builtin "BaseException.__getattribute__")))
  (y4_OR:findIn K (.ref C_OddRound) "__getattr__" = some none)
  (y5_OR:findIn K (.ref C_OddRound) "__class__" = some (some (.builtin "object.__class__")))
  (y6_OR:mroIn K C_OddRound (.type "object")=some true)
  (y7_OR:mroIn K C_OddRound (.type "BaseException")=some true)
  (sB_HE:subIn K (.ref C_HearthError) (.type "BaseException")=some true)
  (s_NW_HE:subIn K (.ref C_NotWood) (.ref C_HearthError)=some true)
  (s_OR_HE:subIn K (.ref C_OddRound) (.ref C_HearthError)=some true)
  (sN_NW:subIn K (.type "NoneType") (.ref C_NotWood)=some false)
  (s_OR_NW:subIn K (.ref C_OddRound) (.ref C_NotWood)=some false)
  (n_OR_NW:(C_OddRound == C_NotWood)=false)
  (sN_OR:subIn K (.type "NoneType") (.ref C_OddRound)=some false)
  (s_NW_OR:subIn K (.ref C_NotWood) (.ref C_OddRound)=some false)
  (n_NW_OR:(C_NotWood == C_OddRound)=false)
  (sV_NW:subIn K (.ref C_NotWood) (.type "ValueError")=some true)
  (sV_OR:subIn K (.ref C_OddRound) (.type "ValueError")=some true)
  (q_OR:excIn K C_OddRound [.type "ValueError",.type "Exception",.type "BaseException",.type "object"] "ValueError.__new__" = true)
  : ∃ fd:FuncData,(∀ (s:Shared) (v:Value),BindsTo s fd ⟨[v],[]⟩ [("script",v)])/\∀ base:Heap,K.In base->base.Ns mainGlobals mg->cH l.prog w K mg base dF 7 fa fd ["script"] (p7 K):=by
 have e:=hfa.symm.trans (mg_of X G a16)
 cases e
 have F16:=ad2 (st:=b6 27) l16 c16 k16
 have m16:=mg_of X G a16
 have B:Bt mg:=⟨mg_none_of X G z_len,mg_none_of X G z_range,mg_none_of X G z_tuple,mg_none_of X G z_list,mg_none_of X G z_sorted,mg_none_of X G z_all,mg_none_of X G z_any,mg_none_of X G z_zip,mg_none_of X G z_min,mg_none_of X G z_max,mg_none_of X G z_sum,mg_none_of X G z_isinstance,mg_none_of X G z_int,mg_none_of X G z_bool,mg_none_of X G z_enumerate⟩
 have bs:=mg_none_of X G z_set
 have rv:=mg_none_of X G z_reversed
 refine⟨fnOf "law" "law" (gG (b6 27)) (dE (b6 27)) (aS (b6 27)) .none kV16 dc16 pm16 an16 cd16 ct16,fun s v=>.of_eq rfl,fun base KB _=>?_⟩
 have XK_HearthError:jN K C_HearthError:=⟨y1_HE,y2_HE,y3_HE,y4_HE,y5_HE,y_fg,y_ft,y6_HE,y7_HE⟩
 have XK_NotWood:jN K C_NotWood:=⟨y1_NW,y2_NW,y3_NW,y4_NW,y5_NW,y_fg,y_ft,y6_NW,y7_NW⟩
 have XK_OddRound:jN K C_OddRound:=⟨y1_OR,y2_OR,y3_OR,y4_OR,y5_OR,y_fg,y_ft,y6_OR,y7_OR⟩
 have cat_HearthError:tX K mg "HearthError":=⟨C_HearthError,mg_of X G aX_HE,⟨y1_HE,y2_HE,sB_HE⟩,fun n C h2 h1=>by
  obtain ⟨hm,hb⟩:=p9 h2
  simp only [kR,aM4,aT9,or_false] at hm
  rcases hm with rfl | rfl | rfl | rfl | rfl | rfl | rfl | rfl | rfl | rfl | rfl | rfl
  ·rw [zX_BW] at h1; cases h1
  ·rw [zX_BS] at h1; cases h1
  ·rw [zX_BO] at h1; cases h1
  ·rw [zX_BP] at h1; cases h1
  ·rw [zX_BB] at h1; cases h1
  ·rw [zX_BD] at h1; cases h1
  ·rw [aX_NW] at h1; cases h1; exact s_NW_HE
  ·rw [zX_NP] at h1; cases h1
  ·rw [zX_NS] at h1; cases h1
  ·rw [zX_TM] at h1; cases h1
  ·rw [zX_NT] at h1; cases h1
  ·rw [aX_OR] at h1; cases h1; exact s_OR_HE⟩
 have is_NotWood:mH K mg "NotWood":=⟨C_NotWood,mg_of X G aX_NW,fun z=>(by cases z),(fun n C b h1 h2=>by
  obtain ⟨hm,hb⟩:=p9 h2
  simp only [kR,aM4,aT9,or_false] at hm
  rcases hm with rfl | rfl | rfl | rfl | rfl | rfl | rfl | rfl | rfl | rfl | rfl | rfl
  ·rw [zX_BW] at h1; cases h1
  ·rw [zX_BS] at h1; cases h1
  ·rw [zX_BO] at h1; cases h1
  ·rw [zX_BP] at h1; cases h1
  ·rw [zX_BB] at h1; cases h1
  ·rw [zX_BD] at h1; cases h1
  ·rw [aX_NW] at h1; cases h1; rw [hb,show (("NotWood" : Str) == "NotWood" || ("NotWood" : Str) == "HearthError" || ("NotWood" : Str) == "ValueError")=true by decide]; exact⟨XK_NotWood.exc,G0⟩
  ·rw [zX_NP] at h1; cases h1
  ·rw [zX_NS] at h1; cases h1
  ·rw [zX_TM] at h1; cases h1
  ·rw [zX_NT] at h1; cases h1
  ·rw [aX_OR] at h1; cases h1; rw [hb,show (("OddRound" : Str) == "NotWood" || ("NotWood" : Str) == "HearthError" || ("NotWood" : Str) == "ValueError")=false by decide]; exact⟨XK_OddRound.exc,F9 XK_NotWood n_OR_NW s_OR_NW⟩),G2 XK_NotWood sN_NW⟩
 have is_OddRound:mH K mg "OddRound":=⟨C_OddRound,mg_of X G aX_OR,fun z=>(by cases z),(fun n C b h1 h2=>by
  obtain ⟨hm,hb⟩:=p9 h2
  simp only [kR,aM4,aT9,or_false] at hm
  rcases hm with rfl | rfl | rfl | rfl | rfl | rfl | rfl | rfl | rfl | rfl | rfl | rfl
  ·rw [zX_BW] at h1; cases h1
  ·rw [zX_BS] at h1; cases h1
  ·rw [zX_BO] at h1; cases h1
  ·rw [zX_BP] at h1; cases h1
  ·rw [zX_BB] at h1; cases h1
  ·rw [zX_BD] at h1; cases h1
  ·rw [aX_NW] at h1; cases h1; rw [hb,show (("NotWood" : Str) == "OddRound" || ("OddRound" : Str) == "HearthError" || ("OddRound" : Str) == "ValueError")=false by decide]; exact⟨XK_NotWood.exc,F9 XK_OddRound n_NW_OR s_NW_OR⟩
  ·rw [zX_NP] at h1; cases h1
  ·rw [zX_NS] at h1; cases h1
  ·rw [zX_TM] at h1; cases h1
  ·rw [zX_NT] at h1; cases h1
  ·rw [aX_OR] at h1; cases h1; rw [hb,show (("OddRound" : Str) == "OddRound" || ("OddRound" : Str) == "HearthError" || ("OddRound" : Str) == "ValueError")=true by decide]; exact⟨XK_OddRound.exc,G0⟩),G2 XK_OddRound sN_OR⟩
 have is_ValueError:tZ K mg:=⟨mg_none_of X G z_VE,fun z=>(by cases z),(fun n C b h1 h2=>by
  obtain ⟨hm,hb⟩:=p9 h2
  simp only [kR,aM4,aT9,or_false] at hm
  rcases hm with rfl | rfl | rfl | rfl | rfl | rfl | rfl | rfl | rfl | rfl | rfl | rfl
  ·rw [zX_BW] at h1; cases h1
  ·rw [zX_BS] at h1; cases h1
  ·rw [zX_BO] at h1; cases h1
  ·rw [zX_BP] at h1; cases h1
  ·rw [zX_BB] at h1; cases h1
  ·rw [zX_BD] at h1; cases h1
  ·rw [aX_NW] at h1; cases h1; rw [hb,show (("NotWood" : Str) == "ValueError" || ("ValueError" : Str) == "HearthError" || ("ValueError" : Str) == "ValueError")=true by decide]; exact⟨XK_NotWood.exc,G1 sV_NW⟩
  ·rw [zX_NP] at h1; cases h1
  ·rw [zX_NS] at h1; cases h1
  ·rw [zX_TM] at h1; cases h1
  ·rw [zX_NT] at h1; cases h1
  ·rw [aX_OR] at h1; cases h1; rw [hb,show (("OddRound" : Str) == "ValueError" || ("ValueError" : Str) == "HearthError" || ("ValueError" : Str) == "ValueError")=true by decide]; exact⟨XK_OddRound.exc,G1 sV_OR⟩),ay3⟩
 have x_OddRound:Xc K mg base "OddRound":=⟨C_OddRound,_,_,_,_,ay2 KB (mg_of X G aX_OR) q_OR,PySem.F.excBase_ValueError,aX_OR⟩
 have D0:=aH5 (P:=l.prog) (w:=w) (base:=base) B (h0.M X G)
 have D1:=au9 (aH3 (P:=l.prog) (w:=w) (mg:=mg) (base:=base) h1.F) (h1.F.binds (ps:=["web"]) fun _ _ _ _ _ _ us hl=>by obtain ⟨_,rfl⟩:=pA hl; rfl) h1.F.kp (mg_of X G h1.a)
 have D2:=aH7 (P:=l.prog) (w:=w) (base:=base) B (h2.M X G)
 have D3:=aH8 (P:=l.prog) (w:=w) (base:=base) B (h3.M X G)  rv
 have D4:=aI0 (P:=l.prog) (w:=w) (base:=base) B (h4.M X G)
 have D5:=aI2 (P:=l.prog) (w:=w) (base:=base) B (h5.M X G)
 have D6:=aI3 (P:=l.prog) (w:=w) (base:=base) B (h6.M X G)
 have D7:=aI5 (P:=l.prog) (w:=w) (base:=base) B (h7.M X G)
 have D8:=aI6 (P:=l.prog) (w:=w) (base:=base) B (h8.M X G)
 have D9:=aI7 (P:=l.prog) (w:=w) (base:=base) B (h9.M X G) D1 D0
 have D10:=aI8 (P:=l.prog) (w:=w) (base:=base) B (h10.M X G) D6
 have D11:=aI9 (P:=l.prog) (w:=w) (base:=base) B (h11.M X G) D5 bs
 have D12:=aJ0 (P:=l.prog) (w:=w) (base:=base) B (h12.M X G) D9 D2 D3
 have D13:=aJ1 (P:=l.prog) (w:=w) (base:=base) B (h13.M X G) D12 D9 D2 D0 x_OddRound
 have D14:=aJ2 (P:=l.prog) (w:=w) (base:=base) B (h14.M X G) D13
 have D15:=aJ3 (P:=l.prog) (w:=w) (base:=base) B (h15.M X G) D13 D14 cat_HearthError is_NotWood is_OddRound is_ValueError
 exact av8 (aJ4 B F16 D7 D4 D10 D6 D8 D12 D11 D15 D13 D5)
theorem aJ6 {l:OpenLaw}{q:Program}{loose:List Str}{XP:(Str->Option Value)->Heap->Prop}{YP:World->Heap->Prop}{d:DefRec}{K:Params->Frag} (hn:l.most=some 63) (hdf:d.params.defaults = [])
  (hY:∀ (w:World) (h:Heap),YP w h->(K w.params).In h)
  (F:∀ (w:World) (mg:Str->Option Value) (fa:Addr) (h:Heap),(K w.params).In h->h.Ns mainGlobals mg->mg d.name=some (.ref fa)->
   ∃ fd:FuncData,(∀ (s:Shared) (u:Value),BindsTo s fd ⟨[u],[]⟩ [("script",u)])/\∀ base:Heap,(K w.params).In base->base.Ns mainGlobals mg->cH l.prog w (K w.params) mg base dF 7 fa fd ["script"] (p7 (K w.params))) :
  WalkO q loose XP YP l.row.toRowW d [] (fun f vs=>PySem.call f vs):=
 L2.ad0 (n:=63) (k:=7) (x:="script") (CX:=fun _=>dF) (sp:=fun w=>p7 (K w.params)) hn (by decide) hdf ⟨rfl,by decide,by decide⟩ hY F (fun _ _ a ns hl hO hS=>⟨a,ns,rfl,av9 hO hS,hl,fun _=>rfl⟩) fun _ _ _ _ _ z=>z
end K_k79
open PySem PySem.W PyProof.Rows
set_option maxRecDepth 100000 in
set_option maxHeartbeats 0 in
theorem PySem.Challenge.cw_kindleweb_k79_whole_colours_holds : PySem.Challenge.rw_kindleweb_k79_whole_colours.Holds := by
 w_on; o_law; k_head; (case hw => w_witness2)
 k_fill
 refine K_k79.aJ6 (l := PySem.Challenge.rw_kindleweb_k79_whole_colours) rfl rfl (fun w h Y => PySem.W.kIn_of Y) ?F
 case F =>
  intro w mg fa h KX G hmg
  refine' K_k79.aJ5 KX G hmg ?h0 ?h1 ?h2 ?h3 ?h4 ?h5 ?h6 ?h7 ?h8 ?h9 ?h10 ?h11 ?h12 ?h13 ?h14 ?h15 ?a16 ?l16 ?c16 ?k16 ?z_len ?z_range ?z_tuple ?z_list ?z_sorted ?z_all ?z_any ?z_zip ?z_min ?z_max ?z_sum ?z_isinstance ?z_int ?z_bool ?z_enumerate ?z_set ?z_reversed ?aX_HE ?aX_NW ?aX_OR ?zX_BW ?zX_BS ?zX_BO ?zX_BP ?zX_BB ?zX_BD ?zX_NP ?zX_NS ?zX_TM ?zX_NT ?y_fg ?y_ft ?z_VE ?y1_HE ?y2_HE ?y3_HE ?y4_HE ?y5_HE ?y6_HE ?y7_HE ?y1_NW ?y2_NW ?y3_NW ?y4_NW ?y5_NW ?y6_NW ?y7_NW ?y1_OR ?y2_OR ?y3_OR ?y4_OR ?y5_OR ?y6_OR ?y7_OR ?sB_HE ?s_NW_HE ?s_OR_HE ?sN_NW ?s_OR_NW ?n_OR_NW ?sN_OR ?s_NW_OR ?n_NW_OR ?sV_NW ?sV_OR ?q_OR
  (case h0 | h1 | h2 | h3 | h4 | h5 | h6 | h7 | h8 | h9 | h10 | h11 | h12 | h13 | h14 | h15 => exact ⟨by k_is, ⟨⟨_, _, _, _, _, _, _, _, _, rfl, by k_is, by k_is⟩, by k_is⟩⟩)
  (case a16|l16|c16|k16|z_len|z_range|z_tuple|z_list|z_sorted|z_all|z_any|z_zip|z_min|z_max|z_sum|z_isinstance|z_int|z_bool|z_enumerate|z_set|z_reversed|aX_HE|aX_NW|aX_OR|zX_BW|zX_BS|zX_BO|zX_BP|zX_BB|zX_BD|zX_NP|zX_NS|zX_TM|zX_NT|y_fg|y_ft|z_VE|y1_HE|y2_HE|y3_HE|y4_HE|y5_HE|y6_HE|y7_HE|y1_NW|y2_NW|y3_NW|y4_NW|y5_NW|y6_NW|y7_NW|y1_OR|y2_OR|y3_OR|y4_OR|y5_OR|y6_OR|y7_OR|sB_HE|s_NW_HE|s_OR_HE|sN_NW|s_OR_NW => k_is)
  (case n_OR_NW => decide)
  (case sN_OR|s_NW_OR => k_is)
  (case n_NW_OR => decide)
  (case sV_NW|sV_OR => k_is)
  (case q_OR => k_exc)


