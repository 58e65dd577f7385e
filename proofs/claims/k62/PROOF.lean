import PyProof.Rows.All
import Wide.All
import OpenK.AllK
import Wide.FinOn
import Lean
import PyProof.EqAt
import PyProof.EqKinds
import PyProof.TupleCall
import PyProof.NeKinds
import PyProof.Draws
import PyProof.ZipIter
import PyProof.DictUpdate
import PyProof.AutoSeq1
import PyProof.ListRange
import PyProof.ListMulRoad
import PyProof.FactsAll.tuple_2
import PyProof.Rows.SortShell
import PyProof.EnumFor
import PyProof.EnumMake
import PyProof.EnumStmt
import PyProof.Rows.SortWalk
import KE.KDictList
import PyProof.SumAny
import PyProof.ConsumeWalk
import PyProof.WalksMore
import PyProof.Rows.TupAssign
import PyProof.ExcArgsOwn
import PySem.Challenge.RW_kindleweb_k62_grown_boxes
set_option Elab.async false
set_option linter.all false
set_option maxRecDepth 100000
set_option maxHeartbeats 4000000
section
open PySem PySem.Spec PyProof.Rows
def aQ7:=@wpAny_bind
def aQ9:=@Heap.get?_push_of_some
def aR0:=@List.getElem?_eq_getElem
def aR1:=@List.size_toArray
def aR2:=@decide_eq_false
def aR3:=@wpAny_pure
def aR4:=@Int.le_refl
def aR5:=@List.mem_cons
def aR6:=@decide_eq_true
def aR7:=@List.mem_cons_of_mem
def aR8:=@Nat.le_refl
def aR9:=@wpS_bind
def aS0:=@List.length_map
def aS1:=@List.mem_singleton
def aS2:=@List.getElem?_eq_some_iff
def aS3:=@List.mem_cons_self
def aS4:=@Heap.lt_size
def aS5:=@Heap.get?_push_size
def aS6:=@List.not_mem_nil
def aS7:=@wpS_pure
def aS8:=@List.getElem?_map
def aS9:=@List.append_assoc
def aT0:=@Nat.lt_of_lt_of_le
def aT1:=@List.getD_eq_getElem?_getD
def aT3:=@Bool.false_ne_true
def aT4:=@decide_eq_true_eq
def aT5:=@Option.some.inj
def aT6:=@Bool.false_eq_true
def aT7:=@List.map_append
def aT8:=@List.getElem?_set_ne
def aT9:=@List.pairwise_append
def aU0:=@List.mem_append_right
def aU1:=@List.length_append
def aU2:=@List.mem_map
def aU3:=@List.mem_append_left
def aU4:=@List.mem_append
def aU5:=@Nat.ne_of_lt
def aU8:=@Nat.le_trans
def aU9:=@List.take_append_drop
def aV1:=@Array.getElem_mem
def aV2:=@List.pairwise_singleton
def aV3:=@List.pairwise_iff_getElem
def aV4:=@wpAny_newObj_type
def aV5:=@List.length_cons
def aV6:=@or_false
def aV7:=@List.getElem?_cons_succ
def aV8:=@Nat.lt_or_ge
def aV9:=@Int.le_trans
def aW1:=@Array.length_toList
def aW2:=@PySem.mem_of_lookup
def aW3:=@List.map_cons
def aW5:=@List.take_add_one
def aW6:=@wpAny_field
def aW7:=@wpAny_callSpecial?_slot
def aW9:=@wpAny_call_entry
def aX0:=@List.lookup_cons
def aX1:=@List.map_map
def aX2:=@Around.under_plainId
def aX3:=@wpAny_setField_rec
def aX4:=@List.perm_append_comm
def aX5:=@List.getElem_of_mem
def aX6:=@Array.toList_append
def aX7:=@List.mem_filter
def aX8:=@List.append_nil
def aY1:=@Heap.size_push
def aY2:=@wpAny_seqItems
def aY3:=@if_false
def aY4:=@List.zip_cons_cons
def aY6:=@wpS_forRange
def aY7:=@List.take_of_length_le
def aY8:=@Bool.eq_iff_iff
def aY9:=@PySem.W.kia_one
def aZ0:=@Nat.lt_irrefl
def aZ1:=@wpAny_holding
def aZ2:=@Bool.and_eq_true
def aZ3:=@beq_self_eq_true
def aZ4:=@List.getElem_mem
def aZ5:=@List.take_length
def aZ6:=@Nat.zero_le
def aZ8:=@wpAny_mono
def ba0:=@List.length_singleton
def ba1:=@Array.getElem?_toList
def ba2:=@Heap.get?_update_self
def ba3:=@wpAny_truthy_bool
def ba4:=@List.Pairwise.nil
def ba5:=@List.pairwise_map
def ba6:=@decide_eq_false_iff_not
def ba8:=@List.mem_of_getElem?
def ba9:=@Bool.and_false
def bb1:=@wpAny_loadPart'
def bb2:=@List.getElem?_set_self
def bb3:=@Nat.ne_of_gt
def bb4:=@Nat.le_add_right
def bb5:=@PySem.F.plain_min_loop
def bb6:=@PySem.F.plain_max_loop
def bb8:=@Bool.false_and
def bb9:=@List.Perm.refl
def bc0:=@List.find?_cons
def bc1:=@List.length_set
def bc2:=@codeAny_builtin
def bc3:=@List.all_eq_true
def bc4:=@PyProof.Rows.callWith_type1
def bc5:=@plainId_quiet
def bc6:=@Nat.le_of_lt
def bc7:=@List.nodup_append
def bc9:=@Heap.SameBut.update
def bd0:=@wpAny_letGo
def bd1:=@PyProof.Rows.slot_tuple_getitem
def bd2:=@List.getElem?_append_left
def bd3:=@List.drop_eq_getElem_cons
def bd4:=@wpAny_pyIter_tuple
def bd7:=@List.getElem?_of_mem
def bd8:=@List.nodup_cons
def bd9:=@List.length_nil
def be1:=@wpAny_rule
def be2:=@Heap.get?_update_other
def be3:=@List.length_drop
def be5:=@List.getElem?_append_right
def be6:=@Prod.ext
def be7:=@of_decide_eq_false
def be8:=@Nat.eq_or_lt_of_le
def be9:=@wpAny_tryCatch
def bf1:=@List.Perm.append_left
def bf2:=@wpAny_passesOwn
def bf3:=@wpAny_updateSeq
def bf6:=@of_decide_eq_true
def bf7:=@wpS_mono
def bf8:=@List.mem_of_mem_take
def bg0:=@List.all_cons
def bg3:=@List.drop_take
def bg4:=@List.Perm.swap
def bg8:=@True.intro
end
namespace L2
open PySem PySem.Spec PyProof.Rows
abbrev aH:=Sum Int Str
def kY:aH->Value->Bool
 | .inl k,v=>Value.isInt k v
 | .inr x,v=>Value.isStrOf x v
def X8 (w:World):aH->Int
 | .inl k=>hashInt k
 | .inr x=>hashStr w x
theorem iI:∀ {k:aH}{v:Value},kY k v=true->(∃ i t,k=Sum.inl i/\v=Value.int i t) ∨ (∃ x t,k=Sum.inr x/\v=Value.str x t)
 | .inl i,v,h=>by
  obtain ⟨t,e⟩:=Value.isInt_shape (k:=i) (v:=v) h
  exact .inl ⟨i,t,rfl,e⟩
 | .inr x,v,h=>by
  obtain ⟨t,e⟩:=Value.isStrOf_shape (x:=x) (v:=v) h
  exact .inr ⟨x,t,rfl,e⟩
theorem X9 (i:Int) (t:Tok):kY (.inl i) (.int i t)=true:=by simp [kY,Value.isInt]
theorem Y0 (x:Str) (t:Tok):kY (.inr x) (.str x t)=true:=by simp [kY,Value.isStrOf]
theorem Y1 (a b:Int):decide ((Sum.inl a:aH)=Sum.inl b)=(a == b):=by
 by_cases e:a=b
 ·subst e; simp
 ·have h : ¬ (Sum.inl a:aH)=Sum.inl b:=fun q=>e (Sum.inl.inj q)
  rw [aR2 h]
  exact (beq_eq_false_iff_ne.mpr e).symm
theorem Y2 (a b:Str):decide ((Sum.inr a:aH)=Sum.inr b)=decide (a=b):=by
 by_cases e:a=b
 ·subst e; simp
 ·have h : ¬ (Sum.inr a:aH)=Sum.inr b:=fun q=>e (Sum.inr.inj q)
  rw [aR2 h,aR2 e]
theorem Y3 (a:Int) (b:Str):decide ((Sum.inl a:aH)=Sum.inr b)=false:=aR2 (fun q=>nomatch q)
theorem Y4 (a:Str) (b:Int):decide ((Sum.inr a:aH)=Sum.inl b)=false:=aR2 (fun q=>nomatch q)
def dW (prog:Program) (w:World):PySem.KeyKind prog w aH where
 is:=kY
 hash:=X8 w
 inj:=fun v a b ha hb=>by
  rcases iI ha with ⟨i,t,rfl,rfl⟩ | ⟨x,t,rfl,rfl⟩
  ·rcases iI hb with ⟨j,u,rfl,e⟩ | ⟨y,u,rfl,e⟩
   ·injection e with e1 _; rw [e1]
   ·exact nomatch e
  ·rcases iI hb with ⟨j,u,rfl,e⟩ | ⟨y,u,rfl,e⟩
   ·exact nomatch e
   ·injection e with e1 _; rw [e1]
 byValue:=fun k v h=>by
  rcases iI h with ⟨i,t,rfl,rfl⟩ | ⟨x,t,rfl,rfl⟩ <;> rfl
 pyHash:=fun hv h=>by
  rcases iI hv with ⟨i,t,rfl,rfl⟩ | ⟨x,t,rfl,rfl⟩
  ·exact wpAny_pyHash_int h
  ·exact wpAny_pyHash_str h
 eqBool:=fun hu hv h=>by
  rcases iI hu with ⟨i,t,rfl,rfl⟩ | ⟨x,t,rfl,rfl⟩
  ·rcases iI hv with ⟨j,u,rfl,rfl⟩ | ⟨y,u,rfl,rfl⟩
   ·rw [Y1] at h; exact wpAny_eqBool_int h
   ·rw [Y3] at h; exact SeqAt.EqAt.int_str i t y u _ _ _ _ h
  ·rcases iI hv with ⟨j,u,rfl,rfl⟩ | ⟨y,u,rfl,rfl⟩
   ·rw [Y4] at h; exact SeqAt.EqAt.str_int x t j u _ _ _ _ h
   ·rw [Y2] at h; exact wpAny_eqBool_str h
 «strs»:=fun k x t v h=>by
  rcases iI h with ⟨i,u,rfl,e⟩ | ⟨y,u,rfl,e⟩
  ·exact nomatch e
  ·injection e with e1 _
   subst e1
   cases v <;> rfl
theorem Y5 (prog:Program) (w:World) (i:Int) (t:Tok):(dW prog w).is (.inl i) (.int i t)=true:=X9 i t
theorem Y6 (prog:Program) (w:World) (x:Str) (t:Tok):(dW prog w).is (.inr x) (.str x t)=true:=Y0 x t
inductive V where
 | non | bl (b:Bool) | int (i:Int) | str (x:Str) | byt (b:Array UInt8) | flt (b:UInt64) | ref (a:Addr) | ty (n:String)
 deriving DecidableEq
def aQ:V->Value->Prop
 | .non,u=>u=Value.none
 | .bl b,u=>u=Value.bool b
 | .int i,u=>∃ t,u=Value.int i t
 | .str x,u=>∃ t,u=Value.str x t
 | .byt b,u=>∃ t,u=Value.bytes b t
 | .flt b,u=>∃ t,u=Value.float b t
 | .ref a,u=>u=Value.ref a
 | .ty n,u=>u=Value.type n
abbrev aJ:List V->List Value->Prop:=Paired aQ
theorem aJ.length {xs:List V}{us:List Value} (r:aJ xs us):xs.length=us.length:=Paired.length r
theorem aJ.get:∀ {xs:List V}{us:List Value}{i:Nat}{x:V},aJ xs us->xs[i]? = some x->∃ u,us[i]? = some u/\aQ x u
 | _,_,_,_,.nil,e=>by simp at e
 | _,_,0,_,.cons r _,e=>by simp at e; subst e; exact⟨_,rfl,r⟩
 | _,_,i+1,x,.cons _ t,e=>by
  obtain ⟨u,h1,h2⟩:=aJ.get (i:=i) (x:=x) t (by simpa using e)
  exact⟨u,by simpa using h1,h2⟩
theorem aJ.append:∀ {xs ys:List V}{us ws:List Value},aJ xs us->aJ ys ws->aJ (xs ++ ys) (us ++ ws)
 | _,_,_,_,.nil,s=>s
 | _,_,_,_,.cons r t,s=>.cons r (aJ.append t s)
theorem aJ.take:∀ {xs:List V}{us:List Value} (n:Nat),aJ xs us->aJ (xs.take n) (us.take n)
 | _,_,0,_=>.nil
 | _,_,_+1,.nil=>.nil
 | _,_,n+1,.cons r t=>.cons r (aJ.take n t)
theorem aJ.drop:∀ {xs:List V}{us:List Value} (n:Nat),aJ xs us->aJ (xs.drop n) (us.drop n)
 | _,_,0,r=>r
 | _,_,_+1,.nil=>.nil
 | _,_,n+1,.cons _ t=>aJ.drop n t
def eZ:Option V->Option Value->Prop
 | some v,some u=>aQ v u
 | none,none=>True
 | _,_=>False
def KV {κ:Type}:List (κ × V)->List (κ × Value)->Prop:=Paired fun (p:κ × V) (q:κ × Value)=>p.1=q.1/\aQ p.2 q.2
def kV:aH->V
 | .inl i=>.int i
 | .inr x=>.str x
inductive HO where
 | lst (xs:List V)
 | tup (xs:List V)
 | dK (kvs:List (aH × V)) | dT (kvs:List (List aH × V))
 | set (S:Int->Bool) (n:Nat)
 | ins (C dx:Addr) (fs:List (Str × V))
 | own (x:Addr)
 | xd (fs:List (Str × V))
 | met (f x:Addr)
 | rng (lo hi:Int)
 | frz (o:Obj) (u:HO)
 | tbl (ps:Array Value)
 | ext (φ:Heap->Prop)
abbrev Hp:=Addr->Option HO
def upd (H:Hp) (a:Addr) (o:HO):Hp:=fun b=>if b=a then some o else H b
theorem cC {H:Hp}{a:Addr}{o:HO}:upd H a o a=some o:=by unfold upd; rw [if_pos rfl]
theorem aZ {H:Hp}{a b:Addr}{o:HO} (h:b ≠ a):upd H a o b=H b:=by unfold upd; rw [if_neg h]
theorem wF {H:Hp}{a b:Addr}{o u:HO} (h:H a=some o) (h':H b=some u) (d:o ≠ u):a ≠ b:=by
 intro e; subst e; rw [h] at h'; exact d (aT5 h')
theorem cU {H:Hp}{a b:Addr}{o:HO} (h:H a=some o) (h':H b=none):a ≠ b:=by
 intro e; subst e; rw [h] at h'; cases h'
def iJ (h:Heap) (a:Addr):Prop:=∀ o,h.get? a=some o->o.dict=none
theorem iJ.new (h:Heap) (o:Obj) (d:o.dict=none) (s:o.isFreed=false:=by rfl):iJ (h.push o) h.objs.size:=fun u e=>by
 rw [aS5 h (o:=o) s] at e
 cases e; exact d
theorem iJ.stay {h h':Heap}{a:Addr}{o:Obj} (n:iJ h a) (e:h.get? a=some o) (e':h'.get? a=some o):iJ h' a:=fun u hu=>by
 rw [e'] at hu; cases hu; exact n _ e
section
variable (P : Program) (w : World)
def bT (H:Hp) (h:Heap) (a:Addr):HO->Prop
 | .lst xs=>xs.length<=sizeLine/\∃ (its:List Value) (n:Nat),aJ xs its/\h.get? a=some { cls:=.type "list",data:=.seq its.toArray n }
 | .tup xs=>xs.length<=sizeLine/\∃ its:List Value,aJ xs its/\IsTup h a its.toArray/\iJ h a
 | .dK kvs=>kvs.length<=sizeLine/\(a == sysModules)=false/\∃ vs,KV kvs vs/\h.DictOf (dW P w) a vs
 | .dT kvs=>kvs.length<=sizeLine/\(a == sysModules)=false/\∃ xs:List (List aH × Addr × Value),
   Paired (fun (p:List aH × V) (q:List aH × Addr × Value)=>p.1=q.1/\H q.2.1=some (.tup (p.1.map kV))/\aQ p.2 q.2.2) kvs xs/\
   ∃ o es ep,h.get? a=some o/\o.ExactDict/\o.data = .dict es ep/\es.toList=xs.map (entryOfKey (tupleKind (dW P w)))/\(xs.map (·.1)).Nodup
 | .set S n=>h.SetOf (intKind P w) a S n
 | .ins C dx fs=>H dx=some (.own a)/\fs.length<=1000/\dx ≠ a/\h.get? a=some (PySem.W.instObj C dx)/\
   ∃ mA,h.Ns1 dx mA/\(∀ f,eZ (fs.lookup f) (mA f))/\PySem.Within mA (fs.map (·.1))
 | .own _=>∃ o,h.get? a=some o
 | .xd fs=>∃ mA,h.Ns1 a mA/\∀ f,eZ (fs.lookup f) (mA f)
 | .rng lo hi=>∃ t u v,h.get? a=some { cls:=.type "range",data:=.fields #[.int lo t,.int hi u,.int 1 v] }
 | .frz o u=>h.get? a=some o/\bT H h a u
 | .tbl ps=>h.get? a=some { cls:=.none,data:=.fields ps }
 | .met f x=>h.get? a=some (PySem.W.methodObj (.ref f) (.ref x))
 | .ext φ=>φ h/\(∃ o,h.get? a=some o)/\∀ h1 h2:Heap,φ h1->(∀ o,h1.get? a=some o->h2.get? a=some o)->φ h2
def bK (H:Hp) (h:Heap):Prop:=∀ a o,H a=some o->bT P w H h a o
end
section
variable {P : Program} {w : World} {H H' : Hp} {h h' : Heap} {a : Addr} {o : HO}
theorem bT.lt (x:bT P w H h a o):a < h.objs.size:=by
 cases o with
 | lst xs=>obtain ⟨_,_,_,_,e⟩:=x; exact aS4 e
 | tup xs=>obtain ⟨_,_,_,p,_⟩:=x; exact p.lt
 | dK kvs=>obtain ⟨_,_,_,_,o,_,_,e,_⟩:=x; exact aS4 e
 | dT kvs=>obtain ⟨_,_,_,_,o,_,_,e,_⟩:=x; exact aS4 e
 | set S n=>obtain ⟨o,_,_,_,e,_⟩:=x; exact aS4 e
 | ins C dx fs=>obtain ⟨_,_,_,e,_⟩:=x; exact aS4 e
 | own y=>obtain ⟨_,e⟩:=x; exact aS4 e
 | xd fs=>obtain ⟨_,⟨_,_,_,e,_⟩,_⟩:=x; exact aS4 e
 | rng lo hi=>obtain ⟨_,_,_,e⟩:=x; exact aS4 e
 | frz ob u=>obtain ⟨e,_⟩:=x; exact aS4 e
 | tbl ps=>exact aS4 (show h.get? a=some _ from x)
 | met f y=>exact aS4 (show h.get? a=some _ from x)
 | ext φ=>obtain ⟨_,⟨_,e⟩,_⟩:=x; exact aS4 e
theorem Paired.mapP {α β:Type}{F G:α->β->Prop}:∀ {l₁:List α}{l₂:List β},Paired F l₁ l₂->(∀ a b,F a b->G a b)->Paired G l₁ l₂
 | _,_,.nil,_=>.nil
 | _,_,.cons r t,f=>.cons (f _ _ r) (Paired.mapP t f)
theorem bT.stay (x:bT P w H h a o) (k:∀ b u,(b=a ∨ H b=some (.own a))->h.get? b=some u->h'.get? b=some u)
  (ho:∀ b,H b=some (.own a)->H' b=some (.own a)) (ht:∀ b xs,H b=some (.tup xs)->H' b=some (.tup xs)):bT P w H' h' a o:=by
 induction o with
 | lst xs=>obtain ⟨z,its,n,r,e⟩:=x; exact⟨z,its,n,r,k _ _ (.inl rfl) e⟩
 | tup xs=>obtain ⟨z,its,r,⟨ob,e,c⟩,nd⟩:=x; exact⟨z,its,r,⟨ob,k _ _ (.inl rfl) e,c⟩,nd.stay e (k _ _ (.inl rfl) e)⟩
 | dK kvs=>obtain ⟨z,y,vs,r,ob,es,ep,e,c⟩:=x; exact⟨z,y,vs,r,ob,es,ep,k _ _ (.inl rfl) e,c⟩
 | dT kvs=>
  obtain ⟨z,y,xs,r,ob,es,ep,e,c⟩:=x
  exact⟨z,y,xs,Paired.mapP r fun p q z=>⟨z.1,ht _ _ z.2.1,z.2.2⟩,ob,es,ep,k _ _ (.inl rfl) e,c⟩
 | set S n=>obtain ⟨ob,es,ep,t,e,c⟩:=x; exact⟨ob,es,ep,t,k _ _ (.inl rfl) e,c⟩
 | ins C dx fs=>
  obtain ⟨d,z,ne,e,mA,⟨od,es,ep,e2,c⟩,r⟩:=x
  exact⟨ho _ d,z,ne,k _ _ (.inl rfl) e,mA,⟨od,es,ep,k _ _ (.inr d) e2,c⟩,r⟩
 | own y=>obtain ⟨ob,e⟩:=x; exact⟨ob,k _ _ (.inl rfl) e⟩
 | xd fs=>obtain ⟨mA,⟨od,es,ep,e,c⟩,r⟩:=x; exact⟨mA,⟨od,es,ep,k _ _ (.inl rfl) e,c⟩,r⟩
 | rng lo hi=>obtain ⟨t,u,v,e⟩:=x; exact⟨t,u,v,k _ _ (.inl rfl) e⟩
 | frz ob u ih=>obtain ⟨e,q⟩:=x; exact⟨k _ _ (.inl rfl) e,ih q⟩
 | tbl ps=>
  have e:h.get? a=some { cls:=.none,data:=.fields ps }:=x
  show h'.get? a=some { cls:=.none,data:=.fields ps }
  exact k a _ (.inl rfl) e
 | met f y=>
  have e:h.get? a=some (PySem.W.methodObj (.ref f) (.ref y)):=x
  show h'.get? a=some (PySem.W.methodObj (.ref f) (.ref y))
  exact k a _ (.inl rfl) e
 | ext φ=>obtain ⟨p,⟨o,e⟩,st⟩:=x; exact⟨st _ _ p fun o q=>k _ _ (.inl rfl) q,⟨o,k _ _ (.inl rfl) e⟩,st⟩
theorem bK.lt (x:bK P w H h) (e:H a=some o):a < h.objs.size:=(x a o e).lt
theorem bK.fresh (x:bK P w H h) (e:h.objs.size<=a):H a=none:=by
 cases q:H a with
 | none=>rfl
 | some u=>exact absurd (aT0 (x.lt q) e) (aZ0 _)
theorem bK.kept (x:bK P w H h) (k:∀ b u,h.get? b=some u->h'.get? b=some u):bK P w H h':=fun a o e=>
 (x a o e).stay (fun b u _ q=>k b u q) (fun _ q=>q) fun _ _ q=>q
theorem bK.laid (x:bK P w H h) (k:∀ b u,h.get? b=some u->h'.get? b=some u) (hp:h.objs.size<=a) (new:bT P w (upd H a o) h' a o):bK P w (upd H a o) h':=fun b u e=>by
 have hn:=x.fresh hp
 by_cases hb:b=a
 ·subst hb; rw [cC] at e; cases e; exact new
 ·rw [aZ hb] at e
  exact (x b u e).stay (fun c v _ q=>k c v q) (fun c q=>by rw [aZ (cU q hn)]; exact q) fun c xs q=>by rw [aZ (cU q hn)]; exact q
end
def Rd (H:Hp) (a:Addr) (u:HO):Prop:=H a=some u ∨ ∃ o,H a=some (.frz o u)
theorem Rd.ok {P:Program}{w:World}{H:Hp}{h:Heap}{a:Addr}{u:HO} (r:Rd H a u) (x:bK P w H h):bT P w H h a u:=by
 rcases r with r | ⟨o,r⟩
 ·exact x a u r
 ·obtain ⟨_,q⟩:=x a _ r
  exact q
def mD:Option HO->Prop
 | some (.lst _)=>True
 | some (.dK _)=>True
 | some (.dT _)=>True
 | some (.set _ _)=>True
 | some (.ins _ _ _)=>True
 | some (.ext _)=>True
 | _=>False
section
variable {P : Program} {w : World} {H : Hp} {h h' : Heap} {x e : Addr} {o' : HO}
theorem bK.write (ok:bK P w H h) (mu:mD (H x)) (he:e=x ∨ H e=some (.own x)) (k:∀ b u,b ≠ e->h.get? b=some u->h'.get? b=some u) (heo:∃ u,h'.get? e=some u)
  (new:bT P w (upd H x o') h' x o'):bK P w (upd H x o') h':=fun b u q=>by
 have nown:∀ c y,H c=some (.own y)->c ≠ x:=fun c y r z=>by subst z; rw [r] at mu; exact mu
 have ntup:∀ c xs,H c=some (.tup xs)->c ≠ x:=fun c xs r z=>by subst z; rw [r] at mu; exact mu
 by_cases hb:b=x
 ·subst hb; rw [cC] at q; cases q; exact new
 ·rw [aZ hb] at q
  by_cases hbe:b=e
  ·have q':H b=some (.own x):=by
    rcases he with z | z
    ·exact absurd (hbe.trans z) hb
    ·rw [hbe]; exact z
   rw [q] at q'; cases q'
   obtain ⟨v,hv⟩:=heo
   exact⟨v,by rw [hbe]; exact hv⟩
  ·refine (ok b u q).stay (fun c v hc r=>k c v ?_ r) (fun c r=>by rw [aZ (nown c b r)]; exact r) fun c xs r=>by rw [aZ (ntup c xs r)]; exact r
   rcases hc with rfl | hc
   ·exact hbe
   ·rintro rfl
    rcases he with z | z
    ·exact nown c b hc z
    ·rw [hc] at z; cases z; exact hb rfl
end
structure Un (fs ex:List Addr) (H H':Hp) (h h':Heap):Prop where
 keep:∀ b o,h.get? b=some o->H b=none->b ∉ fs->b ∉ ex->h'.get? b=some o
 slot:∀ b o,h.get? b=some o->H b=none->b ∈ fs->b ∉ ex->∃ sl,h'.get? b=some { o with slots:=sl }
 free:∀ b o,h.get? b=some o->H b=none->b ∉ ex->H' b=none
 there:∀ b o,h.get? b=some o->b ∉ ex->∃ o',h'.get? b=some o'
 tups:∀ b xs,H b=some (.tup xs)->H' b=some (.tup xs)
 frzs:∀ b o u,H b=some (.frz o u)->H' b=some (.frz o u)
 tbls:∀ b ps,H b=some (.tbl ps)->∃ more,H' b=some (.tbl (ps ++ more))
section
variable {fs fs' ex ex' : List Addr} {H H1 H2 : Hp} {h h1 h2 h' : Heap} {a x e : Addr} {o : HO}
theorem Un.any (u:Un fs ex H H1 h h1) {b:Addr}{ob:Obj} (q:h.get? b=some ob) (n:H b=none) (hx:b ∉ ex):∃ sl,h1.get? b=some { ob with slots:=sl }:=by
 by_cases hb:b ∈ fs
 ·exact u.slot b ob q n hb hx
 ·exact⟨ob.slots,u.keep b ob q n hb hx⟩
theorem Un.kept (k:∀ b u,h.get? b=some u->h'.get? b=some u):Un fs ex H H h h':=
 ⟨fun b ob q _ _ _=>k b ob q,fun b ob q _ _ _=>⟨ob.slots,k b ob q⟩,fun _ _ _ n _=>n,fun b ob q _=>⟨ob,k b ob q⟩,fun _ _ q=>q,fun _ _ _ q=>q,fun _ ps q=>⟨#[],by rw [q]; simp⟩⟩
theorem Un.refl:Un fs ex H H h h:=Un.kept fun _ _ q=>q
theorem Un.laid (k:∀ b u,h.get? b=some u->h'.get? b=some u) (hp:h.objs.size<=a) (hn:H a=none):Un fs ex H (upd H a o) h h' where
 keep:=fun b u q _ _ _=>k b u q
 slot:=fun b u q _ _ _=>⟨u.slots,k b u q⟩
 free:=fun b u q n _=>by rw [aZ (aU5 (aT0 (aS4 q) hp))]; exact n
 there:=fun b u q _=>⟨u,k b u q⟩
 tups:=fun b xs q=>by rw [aZ (cU q hn)]; exact q
 frzs:=fun b u xs q=>by rw [aZ (cU q hn)]; exact q
 tbls:=fun b ps q=>⟨#[],by rw [aZ (cU q hn),q]; simp⟩
theorem Un.write (mu:mD (H x)) (he:e=x ∨ H e=some (.own x)) (k:∀ b u,b ≠ e->h.get? b=some u->h'.get? b=some u) (heo:∃ u,h'.get? e=some u):Un fs ex H (upd H x o) h h':=by
 have hx:∀ b,H b=none->b ≠ x:=fun b n z=>by subst z; rw [n] at mu; exact mu
 have hb:∀ b,H b=none->b ≠ e:=fun b n z=>by
  subst z
  rcases he with r | r
  ·exact hx b n r
  ·rw [n] at r; cases r
 have hm:∀ b u,H b=some u->¬ mD (some u)->b ≠ x:=fun b u q nm z=>by subst z; rw [q] at mu; exact nm mu
 refine⟨fun b u q n _ _=>k b u (hb b n) q,fun b u q n _ _=>⟨u.slots,k b u (hb b n) q⟩,fun b u q n _=>by rw [aZ (hx b n)]; exact n,fun b u q _=>?_,
  fun b xs q=>by rw [aZ (hm b _ q fun z=>z)]; exact q,fun b u xs q=>by rw [aZ (hm b _ q fun z=>z)]; exact q,fun b ps q=>⟨#[],by rw [aZ (hm b _ q fun z=>z),q]; simp⟩⟩
 by_cases hbe:b=e
 ·subst hbe; exact heo
 ·exact⟨u,k b u hbe q⟩
end
def oB (h:Heap) (H:Hp):List Addr:=(List.range h.objs.size).filter fun a=>(H a).isSome
def iK (h:Heap) (H:Hp):Heap:=PySem.W.hideAll h (oB h H)
theorem Y7 (h:Heap) (H:Hp):(iK h H).objs.size=h.objs.size:=PySem.W.hideAll_size _ _
theorem Y8 {h:Heap}{H:Hp}{b:Addr}{o:Obj} (e:h.get? b=some o) (n:H b=none):(iK h H).get? b=some o:=
 PySem.W.hideAll_get _ e fun hm=>by
  have q:(H b).isSome=true:=(aX7.mp hm).2
  rw [n] at q; simp at q
theorem Y9 {h:Heap}{H:Hp}{b:Addr}{o:Obj} (e:(iK h H).get? b=some o):h.get? b=some o/\H b=none:=by
 have e':h.get? b=some o:=PySem.W.of_hideAll (oB h H) e
 refine⟨e',?_⟩
 cases q:H b with
 | none=>rfl
 | some x=>
  have hm:b ∈ oB h H:=aX7.mpr ⟨List.mem_range.mpr (aS4 e'),by simp [q]⟩
  have z:(iK h H).get? b=none:=PySem.W.hideAll_none (oB h H) hm
  rw [z] at e; cases e
def Z0 (g h:Heap) (L:Addr):List (Addr × Obj):=(List.range h.objs.size).filterMap fun a=>if a=L ∨ (g.get? a).isSome=true then none else (h.get? a).map fun o=>(a,o)
def cG (g h:Heap) (L d:Addr):List (Addr × Obj):=(Z0 g h L).filter fun p=>decide (p.1 ≠ d)
structure Mod (K:PySem.W.Frag) (mg:Str->Option Value) (base:Heap):Prop where
 kin:K.In base
 glob:base.Ns mainGlobals mg
 blt:∃ mb,base.Ns builtinsNs mb/\∀ x:Str,x ≠ "__name__"->mb x=bootBuiltins x
 nolimit:base.NoLimit
structure Cx where
 prog:Program
 w:World
 K:PySem.W.Frag
 mg:Str->Option Value
 base:Heap
 A:Around
 N:List Str
 s₀:Shared
 H₀:Hp
 env:Env
 outer:List Env
 stack:List Env
 ex:List Addr
 fn:Str->Bool
 calm:Bool
 pn:List (Addr × Obj)
 xe:Value->Shared->Prop
def bU (l:List Env):List Addr:=l.filterMap (·.frame)
abbrev Cx.fs (X:Cx):List Addr:=bU X.outer
def iL (sc:Scope) (x:Str):Prop:=sc.names.lookup x=some .local ∨ sc.names.lookup x=some .cell ∨ sc.names.lookup x=some .free
def fX (sc:Scope) (x:Str):Prop:=sc.names.lookup x=some .local ∨ sc.names.lookup x=some .cell
def Z1 (env:Env) (h:Heap) (m:Str->Option Value) (x:Str) (u:Value):Prop:=
 (env.kindOf x=some .local/\m x=some u) ∨ ((env.kindOf x=some .cell ∨ env.kindOf x=some .free)/\∃ c,env.cells.lookup x=some c/\h.IsCell c (some u))
structure Cx.Ok (X:Cx):Prop where
 mod:Mod X.K X.mg X.base
 kind:X.env.scope.kind = .function
 glob:X.env.globals=mainGlobals
 blt:X.env.builtins=builtinsNs
 above:X.s₀.heap.objs.size<=X.env.locals
 inj:∀ x y c,X.env.cells.lookup x=some c->X.env.cells.lookup y=some c->x=y
 has:∀ x,(X.env.kindOf x=some .cell ∨ X.env.kindOf x=some .free)->∃ c,X.env.cells.lookup x=some c
 cab:∀ x c,X.fn x=true->X.env.cells.lookup x=some c->X.s₀.heap.objs.size<=c
 hd:X.calm=true->X.A.handled=none
 frames:X.A.frames=some X.stack
 stk:X.stack=X.outer ∨ (X.stack=X.env :: X.outer/\X.env.frame=some X.env.locals)
 exf:∀ b ∈ X.ex,b ≠ X.env.locals/\∀ x c,X.env.cells.lookup x=some c->c ≠ b
 bs:∀ b o,X.base.get? b=some o->X.s₀.heap.get? b=some o/\X.H₀ b=none
 bsz:X.base.objs.size<=X.s₀.heap.objs.size
 noex:∀ b o,X.base.get? b=some o->b ∉ X.ex
 exfs:∀ b ∈ X.ex,b ∉ X.fs
 funs:X.s₀.heap.FunFrames X.base X.outer
 frf:∀ b ∈ X.fs,X.H₀ b=none
structure a6 (X:Cx) (pins:List (Addr × Obj)) (σ:List (Option V)) (H:Hp) (s:Shared):Prop where
 ok:X.Ok
 os:s.os=X.s₀.os
 bare:AllBare s.gens
 base:Un X.fs X.ex X.H₀ H X.s₀.heap s.heap
 loc:∃ m,s.heap.Ns X.env.locals m/\∀ (i:Nat) (x:Str) (v:V),X.N[i]? = some x->σ[i]? = some (some v)->iL X.env.scope x->∃ u,aQ v u/\Z1 X.env s.heap m x u
 cell:∀ x c,X.env.cells.lookup x=some c->∃ v,s.heap.IsCell c v
 free:H X.env.locals=none
 freeC:∀ x c,X.env.cells.lookup x=some c->H c=none
 pin:∀ p ∈ X.pn ++ pins,s.heap.get? p.1=some p.2/\H p.1=none/\p.1 ≠ X.env.locals/\p.1 ∉ X.fs/\∀ v,p.2.data ≠ .cell v
 hok:bK X.prog X.w H s.heap
 len:σ.length=X.N.length
section
variable {X : Cx} {pins : List (Addr × Obj)} {σ : List (Option V)} {H H' : Hp} {s : Shared} {h' : Heap}
theorem Cx.Ok.nofr (ok:X.Ok) {b:Addr}{o:Obj} (e:X.base.get? b=some o):b ∉ X.fs:=fun hb=>by
 have:=(ok.funs.mem hb).1
 rw [e] at this; cases this
theorem a6.bs (I:a6 X pins σ H s):∀ b o,X.base.get? b=some o->s.heap.get? b=some o/\H b=none:=fun b o e=>
 ⟨I.base.keep b o (I.ok.bs b o e).1 (I.ok.bs b o e).2 (I.ok.nofr e) (I.ok.noex b o e),I.base.free b o (I.ok.bs b o e).1 (I.ok.bs b o e).2 (I.ok.noex b o e)⟩
theorem a6.bk (I:a6 X pins σ H s):∀ b o,X.base.get? b=some o->s.heap.get? b=some o:=fun b o e=>(I.bs b o e).1
theorem a6.mod (I:a6 X pins σ H s):Mod X.K X.mg X.base:=I.ok.mod
theorem a6.kIn (I:a6 X pins σ H s):X.K.In s.heap:=I.ok.mod.kin.keeps I.bk
theorem a6.fr (I:a6 X pins σ H s):∃ m,Fr X.base X.env.locals s.heap m:=
 let ⟨m,hn,_⟩:=I.loc
 ⟨m,hn,I.bk,aU8 I.ok.bsz I.ok.above⟩
theorem a6.lt (I:a6 X pins σ H s):X.env.locals < s.heap.objs.size:=let ⟨_,hn,_⟩:=I.loc; hn.lt
theorem a6.sz (I:a6 X pins σ H s):X.s₀.heap.objs.size<=s.heap.objs.size:=aU8 I.ok.above (bc6 I.lt)
theorem a6.nofs (I:a6 X pins σ H s) {a:Addr} (h:s.heap.objs.size<=a):a ∉ X.fs:=fun hb=>by
 obtain ⟨_,o,ho,_⟩:=I.ok.funs.mem hb
 exact absurd (aT0 (aS4 ho) (aU8 I.sz h)) (aZ0 _)
theorem a6.cne (I:a6 X pins σ H s):∀ x c,X.env.cells.lookup x=some c->c ≠ X.env.locals:=fun x c e z=>by
 obtain ⟨v,o,ho,hd⟩:=I.cell x c e
 obtain ⟨m,⟨o',es,ep,ho',hd',_⟩,_⟩:=I.loc
 rw [z,ho'] at ho; cases ho; rw [hd'] at hd; cases hd
theorem a6.funs (I:a6 X pins σ H s):s.heap.FunFrames X.base X.outer:=by
 have all:∀ (l:List Env),(∀ b ∈ bU l,b ∈ X.fs)->X.s₀.heap.FunFrames X.base l->s.heap.FunFrames X.base l:=by
  intro l
  induction l with
  | nil=>intro _ _; trivial
  | cons env r ih=>
   intro hs hl
   obtain ⟨hk,⟨L,o,hf,hn,ho,hd⟩,hr⟩:=hl
   have hL:L ∈ X.fs:=hs L (by unfold bU; rw [List.filterMap_cons,hf]; exact aS3)
   obtain ⟨sl,e⟩:=I.base.slot L o ho (I.ok.frf L hL) hL fun z=>I.ok.exfs L z hL
   exact⟨hk,⟨L,_,hf,hn,e,hd⟩,ih (fun b hb=>hs b (by unfold bU; rw [List.filterMap_cons,hf]; exact aR7 _ hb)) hr⟩
 exact all X.outer (fun _ hb=>hb) I.ok.funs
theorem a6.stack (I:a6 X pins σ H s):s.heap.FunFrames X.base X.stack:=by
 rcases I.ok.stk with e | ⟨e,hf⟩
 ·rw [e]; exact I.funs
 ·rw [e]
  obtain ⟨m,hn,_⟩:=I.loc
  refine .cons (by rw [I.ok.kind]; decide) hf hn ?_ I.funs
  exact Heap.get?_none_of_le (aU8 I.ok.bsz I.ok.above)
theorem a6.stkSub (I:a6 X pins σ H s):∀ b ∈ bU X.stack,b ∈ X.env.locals :: X.fs:=fun b hb=>by
 rcases I.ok.stk with e | ⟨e,hf⟩
 ·rw [e] at hb; exact aR7 _ hb
 ·rw [e] at hb
  unfold bU at hb
  rw [List.filterMap_cons,hf] at hb
  exact hb
theorem a6.stkFree (I:a6 X pins σ H s):∀ b ∈ bU X.stack,H b=none:=fun b hb=>by
 rcases aR5.mp (I.stkSub b hb) with e | hb
 ·rw [e]; exact I.free
 ·obtain ⟨_,o,ho,_⟩:=I.ok.funs.mem hb
  exact I.base.free b o ho (I.ok.frf b hb) fun z=>I.ok.exfs b z hb
theorem a6.step {g':Array GenState}{t':Nat}{d':Drawn}{ch:List Addr} (I:a6 X pins σ H s)
  (hch:∀ b ∈ ch,(b ∈ X.ex ∨ X.s₀.heap.objs.size<=b)/\b ≠ X.env.locals/\(∀ x c,X.env.cells.lookup x=some c->c ≠ b)/\∀ p ∈ X.pn ++ pins,p.1 ≠ b)
  (keep:∀ b o,b ≠ X.env.locals->b ∉ X.fs->b ∉ ch->s.heap.get? b=some o->H b=none->h'.get? b=some o)
  (slot:∀ b o,b ≠ X.env.locals->b ∈ X.fs->b ∉ ch->s.heap.get? b=some o->H b=none->∃ sl,h'.get? b=some { o with slots:=sl }) (free:∀ b o,b ∉ ch->s.heap.get? b=some o->H b=none->H' b=none)
  (there:∀ b o,b ∉ ch->s.heap.get? b=some o->∃ o',h'.get? b=some o')
  (tups:∀ b xs,H b=some (.tup xs)->H' b=some (.tup xs)) (frzs:∀ b o u,H b=some (.frz o u)->H' b=some (.frz o u)) (tbls:∀ b ps,H b=some (.tbl ps)->∃ more,H' b=some (.tbl (ps ++ more)))
  (ns:∀ m,s.heap.Ns X.env.locals m->h'.Ns X.env.locals m) (hok:bK X.prog X.w H' h') (hg:AllBare g') :
  a6 X pins σ H' { s with heap:=h',gens:=g',drawn:=d',toks:=t' }:=by
 have neL:∀ b o,X.s₀.heap.get? b=some o->b ≠ X.env.locals:=fun b o e=>aU5 (aT0 (aS4 e) I.ok.above)
 have neC:∀ b o,X.s₀.heap.get? b=some o->b ∉ X.ex->b ∉ ch:=fun b o e hx hb=>by
  rcases (hch b hb).1 with z | z
  ·exact hx z
  ·exact absurd (aT0 (aS4 e) z) (aZ0 _)
 have cellK:∀ x c,X.env.cells.lookup x=some c->∀ v,s.heap.IsCell c v->h'.IsCell c v:=fun x c e v ⟨o,ho,hd⟩=>by
  have nch:c ∉ ch:=fun z=>(hch c z).2.2.1 x c e rfl
  by_cases hc:c ∈ X.fs
  ·obtain ⟨sl,q⟩:=slot c o (I.cne x c e) hc nch ho (I.freeC x c e)
   exact⟨_,q,hd⟩
  ·exact⟨o,keep c o (I.cne x c e) hc nch ho (I.freeC x c e),hd⟩
 refine⟨I.ok,I.os,hg,⟨fun b o e n hb hx=>?_,fun b o e n hb hx=>?_,fun b o e n hx=>?_,fun b o e hx=>?_,fun b xs e=>tups b xs (I.base.tups b xs e),fun b o xs e=>frzs b o xs (I.base.frzs b o xs e),fun b ps e=>?_⟩,?_,fun x c e=>?_,?_,fun x c e=>?_,fun p hp=>?_,hok,I.len⟩
 ·exact keep b o (neL b o e) hb (neC b o e hx) (I.base.keep b o e n hb hx) (I.base.free b o e n hx)
 ·obtain ⟨sl,e1⟩:=I.base.slot b o e n hb hx
  obtain ⟨sl',e2⟩:=slot b _ (neL b o e) hb (neC b o e hx) e1 (I.base.free b o e n hx)
  exact⟨sl',e2⟩
 ·obtain ⟨o',e1⟩:=I.base.there b o e hx
  exact free b o' (neC b o e hx) e1 (I.base.free b o e n hx)
 ·obtain ⟨o',e1⟩:=I.base.there b o e hx
  exact there b o' (neC b o e hx) e1
 ·obtain ⟨m1,e1⟩:=I.base.tbls b ps e
  obtain ⟨m2,e2⟩:=tbls b _ e1
  exact⟨m1 ++ m2,by rw [e2,Array.append_assoc]⟩
 ·obtain ⟨m,hn,hl⟩:=I.loc
  refine⟨m,ns m hn,fun i x v e1 e2 e3=>?_⟩
  obtain ⟨u,r,l⟩:=hl i x v e1 e2 e3
  refine⟨u,r,?_⟩
  rcases l with l | ⟨k,c,e,z⟩
  ·exact .inl l
  ·exact .inr ⟨k,c,e,cellK x c e _ z⟩
 ·obtain ⟨v,z⟩:=I.cell x c e
  exact⟨v,cellK x c e v z⟩
 ·obtain ⟨m,⟨o,_,_,ho,_⟩,_⟩:=I.loc
  exact free _ o (fun z=>(hch _ z).2.1 rfl) ho I.free
 ·obtain ⟨v,o,ho,hd⟩:=I.cell x c e
  exact free c o (fun z=>(hch c z).2.2.1 x c e rfl) ho (I.freeC x c e)
 ·obtain ⟨e,n,ne,nf,d⟩:=I.pin p hp
  have nch:p.1 ∉ ch:=fun z=>(hch p.1 z).2.2.2 p hp rfl
  exact⟨keep p.1 p.2 ne nf nch e n,free p.1 p.2 nch e n,ne,nf,d⟩
theorem a6.un {t':Nat} (I:a6 X pins σ H s) (u:Un X.fs [] H H' s.heap h') (hok:bK X.prog X.w H' h'):a6 X pins σ H' { s with heap:=h',toks:=t' }:=by
 obtain ⟨m,⟨o,es,ep,ho,r⟩,_⟩:=id I.loc
 obtain ⟨sl,hL⟩:=u.any ho I.free (by simp)
 exact I.step (g':=s.gens) (d':=s.drawn) (ch:=[]) (fun _ z=>nomatch z) (fun b o _ hb _ e n=>u.keep b o e n hb (by simp)) (fun b o _ hb _ e n=>u.slot b o e n hb (by simp)) (fun b o _ e n=>u.free b o e n (by simp)) (fun b o _ e=>u.there b o e (by simp)) u.tups u.frzs u.tbls (fun m' hm=>by
  obtain ⟨o',es',ep',ho',r'⟩:=hm
  rw [ho] at ho'; cases ho'
  exact⟨_,es',ep',hL,r'⟩) hok I.bare
theorem a6.call {g':Array GenState}{t':Nat}{d':Drawn}{ch:List Addr} (I:a6 X pins σ H s) (u:Un (bU X.stack) ch H H' s.heap h') (hok:bK X.prog X.w H' h') (hg:AllBare g')
  (hch:∀ b ∈ ch,(b ∈ X.ex ∨ X.s₀.heap.objs.size<=b)/\b ≠ X.env.locals/\(∀ x c,X.env.cells.lookup x=some c->c ≠ b)/\∀ p ∈ X.pn ++ pins,p.1 ≠ b) :
  a6 X pins σ H' { s with heap:=h',gens:=g',drawn:=d',toks:=t' }:=by
 obtain ⟨m,⟨o,es,ep,ho,r⟩,_⟩:=id I.loc
 obtain ⟨sl,hL⟩:=u.any ho I.free fun z=>(hch _ z).2.1 rfl
 exact I.step (ch:=ch) hch (fun b o hL hb hc e n=>u.keep b o e n (fun z=>(aR5.mp (I.stkSub b z)).elim hL hb) hc) (fun b o _ _ hc e n=>u.any e n hc) (fun b o hc e n=>u.free b o e n hc) (fun b o hc e=>u.there b o e hc) u.tups u.frzs u.tbls (fun m' hm=>by
  obtain ⟨o',es',ep',ho',r'⟩:=hm
  rw [ho] at ho'; cases ho'
  exact⟨_,es',ep',hL,r'⟩) hok hg
theorem a6.turned {t':Nat}{it:Addr} (I:a6 X pins σ H s) (k:∀ b o,b ≠ it->s.heap.get? b=some o->h'.get? b=some o) (hn:H it=none) (hL:it ≠ X.env.locals)
  (h1:it ∈ X.ex ∨ X.s₀.heap.objs.size<=it) (h2:∀ x c,X.env.cells.lookup x=some c->c ≠ it) (h3:∀ p ∈ X.pn ++ pins,p.1 ≠ it):a6 X pins σ H { s with heap:=h',toks:=t' }:=by
 have nit:∀ b u,H b=some u->b ≠ it:=fun b u e z=>by rw [z,hn] at e; cases e
 refine I.step (g':=s.gens) (d':=s.drawn) (ch:=[it]) (fun b hb=>?_) (fun b o _ _ hc e _=>k b o (fun z=>hc (by simp [z])) e) (fun b o _ _ hc e _=>⟨o.slots,k b o (fun z=>hc (by simp [z])) e⟩) (fun _ _ _ _ n=>n)
  (fun b o hc e=>⟨o,k b o (fun z=>hc (by simp [z])) e⟩) (fun _ _ e=>e) (fun _ _ _ e=>e) (fun b ps e=>⟨#[],by rw [e]; simp⟩) (fun m hm=>?_) (fun b u e=>?_) I.bare
 ·have e:b=it:=by simpa using hb
  subst e
  exact⟨h1,hL,h2,h3⟩
 ·obtain ⟨o,es,ep,ho,r⟩:=hm
  exact⟨o,es,ep,k _ o (Ne.symm hL) ho,r⟩
 ·refine (I.hok b u e).stay (fun c v hc q=>k c v ?_ q) (fun _ q=>q) fun _ _ q=>q
  rcases hc with z | z
  ·rw [z]; exact nit b u e
  ·exact nit c _ z
theorem a6.tok (I:a6 X pins σ H s) (t:Nat):a6 X pins σ H { s with toks:=t }:=I.un (h':=s.heap) (t':=t) Un.refl I.hok
theorem a6.kept {t':Nat} (I:a6 X pins σ H s) (k:∀ b u,s.heap.get? b=some u->h'.get? b=some u):a6 X pins σ H { s with heap:=h',toks:=t' }:=I.un (Un.kept k) (I.hok.kept k)
theorem a6.laid {a:Addr}{o:HO}{t':Nat} (I:a6 X pins σ H s) (k:∀ b u,s.heap.get? b=some u->h'.get? b=some u) (hp:s.heap.objs.size<=a) (new:bT X.prog X.w (upd H a o) h' a o) :
  a6 X pins σ (upd H a o) { s with heap:=h',toks:=t' }:=I.un (Un.laid k hp (I.hok.fresh hp)) (I.hok.laid k hp new)
theorem a6.write {x e:Addr}{o:HO}{t':Nat} (I:a6 X pins σ H s) (mu:mD (H x)) (he:e=x ∨ H e=some (.own x)) (k:∀ b u,b ≠ e->s.heap.get? b=some u->h'.get? b=some u) (heo:∃ u,h'.get? e=some u)
  (new:bT X.prog X.w (upd H x o) h' x o):a6 X pins σ (upd H x o) { s with heap:=h',toks:=t' }:=I.un (Un.write mu he k heo) (I.hok.write mu he k heo new)
theorem a6.weak {σ':List (Option V)} (I:a6 X pins σ H s) (hl:σ'.length=σ.length) (w:∀ (i:Nat) v,σ'[i]? = some (some v)->σ[i]? = some (some v)):a6 X pins σ' H s:=
 ⟨I.ok,I.os,I.bare,I.base,let ⟨m,hn,hl'⟩:=I.loc; ⟨m,hn,fun i x v e1 e2 e3=>hl' i x v e1 (w i v e2) e3⟩,I.cell,I.free,I.freeC,I.pin,I.hok,hl.trans I.len⟩
theorem a6.pins_of {pins':List (Addr × Obj)} (I:a6 X pins σ H s) (h:∀ p ∈ pins',s.heap.get? p.1=some p.2/\H p.1=none/\p.1 ≠ X.env.locals/\p.1 ∉ X.fs/\∀ v,p.2.data ≠ .cell v):a6 X pins' σ H s:=
 ⟨I.ok,I.os,I.bare,I.base,I.loc,I.cell,I.free,I.freeC,fun p hp=>(aU4.mp hp).elim (fun z=>I.pin p (aU3 _ z)) (h p),I.hok,I.len⟩
theorem wG {N:List Str} (hN:N.Nodup) {i j:Nat}{x:Str} (a:N[i]? = some x) (b:N[j]? = some x):i=j:=by
 obtain ⟨h1,e1⟩:=aS2.mp a
 obtain ⟨h2,e2⟩:=aS2.mp b
 exact (List.getElem_inj hN).mp (e1.trans e2.symm)
theorem Z2 {M:Model}{A:Around}{E:Value->Shared->Prop}{i:Nat}{x:Str}{v:V}{u:Value}{Q:Unit->Shared->Prop} (I:a6 X pins σ H s) (hN:X.N.Nodup) (hi:X.N[i]? = some x) (hx:fX X.env.scope x) (r:aQ v u)
  (h:∀ s',a6 X pins (σ.set i (some v)) H s'->(∃ a,Heap.SameBut a s.heap s'.heap/\(a=X.env.locals ∨ X.env.cells.lookup x=some a))->Q () s') (hf:X.fn x=true ∨ X.env.scope.names.lookup x=some .local:=by first | exact .inl rfl | exact .inr rfl | assumption):wpAny M A (storeName X.env x u) Q E s:=by
 obtain ⟨m,hn,hl⟩:=id I.loc
 have hcls:(X.env.scope.kind == .class || (X.env.scope.kind == .module && X.env.locals != X.env.globals))=false:=by rw [I.ok.kind]; rfl
 have hiσ:i < σ.length:=by rw [I.len]; exact (aS2.mp hi).1
 have cne:=I.cne
 have tracked:∀ {a:Addr}{h':Heap},(∃ o,s.heap.get? a=some o/\H a=none)->Heap.SameBut a s.heap h'->bK X.prog X.w H h':=fun {a h'} ha hs b ob e=>by
  obtain ⟨_,_,hfree⟩:=ha
  refine (I.hok b ob e).stay (fun c w' hc q=>(hs.2 c ?_).trans q) (fun _ q=>q) fun _ _ q=>q
  rintro rfl
  rcases hc with rfl | hc
  ·rw [hfree] at e; cases e
  ·rw [hfree] at hc; cases hc
 rcases hx with hk | hk
 ·refine wpAny_storeName_local hk hn (fun h' hn' hs=>?_) hcls
  obtain ⟨oL,_,_,hoL,_⟩:=id hn
  refine h _ ⟨I.ok,I.os,I.bare,⟨fun b o e n hb hx=>?_,fun b o e n hb hx=>?_,I.base.free,fun b o e hx=>?_,I.base.tups,I.base.frzs,I.base.tbls⟩,⟨_,hn',fun j y v' e1 e2 e3=>?_⟩,fun y c e=>?_,I.free,I.freeC,fun p hp=>?_,tracked ⟨oL,hoL,I.free⟩ hs,by simpa using I.len⟩ ⟨_,hs,.inl rfl⟩
  ·exact (hs.2 b (aU5 (aT0 (aS4 e) I.ok.above))).trans (I.base.keep b o e n hb hx)
  ·obtain ⟨sl,e1⟩:=I.base.slot b o e n hb hx
   exact⟨sl,(hs.2 b (aU5 (aT0 (aS4 e) I.ok.above))).trans e1⟩
  ·obtain ⟨o',e1⟩:=I.base.there b o e hx
   exact⟨o',(hs.2 b (aU5 (aT0 (aS4 e) I.ok.above))).trans e1⟩
  ·by_cases hj:j=i
   ·subst hj
    rw [hi] at e1; cases e1
    rw [bb2 hiσ] at e2
    cases e2
    exact⟨u,r,.inl ⟨hk,by simp⟩⟩
   ·rw [aT8 (Ne.symm hj)] at e2
    obtain ⟨u',r',q⟩:=hl j y v' e1 e2 e3
    refine⟨u',r',?_⟩
    rcases q with ⟨k,e⟩ | ⟨k,c,e,z⟩
    ·refine .inl ⟨k,?_⟩
     have:y ≠ x:=fun e=>hj (wG hN e1 (e ▸ hi))
     simp [this,e]
    ·exact .inr ⟨k,c,e,z.sameBut hs (cne y c e)⟩
  ·obtain ⟨w',z⟩:=I.cell y c e
   exact⟨w',z.sameBut hs (cne y c e)⟩
  ·obtain ⟨e,n,ne,nf,d⟩:=I.pin p hp
   exact⟨(hs.2 p.1 ne).trans e,n,ne,nf,d⟩
 ·have hfn:X.fn x=true:=by
   rcases hf with z | z
   ·exact z
   ·rw [z] at hk; cases hk
  obtain ⟨c,hc⟩:=I.ok.has x (.inl hk)
  obtain ⟨w',z⟩:=I.cell x c hc
  refine wpAny_storeName_cell I.ok.kind hk hc z (fun h' hc' hs=>?_)
  obtain ⟨oc,hoc,hocd⟩:=id z
  refine h { s with heap:=h' } ⟨I.ok,I.os,I.bare,⟨fun b o e n hb hx=>?_,fun b o e n hb hx=>?_,I.base.free,fun b o e hx=>?_,I.base.tups,I.base.frzs,I.base.tbls⟩,⟨m,hn.sameBut hs (Ne.symm (cne x c hc)),fun j y v' e1 e2 e3=>?_⟩,fun y c' e=>?_,I.free,I.freeC,fun p hp=>?_,tracked ⟨oc,hoc,I.freeC x c hc⟩ hs,by simpa using I.len⟩ ⟨c,hs,.inr hc⟩
  ·exact (hs.2 b (aU5 (aT0 (aS4 e) (I.ok.cab x c hfn hc)))).trans (I.base.keep b o e n hb hx)
  ·obtain ⟨sl,e1⟩:=I.base.slot b o e n hb hx
   exact⟨sl,(hs.2 b (aU5 (aT0 (aS4 e) (I.ok.cab x c hfn hc)))).trans e1⟩
  ·obtain ⟨o',e1⟩:=I.base.there b o e hx
   exact⟨o',(hs.2 b (aU5 (aT0 (aS4 e) (I.ok.cab x c hfn hc)))).trans e1⟩
  ·by_cases hj:j=i
   ·subst hj
    rw [hi] at e1; cases e1
    rw [bb2 hiσ] at e2
    cases e2
    exact⟨u,r,.inr ⟨.inl hk,c,hc,hc'⟩⟩
   ·rw [aT8 (Ne.symm hj)] at e2
    obtain ⟨u',r',q⟩:=hl j y v' e1 e2 e3
    refine⟨u',r',?_⟩
    rcases q with q | ⟨k,c',e,z'⟩
    ·exact .inl q
    ·refine .inr ⟨k,c',e,z'.sameBut hs ?_⟩
     rintro rfl
     exact hj (wG hN e1 (I.ok.inj _ _ _ e hc ▸ hi))
  ·by_cases hcc:c'=c
   ·subst hcc; exact⟨_,hc'⟩
   ·obtain ⟨w2,z2⟩:=I.cell y c' e
    exact⟨w2,z2.sameBut hs hcc⟩
  ·obtain ⟨e,n,ne,nf,d⟩:=I.pin p hp
   refine⟨(hs.2 p.1 ?_).trans e,n,ne,nf,d⟩
   intro q
   rw [q,hoc] at e
   have q':oc=p.2:=aT5 e
   exact d w' (by rw [<- q']; exact hocd)
theorem wH {M:Model}{A:Around}{E:Value->Shared->Prop}{i:Nat}{x:Str}{v:V}{u:Value}{Q:Unit->Shared->Prop} (I:a6 X pins σ H s) (hN:X.N.Nodup) (hi:X.N[i]? = some x) (hx:fX X.env.scope x) (r:aQ v u)
  (h:∀ s',a6 X pins (σ.set i (some v)) H s'->Q () s') (hf:X.fn x=true ∨ X.env.scope.names.lookup x=some .local:=by first | exact .inl rfl | exact .inr rfl | assumption):wpAny M A (storeName X.env x u) Q E s:=
 Z2 I hN hi hx r (fun s' I' _=>h s' I') hf
theorem a6.call' {s':Shared}{ch:List Addr} (I:a6 X pins σ H s) (ho:s'.os=s.os) (u:Un (bU X.stack) ch H H' s.heap s'.heap) (hok:bK X.prog X.w H' s'.heap) (hg:AllBare s'.gens)
  (hch:∀ b ∈ ch,(b ∈ X.ex ∨ X.s₀.heap.objs.size<=b)/\b ≠ X.env.locals/\(∀ x c,X.env.cells.lookup x=some c->c ≠ b)/\∀ p ∈ X.pn ++ pins,p.1 ≠ b):a6 X pins σ H' s':=by
 obtain ⟨h',g',d',t',o'⟩:=s'
 have e:o'=s.os:=ho
 subst e
 exact I.call (g':=g') (t':=t') (d':=d') u hok hg hch
end
abbrev XK:=Value->Option Addr->Hp->Prop
abbrev St:=List (Option V)
abbrev VK:=V->Hp->Prop
abbrev TE:=St->Hp->VK->Prop
abbrev TT:=St->Hp->(Bool->Hp->Prop)->Prop
abbrev TA:=St->Hp->(List V->Hp->Prop)->Prop
structure dM where
 nx:St->Hp->Prop
 rt:VK
 bk:St->Hp->Prop:=fun _ _=>False
 ct:St->Hp->Prop:=fun _ _=>False
abbrev TS:=dM->St->Hp->Prop
def EP (X:Cx) (pins:List (Addr × Obj)) (σ:St) (Q:VK) (u:Value) (s':Shared):Prop:=∃ v H',a6 X pins σ H' s'/\aQ v u/\Q v H'
def TP (X:Cx) (pins:List (Addr × Obj)) (σ:St) (Q:Bool->Hp->Prop) (b:Bool) (s':Shared):Prop:=∃ H',a6 X pins σ H' s'/\Q b H'
def AP (X:Cx) (pins:List (Addr × Obj)) (σ:St) (Q:List V->Hp->Prop) (us:List Value) (s':Shared):Prop:=∃ vs H',a6 X pins σ H' s'/\aJ vs us/\Q vs H'
def SP (X:Cx) (pins:List (Addr × Obj)) (D:dM) (f:Flow) (s':Shared):Prop:=
 match f with
 | .next=>∃ σ' H',a6 X pins σ' H' s'/\D.nx σ' H'
 | .brk=>∃ σ' H',a6 X pins σ' H' s'/\D.bk σ' H'
 | .cont=>∃ σ' H',a6 X pins σ' H' s'/\D.ct σ' H'
 | .ret u=>∃ v σ' H',a6 X pins σ' H' s'/\aQ v u/\D.rt v H'
def PE (X:Cx) (e:Expr) (t:TE):Prop:=
 ∀ (pins:List (Addr × Obj)) (s:Shared) (σ:St) (H:Hp) (Q:VK),a6 X pins σ H s->t σ H Q->wpAny (model X.prog X.w) X.A (eval e X.env) (EP X pins σ Q) X.xe s
def PT (X:Cx) (e:Expr) (t:TT):Prop:=
 ∀ (pins:List (Addr × Obj)) (s:Shared) (σ:St) (H:Hp) (Q:Bool->Hp->Prop),a6 X pins σ H s->t σ H Q->wpAny (model X.prog X.w) X.A (isTrue e X.env (eval e X.env)) (TP X pins σ Q) X.xe s
def PW (X:Cx) (e:Expr) (t:TT):Prop:=
 ∀ (whole:Sem Value) (pins:List (Addr × Obj)) (s:Shared) (σ:St) (H:Hp) (Q:Bool->Hp->Prop),a6 X pins σ H s->t σ H Q->wpAny (model X.prog X.w) X.A (isTrue e X.env whole) (TP X pins σ Q) X.xe s
theorem PW.pt {X:Cx}{e:Expr}{t:TT} (h:PW X e t):PT X e t:=h _
def PA (X:Cx) (es:List Expr) (t:TA):Prop:=
 ∀ (pos:Pos) (pins:List (Addr × Obj)) (s:Shared) (σ:St) (H:Hp) (Q:List V->Hp->Prop),a6 X pins σ H s->t σ H Q->wpAny (model X.prog X.w) X.A (spliced (backTo pos (starEach es X.env))) (AP X pins σ Q) X.xe s
def PS (X:Cx) (st:Stmt) (t:TS):Prop:=
 ∀ (pins:List (Addr × Obj)) (s:Shared) (σ:St) (H:Hp) (D:dM),a6 X pins σ H s->t D σ H->wpAny (model X.prog X.w) X.A (exec st X.env) (SP X pins D) X.xe s
def dP (X:Cx) (st:List Stmt) (t:TS):Prop:=
 ∀ (pins:List (Addr × Obj)) (s:Shared) (σ:St) (H:Hp) (D:dM),a6 X pins σ H s->t D σ H->wpAny (model X.prog X.w) X.A (execs st X.env) (SP X pins D) X.xe s
theorem aM {α:Type}{t:Sem α}{Q Q':α->Shared->Prop}{M:Model}{A:Around}{E:Value->Shared->Prop}{s:Shared} (h:wpAny M A t Q E s) (hQ:∀ a s,Q a s->Q' a s):wpAny M A t Q' E s:=aZ8 h hQ fun _ _ x=>x
section
variable {X : Cx}
theorem bin {a b:Expr}{ta tb:TE} (ha:PE X a ta) (hb:PE X b tb) {pins:List (Addr × Obj)}{s:Shared}{σ:St}{H:Hp}{R:V->V->Hp->Prop} (I:a6 X pins σ H s) (h:ta σ H fun x H1=>tb σ H1 fun y H2=>R x y H2)
  {α:Type}{Q:α->Shared->Prop}{f:Value->Value->Sem α}
  (hf:∀ v u s2 x y H2,a6 X pins σ H2 s2->aQ x v->aQ y u->R x y H2->wpAny (model X.prog X.w) X.A (f v u) Q X.xe s2) :
  wpAny (model X.prog X.w) X.A (eval a X.env) (fun v s₁=>wpAny (model X.prog X.w) X.A (eval b X.env) (fun u s₂=>wpAny (model X.prog X.w) X.A (f v u) Q X.xe s₂) X.xe s₁) X.xe s:=by
 refine aM (ha pins s σ H _ I h) fun v s1 ⟨x,H1,I1,r1,q1⟩=>?_
 refine aM (hb pins s1 σ H1 _ I1 q1) fun u s2 ⟨y,H2,I2,r2,q2⟩=>?_
 exact hf v u s2 x y H2 I2 r1 r2 q2
def jX (i:Nat):TE:=fun σ H Q=>∃ v,σ[i]? = some (some v)/\Q v H
def tC (v:V):TE:=fun _ H Q=>Q v H
theorem kZ {i:Nat}{x:Str}{pos:Pos} (hN:X.N[i]? = some x) (hv:iL X.env.scope x) (hd:(x == ("__debug__" : Str))=false:=by decide) (hcd:(x == ("__classdict__" : Str))=false:=by decide):PE X (.Name x pos) (jX i):=by
 intro pins s σ H Q I h
 obtain ⟨v,e,h⟩:=h
 obtain ⟨m,hn,hl⟩:=I.loc
 obtain ⟨u,r,l⟩:=hl i x v hN e hv
 have fin:EP X pins σ Q u s:=⟨v,H,I,r,h⟩
 rcases l with ⟨hk,hm⟩ | ⟨hk,c,hc,hcell⟩
 ·exact wpAny_Name (wpAny_loadName_local I.ok.kind hk hn hm fin) hd
 ·rcases hk with hk | hk
  ·exact wpAny_Name (wpAny_loadName_cell I.ok.kind hk hc hcell fin) hd
  ·exact wpAny_Name (wpAny_loadName_free I.ok.kind hk hc hcell fin hcd) hd
theorem Z3 {i j pos}:PE X (.Constant (.int i) j pos) (tC (.int i)):=fun _ _ _ H _ I h=>wpAny_Constant_int ⟨.int i,H,I.tok _,⟨_,rfl⟩,h⟩
theorem Z4 {b j pos}:PE X (.Constant (.bool b) j pos) (tC (.bl b)):=fun _ _ _ H _ I h=>Constant_bool ⟨.bl b,H,I,rfl,h⟩
theorem Z5 {j pos}:PE X (.Constant .none j pos) (tC .non):=fun _ _ _ H _ I h=>Constant_none ⟨.non,H,I,rfl,h⟩
theorem Z6 {x j pos}:PE X (.Constant (.str x) j pos) (tC (.str x)):=fun _ _ _ H _ I h=>Calls.Constant_str ⟨.str x,H,I.tok _,⟨_,rfl⟩,h⟩
def Gl (X:Cx) (x:Str):Prop:=X.env.kindOf x=some .globalImplicit
theorem rZ {E:Value->Shared->Prop}{pins:List (Addr × Obj)}{s:Shared}{σ:St}{H:Hp}{x:Str}{u:Value}{pos:Pos}{Q:Value->Shared->Prop} (I:a6 X pins σ H s) (hg:Gl X x) (hm:X.mg x=some u) (h:Q u s)
  (hd:(x == ("__debug__" : Str))=false:=by decide):wpAny (model X.prog X.w) X.A (eval (.Name x pos) X.env) Q E s:=
 Calls.Name_function_global I.ok.kind hg (Calls.loadGlobal_global (by rw [I.ok.glob]; exact I.mod.glob.keeps I.bk) hm h) hd
theorem jY {E:Value->Shared->Prop}{pins:List (Addr × Obj)}{s:Shared}{σ:St}{H:Hp}{x:Str}{u:Value}{pos:Pos}{Q:Value->Shared->Prop} (I:a6 X pins σ H s) (hg:Gl X x) (hm:X.mg x=none) (hv:bootBuiltins x=some u) (h:Q u s)
  (hn:x ≠ "__name__":=by decide) (hd:(x == ("__debug__" : Str))=false:=by decide):wpAny (model X.prog X.w) X.A (eval (.Name x pos) X.env) Q E s:=by
 obtain ⟨mb,h1,h2⟩:=I.mod.blt
 exact Calls.Name_function_global I.ok.kind hg (Calls.loadGlobal_builtin (by rw [I.ok.glob]; exact I.mod.glob.keeps I.bk) hm (by rw [I.ok.blt]; exact h1.keeps I.bk) ((h2 x hn).trans hv) h) hd
theorem Z7 {x:Str}{v:V}{u:Value}{pos:Pos} (hg:Gl X x) (hm:X.mg x=some u) (r:aQ v u) (hd:(x == ("__debug__" : Str))=false:=by decide):PE X (.Name x pos) (tC v):=
 fun _ _ _ H _ I h=>rZ I hg hm ⟨v,H,I,r,h⟩ hd
theorem Z8 {x:Str}{v:V}{u:Value}{pos:Pos} (hg:Gl X x) (hm:X.mg x=none) (hv:bootBuiltins x=some u) (r:aQ v u) (hn:x ≠ "__name__":=by decide) (hd:(x == ("__debug__" : Str))=false:=by decide):PE X (.Name x pos) (tC v):=
 fun _ _ _ H _ I h=>jY I hg hm hv ⟨v,H,I,r,h⟩ hn hd
variable {a b : Expr} {ta tb : TE} {pos : Pos}
def PC (X:Cx) (op:CmpOp) (a b:Expr) (t:TE):Prop:=
 ∀ (pins:List (Addr × Obj)) (s:Shared) (σ:St) (H:Hp) (Q:VK),a6 X pins σ H s->t σ H Q->
  wpAny (model X.prog X.w) X.A (eval a X.env) (fun v s₁=>wpAny (model X.prog X.w) X.A (eval b X.env) (fun u s₂=>wpAny (model X.prog X.w) X.A (compareOp op v u) (EP X pins σ Q) X.xe s₂) X.xe s₁) X.xe s
def tB (t:TE):TT:=fun σ H Q=>t σ H fun x H1=>∃ c,x = .bl c/\Q c H1
theorem Z9 {op:CmpOp}{t:TE} (h:PC X op a b t) (h1:behindInMarks op b=false:=by first | exact nobehind _ (by decide) (by decide) | rfl):PT X (.Compare a [op] [b] pos) (tB t):=by
 intro pins s σ H Q I hw
 refine wpAny_isTrue_Compare1 (aM (h pins s σ H _ I hw) fun v s1 h1=>aM h1 fun u s2 h2=>aM h2 fun c s3 ⟨x,H1,I1,r1,q1⟩=>?_) h1
 obtain ⟨d,rfl,q⟩:=q1
 cases r1
 exact ba3 ⟨H1,I1,q⟩
theorem aa0 {e:Expr}{t:TE} (h:PE X e t) (he:∀ whole,isTrue e X.env whole=(do let v <- whole; standAt e.pos; holding [v] (truthy v)):=by intro _; rfl):PT X e (tB t):=by
 intro pins s σ H Q I hw
 refine isTrue_plain (aM (h pins s σ H _ I hw) fun v s1 ⟨x,H1,I1,r1,q1⟩=>?_) (he _)
 obtain ⟨d,rfl,q⟩:=q1
 cases r1
 exact ba3 ⟨H1,I1,q⟩
variable {tA tB' : TT} {cG : List Expr}
def wI (t u:TT):TT:=fun σ H Q=>t σ H fun c H1=>if c=true then u σ H1 Q else Q false H1
def wJ (t u:TT):TT:=fun σ H Q=>t σ H fun c H1=>if c=true then Q true H1 else u σ H1 Q
def wK (t:TT):TT:=fun σ H Q=>t σ H fun c H1=>Q (!c) H1
theorem aa1 (ha:PT X a tA):PW X (.BoolOp .And [a] pos) tA:=by
 intro wh pins s σ H Q I h
 refine isTrue_and (aM (ha pins s σ H Q I h) fun c s1 e=>?_)
 cases c with
 | true=>exact isTrue_and_nil e
 | false=>exact e
theorem aa2 (ha:PT X a tA):PW X (.BoolOp .Or [a] pos) tA:=by
 intro wh pins s σ H Q I h
 refine isTrue_or (aM (ha pins s σ H Q I h) fun c s1 e=>?_)
 cases c with
 | false=>exact isTrue_or_nil e
 | true=>exact e
theorem aa3 (ha:PT X a tA) (hb:PW X (.BoolOp .And (b :: cG) pos) tB'):PW X (.BoolOp .And (a :: b :: cG) pos) (wI tA tB'):=by
 intro wh pins s σ H Q I h
 refine isTrue_and (aM (ha pins s σ H _ I h) fun c s1 ⟨H1,I1,q1⟩=>?_)
 cases c with
 | true=>exact hb wh pins s1 σ H1 Q I1 q1
 | false=>exact⟨H1,I1,q1⟩
theorem aa4 (ha:PT X a tA) (hb:PW X (.BoolOp .Or (b :: cG) pos) tB'):PW X (.BoolOp .Or (a :: b :: cG) pos) (wJ tA tB'):=by
 intro wh pins s σ H Q I h
 refine isTrue_or (aM (ha pins s σ H _ I h) fun c s1 ⟨H1,I1,q1⟩=>?_)
 cases c with
 | true=>exact⟨H1,I1,q1⟩
 | false=>exact hb wh pins s1 σ H1 Q I1 q1
theorem aa5 (ha:PT X a tA):PT X (.UnaryOp .Not a pos) (wK tA):=by
 intro pins s σ H Q I h
 exact isTrue_not (ha pins s σ H (fun c H1=>Q (!c) H1) I h)
def wL (ta tb:TE):TE:=fun σ H Q=>ta σ H fun x H1=>∃ c,x = .bl c/\if c=true then tb σ H1 Q else Q (.bl false) H1
def wM (ta:TE):TE:=fun σ H Q=>ta σ H fun x H1=>∃ c,x = .bl c/\Q (.bl (!c)) H1
theorem aa6 {op}{t:TE} (h:PE X a t):PE X (.BoolOp op [a] pos) t:=fun pins s σ H Q I hw=>BoolOp_one (h pins s σ H Q I hw)
theorem aa7 (ha:PE X a ta) (hb:PE X (.BoolOp .And (b :: cG) pos) tb):PE X (.BoolOp .And (a :: b :: cG) pos) (wL ta tb):=by
 intro pins s σ H Q I h
 refine BoolOp_and (aM (ha pins s σ H _ I h) fun v s1 ⟨x,H1,I1,r1,q1⟩=>?_)
 obtain ⟨c,rfl,q1⟩:=q1
 cases r1
 refine ba3 ?_
 cases c with
 | true=>exact hb pins s1 σ H1 Q I1 q1
 | false=>exact⟨.bl false,H1,I1,rfl,q1⟩
theorem aa8 (ha:PE X a ta):PE X (.UnaryOp .Not a pos) (wM ta):=by
 intro pins s σ H Q I h
 refine UnaryOp_ (aM (ha pins s σ H _ I h) fun v s1 ⟨x,H1,I1,r1,q1⟩=>?_)
 obtain ⟨c,rfl,q1⟩:=q1
 cases r1
 exact not_of (ba3 ⟨.bl (!c),H1,I1,rfl,q1⟩)
end
def aP (K:PySem.W.Frag) (H:Hp) (a:Addr) (xs:List V):Prop:=
 Rd H a (.lst xs) ∨
  ∃ (o:Obj) (its:Array Value) (n:Nat),K.lookup a=some o/\o.cls = .type "list"/\o.dict=none/\o.data = .seq its n/\its.size<=sizeLine/\aJ xs its.toList
def aN (K:PySem.W.Frag) (H:Hp) (a:Addr) (xs:List V):Prop:=
 Rd H a (.tup xs) ∨
  ∃ (o:Obj) (its:Array Value) (n:Nat),K.lookup a=some o/\o.cls = .type "tuple"/\o.data = .seq its n/\its.size<=sizeLine/\aJ xs its.toList
def aa9:Value->Option V
 | .none=>some .non
 | .bool b=>some (.bl b)
 | .int i _=>some (.int i)
 | .str x _=>some (.str x)
 | .bytes b _=>some (.byt b)
 | .float b _=>some (.flt b)
 | .ref a=>some (.ref a)
 | .type n=>some (.ty n)
 | _=>none
theorem aQ.abs {x:V}{u:Value} (r:aQ x u):aa9 u=some x:=by
 cases x with
 | non=>cases r; rfl
 | bl _=>cases r; rfl
 | int _=>obtain ⟨t,rfl⟩:=r; rfl
 | str _=>obtain ⟨t,rfl⟩:=r; rfl
 | byt _=>obtain ⟨t,rfl⟩:=r; rfl
 | flt _=>obtain ⟨t,rfl⟩:=r; rfl
 | ref _=>cases r; rfl
 | ty _=>cases r; rfl
theorem aQ.inj {x y:V}{u:Value} (r:aQ x u) (q:aQ y u):x=y:=aT5 (r.abs.symm.trans q.abs)
theorem aJ.inj:∀ {xs ys:List V}{us:List Value},aJ xs us->aJ ys us->xs=ys
 | _,_,_,.nil,.nil=>rfl
 | _,_,_,.cons r t,.cons r' t'=>by rw [r.inj r',aJ.inj t t']
section
variable {X : Cx} {pins : List (Addr × Obj)} {σ : St} {H : Hp} {s : Shared} {a : Addr} {xs ys : List V}
theorem aP.of {K:PySem.W.Frag} (h:H a=some (.lst xs)):aP K H a xs:=.inl (.inl h)
theorem aN.of {K:PySem.W.Frag} (h:H a=some (.tup xs)):aN K H a xs:=.inl (.inl h)
theorem a6.list (I:a6 X pins σ H s) (h:aP X.K H a xs):∃ its:List Value,aJ xs its/\PlainL s.heap a its.toArray/\xs.length<=sizeLine:=by
 rcases h with h | ⟨o,its,n,hk,hc,hd,hs,hz,r⟩
 ·obtain ⟨z,its,n,r,e⟩:=h.ok I.hok
  exact⟨its,r,⟨_,n,e,rfl,rfl,rfl⟩,z⟩
 ·refine⟨its.toList,r,⟨o,n,I.kIn a o hk,hc,hd,by simpa using hs⟩,?_⟩
  have e:=r.length
  simp only [aW1] at e
  omega
theorem a6.tuple (I:a6 X pins σ H s) (h:aN X.K H a xs):∃ its:List Value,aJ xs its/\IsTup s.heap a its.toArray/\xs.length<=sizeLine:=by
 rcases h with h | ⟨o,its,n,hk,hc,hs,hz,r⟩
 ·obtain ⟨z,its,r,p,_⟩:=h.ok I.hok
  exact⟨its,r,p,z⟩
 ·refine⟨its.toList,r,⟨o,I.kIn a o hk,hc,n,by simpa using hs⟩,?_⟩
  have e:=r.length
  simp only [aW1] at e
  omega
theorem a6.list_inj (I:a6 X pins σ H s) (h:aP X.K H a xs) (h':aP X.K H a ys):xs=ys:=by
 obtain ⟨its,r,⟨o,n,e,_,_,d⟩,_⟩:=I.list h
 obtain ⟨its',r',⟨o',n',e',_,_,d'⟩,_⟩:=I.list h'
 rw [e] at e'; cases e'
 rw [d] at d'
 injection d' with d1 _
 have:its=its':=by simpa using congrArg Array.toList d1
 subst this
 exact r.inj r'
theorem a6.tuple_inj (I:a6 X pins σ H s) (h:aN X.K H a xs) (h':aN X.K H a ys):xs=ys:=by
 obtain ⟨its,r,⟨o,e,_,n,d⟩,_⟩:=I.tuple h
 obtain ⟨its',r',⟨o',e',_,n',d'⟩,_⟩:=I.tuple h'
 rw [e] at e'; cases e'
 rw [d] at d'
 injection d' with d1 _
 have:its=its':=by simpa using congrArg Array.toList d1
 subst this
 exact r.inj r'
end
abbrev Cx.wish (X:Cx) (E:Value->Shared->Prop):Cx:={ X with xe:=E }
abbrev Cx.nox (X:Cx):Cx:=X.wish fun _ _=>False
theorem Cx.Ok.wish {X:Cx} (ok:X.Ok) (E:Value->Shared->Prop):(X.wish E).Ok:=
 ⟨ok.mod,ok.kind,ok.glob,ok.blt,ok.above,ok.inj,ok.has,ok.cab,ok.hd,ok.frames,ok.stk,ok.exf,ok.bs,ok.bsz,ok.noex,ok.exfs,ok.funs,ok.frf⟩
theorem Cx.Ok.unwish {X:Cx}{E:Value->Shared->Prop} (ok:(X.wish E).Ok):X.Ok:=
 ⟨ok.mod,ok.kind,ok.glob,ok.blt,ok.above,ok.inj,ok.has,ok.cab,ok.hd,ok.frames,ok.stk,ok.exf,ok.bs,ok.bsz,ok.noex,ok.exfs,ok.funs,ok.frf⟩
section
variable {X : Cx} {pins : List (Addr × Obj)} {σ : St} {H : Hp} {s : Shared} {E : Value → Shared → Prop}
theorem a6.wish (I:a6 X pins σ H s) (E:Value->Shared->Prop):a6 (X.wish E) pins σ H s:=⟨I.ok.wish E,I.os,I.bare,I.base,I.loc,I.cell,I.free,I.freeC,I.pin,I.hok,I.len⟩
theorem a6.unwish (I:a6 (X.wish E) pins σ H s):a6 X pins σ H s:=⟨I.ok.unwish,I.os,I.bare,I.base,I.loc,I.cell,I.free,I.freeC,I.pin,I.hok,I.len⟩
theorem SP.unwish {D:dM}{f:Flow}{s':Shared} (h:SP (X.wish E) pins D f s'):SP X pins D f s':=by
 cases f with
 | next=>obtain ⟨σ',H',I,q⟩:=h; exact⟨σ',H',I.unwish,q⟩
 | brk=>obtain ⟨σ',H',I,q⟩:=h; exact⟨σ',H',I.unwish,q⟩
 | cont=>obtain ⟨σ',H',I,q⟩:=h; exact⟨σ',H',I.unwish,q⟩
 | ret u=>obtain ⟨v,σ',H',I,r,q⟩:=h; exact⟨v,σ',H',I.unwish,r,q⟩
theorem dP.nox {st:List Stmt}{t:TS} (h:dP X.nox st t):dP X st t:=fun pins s σ H D I hw=>
 aZ8 (h pins s σ H D (I.wish _) hw) (fun _ _ q=>q.unwish) fun _ _ z=>False.elim z
end
section
variable {X : Cx} {st : Stmt} {cG : List Stmt} {t u : TS} {e : Expr} {te : TE} {pos : Pos}
def wN:TS:=fun D σ H=>D.nx σ H
def wO (t u:TS):TS:=fun D σ H=>t { D with nx:=u D } σ H
theorem ab0:dP X [] wN:=fun _ _ σ H _ I h=>wpAny_execs_nil ⟨σ,H,I,h⟩
theorem ab1 (h1:PS X st t) (h2:dP X cG u):dP X (st :: cG) (wO t u):=by
 intro pins s σ H D I h
 refine wpAny_execs_cons (aM (h1 pins s σ H { D with nx:=u D } I h) fun f s1 q=>?_)
 cases f with
 | next=>
  obtain ⟨σ',H',I',q⟩:=q
  exact h2 pins s1 σ' H' D I' q
 | ret v=>exact q
 | brk=>exact q
 | cont=>exact q
theorem ab2 (h1:PS X st t):dP X [st] t:=by
 intro pins s σ H D I h
 refine wpAny_execs_cons (aM (h1 pins s σ H D I h) fun f s1 q=>?_)
 cases f with
 | next=>exact wpAny_execs_nil q
 | ret v=>exact q
 | brk=>exact q
 | cont=>exact q
theorem a6.quiet {pins:List (Addr × Obj)}{σ:St}{H:Hp}{s:Shared} (I:a6 X pins σ H s):interactive X.env=false:=by simp [interactive,I.ok.kind]
def l0 (te:TE):TS:=fun D σ H=>te σ H fun _ H1=>D.nx σ H1
theorem mE (he:PE X e te) (hs:swapsWith e none pos.line X.env=pure false:=by rfl):PS X (.Expr e pos) (l0 te):=by
 intro pins s σ H D I h
 exact wpAny_Expr_any (aM (he pins s σ H _ I h) fun v s1 ⟨x,H1,I1,r1,q1⟩=>⟨σ,H1,I1,q1⟩) I.quiet hs
def sA (te:TE):TS:=fun D σ H=>te σ H D.rt
theorem wP (he:PE X e te):PS X (.Return (some e) pos) (sA te):=by
 intro pins s σ H D I h
 exact wpAny_Return_some (aM (he pins s σ H _ I h) fun v s1 ⟨x,H1,I1,r1,q1⟩=>⟨x,σ,H1,I1,r1,q1⟩)
def wQ (c:TT) (t u:TS):TS:=fun D σ H=>c σ H fun b H1=>if b=true then t D σ H1 else u D σ H1
theorem ab3 {c:Expr}{a b:List Stmt}{tc:TT} (hc:PT X c tc) (ha:dP X a t) (hb:dP X b u):PS X (.If c a b pos) (wQ tc t u):=by
 intro pins s σ H D I h
 refine wpAny_If (aM (hc pins s σ H _ I h) fun d s1 ⟨H1,I1,q1⟩=>?_)
 cases d with
 | true=>exact ha pins s1 σ H1 D I1 q1
 | false=>exact hb pins s1 σ H1 D I1 q1
end
abbrev TG:=V->St->Hp->(St->Hp->Prop)->Prop
abbrev jZ:=List V->St->Hp->(St->Hp->Prop)->Prop
def PG (X:Cx) (target:Expr) (t:TG):Prop:=
 ∀ (pins:List (Addr × Obj)) (s:Shared) (σ:St) (H:Hp) (v:V) (u:Value) (Q:St->Hp->Prop),a6 X pins σ H s->aQ v u->t v σ H Q->
  wpAny (model X.prog X.w) X.A (assign target X.env u) (fun _ s'=>∃ σ' H',a6 X pins σ' H' s'/\Q σ' H') X.xe s
def oC (X:Cx) (ts:List Expr) (t:jZ):Prop:=
 ∀ (pins:List (Addr × Obj)) (s:Shared) (σ:St) (H:Hp) (vs:List V) (us:List Value) (Q:St->Hp->Prop),a6 X pins σ H s->aJ vs us->t vs σ H Q->
  wpAny (model X.prog X.w) X.A (assignInOrder ((assignEach ts X.env).map (·.2)) us) (fun _ s'=>∃ σ' H',a6 X pins σ' H' s'/\Q σ' H') X.xe s
section
variable {X : Cx} {pos : Pos}
def dD (i:Nat):TG:=fun v σ H Q=>Q (σ.set i (some v)) H
theorem fY {i:Nat}{x:Str} (hN:X.N.Nodup) (hi:X.N[i]? = some x) (hx:fX X.env.scope x) (hf:X.fn x=true ∨ X.env.scope.names.lookup x=some .local:=by first | exact .inl rfl | exact .inr rfl | assumption):PG X (.Name x pos) (dD i):=by
 intro pins s σ H v u Q I r h
 exact wpAny_assign_Name (wH I hN hi hx r (fun s' I'=>⟨_,H,I',h⟩) hf)
def l4:jZ:=fun vs σ H Q=>vs = []/\Q σ H
def fB (t:TG) (u:jZ):jZ:=fun vs σ H Q=>∃ v r,vs=v :: r/\t v σ H fun σ' H'=>u r σ' H' Q
theorem oD:oC X [] l4:=by
 intro pins s σ H vs us Q I r h
 obtain ⟨e,h⟩:=h
 subst e
 cases r
 exact assignInOrder_nil ⟨σ,H,I,h⟩
theorem i5 {e:Expr}{es:List Expr}{t:TG}{u:jZ} (h1:PG X e t) (h2:oC X es u)
  (hs:(assignEach (e :: es) X.env).map (·.2)=assign e X.env :: (assignEach es X.env).map (·.2):=by rfl):oC X (e :: es) (fB t u):=by
 intro pins s σ H vs us Q I r h
 obtain ⟨v,vr,e1,h⟩:=h
 subst e1
 cases r with
 | cons r rr=>
  rw [hs]
  refine assignInOrder_cons (aM (h1 pins s σ H _ _ _ I r h) fun _ s1 ⟨σ1,H1,I1,q1⟩=>?_)
  exact h2 pins s1 σ1 H1 _ _ Q I1 rr q1
def l5 (K:PySem.W.Frag) (n:Nat) (t:jZ):TG:=fun v σ H Q=>∃ a xs,v = .ref a/\aN K H a xs/\xs.length=n/\t xs σ H Q
theorem oE {es:List Expr}{k:Nat}{t:jZ}{n:Nat} (hc:X.calm=true) (h:oC X es t)
  (hn:(assignEach es X.env).length=n:=by rfl) (hst:(assignEach es X.env).findIdx? (·.1)=none:=by rfl):PG X (.Tuple es k pos) (l5 X.K n t):=by
 intro pins s σ H v u Q I r hw
 obtain ⟨a,xs,e1,hq,hl,hw⟩:=hw
 subst e1
 cases r
 obtain ⟨its,rv,ht,hz⟩:=I.tuple hq
 refine assign_Tuple_tuple (I.ok.hd hc) ht (by simp [hn,<- hl,rv.length]) hst fun h' hx=>?_
 have I1:a6 X pins σ H { s with heap:=h' }:=I.kept (t':=s.toks) fun b o e=>hx b o (aU5 (aS4 e)) e
 exact h pins _ σ H xs _ Q I1 (by simpa using rv) hw
def mF (te:TE) (g:TG):TS:=fun D σ H=>te σ H fun x H1=>g x σ H1 D.nx
theorem wR {tg e:Expr}{te:TE}{g:TG} (he:PE X e te) (hg:PG X tg g) (hs:swapsWithSole [tg] e pos.line X.env=pure false:=by rfl) (hw:swappedStores [tg] e X.env=pure none:=by rfl)
  (h1:(assignEach [tg] X.env).map (·.2) = [assign tg X.env]:=by rfl):PS X (.Assign [tg] e pos) (mF te g):=by
 intro pins s σ H D I h
 refine wpAny_Assign_stores (aM (he pins s σ H _ I h) fun v s1 ⟨x,H1,I1,r1,q1⟩=>?_) hs hw
 rw [h1]
 exact aM (hg pins s1 σ H1 x v _ I1 r1 q1) fun _ s2 q=>q
theorem wS {i:Nat}{x:Str}{e:Expr}{te:TE}{pos':Pos} (hN:X.N.Nodup) (hi:X.N[i]? = some x) (hx:fX X.env.scope x) (he:PE X e te) (hs:swapsWith e (some (.Name x pos')) pos.line X.env=pure false:=by rfl) (hf:X.fn x=true ∨ X.env.scope.names.lookup x=some .local:=by first | exact .inl rfl | exact .inr rfl | assumption) :
  PS X (.Assign [.Name x pos'] e pos) (mF te (dD i)):=by
 intro pins s σ H D I h
 refine wpAny_Assign_Name (aM (he pins s σ H _ I h) fun v s1 ⟨y,H1,I1,r1,q1⟩=>?_) hs
 exact wH I1 hN hi hx r1 (fun s2 I2=>⟨_,H1,I2,q1⟩) hf
end
section
variable {X : Cx} {pos : Pos}
def wT (c:TT) (tb:TS):TS:=fun D σ H=>∃ W:Nat->St->Hp->Prop,(∃ m,W m σ H)/\∀ m σ H,W m σ H->
 c σ H fun b H1=>if b=true then ∃ N:St->Hp->Prop,(∀ σ' H',N σ' H'->∃ m',m' < m/\W m' σ' H')/\tb { D with nx:=N,ct:=N,bk:=D.nx } σ H1 else D.nx σ H1
theorem ab4 {c:Expr}{body:List Stmt}{tc:TT}{tb:TS} (hp:PassesOwn (model X.prog X.w) X.A X.env X.xe) (hc:PT X c tc) (hb:dP X body tb):PS X (.While c body [] pos) (wT tc tb):=by
 intro pins s σ H D I h
 obtain ⟨W,⟨m0,w0⟩,turn⟩:=h
 refine wpAny_While (codeAny_whileLoop (fun n s'=>∃ σ' H',a6 X pins σ' H' s'/\W n σ' H') ?_ m0 ⟨σ,H,I,w0⟩)
 rintro n s1 ⟨σ1,H1,I1,w1⟩
 refine bf2 hp (aM (hc pins s1 σ1 H1 _ I1 (turn n σ1 H1 w1)) fun b s2 ⟨H2,I2,q2⟩=>?_)
 cases b with
 | true=>
  obtain ⟨N,hN,q2⟩:=q2
  rw [if_pos rfl]
  refine bf2 hp (aM (hb pins s2 σ1 H2 _ I2 q2) fun f s3 q3=>?_)
  cases f with
  | next=>
   obtain ⟨σ3,H3,I3,n3⟩:=q3
   obtain ⟨m',hm,w3⟩:=hN σ3 H3 n3
   exact⟨m',hm,σ3,H3,I3,w3⟩
  | cont=>
   obtain ⟨σ3,H3,I3,n3⟩:=q3
   obtain ⟨m',hm,w3⟩:=hN σ3 H3 n3
   exact⟨m',hm,σ3,H3,I3,w3⟩
  | brk=>exact q3
  | ret v=>exact q3
 | false=>
  rw [if_neg aT3]
  exact wpAny_execs_nil ⟨σ1,H2,I2,q2⟩
end
structure It where
 go:Nat->Hp->Prop
 yld:Nat->Hp->V->Hp->Prop
 stop:Nat->Hp->Prop
def fD (X:Cx) (pins:List (Addr × Obj)) (H:Hp) (b:Addr):Prop:=
 H b=none/\b ≠ X.env.locals/\b ∉ X.fs/\(b ∈ X.ex ∨ X.s₀.heap.objs.size<=b)/\(∀ x c,X.env.cells.lookup x=some c->c ≠ b)/\∀ p ∈ X.pn ++ pins,p.1 ≠ b
theorem a6.fpOk {X:Cx}{pins:List (Addr × Obj)}{σ:St}{H H':Hp}{s:Shared}{b:Addr} (I:a6 X pins σ H s) (hb:s.heap.objs.size<=b) (hn:H' b=none):fD X pins H' b:=by
 refine⟨hn,bb3 (aT0 I.lt hb),I.nofs hb,.inr (aU8 I.sz hb),fun x c e z=>?_,fun p hp z=>?_⟩
 ·obtain ⟨v,q⟩:=I.cell x c e
  exact absurd (aT0 q.lt (by rw [z]; exact hb)) (aZ0 _)
 ·exact absurd (aT0 (aS4 (I.pin p hp).1) (by rw [z]; exact hb)) (aZ0 _)
structure i6 (P:Program) (w:World) (K:PySem.W.Frag) (tg:Expr) (J:It) (fp:List Addr) (it:Addr) (tn:Nat->Heap->Prop):Prop where
 mem:it ∈ fp
 obj:∀ i h,tn i h->∀ b ∈ fp,∃ o,h.get? b=some o/\∀ v,o.data ≠ .cell v
 keep:∀ i h h',tn i h->(∀ b ∈ fp,∀ o,h.get? b=some o->h'.get? b=some o)->tn i h'
 item:∀ (X:Cx),X.prog=P->X.w=w->X.K=K->X.calm=true->∀ (i:Nat) (pins:List (Addr × Obj)) (s:Shared) (σ:St) (H:Hp) (E:Value->Shared->Prop),a6 X pins σ H s->(∀ b ∈ fp,fD X pins H b)->tn i s.heap->J.go i H->
  wpAny (model P w) X.A (pyNext (.ref it)) (fun r s1=>∃ u,r=some u/\
   wpAny (model P w) X.A (letOwnedTupleGo tg (.ref it) u) (fun _ s2=>∃ x H',a6 X pins σ H' s2/\aQ x u/\J.yld i H x H'/\tn (i+1) s2.heap/\∀ b ∈ fp,H' b=none) E s1) E s
 done:∀ (X:Cx),X.prog=P->X.w=w->X.K=K->X.calm=true->∀ (i:Nat) (pins:List (Addr × Obj)) (s:Shared) (σ:St) (H:Hp) (E:Value->Shared->Prop),a6 X pins σ H s->(∀ b ∈ fp,fD X pins H b)->tn i s.heap->J.stop i H->
  wpAny (model P w) X.A (pyNext (.ref it)) (fun r s1=>r=none/\a6 X pins σ H s1) E s
 self:∀ (A:Around) (i:Nat) (s:Shared) (Q:Value->Shared->Prop) (E:Value->Shared->Prop),tn i s.heap->Q (.ref it) s->wpAny (model P w) A (pyIter (.ref it)) Q E s
abbrev TI:=St->Hp->(It->Hp->Prop)->Prop
def wU (X:Cx) (pins:List (Addr × Obj)) (σ:St) (tg:Expr) (R:It->Hp->Prop) (itv:Value) (s2:Shared):Prop:=
 ∃ (it:Addr) (fp:List Addr) (tn:Nat->Heap->Prop) (J:It) (H':Hp),itv = .ref it/\a6 X pins σ H' s2/\i6 X.prog X.w X.K tg J fp it tn/\tn 0 s2.heap/\(∀ b ∈ fp,fD X pins H' b)/\R J H'
def PI (X:Cx) (tg iter:Expr) (wi:TI):Prop:=
 ∀ (pins:List (Addr × Obj)) (s:Shared) (σ:St) (H:Hp) (R:It->Hp->Prop),a6 X pins σ H s->wi σ H R->
  wpAny (model X.prog X.w) X.A (eval iter X.env) (fun v s1=>wpAny (model X.prog X.w) X.A (pyIter v) (wU X pins σ tg R) X.xe s1) X.xe s
theorem sB {M:Model}{A:Around}{E:Value->Shared->Prop}{s:Shared}{tg:Expr}{it:Addr}{u:Value}{o:Obj}{n:String}{vs:Array Value}{Q:Unit->Shared->Prop} (ho:s.heap.get? it=some o) (hc:o.cls = .type n) (hd:o.data = .fields vs)
    (hn : ["enumerate","zip","dict_itemiterator","dict_reverseitemiterator","odict_iterator","itertools.zip_longest","itertools.pairwise"].contains n=false) (hQ:Q () s):wpAny M A (letOwnedTupleGo tg (.ref it) u) Q E s:=by
  unfold letOwnedTupleGo
  cases tg <;> first
    | exact aR3 hQ
    | (cases u <;> first
        | exact aR3 hQ
        | (refine aQ7 (wpAny_load ho ?_)
           rw [hc,hd]
           show wpAny M A (if (["enumerate","zip","dict_itemiterator","dict_reverseitemiterator","odict_iterator","itertools.zip_longest","itertools.pairwise"].contains n && vs[0]? == some (rawInt _))=true then _ else _) Q E s
           rw [if_neg (by intro h; rw [hn,bb8] at h; cases h)]
           exact aR3 hQ))
def sD (K:PySem.W.Frag) (a:Addr):It:=
 ⟨fun i H=>∃ xs x,aP K H a xs/\xs[i]? = some x,fun i H x H'=>H'=H/\∀ xs,aP K H a xs->xs[i]? = some x,fun i H=>∃ xs,aP K H a xs/\xs.length<=i⟩
def sE (K:PySem.W.Frag) (a:Addr):It:=
 ⟨fun i H=>∃ xs x,aN K H a xs/\xs[i]? = some x,fun i H x H'=>H'=H/\∀ xs,aN K H a xs->xs[i]? = some x,fun i H=>∃ xs,aN K H a xs/\xs.length<=i⟩
def mG (lo:Int) (n:Nat):It:=⟨fun i _=>i < n,fun i H x H'=>H'=H/\x = .int (lo+i),fun i _=>n<=i⟩
theorem ab5 {P:Program}{w:World}{K:PySem.W.Frag}{tg:Expr} (a it:Addr):i6 P w K tg (sD K a) [it] it (fun i h=>h.IsListIter it a i) where
 mem:=by simp
 obj:=fun i h st b hb=>by
  have e:b=it:=by simpa using hb
  subst e
  obtain ⟨o,e,c,d⟩:=st
  exact⟨o,e,fun v z=>by rw [d] at z; cases z⟩
 keep:=fun i h h' st k=>st.at fun o e=>k it (by simp) o e
 item:=by
  intro X hP hw hK hc i pins s σ H E I hf st hg
  subst hP hw hK
  obtain ⟨xs,x,hq,hx⟩:=hg
  obtain ⟨its,rv,p,hz⟩:=I.list hq
  obtain ⟨u,hu,ru⟩:=rv.get hx
  obtain ⟨f0,f1,f2,f3,f4,f5⟩:=hf it (by simp)
  refine wpAny_pyNext_list_item st p.isList (x:=u) (by simpa using hu) fun h' st' sb=>?_
  have I1:a6 X pins σ H { s with heap:=h' }:=I.turned (t':=s.toks) (fun b o hb e=>(sb.2 b hb).trans e) f0 f1 f3 f4 f5
  obtain ⟨o,e,c,d⟩:=id st'
  exact⟨u,rfl,sB (s:={ s with heap:=h' }) e c d (by decide) ⟨x,H,I1,ru,⟨rfl,fun ys hy=>by rw [I.list_inj hy hq]; exact hx⟩,st',fun b hb=>(hf b hb).1⟩⟩
 done:=by
  intro X hP hw hK hc i pins s σ H E I hf st hg
  subst hP hw hK
  obtain ⟨xs,hq,hx⟩:=hg
  obtain ⟨its,rv,p,hz⟩:=I.list hq
  obtain ⟨f0,f1,f2,f3,f4,f5⟩:=hf it (by simp)
  have hl:=rv.length
  exact wpAny_pyNext_list_end (I.ok.hd hc) st p.isList (by simp; omega) fun h' eb=>⟨rfl,I.turned (t':=s.toks) (fun b o hb e=>eb b o hb e) f0 f1 f3 f4 f5⟩
 self:=fun _ _ _ _ _ st h=>wpAny_pyIter_listiter st h
theorem ab6 {P:Program}{w:World}{K:PySem.W.Frag}{tg:Expr} (a it:Addr):i6 P w K tg (sE K a) [it] it (fun i h=>h.IsTupleIter it a i) where
 mem:=by simp
 obj:=fun i h st b hb=>by
  have e:b=it:=by simpa using hb
  subst e
  obtain ⟨o,e,c,d⟩:=st
  exact⟨o,e,fun v z=>by rw [d] at z; cases z⟩
 keep:=fun i h h' st k=>st.at fun o e=>k it (by simp) o e
 item:=by
  intro X hP hw hK hc i pins s σ H E I hf st hg
  subst hP hw hK
  obtain ⟨xs,x,hq,hx⟩:=hg
  obtain ⟨its,rv,p,hz⟩:=I.tuple hq
  obtain ⟨u,hu,ru⟩:=rv.get hx
  obtain ⟨f0,f1,f2,f3,f4,f5⟩:=hf it (by simp)
  refine wpAny_pyNext_tuple_item st (show s.heap.IsTuple a its.toArray from p) (x:=u) (by simpa using hu) fun h' st' sb=>?_
  have I1:a6 X pins σ H { s with heap:=h' }:=I.turned (t':=s.toks) (fun b o hb e=>(sb.2 b hb).trans e) f0 f1 f3 f4 f5
  obtain ⟨o,e,c,d⟩:=id st'
  exact⟨u,rfl,sB (s:={ s with heap:=h' }) e c d (by decide) ⟨x,H,I1,ru,⟨rfl,fun ys hy=>by rw [I.tuple_inj hy hq]; exact hx⟩,st',fun b hb=>(hf b hb).1⟩⟩
 done:=by
  intro X hP hw hK hc i pins s σ H E I hf st hg
  subst hP hw hK
  obtain ⟨xs,hq,hx⟩:=hg
  obtain ⟨its,rv,p,hz⟩:=I.tuple hq
  obtain ⟨f0,f1,f2,f3,f4,f5⟩:=hf it (by simp)
  have hl:=rv.length
  exact wpAny_pyNext_tuple_end (I.ok.hd hc) st (show s.heap.IsTuple a its.toArray from p) (by simp; omega) fun h' eb=>⟨rfl,I.turned (t':=s.toks) (fun b o hb e=>eb b o hb e) f0 f1 f3 f4 f5⟩
 self:=fun _ _ _ _ _ st h=>wpAny_pyIter_tupleiter st h
theorem ab7 {P:Program}{w:World}{K:PySem.W.Frag}{tg:Expr} (it:Addr) (lo:Int) (n:Nat):i6 P w K tg (mG lo n) [it] it (fun i h=>IsRangeIter h it (lo+(i:Nat) * 1) ((n:Int) - (i:Nat)) 1) where
 mem:=by simp
 obj:=fun i h st b hb=>by
  have e:b=it:=by simpa using hb
  subst e
  exact⟨_,st,fun v z=>by
   have z':Data.fields _=Data.cell v:=z
   cases z'⟩
 keep:=fun i h h' st k=>k it (by simp) _ st
 item:=by
  intro X hP hw hK hc i pins s σ H E I hf st hg
  subst hP hw hK
  obtain ⟨f0,f1,f2,f3,f4,f5⟩:=hf it (by simp)
  have W:=Walks.range (prog:=X.prog) (w:=X.w) (I.ok.hd hc) it lo 1 n
  refine W.item i s _ _ hg st fun v h' tk hv st' kk=>?_
  obtain ⟨t,rfl⟩:=hv
  have I1:a6 X pins σ H { s with heap:=h',toks:=tk }:=I.turned (fun b o hb e=>kk b o (by simpa using hb) e) f0 f1 f3 f4 f5
  refine⟨_,rfl,sB (s:={ s with heap:=h',toks:=tk }) (n:="range_iterator") st' rfl rfl (by decide) ⟨.int (lo+i),H,I1,⟨t,?_⟩,⟨rfl,rfl⟩,st',fun b hb=>(hf b hb).1⟩⟩
  rw [Int.mul_one]
 done:=by
  intro X hP hw hK hc i pins s σ H E I hf st hg
  subst hP hw hK
  obtain ⟨f0,f1,f2,f3,f4,f5⟩:=hf it (by simp)
  exact wpAny_pyNext_range_end (I.ok.hd hc) st (by have:n<=i:=hg; omega) fun h' eb=>⟨rfl,I.turned (t':=s.toks) (fun b o hb e=>eb b o hb e) f0 f1 f3 f4 f5⟩
 self:=fun _ _ _ _ _ st h=>wpAny_pyIter_rangeiter st h
section
variable {X : Cx} {tg : Expr}
theorem wV {pins:List (Addr × Obj)}{σ:St}{H:Hp}{s:Shared}{R:It->Hp->Prop}{E:Value->Shared->Prop}{lo hi:Int}{t u v:Tok}{tk:Nat} (I:a6 X pins σ H s) (h1 : -(2 ^ 62)<=lo) (h2:lo < 2 ^ 62) (h3 : -(2 ^ 62)<=hi) (h4:hi < 2 ^ 62)
  (q:R (mG lo (hi - lo).toNat) H):wpAny (model X.prog X.w) X.A (pyIter (.ref s.heap.objs.size)) (wU X pins σ tg R) E { s with heap:=s.heap.push { cls:=.type "range",data:=.fields #[.int lo t,.int hi u,.int 1 v] },toks:=tk }:=by
 refine wpAny_pyIter_range (IsRange.new ..) (small_one h1 h2 h3 h4) ?_
 have I1:a6 X pins σ H { s with heap:=s.heap.push { cls:=.type "range",data:=.fields #[.int lo t,.int hi u,.int 1 v] },toks:=tk }:=I.kept fun b o e=>aQ9 _ e
 refine⟨(s.heap.push { cls:=.type "range",data:=.fields #[.int lo t,.int hi u,.int 1 v] }).objs.size,[(s.heap.push { cls:=.type "range",data:=.fields #[.int lo t,.int hi u,.int 1 v] }).objs.size],_,_,H,rfl,
  I1.kept (t':=tk) fun b o e=>aQ9 _ e,ab7 _ lo (hi - lo).toNat,?_,fun b hb=>?_,q⟩
 ·have e1:lo+((0:Nat):Int) * 1=lo:=by simp
  have e2:(((hi - lo).toNat:Nat):Int) - ((0:Nat):Int)=Builtin.Range.rangeSize lo hi 1:=by rw [rangeSize_one]; split <;> omega
  show IsRangeIter _ _ (lo+((0:Nat):Int) * 1) ((((hi - lo).toNat:Nat):Int) - ((0:Nat):Int)) 1
  rw [e1,e2]
  exact aS5 _ rfl
 ·have e:b=(s.heap.push { cls:=.type "range",data:=.fields #[.int lo t,.int hi u,.int 1 v] }).objs.size:=by simpa using hb
  subst e
  exact I1.fpOk (aR8 _) (I1.hok.fresh (aR8 _))
def wW (ta:TA):TI:=fun σ H R=>ta σ H fun vs H1=>∃ j:Int,vs = [.int j]/\-(2 ^ 62)<=j/\j < 2 ^ 62/\R (mG 0 j.toNat) H1
def wX (ta:TA):TI:=fun σ H R=>ta σ H fun vs H1=>∃ i j:Int,vs = [.int i,.int j]/\(-(2 ^ 62)<=i/\i < 2 ^ 62/\-(2 ^ 62)<=j/\j < 2 ^ 62)/\R (mG i (j - i).toNat) H1
theorem ab8 {a:Expr}{ta:TA}{p pos:Pos} (hg:Gl X "range") (hm:X.mg "range" = none) (ha:PA X [a] ta) (hs:starEach [a] X.env = [(false,eval a X.env)]:=by rfl):PI X tg (.Call (.Name "range" p) [a] [] pos) (wW ta):=by
 intro pins s σ H R I h
 refine Call_ (jY I hg hm boot_range (bc4 (aM (ha pos pins s σ H _ I h) fun us s1 ⟨vs,H1,I1,r1,q1⟩=>?_) hs rfl))
 obtain ⟨j,e,q1,q2,q⟩:=q1
 subst e
 cases r1 with
 | cons r rr=>
  cases rr
  obtain ⟨t,rfl⟩:=r
  exact call_range_1 (wV I1 (by omega) (by omega) q1 q2 (by simpa using q))
theorem ab9 {a b:Expr}{ta:TA}{p pos:Pos} (hg:Gl X "range") (hm:X.mg "range" = none) (ha:PA X [a,b] ta) (hs:starEach [a,b] X.env = [(false,eval a X.env),(false,eval b X.env)]:=by rfl) (hs2:starEach [b] X.env = [(false,eval b X.env)]:=by rfl) :
  PI X tg (.Call (.Name "range" p) [a,b] [] pos) (wX ta):=by
 intro pins s σ H R I h
 refine Call_ (jY I hg hm boot_range (bc4 (aM (ha pos pins s σ H _ I h) fun us s1 ⟨vs,H1,I1,r1,q1⟩=>?_) (by rw [hs,hs2]) (by rw [hs2]; rfl)))
 obtain ⟨i,j,e,⟨q1,q2,q3,q4⟩,q⟩:=q1
 subst e
 cases r1 with
 | cons r rr=>
  cases rr with
  | cons r' rr=>
   cases rr
   obtain ⟨t,rfl⟩:=r
   obtain ⟨t',rfl⟩:=r'
   exact call_range_2 (wV I1 q1 q2 q3 q4 q)
def wY (wi:TI) (g:TG) (tb:TS):TS:=fun D σ H=>wi σ H fun J H1=>∃ W:Nat->Nat->St->Hp->Prop,(∃ m,W 0 m σ H1)/\∀ i m σ H,W i m σ H->
 (J.stop i H/\D.nx σ H) ∨ (J.go i H/\∃ N:St->Hp->Prop,(∀ σ' H',N σ' H'->∃ m',m' < m/\W (i+1) m' σ' H')/\∀ x H',J.yld i H x H'->g x σ H' fun σ2 H2=>tb { D with nx:=N,ct:=N,bk:=D.nx } σ2 H2)
def mH (fp:List Addr) (h:Heap):List (Addr × Obj):=fp.filterMap fun b=>(h.get? b).map fun o=>(b,o)
theorem oF {fp:List Addr}{h:Heap}{b:Addr}{o:Obj} (hb:b ∈ fp) (e:h.get? b=some o):(b,o) ∈ mH fp h:=List.mem_filterMap.mpr ⟨b,hb,by rw [e]; rfl⟩
theorem ac0 {fp:List Addr}{h:Heap}{p:Addr × Obj} (hp:p ∈ mH fp h):p.1 ∈ fp/\h.get? p.1=some p.2:=by
 obtain ⟨b,hb,e⟩:=List.mem_filterMap.mp hp
 cases q:h.get? b with
 | none=>rw [q] at e; cases e
 | some o=>
  rw [q] at e
  have e':(b,o)=p:=aT5 e
  subst e'
  exact⟨hb,q⟩
theorem a6.pinned {pins:List (Addr × Obj)}{σ:St}{H:Hp}{s:Shared}{fp:List Addr} (I:a6 X pins σ H s) (hf:∀ b ∈ fp,fD X pins H b) (ho:∀ b ∈ fp,∃ o,s.heap.get? b=some o/\∀ v,o.data ≠ .cell v):a6 X (pins ++ mH fp s.heap) σ H s:=
 I.pins_of fun p hp=>(aU4.mp hp).elim (fun z=>I.pin p (aU0 _ z)) fun z=>by
  obtain ⟨hb,e⟩:=ac0 z
  obtain ⟨f0,f1,f2,_⟩:=hf p.1 hb
  obtain ⟨o,e',d⟩:=ho p.1 hb
  rw [e] at e'; cases e'
  exact⟨e,f0,f1,f2,d⟩
theorem a6.unpinned {pins pl:List (Addr × Obj)}{σ:St}{H:Hp}{s:Shared} (I:a6 X (pins ++ pl) σ H s):a6 X pins σ H s:=I.pins_of fun p hp=>I.pin p (aU0 _ (aU3 _ hp))
theorem ac1 {iter:Expr}{body:List Stmt}{wi:TI}{g:TG}{tb:TS}{pos:Pos} (hp:PassesOwn (model X.prog X.w) X.A X.env X.xe) (hc:X.calm=true) (hi:PI X tg iter wi) (hg:PG X tg g) (hb:dP X body tb)
  (hs:∀ x,foldedSetIterable iter X.env x=pure x:=by intro _; rfl):PS X (.For tg iter body [] pos) (wY wi g tb):=by
 intro pins s σ H D I h
 refine wpAny_For (aM (hi pins s σ H _ I h) fun v s1 h1=>aM h1 fun itv s2 h2=>?_) hs
 obtain ⟨it,fp,tn,J,H2,e,I2,T,st2,f2,W,⟨m0,w0⟩,turn⟩:=h2
 subst e
 have stat:∀ {H':Hp},(∀ b ∈ fp,H' b=none)->∀ b ∈ fp,fD X pins H' b:=fun hn b hb=>⟨hn b hb,(f2 b hb).2⟩
 refine codeAny_forLoop_any (fun n s'=>∃ i σ' H',a6 X pins σ' H' s'/\tn i s'.heap/\(∀ b ∈ fp,H' b=none)/\W i n σ' H') ?_ m0 ⟨0,σ,H2,I2,st2,fun b hb=>(f2 b hb).1,w0⟩
 rintro n s3 ⟨i,σ3,H3,I3,st3,fr3,w3⟩
 rcases turn i n σ3 H3 w3 with ⟨stop,qn⟩ | ⟨go,N,hN,step⟩
 ·refine bf2 hp (aM (T.done X rfl rfl rfl hc i pins s3 σ3 H3 X.xe I3 (stat fr3) st3 stop) fun r s4 ⟨hr,I4⟩=>?_)
  subst hr
  exact wpAny_execs_nil ⟨σ3,H3,I4,qn⟩
 ·refine bf2 hp (aM (T.item X rfl rfl rfl hc i pins s3 σ3 H3 X.xe I3 (stat fr3) st3 go) fun r s4 ⟨u,hr,h4⟩=>?_)
  subst hr
  refine bf2 hp (aM h4 fun _ s5 ⟨x,H5,I5,r5,y5,st5,fr5⟩=>?_)
  have I5':=I5.pinned (stat fr5) (T.obj _ _ st5)
  refine bf2 hp (aM (hg _ s5 σ3 H5 x u _ I5' r5 (step x H5 y5)) fun _ s6 ⟨σ6,H6,I6,q6⟩=>?_)
  refine bf2 hp (aM (hb _ s6 σ6 H6 _ I6 q6) fun f s7 q7=>?_)
  have again:∀ {σ7:St}{H7:Hp},a6 X (pins ++ mH fp s5.heap) σ7 H7 s7->N σ7 H7->∃ m,m < n/\∃ i σ' H',a6 X pins σ' H' s7/\tn i s7.heap/\(∀ b ∈ fp,H' b=none)/\W i m σ' H':=fun {σ7 H7} I7 n7=>by
   obtain ⟨m',hm,w7⟩:=hN σ7 H7 n7
   refine⟨m',hm,i+1,σ7,H7,I7.unpinned,T.keep _ _ _ st5 fun b hb o e=>(I7.pin (b,o) (aU0 _ (aU0 _ (oF hb e)))).1,fun b hb=>?_,w7⟩
   obtain ⟨o,e,d⟩:=T.obj _ _ st5 b hb
   exact (I7.pin (b,o) (aU0 _ (aU0 _ (oF hb e)))).2.1
  cases f with
  | next=>obtain ⟨σ7,H7,I7,n7⟩:=q7; exact again I7 n7
  | cont=>obtain ⟨σ7,H7,I7,n7⟩:=q7; exact again I7 n7
  | brk=>obtain ⟨σ7,H7,I7,q7⟩:=q7; exact⟨σ7,H7,I7.unpinned,q7⟩
  | ret v=>obtain ⟨x7,σ7,H7,I7,r7,q7⟩:=q7; exact⟨x7,σ7,H7,I7.unpinned,r7,q7⟩
end
abbrev R2:=V->V->Hp->VK->Prop
def bX (X:Cx) (f:Value->Value->Sem Value) (r:R2):Prop:=
 ∀ (pins:List (Addr × Obj)) (s:Shared) (σ:St) (H:Hp) (x y:V) (v u:Value) (Q:VK),a6 X pins σ H s->aQ x v->aQ y u->r x y H Q->
  wpAny (model X.prog X.w) X.A (f v u) (EP X pins σ Q) X.xe s
def cN (X:Cx) (f:Value) (r:List V->Hp->VK->Prop):Prop:=
 ∀ (pins:List (Addr × Obj)) (s:Shared) (σ:St) (H:Hp) (xs:List V) (us:List Value) (Q:VK),a6 X pins σ H s->aJ xs us->r xs H Q->
  wpAny (model X.prog X.w) X.A (call f us) (EP X pins σ Q) X.xe s
def mI (r:R2) (ta tb:TE):TE:=fun σ H Q=>ta σ H fun x H1=>tb σ H1 fun y H2=>r x y H2 Q
def rI (C:Int->Int->Prop) (g:Int->Int->V):R2:=fun x y H Q=>∃ i j,x = .int i/\y = .int j/\C i j/\Q (g i j) H
def fE (g:Int->Int->V):R2:=fun x y H Q=>∃ i j,x = .int i/\y = .int j/\Q (g i j) H
section
variable {X : Cx} {a b c : Expr} {ta tb tc : TE} {pos : Pos}
theorem sF (ha:PE X a ta) (hb:PE X b tb) {pins:List (Addr × Obj)}{s:Shared}{σ:St}{H:Hp}{R:V->V->Hp->Prop} (I:a6 X pins σ H s)
  (h:ta σ H fun x H1=>tb σ H1 fun y H2=>R x y H2) {Q:Value->Shared->Prop}{f:Value->Value->Sem Value}
  (hf:∀ v u s2 x y H2,a6 X pins σ H2 s2->aQ x v->aQ y u->R x y H2->wpAny (model X.prog X.w) X.A (f v u) Q X.xe s2) :
  wpAny (model X.prog X.w) X.A (eval a X.env) (fun v s₁=>wpAny (model X.prog X.w) X.A (eval b X.env) (fun u s₂=>wpAny (model X.prog X.w) X.A (f v u) Q X.xe s₂) X.xe s₁) X.xe s:=by
 refine aM (ha pins s σ H _ I h) fun v s1 ⟨x,H1,I1,r1,q1⟩=>?_
 refine aM (hb pins s1 σ H1 _ I1 q1) fun u s2 ⟨y,H2,I2,r2,q2⟩=>?_
 exact hf v u s2 x y H2 I2 r1 r2 q2
theorem ac2 {op:Operator}{r:R2} (ho:bX X (binaryOp op) r) (ha:PE X a ta) (hb:PE X b tb):PE X (.BinOp a op b pos) (mI r ta tb):=by
 intro pins s σ H Q I h
 exact wpAny_BinOp (sF ha hb I h fun v u s2 x y H2 I2 rx ry q=>ho pins s2 σ H2 x y v u Q I2 rx ry q)
theorem sG {f:Value->Value->Sem Value}{C:Int->Int->Prop}{g:Int->Int->Int}
  (rule:∀ (i j:Int) (t u:Tok) (s:Shared) (Q:Value->Shared->Prop) (E:Value->Shared->Prop),C i j->Q (.int (g i j) s.toks) { s with toks:=s.toks+1 }->wpAny (model X.prog X.w) X.A (f (.int i t) (.int j u)) Q E s) :
  bX X f (rI C fun i j=>.int (g i j)):=by
 intro pins s σ H x y v u Q I rx ry h
 obtain ⟨i,j,rfl,rfl,hc,q⟩:=h
 obtain ⟨t,rfl⟩:=rx
 obtain ⟨t',rfl⟩:=ry
 exact rule i j t t' s _ _ hc ⟨.int (g i j),H,I.tok _,⟨_,rfl⟩,q⟩
theorem wZ {f:Value->Value->Sem Value}{g:Int->Int->Int}
  (rule:∀ (i j:Int) (t u:Tok) (s:Shared) (Q:Value->Shared->Prop) (E:Value->Shared->Prop),Q (.int (g i j) s.toks) { s with toks:=s.toks+1 }->wpAny (model X.prog X.w) X.A (f (.int i t) (.int j u)) Q E s) :
  bX X f (fE fun i j=>.int (g i j)):=by
 intro pins s σ H x y v u Q I rx ry h
 obtain ⟨i,j,rfl,rfl,q⟩:=h
 obtain ⟨t,rfl⟩:=rx
 obtain ⟨t',rfl⟩:=ry
 exact rule i j t t' s _ _ ⟨.int (g i j),H,I.tok _,⟨_,rfl⟩,q⟩
theorem oG {f:Value->Value->Sem Value}{g:Int->Int->Bool}
  (rule:∀ (i j:Int) (t u:Tok) (s:Shared) (Q:Value->Shared->Prop) (E:Value->Shared->Prop),Q (.bool (g i j)) s->wpAny (model X.prog X.w) X.A (f (.int i t) (.int j u)) Q E s) :
  bX X f (fE fun i j=>.bl (g i j)):=by
 intro pins s σ H x y v u Q I rx ry h
 obtain ⟨i,j,rfl,rfl,q⟩:=h
 obtain ⟨t,rfl⟩:=rx
 obtain ⟨t',rfl⟩:=ry
 exact rule i j t t' s _ _ ⟨.bl (g i j),H,I,rfl,q⟩
def sH (i j:Int):Prop:=0 < j/\j < 1073741824
def mJ (i j:Int):Prop:=(-(2 ^ 64) < i/\i < 2 ^ 64) ∨ (-(2 ^ 64) < j/\j < 2 ^ 64)
theorem mJ.ok {i j:Int} (h:mJ i j):IntMulOk i j:=by
 rcases h with ⟨h1,h2⟩ | ⟨h1,h2⟩
 ·exact .of_left (intBits_le_64 h1 h2)
 ·exact .of_right (intBits_le_64 h1 h2)
theorem ac3:bX X (binaryOp .Add) (fE fun i j=>.int (i+j)):=wZ fun _ _ _ _ _ _ _ q=>add_int q
theorem ac4:bX X (binaryOp .Sub) (fE fun i j=>.int (i - j)):=wZ fun _ _ _ _ _ _ _ q=>sub_int q
theorem ac5:bX X (binaryOp .Mult) (rI mJ fun i j=>.int (i * j)):=sG fun _ _ _ _ _ _ _ hc q=>mul_int q hc.ok
theorem ac6:bX X (binaryOp .FloorDiv) (rI sH fun i j=>.int (i / j)):=sG fun i j _ _ _ _ _ hc q=>by
 have h1:(0:Int) < j:=hc.1
 have h2:j < 1073741824:=hc.2
 exact floordiv_int (by omega) (by rw [Int.fdiv_eq_ediv_of_nonneg i (by omega)]; exact q) (.inl (PyProof.noPylong_small (by omega)))
theorem ac7:bX X (binaryOp .Mod) (rI (fun _ j=>0 < j) fun i j=>.int (i % j)):=sG fun i j _ _ _ _ _ hc q=>by
 have h1:(0:Int) < j:=hc
 exact mod_int' (by omega) (by rw [Int.fmod_eq_emod_of_nonneg i (by omega)]; exact q)
end
def x3:V->V->Bool
 | .non,.non=>true | .non,.int _=>true | .int _,.non=>true | .non,.bl _=>true | .bl _,.non=>true | .non,.str _=>true | .str _,.non=>true
 | .int _,.int _=>true | .bl _,.bl _=>true | .str _,.str _=>true | .byt _,.byt _=>true
 | .int _,.str _=>true | .str _,.int _=>true | .bl _,.str _=>true | .str _,.bl _=>true
 | _,_=>false
def x4:R2:=fun x y H Q=>x3 x y=true/\Q (.bl (decide (x=y))) H
def x5:R2:=fun x y H Q=>x3 x y=true/\Q (.bl (!decide (x=y))) H
theorem x6 {i j:Int}:decide (V.int i=V.int j)=(i == j):=by
 rw [aY8]
 simp
theorem x8 {i j:Bool}:decide (V.bl i=V.bl j)=(i == j):=by
 rw [aY8]
 simp
theorem x9 {i j:Str}:decide (V.str i=V.str j)=(i == j):=by
 rw [aY8]
 simp
theorem xA {i j:Array UInt8}:decide (V.byt i=V.byt j)=(i.toList == j.toList):=by
 rw [aY8]
 cases i
 cases j
 simp
section
variable {X : Cx} {a b c : Expr} {ta tb tc : TE} {pos : Pos}
theorem bN {pins:List (Addr × Obj)}{σ:St}{H:Hp}{s:Shared}{Q:VK}{k k':Bool} (I:a6 X pins σ H s) (q:Q (.bl k) H) (e:k=k'):EP X pins σ Q (.bool k') s:=by
 subst e
 exact⟨.bl k,H,I,rfl,q⟩
theorem ac8:bX X (compareOp .Eq) x4:=by
 intro pins s σ H x y v u Q I rx ry h
 obtain ⟨hs,q⟩:=h
 cases x with
 | non=>
  cases rx
  cases y with
  | non=>cases ry; exact PySem.EqNone.eq_none_none (bN I q (by simp))
  | bl j=>cases ry; exact PySem.EqNone.eq_none_bool (bN I q (by simp))
  | int j=>obtain ⟨t',rfl⟩:=ry; exact PySem.EqNone.eq_none_int (bN I q (by simp))
  | str j=>obtain ⟨t',rfl⟩:=ry; exact PySem.EqNone.eq_none_str (bN I q (by simp))
  | _=>exact absurd (show false=true from hs) aT3
 | bl i=>
  cases rx
  cases y with
  | non=>cases ry; exact PySem.EqNone.eq_bool_none (bN I q (by simp))
  | bl j=>cases ry; exact eq_bool (bN I q x8)
  | str j=>obtain ⟨t',rfl⟩:=ry; exact PySem.EqMixed.eq_bool_str (bN I q (by simp))
  | _=>exact absurd (show false=true from hs) aT3
 | int i=>
  obtain ⟨t,rfl⟩:=rx
  cases y with
  | non=>cases ry; exact PySem.EqNone.eq_int_none (bN I q (by simp))
  | int j=>obtain ⟨t',rfl⟩:=ry; exact eq_int (bN I q x6)
  | str j=>obtain ⟨t',rfl⟩:=ry; exact PySem.EqMixed.eq_int_str (bN I q (by simp))
  | _=>exact absurd (show false=true from hs) aT3
 | str i=>
  obtain ⟨t,rfl⟩:=rx
  cases y with
  | non=>cases ry; exact PySem.EqNone.eq_str_none (bN I q (by simp))
  | bl j=>cases ry; exact PySem.EqMixed.eq_str_bool (bN I q (by simp))
  | int j=>obtain ⟨t',rfl⟩:=ry; exact PySem.EqMixed.eq_str_int (bN I q (by simp))
  | str j=>obtain ⟨t',rfl⟩:=ry; exact eq_str (bN I q x9)
  | _=>exact absurd (show false=true from hs) aT3
 | byt i=>
  obtain ⟨t,rfl⟩:=rx
  cases y with
  | byt j=>obtain ⟨t',rfl⟩:=ry; exact PySem.W.eq_bytes (bN I q xA)
  | _=>exact absurd (show false=true from hs) aT3
 | _=>cases y <;> exact absurd (show false=true from hs) aT3
theorem ac9:bX X (compareOp .NotEq) x5:=by
 intro pins s σ H x y v u Q I rx ry h
 obtain ⟨hs,q⟩:=h
 cases x with
 | non=>
  cases rx
  cases y with
  | non=>cases ry; exact PySem.EqNone.ne_none_none (bN I q (by simp))
  | bl j=>cases ry; exact PySem.EqNone.ne_none_bool (bN I q (by simp))
  | int j=>obtain ⟨t',rfl⟩:=ry; exact PySem.EqNone.ne_none_int (bN I q (by simp))
  | str j=>obtain ⟨t',rfl⟩:=ry; exact PySem.EqNone.ne_none_str (bN I q (by simp))
  | _=>exact absurd (show false=true from hs) aT3
 | bl i=>
  cases rx
  cases y with
  | non=>cases ry; exact PySem.EqNone.ne_bool_none (bN I q (by simp))
  | bl j=>cases ry; exact ne_bool (bN I q (congrArg not x8))
  | str j=>obtain ⟨t',rfl⟩:=ry; exact PySem.EqMixed.ne_bool_str (bN I q (by simp))
  | _=>exact absurd (show false=true from hs) aT3
 | int i=>
  obtain ⟨t,rfl⟩:=rx
  cases y with
  | non=>cases ry; exact PySem.EqNone.ne_int_none (bN I q (by simp))
  | int j=>obtain ⟨t',rfl⟩:=ry; exact ne_int (bN I q (congrArg not x6))
  | str j=>obtain ⟨t',rfl⟩:=ry; exact PySem.EqMixed.ne_int_str (bN I q (by simp))
  | _=>exact absurd (show false=true from hs) aT3
 | str i=>
  obtain ⟨t,rfl⟩:=rx
  cases y with
  | non=>cases ry; exact PySem.EqNone.ne_str_none (bN I q (by simp))
  | bl j=>cases ry; exact PySem.EqMixed.ne_str_bool (bN I q (by simp))
  | int j=>obtain ⟨t',rfl⟩:=ry; exact PySem.EqMixed.ne_str_int (bN I q (by simp))
  | str j=>obtain ⟨t',rfl⟩:=ry; exact ne_str (bN I q (congrArg not x9))
  | _=>exact absurd (show false=true from hs) aT3
 | byt i=>
  obtain ⟨t,rfl⟩:=rx
  cases y with
  | byt j=>obtain ⟨t',rfl⟩:=ry; exact PySem.W.ne_bytes (bN I q (congrArg not xA))
  | _=>exact absurd (show false=true from hs) aT3
 | _=>cases y <;> exact absurd (show false=true from hs) aT3
theorem oH:bX X (compareOp .Lt) (fE fun i j=>.bl (decide (i < j))):=oG fun _ _ _ _ _ _ _ q=>lt_int q
theorem xB:bX X (compareOp .LtE) (fE fun i j=>.bl (decide (i<=j))):=oG fun _ _ _ _ _ _ _ q=>le_int q
theorem ad0:bX X (compareOp .Gt) (fE fun i j=>.bl (decide (j < i))):=oG fun _ _ _ _ _ _ _ q=>gt_int q
theorem ad1:bX X (compareOp .GtE) (fE fun i j=>.bl (decide (j<=i))):=oG fun _ _ _ _ _ _ _ q=>ge_int q
theorem ad2:bX X (compareOp .IsNot) (fun x y H Q=>y = .non/\Q (.bl (!decide (x = .non))) H):=by
 intro pins s σ H x y v u Q I rx ry h
 obtain ⟨rfl,q⟩:=h
 cases ry
 refine isnot_none_gen (bN I q ?_)
 cases x <;> first
  | (cases rx; rfl)
  | (obtain ⟨t,rfl⟩:=rx; rfl)
theorem fZ (b:Expr) {op:CmpOp} (h:op ≠ .In:=by decide) (h2:op ≠ .NotIn:=by decide):behindInMarks op b=false:=by
 have e1:(op == CmpOp.In)=false:=by cases op <;> first | rfl | exact absurd rfl h
 have e2:(op == CmpOp.NotIn)=false:=by cases op <;> first | rfl | exact absurd rfl h2
 cases b <;> simp [behindInMarks,e1,e2]
theorem ad3 {op:CmpOp}{r:R2} (ho:bX X (compareOp op) r) (ha:PE X a ta) (hb:PE X b tb) (hm:behindInMarks op b=false):PE X (.Compare a [op] [b] pos) (mI r ta tb):=by
 intro pins s σ H Q I h
 exact wpAny_Compare1 (sF ha hb I h fun v u s2 x y H2 I2 rx ry q=>ho pins s2 σ H2 x y v u Q I2 rx ry q) hm
def xC (t:TE):TT:=fun σ H Q=>t σ H fun x H'=>∃ k,x = .bl k/\Q k H'
theorem ad4 {op:CmpOp}{r:R2} (ho:bX X (compareOp op) r) (ha:PE X a ta) (hb:PE X b tb) (hm:behindInMarks op b=false):PT X (.Compare a [op] [b] pos) (xC (mI r ta tb)):=by
 intro pins s σ H Q I h
 refine wpAny_isTrue_Compare1 (aM (ha pins s σ H _ I h) fun v s1 ⟨x,H1,I1,r1,q1⟩=>aM (hb pins s1 σ H1 _ I1 q1) fun u s2 ⟨y,H2,I2,r2,q2⟩=>
  aM (ho pins s2 σ H2 x y v u _ I2 r1 r2 q2) fun c s3 ⟨z,H3,I3,r3,k,e,q3⟩=>?_) hm
 subst e
 cases r3
 exact ba3 ⟨H3,I3,q3⟩
def xD (r r':R2) (ta tb tc:TE):TE:=fun σ H Q=>ta σ H fun x H1=>tb σ H1 fun y H2=>r x y H2 fun z H3=>∃ k,z = .bl k/\
 (if k=true then tc σ H3 fun w' H4=>r' y w' H4 Q else Q (.bl false) H3)
theorem ad5 {op op':CmpOp}{r r':R2} (ho:bX X (compareOp op) r) (ho':bX X (compareOp op') r') (ha:PE X a ta) (hb:PE X b tb) (hc:PE X c tc)
  (hm:lastMarks [op,op'] [b,c]=false:=by with_unfolding_all rfl):PT X (.Compare a [op,op'] [b,c] pos) (xC (xD r r' ta tb tc)):=by
 intro pins s σ H Q I h
 refine isTrue_chain (aM (ha pins s σ H _ I h) fun v s1 ⟨x,H1,I1,r1,q1⟩=>test_link (aM (hb pins s1 σ H1 _ I1 q1) fun u s2 ⟨y,H2,I2,r2,q2⟩=>
  aM (ho pins s2 σ H2 x y v u _ I2 r1 r2 q2) fun d s3 ⟨z,H3,I3,r3,k,e,q3⟩=>?_)) hm
 subst e
 cases r3
 refine ba3 ?_
 cases k with
 | false=>
  obtain ⟨k',e',q'⟩:=q3
  cases e'
  exact ite_ff ⟨H3,I3,q'⟩
 | true=>
  refine ite_tt (test_last (aM (hc pins s3 σ H3 _ I3 q3) fun w' s4 ⟨z',H4,I4,r4,q4⟩=>aM (ho' pins s4 σ H4 y z' u w' _ I4 r2 r4 q4) fun d' s5 ⟨z2,H5,I5,r5,k2,e2,q5⟩=>?_))
  subst e2
  cases r5
  exact ba3 ⟨H5,I5,q5⟩
theorem oI:(sizeLine:Nat) < 2 ^ 63:=by rw [sizeLine_eq]; decide
theorem iM {x:V}{us:List Value} (r:aJ [x] us):∃ u,us = [u]/\aQ x u:=by
 cases r with
 | cons r1 r2=>cases r2; exact⟨_,rfl,r1⟩
theorem k6 {x y:V}{us:List Value} (r:aJ [x,y] us):∃ u w',us = [u,w']/\aQ x u/\aQ y w':=by
 cases r with
 | cons r1 r2=>
  cases r2 with
  | cons r3 r4=>cases r4; exact⟨_,_,rfl,r1,r3⟩
theorem ad6 (hc:X.calm=true):cN X (.builtin "max") (fun xs H Q=>∃ i j,xs = [.int i,.int j]/\Q (.int (if j > i then j else i)) H):=by
 intro pins s σ H xs us Q I r h
 obtain ⟨i,j,rfl,q⟩:=h
 obtain ⟨u,w',rfl,⟨t,rfl⟩,⟨t',rfl⟩⟩:=k6 r
 refine max_two_ints (I.ok.hd hc) fun h' tk k=>⟨_,H,I.kept k,?_,q⟩
 by_cases hj:j > i
 ·rw [if_pos hj,if_pos hj]; exact⟨_,rfl⟩
 ·rw [if_neg hj,if_neg hj]; exact⟨_,rfl⟩
theorem ad7 (hc:X.calm=true):cN X (.builtin "min") (fun xs H Q=>∃ i j,xs = [.int i,.int j]/\Q (.int (if j < i then j else i)) H):=by
 intro pins s σ H xs us Q I r h
 obtain ⟨i,j,rfl,q⟩:=h
 obtain ⟨u,w',rfl,⟨t,rfl⟩,⟨t',rfl⟩⟩:=k6 r
 refine min_two_ints (I.ok.hd hc) fun h' tk k=>⟨_,H,I.kept k,?_,q⟩
 by_cases hj:j < i
 ·rw [if_pos hj,if_pos hj]; exact⟨_,rfl⟩
 ·rw [if_neg hj,if_neg hj]; exact⟨_,rfl⟩
end
structure sJ (h:Heap) (x dx C:Addr) (mA:Str->Option Value):Prop where
 obj:h.get? x=some (PySem.W.instObj C dx)
 ns:h.Ns1 dx mA
 ne:dx ≠ x
theorem ad8 {h:Heap}{dx:Addr}{mA:Str->Option Value} (n:h.Ns1 dx mA):∃ od,h.get? dx=some od/\∀ name,PySem.W.lookIn name od=some (mA name):=by
 obtain ⟨o,es,ep,ho,hd,hk,_,hm⟩:=n
 refine⟨o,ho,fun name=>?_⟩
 have e:=hm name
 unfold nsFind findBy at e
 rw [<- Array.find?_toList] at e
 unfold PySem.W.lookIn
 rw [hd]
 dsimp only
 split
 ·rename_i y q
  rw [q] at e
  exact congrArg some e
 ·rename_i q
  rw [q] at e
  have a:es.toList.any (·.refKey)=false:=by
   rw [List.any_eq_false]
   intro y hy
   obtain ⟨z,t,hkey⟩:=hk y (Array.mem_toList_iff.mp hy)
   simp [DictEntry.refKey,hkey]
  have a' : ¬ es.toList.any (·.refKey)=true:=by rw [a]; exact aT3
  rw [if_neg a']
  exact congrArg some e
theorem sJ.look {h:Heap}{x dx C:Addr}{mA:Str->Option Value} (I:sJ h x dx C mA):∃ od,PySem.W.InstAt h x (PySem.W.instObj C dx) C (some od)/\∀ name,PySem.W.lookIn name od=some (mA name):=
 let ⟨od,ho,hl⟩:=ad8 I.ns
 ⟨od,⟨I.obj,rfl,rfl,ho⟩,hl⟩
theorem eZ.some_of {v:V}{o:Option Value} (r:eZ (some v) o):∃ u,o=some u/\aQ v u:=by
 cases o with
 | none=>exact (show False from r).elim
 | some u=>exact⟨u,rfl,r⟩
section
variable {P : Program} {w : World} {H H' : Hp} {h h' : Heap} {a C dx : Addr} {fs fs' : List (Str × V)}
theorem ad9 (hok:bK P w H h) (e:H a=some (.ins C dx fs)):∃ mA,sJ h a dx C mA/\(∀ f,eZ (fs.lookup f) (mA f))/\PySem.Within mA (fs.map (·.1))/\fs.length<=1000/\H dx=some (.own a):=by
 obtain ⟨d,z,ne,ob,mA,n,r,q⟩:=(show bT P w H h a (.ins C dx fs) from hok a _ e)
 exact⟨mA,⟨ob,n,ne⟩,r,q,z,d⟩
end
structure sL (K:PySem.W.Frag) (C:Addr):Prop where
 pg:PySem.W.plainGet K C Str.empty=true
 hd:PySem.W.hasDictIn K C=true
 po:PySem.W.plainOver K C=true
 sa:PySem.W.findIn K (.ref C) "__setattr__" = some (some (.builtin "object.__setattr__"))
theorem sL.get {K:PySem.W.Frag}{C:Addr} (c:sL K C) (f:Str):PySem.W.plainGet K C f=true:=c.pg
section
variable {X : Cx} {pins : List (Addr × Obj)} {σ : St} {H : Hp} {s : Shared} {A : Around} {E : Value → Shared → Prop} {Q : Value → Shared → Prop} {c : Value} {b : Bool}
inductive eM (K:PySem.W.Frag) (H:Hp):V->Value->Prop where
 | non:eM K H .non (.type "NoneType")
 | bl (x:Bool):eM K H (.bl x) (.type "bool")
 | int (i:Int):eM K H (.int i) (.type "int")
 | str (x:Str):eM K H (.str x) (.type "str")
 | flt (x:UInt64):eM K H (.flt x) (.type "float")
 | lst {a:Addr}{xs:List V} (e:H a=some (.lst xs)):eM K H (.ref a) (.type "list")
 | frz {a:Addr}{o:Obj}{xs:List V} (e:H a=some (.frz o (.lst xs))):eM K H (.ref a) (.type "list")
 | tup {a:Addr}{xs:List V} (e:H a=some (.tup xs)):eM K H (.ref a) (.type "tuple")
 | dK {a:Addr}{kvs:List (aH × V)} (e:H a=some (.dK kvs)):eM K H (.ref a) (.type "dict")
 | dT {a:Addr}{kvs:List (List aH × V)} (e:H a=some (.dT kvs)):eM K H (.ref a) (.type "dict")
 | ins {a C dx:Addr}{fs:List (Str × V)} (e:H a=some (.ins C dx fs)) (cl:sL K C) (ha:PySem.W.findIn K (.ref C) "__class__" = some (some (.builtin "object.__class__")))
   (hn:PySem.W.specialIn K (.builtin "object.__class__") "__get__" = some (some (.builtin "getset_descriptor.__get__"))) (htk:PySem.W.takesIn K (.builtin "object.__class__")=some true)
   (hm:PySem.W.mroIn K C (.type "object")=some true):eM K H (.ref a) (.ref C)
theorem ae0 {x:V}{u t:Value} (I:a6 X pins σ H s) (rx:aQ x u) (ty:eM X.K H x t) (e:PySem.W.kitOne X.K t c=some b) (h:∀ tk,Q (.bool b) { s with toks:=tk }) :
  wpAny (model X.prog X.w) A (call (.builtin "isinstance") [u,c]) Q E s:=by
 cases ty with
 | non=>cases (show u=Value.none from rx); exact aY9 PySem.W.kitx_none I.kIn bg8 e (fun z=>nomatch z) h
 | bl y=>cases (show u=Value.bool y from rx); exact aY9 PySem.W.kitx_bool I.kIn bg8 e (fun z=>nomatch z) h
 | int i=>obtain ⟨t,q⟩:=(show ∃ t,u=Value.int i t from rx); cases q; exact aY9 PySem.W.kitx_int I.kIn bg8 e (fun z=>nomatch z) h
 | str y=>obtain ⟨t,q⟩:=(show ∃ t,u=Value.str y t from rx); cases q; exact aY9 PySem.W.kitx_str I.kIn bg8 e (fun z=>nomatch z) h
 | flt y=>obtain ⟨t,q⟩:=(show ∃ t,u=Value.float y t from rx); cases q; exact aY9 PySem.W.kitx_float I.kIn bg8 e (fun z=>nomatch z) h
 | @lst a xs ea=>
  cases (show u=Value.ref a from rx)
  obtain ⟨_,_,n,_,h1⟩:=(show bT X.prog X.w H s.heap a (.lst xs) from I.hok a _ ea)
  exact aY9 PySem.W.kitx_list I.kIn ⟨_,h1,rfl⟩ e (fun z=>nomatch z) h
 | @frz a ob xs ea=>
  cases (show u=Value.ref a from rx)
  obtain ⟨_,_,_,n,_,h1⟩:=(show bT X.prog X.w H s.heap a (.frz ob (.lst xs)) from I.hok a _ ea)
  exact aY9 PySem.W.kitx_list I.kIn ⟨_,h1,rfl⟩ e (fun z=>nomatch z) h
 | @tup a xs ea=>
  cases (show u=Value.ref a from rx)
  obtain ⟨_,_,_,p,_⟩:=(show bT X.prog X.w H s.heap a (.tup xs) from I.hok a _ ea)
  obtain ⟨o,h1,h2,_⟩:=p
  exact aY9 PySem.W.kitx_tuple I.kIn ⟨o,h1,h2⟩ e (fun z=>nomatch z) h
 | @dK a kvs ea=>
  cases (show u=Value.ref a from rx)
  obtain ⟨_,_,vs,_,p⟩:=(show bT X.prog X.w H s.heap a (.dK kvs) from I.hok a _ ea)
  obtain ⟨o,es,ep,h1,h2,_⟩:=p
  exact aY9 PySem.W.kitx_dict I.kIn ⟨o,h1,h2.1⟩ e (fun z=>nomatch z) h
 | @dT a kvs ea=>
  cases (show u=Value.ref a from rx)
  obtain ⟨_,_,xs,_,o,es,ep,h1,h2,_⟩:=(show bT X.prog X.w H s.heap a (.dT kvs) from I.hok a _ ea)
  exact aY9 PySem.W.kitx_dict I.kIn ⟨o,h1,h2.1⟩ e (fun z=>nomatch z) h
 | @ins a C dx fs ea cl ha hn htk hm=>
  cases (show u=Value.ref a from rx)
  obtain ⟨mA,O,_⟩:=ad9 I.hok ea
  obtain ⟨od,J,_⟩:=O.look
  exact aY9 (PySem.W.kitx_own (cl.get _) cl.hd ha hn htk hm) I.kIn J e (fun z=>nomatch z) h
end
structure bY (k:Nat) (A:Around):Prop where
 hd:A.handled=none
 dp:A.depth+3 * k+5 < recursionLimit
 un:A.units+16 * k+200 < cLine
theorem bY.mono {j k:Nat}{A:Around} (r:bY k A) (h:j<=k):bY j A:=⟨r.hd,by have:=r.dp; omega,by have:=r.un; omega⟩
theorem bY.deeper {k:Nat}{A:Around} (r:bY (k+1) A) (env:Env):bY k (A.deeper env):=
 ⟨r.hd,by have:=r.dp; show A.depth+1+3 * k+5 < _; omega,by have:=r.un; show A.units+3+16 * k+200 < _; omega⟩
theorem bY.depth {k:Nat}{A:Around} (r:bY k A):A.depth < recursionLimit:=by have:=r.dp; omega
theorem bY.units {k:Nat}{A:Around} (r:bY k A):A.units+64 < cLine:=by have:=r.un; omega
def jH:TA:=fun _ H Q=>Q [] H
def i7 (ta:TE) (tr:TA):TA:=fun σ H Q=>ta σ H fun x H1=>tr σ H1 fun xs H2=>Q (x :: xs) H2
section
variable {X : Cx} {e : Expr} {es : List Expr} {te : TE} {t : TA} {pos : Pos}
theorem jI:PA X [] jH:=fun _ _ _ _ H Q I h=>Calls.spliced_nil ⟨[],H,I,.nil,h⟩
theorem gM (ha:PE X e te) (hr:PA X es t) (hs:starEach (e :: es) X.env=(false,eval e X.env) :: starEach es X.env:=by rfl):PA X (e :: es) (i7 te t):=by
 intro pos pins s σ H Q I h
 rw [hs]
 show wpAny _ _ (spliced ((false,eval e X.env) :: backTo pos (starEach es X.env))) _ _ s
 refine Calls.spliced_cons (aM (ha pins s σ H _ I h) fun u s1 ⟨x,H1,I1,r1,q1⟩=>?_)
 exact aM (hr pos pins s1 σ H1 _ I1 q1) fun us s2 ⟨xs,H2,I2,r2,q2⟩=>⟨x :: xs,H2,I2,.cons r1 r2,q2⟩
def xE (t:TA):TE:=fun σ H Q=>t σ H fun xs H1=>xs.length<=sizeLine/\∀ p,H1 p=none->Q (.ref p) (upd H1 p (.tup xs))
def xF (t:TA):TE:=fun σ H Q=>t σ H fun xs H1=>xs.length<=sizeLine/\∀ p,H1 p=none->Q (.ref p) (upd H1 p (.lst xs))
theorem ae1 {x1} (h:PA X es t):PE X (.Tuple es x1 pos) (xE t):=by
 intro pins s σ H Q I hq
 refine wpAny_Tuple_spliced (aM (h pos pins s σ H _ I hq) fun us s1 ⟨xs,H1,I1,r,z,q⟩=>⟨by rw [<- r.length]; exact z,?_⟩)
 have hf:H1 s1.heap.objs.size=none:=I1.hok.fresh (aR8 _)
 refine⟨.ref s1.heap.objs.size,upd H1 s1.heap.objs.size (.tup xs),I1.laid (t':=s1.toks) (fun b u e=>aQ9 _ e) (aR8 _) ?_,rfl,q _ hf⟩
 exact⟨z,us,r,⟨_,aS5 _ rfl,rfl,_,rfl⟩,iJ.new _ _ rfl⟩
theorem ae2 (h:PA X es t):PE X (.List es pos) (xF t):=by
 intro pins s σ H Q I hq
 refine wpAny_List_spliced (aM (h pos pins s σ H _ I hq) fun us s1 ⟨xs,H1,I1,r,z,q⟩=>⟨by rw [<- r.length]; exact z,?_⟩)
 have hf:H1 s1.heap.objs.size=none:=I1.hok.fresh (aR8 _)
 refine⟨.ref s1.heap.objs.size,upd H1 s1.heap.objs.size (.lst xs),I1.laid (t':=s1.toks) (fun b u e=>aQ9 _ e) (aR8 _) ?_,rfl,q _ hf⟩
 exact⟨z,us,0,r,aS5 _ rfl⟩
end
abbrev Sp:=List V->Hp->VK->XK->Prop
abbrev g9:=List Env->Hp->Shared->XK->Value->Shared->Prop
structure oJ (P:Program) (w:World) (K:PySem.W.Frag) (mg:Str->Option Value) (base:Heap) (A:Around) (outer:List Env) (s:Shared) (H:Hp):Prop where
 frames:A.frames=some outer
 mod:Mod K mg base
 bs:∀ b o,base.get? b=some o->s.heap.get? b=some o/\H b=none
 bsz:base.objs.size<=s.heap.objs.size
 funs:s.heap.FunFrames base outer
 frf:∀ b ∈ bU outer,H b=none
 hok:bK P w H s.heap
 bare:AllBare s.gens
def CE (outer:List Env) (P:Program) (w:World) (H:Hp) (s:Shared) (Q:VK) (u:Value) (s':Shared):Prop:=
 ∃ v H',s'.os=s.os/\AllBare s'.gens/\Un (bU outer) [] H H' s.heap s'.heap/\bK P w H' s'.heap/\aQ v u/\Q v H'
def CR (CX:g9) (outer:List Env) (P:Program) (w:World) (H:Hp) (s:Shared) (Q:VK) (E:XK) (r:Result) (s':Shared):Prop:=
 match r with
 | .ok (.ret u)=>CE outer P w H s Q u s'
 | .ok _=>False
 | .error e=>CX outer H s E e s'
structure dH (P:Program) (w:World) (K:PySem.W.Frag) (mg:Str->Option Value) (base:Heap) (CX:g9) (k:Nat) (f:Addr) (fd:FuncData) (ps:List Str) (sp:Sp):Prop where
 len:∀ vs H Q E,sp vs H Q E->vs.length=ps.length
 run:∀ (A:Around) (outer:List Env) (s:Shared) (H:Hp) (args:Args) (us:List Value) (vs:List V) (Q:VK) (E:XK),bY k A->oJ P w K mg base A outer s H->BindsTo s fd args (ps.zip us)->aJ vs us->sp vs H Q E->
  codeAny (model P w) A (.call (.ref f) args) (CR CX outer P w H s Q E) s
theorem dH.imp {P:Program}{w:World}{K:PySem.W.Frag}{mg:Str->Option Value}{base:Heap}{CX:g9}{k:Nat}{f:Addr}{fd:FuncData}{ps:List Str}{sp sp':Sp} (F:dH P w K mg base CX k f fd ps sp)
  (h:∀ vs H Q E,sp' vs H Q E->sp vs H Q E):dH P w K mg base CX k f fd ps sp':=
 ⟨fun vs H Q E q=>F.len vs H Q E (h _ _ _ _ q),fun A outer s H args us vs Q E hr he hb hv hs=>F.run A outer s H args us vs Q E hr he hb hv (h _ _ _ _ hs)⟩
section
variable {X : Cx} {pins : List (Addr × Obj)} {σ : St} {H : Hp} {s s' : Shared}
theorem a6.env0 (I:a6 X pins σ H s):oJ X.prog X.w X.K X.mg X.base X.A X.stack s H:=
 ⟨I.ok.frames,I.ok.mod,I.bs,aU8 I.ok.bsz I.sz,I.stack,I.stkFree,I.hok,I.bare⟩
theorem a6.after {Q:VK}{u:Value} (I:a6 X pins σ H s) (h:CE X.stack X.prog X.w H s Q u s'):EP X pins σ Q u s':=by
 obtain ⟨v,H',os,bare,un,hok,r,q⟩:=h
 obtain ⟨hh,g,d,t,os'⟩:=s'
 obtain rfl:os'=s.os:=os
 exact⟨v,H',I.call (h':=hh) (g':=g) (d':=d) (t':=t) (ch:=[]) un hok bare (fun b z=>absurd z (by simp)),r,q⟩
end
def sM (sp:Sp) (dvs:List V) (E:XK) (t:TA):TE:=fun σ H Q=>t σ H fun vs H1=>sp (vs ++ dvs) H1 Q E
def jJ (K:PySem.W.Frag) (fd:FuncData) (ps:List Str) (ds:List Value):Prop:=
 ∀ (s:Shared) (us:List Value),K.In s.heap->(us ++ ds).length=ps.length->BindsTo s fd ⟨us,[]⟩ (ps.zip (us ++ ds))
theorem jJ.all {K:PySem.W.Frag}{fd:FuncData}{ps:List Str} (h:∀ us:List Value,us.length=ps.length->bindArgs fd ⟨us,[]⟩=pure (ps.zip us)):jJ K fd ps []:=fun s us _ hl=>by
 rw [aX8] at hl ⊢
 exact .of_eq (h us hl)
def mK (CX:g9) (X:Cx) (E:XK):Prop:=∀ (pins:List (Addr × Obj)) (σ:St) (H:Hp) (s:Shared) (e:Value) (s':Shared),a6 X pins σ H s->CX X.stack H s E e s'->X.xe e s'
section
variable {X : Cx} {CX : g9} {k : Nat} {f C : Addr} {fd : FuncData} {ps : List Str} {sp : Sp} {dvs : List V} {ds : List Value} {E : XK} {x m : Str} {p pos apos : Pos} {e o : Expr} {es : List Expr} {ta : TE} {t : TA}
theorem ae3 {pins:List (Addr × Obj)}{σ:St}{H:Hp}{s:Shared}{Q:VK}{us:List Value}{vs:List V} (F:dH X.prog X.w X.K X.mg X.base CX k f fd ps sp) (hr:bY k X.A) (hb:jJ X.K fd ps ds) (hd:aJ dvs ds) (hx:mK CX X E)
  (I:a6 X pins σ H s) (r:aJ vs us) (h:sp (vs ++ dvs) H Q E):wpAny (model X.prog X.w) X.A (call (.ref f) us) (EP X pins σ Q) X.xe s:=by
 have r2:aJ (vs ++ dvs) (us ++ ds):=r.append hd
 have hl:(us ++ ds).length=ps.length:=by rw [<- r2.length]; exact F.len _ _ _ _ h
 refine wpAny_call (codeAny_mono (F.run X.A X.stack s H ⟨us,[]⟩ (us ++ ds) (vs ++ dvs) Q E hr I.env0 (hb s us I.kIn hl) r2 h) fun r s' hq=>?_)
 cases r with
 | error e=>exact hx pins σ H s e s' I hq
 | ok fl=>
  cases fl with
  | ret u=>exact I.after hq
  | next=>exact False.elim hq
  | brk=>exact False.elim hq
  | cont=>exact False.elim hq
theorem sN (F:dH X.prog X.w X.K X.mg X.base CX k f fd ps sp) (hr:bY k X.A) (hg:Gl X x) (hm:X.mg x=some (.ref f)) (hk:PySem.W.keepIn X.K (.ref f)=true) (hb:jJ X.K fd ps ds) (hd:aJ dvs ds) (hx:mK CX X E)
  (ha:PA X (e :: es) t) (hdb:(x == ("__debug__" : Str))=false:=by decide) (he:starEach (e :: es) X.env=(false,eval e X.env) :: starEach es X.env:=by rfl) (hpl:(backTo pos (starEach es X.env)).any (·.1)=false:=by rfl) :
  PE X (.Call (.Name x p) (e :: es) [] pos) (sM sp dvs E t):=by
 intro pins s σ H Q I h
 refine wpAny_Call_Name_kw (rZ I hg hm ?_ hdb)
 refine PySem.W.callWith_K (h₀:=X.base) I.ok.mod.kin hk (aM (ha pos pins s σ H _ I h) fun us s1 ⟨vs,H1,I1,r,q⟩=>⟨I1.kIn,?_⟩) he hpl
 exact ae3 F hr hb hd hx I1 r q
end
def PK (X:Cx) (kws:List Keyword) (t:TA):Prop:=
 ∀ (pos:Pos) (pins:List (Addr × Obj)) (s:Shared) (σ:St) (H:Hp) (Q:List V->Hp->Prop),a6 X pins σ H s->t σ H Q->wpAny (model X.prog X.w) X.A (evalAll ((backToKw pos (keywordEach kws X.env)).map (·.2))) (AP X pins σ Q) X.xe s
structure FnScope (N P:List Str) (sc:Scope):Prop where
 kind:sc.kind = .function
 co:sc.isCoroutine=false
 gen:sc.isGenerator=false
 nd:N.Nodup
 pre:N.take P.length=P
 par:∀ x ∈ P,sc.names.lookup x=some .local ∨ sc.names.lookup x=some .cell
 nofree:∀ y ∈ sc.names,y.2 ≠ .free
theorem xG {kindOf:Str->Option NameKind}{x:Str}:∀ {binds:List (Str × Value)}{m:Str->Option Value},(∀ v,(x,v) ∉ binds)->bindL kindOf binds m x=m x
 | [],_,_=>rfl
 | (n,v) :: r,m,h=>by
  unfold bindL
  rw [xG fun w hw=>h w (aR7 _ hw)]
  split
  ·have:x ≠ n:=by rintro rfl; exact h v aS3
   simp [this]
  ·rfl
theorem xH {kindOf:Str->Option NameKind}{x:Str}:∀ {binds:List (Str × Value)}{m:Str->Option Value},(∀ v,(x,v) ∉ binds)->bindC kindOf binds m x=m x
 | [],_,_=>rfl
 | (n,v) :: r,m,h=>by
  unfold bindC
  rw [xH fun w hw=>h w (aR7 _ hw)]
  split
  ·rfl
  ·have:x ≠ n:=by rintro rfl; exact h v aS3
   simp [this]
theorem xI {kindOf:Str->Option NameKind}{x:Str}{v:Value}:∀ {P:List Str}{vs:List Value}{i:Nat}{m:Str->Option Value},P.Nodup->P[i]? = some x->vs[i]? = some v->kindOf x=some .local->
  bindL kindOf (P.zip vs) m x=some v
 | [],_,_,_,_,h,_,_=>by simp at h
 | _ :: _,[],_,_,_,_,h,_=>by simp at h
 | p :: P,w :: vs,0,m,nd,h1,h2,hk=>by
  simp at h1 h2; subst h1; subst h2
  show bindL kindOf ((p,w) :: P.zip vs) m p=_
  unfold bindL
  rw [xG fun v hv=>(bd8.mp nd).1 (List.of_mem_zip hv).1,if_pos hk]
  simp
 | p :: P,w :: vs,i+1,m,nd,h1,h2,hk=>by
  show bindL kindOf ((p,w) :: P.zip vs) m x=_
  unfold bindL
  exact xI (i:=i) (bd8.mp nd).2 (by simpa using h1) (by simpa using h2) hk
theorem xJ {kindOf:Str->Option NameKind}{x:Str}{v:Value}:∀ {P:List Str}{vs:List Value}{i:Nat}{m:Str->Option Value},P.Nodup->P[i]? = some x->vs[i]? = some v->kindOf x ≠ some .local->
  bindC kindOf (P.zip vs) m x=some v
 | [],_,_,_,_,h,_,_=>by simp at h
 | _ :: _,[],_,_,_,_,h,_=>by simp at h
 | p :: P,w :: vs,0,m,nd,h1,h2,hk=>by
  simp at h1 h2; subst h1; subst h2
  show bindC kindOf ((p,w) :: P.zip vs) m p=_
  unfold bindC
  rw [xH fun v hv=>(bd8.mp nd).1 (List.of_mem_zip hv).1,if_neg hk]
  simp
 | p :: P,w :: vs,i+1,m,nd,h1,h2,hk=>by
  show bindC kindOf ((p,w) :: P.zip vs) m x=_
  unfold bindC
  exact xJ (i:=i) (bd8.mp nd).2 (by simpa using h1) (by simpa using h2) hk
def gA (N:List Str) (vs:List V):St:=vs.map some ++ List.replicate (N.length - vs.length) none
def cV (CX:g9) (P:Program) (w:World) (K:PySem.W.Frag) (mg:Str->Option Value) (base:Heap) (N:List Str) (qual:Str) (scope:Scope) (f:Addr) (cd:Value) (A:Around) (outer:List Env) (s:Shared) (H:Hp) (E:XK):Cx where
 prog:=P
 w:=w
 K:=K
 mg:=mg
 base:=base
 A:=A.deeper (envOfC qual scope s.heap.objs.size f cd)
 N:=N
 s₀:=s
 H₀:=H
 env:=envOfC qual scope s.heap.objs.size f cd
 outer:=outer
 stack:=envOfC qual scope s.heap.objs.size f cd :: outer
 ex:=[]
 calm:=true
 fn:=fun _=>true
 pn:=[]
 xe:=fun e s'=>wpAny (model P w) (A.deeper (envOfC qual scope s.heap.objs.size f cd)) (leaving (envOfC qual scope s.heap.objs.size f cd) e) (fun _ s''=>CX outer H s E e s'') (fun e' s''=>CX outer H s E e' s'') s'
theorem xK {sc:Scope}{n:Nat}{x:Str} (h:sc.names.lookup x=some .cell):∃ c,(cellsFrom n sc.names []).lookup x=some c:=by
 have q:=PySem.W.cellsFrom_some sc.names n [] (.inl h)
 exact Option.isSome_iff_exists.mp q
theorem ae4 {CX:g9}{P:Program}{w:World}{K:PySem.W.Frag}{mg:Str->Option Value}{base:Heap}{N ps:List Str}{qual:Str}{scope:Scope}{f:Addr}{cd:Value}{A:Around}{outer:List Env}{s s1:Shared}{H:Hp}{E:XK}{us:List Value}{vs:List V}
  (S:FnScope N ps scope) (hd:A.handled=none) (e0:oJ P w K mg base A outer s H) (hl:vs.length=ps.length) (r:aJ vs us)
  (x:InCallC s s.heap.objs.size (bindL (envOfC qual scope s.heap.objs.size f cd).kindOf (ps.zip us) fun _=>none) (cellsFrom (s.heap.objs.size+1) scope.names []) (bindC (envOfC qual scope s.heap.objs.size f cd).kindOf (ps.zip us) fun _=>none) s1) :
  a6 (cV CX P w K mg base N qual scope f cd A outer s H E) [] (gA N vs) H s1:=by
 have hpl:ps.length<=N.length:=by have:=congrArg List.length S.pre; rw [List.length_take] at this; omega
 obtain ⟨h1,tk,rfl,hk⟩:=x.done
 have noA:∀ b:Addr,b ∉ (cV CX P w K mg base N qual scope f cd A outer s H E).ex:=fun b z=>absurd (show b ∈ ([]:List Addr) from z) (by simp)
 refine⟨⟨e0.mod,S.kind,rfl,rfl,aR8 _,fun y z c h1 h2=>?_,fun y hy=>?_,fun y c _ h=>?_,fun _=>hd,Around.frames_deeper e0.frames,.inr ⟨rfl,rfl⟩,fun b z=>absurd z (noA b),e0.bs,e0.bsz,fun b _ _=>noA b,fun b z=>absurd z (noA b),e0.funs,e0.frf⟩,
  rfl,e0.bare,Un.kept hk,⟨_,x.toInCall.ns,fun i y v h1 h2 h3=>?_⟩,fun y c h=>⟨_,x.cell y c h⟩,e0.hok.fresh (aR8 _),fun y c h=>?_,fun p hp=>absurd (show p ∈ ([]:List (Addr × Obj)) from hp) (by simp),e0.hok.kept hk,?_⟩
 ·exact name_of_addr x.apart (aW2 h1) (aW2 h2)
 ·have hy:scope.names.lookup y=some .cell ∨ scope.names.lookup y=some .free:=hy
  rcases hy with hy | hy
  ·exact xK hy
  ·exact absurd rfl (S.nofree _ (aW2 hy))
 ·exact bc6 (x.above y c (aW2 h))
 ·have hi:i < vs.length:=by
   unfold gA at h2
   by_cases hi:i < vs.length
   ·exact hi
   ·rw [be5 (by simpa using hi)] at h2
    rw [List.getElem?_replicate] at h2
    split at h2 <;> cases h2
  have ha:vs[i]? = some v:=by
   unfold gA at h2
   rw [bd2 (by simpa using hi),aS8] at h2
   cases e:vs[i]? with
   | none=>rw [e] at h2; cases h2
   | some a=>rw [e] at h2; cases h2; rfl
  obtain ⟨u,hu,rv⟩:=r.get ha
  have hp:ps[i]? = some y:=by
   rw [<- S.pre,List.getElem?_take_of_lt (by omega)]; exact h1
  have ndP:ps.Nodup:=by rw [<- S.pre]; exact S.nd.sublist (List.take_sublist _ _)
  refine⟨u,rv,?_⟩
  rcases S.par y (ba8 hp) with k | k
  ·exact .inl ⟨k,xI ndP hp hu k⟩
  ·obtain ⟨c,e⟩:=xK (n:=s.heap.objs.size+1) k
   refine .inr ⟨.inl k,c,e,?_⟩
   have q:=x.cell y c e
   rw [xJ ndP hp hu (by show scope.names.lookup y ≠ _; rw [k]; decide)] at q
   exact q
 ·exact e0.hok.fresh (bc6 (x.above y c (aW2 h)))
 ·unfold gA
  show _=N.length
  rw [aU1,aS0,List.length_replicate]
  omega
theorem xL {CX:g9}{P:Program}{w:World}{K:PySem.W.Frag}{mg:Str->Option Value}{base:Heap}{k:Nat}{f:Addr}{name qual:Str}{params:Arguments}{body:List Stmt}{scope:Scope}{dV kV doc pm cdv ct oc:Value}{an od:Option Addr}
  {osl:Array (Option Value)}{N ps:List Str}{sp:Sp} (lk:K.lookup f=some ⟨oc,od,.func (PySem.W.fnOf name qual params body scope dV kV doc pm an cdv ct),osl⟩) (hcd:PySem.W.codeIn K cdv qual=true) (S:FnScope N ps scope)
  (len:∀ vs H Q E,sp vs H Q E->vs.length=ps.length)
  (hbody:∀ (A:Around) (outer:List Env) (s:Shared) (H:Hp) (vs:List V) (Q:VK) (E:XK),bY k (A.deeper (envOfC qual scope s.heap.objs.size f cdv))->sp vs H Q E->
   ∃ t,dP (cV CX P w K mg base N qual scope f cdv A outer s H E) body t/\t { nx:=fun _ H'=>Q .non H',rt:=Q } (gA N vs) H) :
  dH P w K mg base CX (k+1) f (PySem.W.fnOf name qual params body scope dV kV doc pm an cdv ct) ps sp:=by
 refine⟨len,fun A outer s H args us vs Q E hr e0 hb r hsp=>?_⟩
 have hl:=len _ _ _ _ hsp
 have KX:K.In s.heap:=e0.mod.kin.keeps fun b o e=>(e0.bs b o e).1
 have lim:s.heap.NoLimit:=e0.mod.nolimit.keeps fun b o e=>(e0.bs b o e).1
 have hkind:∀ y ∈ ps.zip us,scope.names.lookup y.1=some .local ∨ (scope.names.lookup y.1=some .cell/\((cellsFrom (s.heap.objs.size+1) scope.names []).lookup y.1).isSome=true):=fun ⟨n,v⟩ hy=>by
  rcases S.par n (List.of_mem_zip hy).1 with q | q
  ·exact .inl q
  ·exact .inr ⟨q,PySem.W.cellsFrom_some _ _ _ (.inl q)⟩
 refine codeAny_call_function hr.depth (KX _ _ lk) rfl S.co S.gen rfl (PySem.W.codeRec_of KX hcd) (hb _ _ _ _ ?_)
 refine wpAny_newFunctionEnv_cells S.kind hkind fun env he s1 x=>?_
 subst he
 refine⟨lim.keeps x.toInCall.keep,codeAny_func ?_⟩
 obtain ⟨t,ht,hq⟩:=hbody A outer s H vs Q E (hr.deeper _) hsp
 have I:a6 (cV CX P w K mg base N qual scope f cdv A outer s H E) [] (gA N vs) H s1:=ae4 S hr.hd e0 hl r x
 refine aZ8 (ht [] s1 (gA N vs) H _ I hq) (fun fl s' hs=>?_) fun e s' hs=>hs
 have fin:∀ {σ':St}{H':Hp}{v:V}{u:Value},a6 (cV CX P w K mg base N qual scope f cdv A outer s H E) [] σ' H' s'->aQ v u->Q v H'->CE outer P w H s Q u s':=
  fun {σ' H' v u} J rv q=>⟨v,H',J.os,J.bare,J.base,J.hok,rv,q⟩
 cases fl with
 | ret u=>
  obtain ⟨v,σ',H',J,rv,q⟩:=hs
  exact fin J rv q
 | next=>
  obtain ⟨σ',H',J,q⟩:=hs
  exact fin (v:=V.non) (u:=Value.none) J rfl q
 | brk=>
  obtain ⟨_,_,_,q⟩:=hs
  exact False.elim q
 | cont=>
  obtain ⟨_,_,_,q⟩:=hs
  exact False.elim q
section
variable {X : Cx} {x : Str} {p pos : Pos} {e : Expr} {es : List Expr} {t : TA} {id T : String} {r : List V → Hp → VK → Prop}
def sO (r:List V->Hp->VK->Prop) (t:TA):TE:=fun σ H Q=>t σ H fun vs H1=>r vs H1 Q
theorem xM (hc:cN X (.builtin id) r) (hg:Gl X x) (hm:X.mg x=none) (hv:bootBuiltins x=some (.builtin id)) (ha:PA X (e :: es) t) (hn:x ≠ "__name__":=by decide) (hdb:(x == ("__debug__" : Str))=false:=by decide)
  (he:starEach (e :: es) X.env=(false,eval e X.env) :: starEach es X.env:=by rfl) (hpl:(backTo pos (starEach es X.env)).any (·.1)=false:=by rfl):PE X (.Call (.Name x p) (e :: es) [] pos) (sO r t):=by
 intro pins s σ H Q I h
 refine wpAny_Call_Name_kw (jY I hg hm hv ?_ hn hdb)
 exact PyProof.Rows.callWith_builtin1 (aM (ha pos pins s σ H _ I h) fun us s1 ⟨vs,H1,I1,r1,q1⟩=>hc pins s1 σ H1 vs us Q I1 r1 q1) he hpl
theorem ae5 (hc:cN X (.type T) r) (hg:Gl X x) (hm:X.mg x=none) (hv:bootBuiltins x=some (.type T)) (ha:PA X (e :: es) t) (hn:x ≠ "__name__":=by decide) (hdb:(x == ("__debug__" : Str))=false:=by decide)
  (he:starEach (e :: es) X.env=(false,eval e X.env) :: starEach es X.env:=by rfl) (hpl:(backTo pos (starEach es X.env)).any (·.1)=false:=by rfl):PE X (.Call (.Name x p) (e :: es) [] pos) (sO r t):=by
 intro pins s σ H Q I h
 refine wpAny_Call_Name_kw (jY I hg hm hv ?_ hn hdb)
 exact bc4 (aM (ha pos pins s σ H _ I h) fun us s1 ⟨vs,H1,I1,r1,q1⟩=>hc pins s1 σ H1 vs us Q I1 r1 q1) he hpl
end
end L2
namespace HT
open PySem PyProof.Rows
def aI:List Int->List Int->Bool
 | [],[]=>false
 | [],_ :: _=>true
 | _ :: _,[]=>false
 | x :: xs,y :: ys=>if x=y then aI xs ys else decide (x < y)
theorem gB (x y:Int) (xs ys:List Int):aI (x :: xs) (y :: ys)=if x=y then aI xs ys else decide (x < y):=rfl
theorem oK:aI [] []=false:=rfl
theorem xN (y:Int) (ys:List Int):aI [] (y :: ys)=true:=rfl
theorem xO (x:Int) (xs:List Int):aI (x :: xs) []=false:=rfl
theorem xP (A:Around) (s:Shared) (a:Int) (t:Tok) (c:Int) (u:Tok):∃ e,SeqAt.EqAt A s (.int a t) (.int c u) e/\(e=true ↔ a=c):=
 ⟨(a == c),SeqAt.EqAt.int_int a t c u,by simp⟩
theorem ae6 (A:Around) (s:Shared) (a:Int) (t:Tok) (c:Int) (u:Tok) (prog:Program) (w:World) (E:Value->Shared->Prop) (Q:Value->Shared->Prop) (h:Q (.bool (decide (a < c))) s) :
  wpAny (model prog w) A (richCompare .Lt (.int a t) (.int c u)) Q E s:=
 (PyProof.Rows.lt_int h:wpAny (model prog w) A (compareOp .Lt (.int a t) (.int c u)) Q E s)
section
open PySem.SeqAt
open PySem.MeetsSeq PySem.MeetsSeq2 PySem.MeetsSeq3
theorem ae7 (l b:Addr) (items items2:Array Value) (n n2:Nat) (dd dd2:Option Addr) (sl sl2:Array (Option Value)) (ns ms:List Int) (hi:IntsAre items.toList ns) (hj:IntsAre items2.toList ms) :
  Meets (Builtin.«tuple.__lt__» ⟨[.ref l,.ref b],[]⟩)
   (fun _ R s=>s.heap.get? l=some { cls:=.type "tuple",dict:=dd,data:=.seq items n,slots:=sl }/\s.heap.get? b=some { cls:=.type "tuple",dict:=dd2,data:=.seq items2 n2,slots:=sl2 }/\
    R (.ok (.ret (.bool (aI ns ms)))) s):=
 .of_wp fun prog w A R s h=>by
  obtain ⟨hp,g,d,tk,os⟩:=s; obtain ⟨hl,hb,h⟩:=h
  have f2:=AutoSeq1.sub_tuple_tuple
  have z1:items.size=ns.length:=by rw [<- hi.length]; simp
  have z2:items2.size=ms.length:=by rw [<- hj.length]; simp
  wp_walk using bb1 hl,bb1 hb,wpAny_forIn_list _ (fun cG b s'=>b.1=none/\s'=⟨hp,g,d,tk,os⟩/\∃ (vs ws:List Value) (ns' ms':List Int),cG=vs.zip ws/\
   IntsAre vs ns'/\IntsAre ws ms'/\ns'.length+items2.size=ms'.length+items.size/\R (.ok (.ret (.bool (aI ns' ms')))) ⟨hp,g,d,tk,os⟩) _
  case turn=>
   rintro ⟨y,x⟩ cG b s' ⟨hb',rfl,vs,ws,ns',ms',hz,hvi,hwi,hlen,hR⟩
   cases hvi with
   | nil=>rw [List.zip_nil_left] at hz; cases hz
   | cons a t hvi'=>
    cases hwi with
    | nil=>rw [List.zip_nil_right] at hz; cases hz
    | cons c u hwi'=>
     rw [aY4] at hz
     injection hz with hyx hrest
     injection hyx with hy hx
     subst hy hx
     rw [gB] at hR
     simp only [aV5] at hlen
     obtain ⟨e,he,hiff⟩:=xP A.in1 ⟨hp,g,d,tk,os⟩ a t c u
     refine aQ7 (he prog w _ _ ?_)
     cases e with
     | true=>
      rw [if_pos (hiff.mp rfl)] at hR
      wp_walk
      exact⟨rfl,rfl,_,_,_,_,hrest,hvi',hwi',by omega,hR⟩
     | false=>
      rw [if_neg (fun q=>absurd (hiff.mpr q) aT3)] at hR
      have hri:=ae6 A.in1 ⟨hp,g,d,tk,os⟩ a t c u prog w
      wp_walk using hri
      exact⟨_,rfl,by simpa using hR⟩
  case fin=>
   rintro ⟨b1,b2⟩ s' ⟨hb',rfl,vs,ws,ns',ms',hz,hvi,hwi,hlen,hR⟩
   simp only at hb'
   subst hb'
   have hv:aI ns' ms'=decide (items.size < items2.size):=by
    cases hvi with
    | nil=>
     cases hwi with
     | nil=>
      simp only [bd9] at hlen
      rw [oK]
      exact (aR2 (by omega)).symm
     | cons c u hw=>
      simp only [bd9,aV5] at hlen
      rw [xN]
      exact (aR6 (by omega)).symm
    | cons a t hv=>
     cases hwi with
     | nil=>
      simp only [bd9,aV5] at hlen
      rw [xO]
      exact (aR2 (by omega)).symm
     | cons c u hw=>
      rw [aY4] at hz
      cases hz
   rw [hv] at hR
   wp_walk
   exact⟨_,rfl,by simpa [Builtin.Tuple.tupleCompareSizes] using hR⟩
  case h=>
   exact⟨rfl,rfl,items.toList,items2.toList,ns,ms,rfl,hi,hj,by omega,h⟩
end
section
variable {prog : Program} {w : World} {A : Around} {E : Value → Shared → Prop} {s : Shared}
theorem xQ {l b:Addr}{items items2:Array Value}{ns ms:List Int}{Q:Value->Shared->Prop} (hl:IsTup s.heap l items) (hb:IsTup s.heap b items2) (hi:IntsAre items.toList ns) (hj:IntsAre items2.toList ms)
  (hu:A.units < cLine) (h:Q (.bool (aI ns ms)) s):wpAny (model prog w) A (compareOp .Lt (.ref l) (.ref b)) Q E s:=by
 obtain ⟨⟨cls,dd,data,sl⟩,ho,hc,n,hd⟩:=id hl
 obtain ⟨⟨cls2,dd2,data2,sl2⟩,ho2,hc2,n2,hd2⟩:=id hb
 simp only at hc hd hc2 hd2
 subst hc hd hc2 hd2
 exact richCompare_meets_room (op:=.Lt) ⟨_,ho,rfl⟩ ⟨_,ho2,rfl⟩ PySem.F.slot_tuple_lt PySem.F.entry_tuple_lt (PySem.F.args_tuple_lt_2 _ _) (ae7 l b items items2 n n2 dd dd2 sl sl2 ns ms hi hj)
  ⟨ho,ho2,show Value.bool (aI ns ms) ≠ Value.notImplemented/\Q (.bool (aI ns ms)) s from ⟨(fun x=>nomatch x),h⟩⟩ hu
def aT (n d:Nat):Option Int->Nat
 | none=>d
 | some v=>if v < 0 then (v+(n:Int)).toNat else min v.toNat n
theorem ae8 (n d:Nat):aT n d none=d:=rfl
theorem ae9 (n d:Nat) (hd:d<=n) (o:Option Int):aT n d o<=n:=by
 cases o with
 | none=>exact hd
 | some v=>
  show (if v < 0 then (v+(n:Int)).toNat else min v.toNat n)<=n
  by_cases hv:v < 0
  ·rw [if_pos hv]; omega
  ·rw [if_neg hv]; exact Nat.min_le_right _ _
theorem xR (v:Int) (n d:Nat):(if v < 0 then max (v+(n:Int)) 0 else min v (n:Int))=((aT n d (some v):Nat):Int):=by
 show (if v < 0 then max (v+(n:Int)) 0 else min v (n:Int))=(((if v < 0 then (v+(n:Int)).toNat else min v.toNat n):Nat):Int)
 by_cases hv:v < 0
 ·simp only [if_pos hv]; omega
 ·simp only [if_neg hv]; omega
theorem af0 (lo hi:Option Int) (n:Nat):Builtin.Slice.sliceAdjust lo hi 1 (n:Int)=(((aT n 0 lo:Nat):Int),((aT n n hi:Nat):Int)):=by
 have h1 : ¬ ((1:Int) < 0):=by omega
 unfold Builtin.Slice.sliceAdjust
 simp only [h1,aY3]
 refine be6 ?_ ?_
 ·cases lo with
  | none=>rfl
  | some v=>exact xR v n 0
 ·cases hi with
  | none=>rfl
  | some v=>exact xR v n n
theorem af1 (i j:Nat):Builtin.Slice.slicePlaces (i:Int) (j:Int) 1=j - i:=by
 unfold Builtin.Slice.slicePlaces
 have h1:(1:Int) > 0:=by omega
 simp only [h1,if_true,Int.ediv_one]
 split <;> omega
theorem xS {v:Value}{o:Option Int}{Q:Option Int->Shared->Prop} (p:IsPart v o) (h:Q o s):wpAny (model prog w) A (Builtin.Slice.slicePartIndex v) Q E s:=by
 cases p with
 | none=>exact slicePart_none h
 | int i t=>exact slicePart_int h
theorem xT {sl:Addr}{vl vu:Value}{lo hi:Option Int}{n:Nat}{Q:Int × Int × Nat->Shared->Prop} (hs:s.heap.IsSliceOf sl vl vu .none) (pl:IsPart vl lo) (pu:IsPart vu hi)
  (h:Q (((aT n 0 lo:Nat):Int),1,aT n n hi - aT n 0 lo) s):wpAny (model prog w) A (Builtin.Slice.sliceApplied (.ref sl) (pure (n:Int))) Q E s:=by
 obtain ⟨os,hos,hcs,hds⟩:=id hs
 unfold Builtin.Slice.sliceApplied Builtin.Slice.sliceFields
 refine aQ7 (aQ7 (aW6 hos hds (x:=vl) rfl (aQ7 (aW6 hos hds (x:=vu) rfl (aQ7 (aW6 hos hds (x:=.none) rfl (aR3 ?_)))))))
 refine aQ7 (slicePart_none ?_)
 show wpAny _ _ (if ((1:Int) == 0)=true then _ else _) _ _ s
 rw [if_neg (by decide)]
 refine aQ7 (xS pl (aQ7 (xS pu (aQ7 (aR3 ?_)))))
 show wpAny _ _ (match Builtin.Slice.sliceAdjust lo hi 1 (n:Int) with | (lo,hi)=>pure (lo,(1:Int),Builtin.Slice.slicePlaces lo hi 1)) _ _ s
 rw [af0 lo hi n]
 show wpAny _ _ (pure (((aT n 0 lo:Nat):Int),(1:Int),Builtin.Slice.slicePlaces ((aT n 0 lo:Nat):Int) ((aT n n hi:Nat):Int) 1)) _ _ s
 rw [af1]
 exact aR3 h
theorem af2 (xs:Array Value) (i k:Nat):((List.range k).filterMap fun (m:Nat)=>xs[((i:Int)+(m:Int) * 1).toNat]?).toArray=((xs.toList.drop i).take k).toArray:=by
 have e:(fun (m:Nat)=>xs[((i:Int)+(m:Int) * 1).toNat]?)=fun m=>xs[i+m]?:=by
  funext m
  have:((i:Int)+(m:Int) * 1).toNat=i+m:=by omega
  rw [this]
 rw [e]
 have:=pick_run xs i k
 rw [List.filterMap_map] at this
 have e2:((fun x=>xs[x]?) ∘ fun x=>i+x)=fun m=>xs[i+m]?:=rfl
 rw [e2] at this
 rw [this]
theorem af3 {t sl:Addr}{items:Array Value}{vl vu:Value}{lo hi:Option Int}{Q:Value->Shared->Prop} (ht:IsTup s.heap t items) (hs:s.heap.IsSliceOf sl vl vu .none) (pl:IsPart vl lo) (pu:IsPart vu hi)
  (hw : ¬ (aT items.size 0 lo=0/\aT items.size items.size hi=items.size))
  (h:Q (.ref s.heap.objs.size) { s with heap:=s.heap.push { cls:=.type "tuple",data:=.seq ((items.toList.drop (aT items.size 0 lo)).take (aT items.size items.size hi - aT items.size 0 lo)).toArray } })
  (hsz:items.size<=sizeLine):wpAny (model prog w) A (getItem (.ref t) (.ref sl)) Q E s:=by
 have htake:sizeOk (.seq ((items.toList.drop (aT items.size 0 lo)).take (aT items.size items.size hi - aT items.size 0 lo)).toArray):=by
  show ((items.toList.drop (aT items.size 0 lo)).take (aT items.size items.size hi - aT items.size 0 lo)).toArray.size<=sizeLine
  rw [aR1,List.length_take,be3,aW1]
  omega
 have hj:aT items.size items.size hi<=items.size:=ae9 _ _ (aR8 _) hi
 obtain ⟨os,hos,hcs,hds⟩:=id hs
 have hTs:s.TypeIs (.ref sl) "slice":=⟨os,hos,hcs⟩
 unfold getItem
 try with_reducible refine aZ1 ?_
 first | refine aQ7 (aR3 ?_) | skip
 refine aQ7 (wpAny_sequenceKey ht.typeIs (by decide) ?_)
 refine aQ7 (aW7 (name:=Str.ofString "__getitem__") ht.typeIs bd1
  (aW9 bd1 ht.typeIs entry_tuple_getitem ?_ (args_tuple_getitem _ _)))
 show wpAny _ _ (Builtin.Tuple.tupleItemsOf (.ref t) >>= _) _ _ s
 refine aQ7 (tupleItemsOf_ ht ?_)
 refine aQ7 (wpAny_typeOf hTs ?_)
 rw [if_pos (by decide)]
 refine aQ7 (xT hs pl pu ?_)
 have hno : ¬ ((((aT items.size 0 lo:Nat):Int) == 0 && (1:Int) == 1 && (aT items.size items.size hi - aT items.size 0 lo) == items.size)=true):=by
  intro q
  rw [aZ2,aZ2] at q
  have q1:((aT items.size 0 lo:Nat):Int)=0:=eq_of_beq q.1.1
  have q2:aT items.size items.size hi - aT items.size 0 lo=items.size:=eq_of_beq q.2
  exact hw ⟨by omega,by omega⟩
 show wpAny _ _ (if (((aT items.size 0 lo:Nat):Int) == 0 && (1:Int) == 1 && (aT items.size items.size hi - aT items.size 0 lo) == items.size)=true then _ else _) _ _ s
 rw [if_neg hno,af2]
 first
  | exact aQ7 (m:=Builtin.Tuple.tupleExact _) (aV4 (aR3 ⟨_,rfl,aR3 h⟩) htake)
  | exact aQ7 (m:=Builtin.Tuple.tupleExact _) (aV4 (aQ7 (aR3 (aR3 ⟨_,rfl,aR3 h⟩))) htake)
  | exact aQ7 (aQ7 (m:=Builtin.Tuple.tupleExact _) (aV4 (aR3 (aR3 ⟨_,rfl,aR3 h⟩)) htake))
  | exact aQ7 (aQ7 (m:=Builtin.Tuple.tupleExact _) (aV4 (aR3 ⟨_,rfl,aR3 h⟩) htake))
end
end HT
namespace L2
open PySem PySem.Spec PyProof.Rows
abbrev TO:=St->Hp->(Option Int->Hp->Prop)->Prop
def PO (X:Cx) (e:Option Expr) (t:TO):Prop:=
 ∀ (pins:List (Addr × Obj)) (s:Shared) (σ:St) (H:Hp) (Q:Option Int->Hp->Prop),a6 X pins σ H s->t σ H Q->
  wpAny (model X.prog X.w) X.A (evalPart e X.env) (fun u s'=>∃ o H',a6 X pins σ H' s'/\IsPart u o/\Q o H') X.xe s
def af4:TO:=fun _ H Q=>Q none H
def af5 (t:TE):TO:=fun σ H Q=>t σ H fun x H1=>∃ i,x = .int i/\Q (some i) H1
theorem iN {ns:List Int}:∀ {us:List Value},aJ (ns.map V.int) us->IntsAre us ns:=by
 induction ns with
 | nil=>intro us r; rw [List.map_nil] at r; cases r; exact .nil
 | cons n ns ih=>
  intro us r
  rw [aW3] at r
  cases r with
  | cons r1 r2=>
   obtain ⟨t,e⟩:=r1
   subst e
   exact .cons n t (ih r2)
section
variable {X : Cx} {e : Expr} {te : TE} {lo hi : Option Expr} {tl th : TO} {pos p2 : Pos}
theorem af6:PO X none af4:=by
 intro pins s σ H Q I h
 rw [evalPart_none]
 exact aR3 ⟨none,H,I,.none,h⟩
theorem af7 (h:PE X e te):PO X (some e) (af5 te):=by
 intro pins s σ H Q I hw
 rw [evalPart_some]
 refine aM (h pins s σ H _ I hw) fun u s1 ⟨x,H1,I1,r1,q1⟩=>?_
 obtain ⟨i,rfl,q⟩:=q1
 obtain ⟨t,rfl⟩:=r1
 exact⟨some i,H1,I1,.int i t,q⟩
def jK (X:Cx) (r:V->Option Int->Option Int->Hp->VK->Prop):Prop:=
 ∀ (pins:List (Addr × Obj)) (s:Shared) (σ:St) (H:Hp) (x:V) (v vl vu:Value) (lo hi:Option Int) (sl:Addr) (Q:VK),a6 X pins σ H s->aQ x v->s.heap.IsSliceOf sl vl vu .none->IsPart vl lo->IsPart vu hi->r x lo hi H Q->
  ∃ T id,typeLookup (.type T) "__getitem__" = pure (some (.builtin id))/\s.TypeIs v T/\wpAny (model X.prog X.w) X.A (getItem v (.ref sl)) (EP X pins σ Q) X.xe s
theorem jK.or {r r':V->Option Int->Option Int->Hp->VK->Prop} (h:jK X r) (h':jK X r'):jK X (fun x lo hi H Q=>r x lo hi H Q ∨ r' x lo hi H Q):=by
 intro pins s σ H x v vl vu lo hi sl Q I rx hs pl pu q
 rcases q with q | q
 ·exact h pins s σ H x v vl vu lo hi sl Q I rx hs pl pu q
 ·exact h' pins s σ H x v vl vu lo hi sl Q I rx hs pl pu q
def tSl (r:V->Option Int->Option Int->Hp->VK->Prop) (te:TE) (tl th:TO):TE:=fun σ H Q=>te σ H fun x H1=>tl σ H1 fun l H2=>th σ H2 fun u H3=>r x l u H3 Q
theorem af8 {r:V->Option Int->Option Int->Hp->VK->Prop} (hr:jK X r) (he:PE X e te) (hl:PO X lo tl) (hu:PO X hi th):PE X (.Subscript e (.Slice lo hi none p2) pos) (tSl r te tl th):=by
 intro pins s σ H Q I h
 refine Subscript_ (aM (he pins s σ H _ I h) fun v s1 ⟨x,H1,I1,r1,q1⟩=>?_)
 refine wpAny_Slice (aM (hl pins s1 σ H1 _ I1 q1) fun vl s2 ⟨l,H2,I2,pl,q2⟩=>aM (hu pins s2 σ H2 _ I2 q2) fun vu s3 ⟨u,H3,I3,pu,q3⟩=>?_)
 rw [evalPart_none]
 refine aR3 ?_
 have I4:a6 X pins σ H3 { s3 with heap:=s3.heap.push { cls:=.type "slice",data:=.fields #[vl,vu,.none] } }:=I3.kept (t':=s3.toks) fun b ob q=>aQ9 _ q
 obtain ⟨T,id,hT,ht,hg⟩:=hr pins { s3 with heap:=s3.heap.push { cls:=.type "slice",data:=.fields #[vl,vu,.none] } } σ H3 x v vl vu l u s3.heap.objs.size Q I4 r1 (Heap.IsSliceOf.new ..) pl pu q3
 show wpAny (model X.prog X.w) X.A (subscriptTail e (.Slice lo hi none p2) v (.ref s3.heap.objs.size)) (EP X pins σ Q) X.xe { s3 with heap:=s3.heap.push { cls:=.type "slice",data:=.fields #[vl,vu,.none] } }
 exact tail_any (ops:=[.ref s3.heap.objs.size,v]) ht hT hg (by with_unfolding_all rfl)
def gN (xs:List V) (lo hi:Option Int):List V:=(xs.drop (HT.aT xs.length 0 lo)).take (HT.aT xs.length xs.length hi - HT.aT xs.length 0 lo)
theorem xU (xs:List V) (lo hi:Option Int):(gN xs lo hi).length<=xs.length:=by
 unfold gN
 rw [List.length_take,be3]
 omega
def af9 (K:PySem.W.Frag):V->Option Int->Option Int->Hp->VK->Prop:=fun x lo hi H Q=>∃ a xs,x = .ref a/\aN K H a xs/\
 ¬ (HT.aT xs.length 0 lo=0/\HT.aT xs.length xs.length hi=xs.length)/\∀ p,H p=none->Q (.ref p) (upd H p (.tup (gN xs lo hi)))
theorem ag0:jK X (af9 X.K):=by
 intro pins s σ H x v vl vu lo hi sl Q I rx hs pl pu h
 obtain ⟨a,xs,rfl,hx,hw,q⟩:=h
 cases rx
 obtain ⟨its,r,ht,hz⟩:=I.tuple hx
 have hlen:its.toArray.size=xs.length:=by rw [aR1]; exact r.length.symm
 refine⟨"tuple",_,PyProof.Rows.slot_tuple_getitem.lookup,ht.typeIs,?_⟩
 refine HT.af3 ht hs pl pu (by rw [hlen]; exact hw) ?_ (by rw [hlen]; exact hz)
 rw [hlen]
 refine⟨.ref s.heap.objs.size,_,I.laid (t':=s.toks) (o:=.tup (gN xs lo hi)) (fun b ob q=>aQ9 _ q) (aR8 _) ?_,rfl,q _ (I.hok.fresh (aR8 _))⟩
 exact⟨aU8 (xU xs lo hi) hz,_,(r.drop (HT.aT xs.length 0 lo)).take (HT.aT xs.length xs.length hi - HT.aT xs.length 0 lo),IsTup.new _ _,iJ.new _ _ rfl⟩
def sP (K:PySem.W.Frag):R2:=fun x y H Q=>∃ a b ns ms,x = .ref a/\y = .ref b/\aN K H a (ns.map V.int)/\aN K H b (ms.map V.int)/\Q (.bl (HT.aI ns ms)) H
theorem xV (hu:X.A.units < cLine):bX X (compareOp .Lt) (sP X.K):=by
 intro pins s σ H x y v u Q I rx ry h
 obtain ⟨a,b,ns,ms,rfl,rfl,ha,hb,q⟩:=h
 cases rx
 cases ry
 obtain ⟨its,r1,p1,_⟩:=I.tuple ha
 obtain ⟨its2,r2,p2,_⟩:=I.tuple hb
 have i1:IntsAre its.toArray.toList ns:=iN r1
 have i2:IntsAre its2.toArray.toList ms:=iN r2
 exact HT.xQ p1 p2 i1 i2 hu ⟨.bl (HT.aI ns ms),H,I,rfl,q⟩
end
def k7 (n:Nat) (i:Int):Option Nat:=if 0<=i then (if i < n then some i.toNat else none) else if -(n:Int)<=i then some (i+n).toNat else none
def atI {α:Type} (xs:List α) (i:Int):Option α:=(k7 xs.length i).bind fun j=>xs[j]?
theorem ag1 {n:Nat}{i:Int}{j:Nat} (h:k7 n i=some j):seqIndex? i n=some j/\j < n/\-(n:Int)<=i/\i < n:=by
 unfold k7 at h
 by_cases h0:0<=i
 ·rw [if_pos h0] at h
  by_cases h1:i < n
  ·rw [if_pos h1] at h
   have e:i.toNat=j:=aT5 h
   exact⟨by rw [seqIndex_of h0 h1,e],by omega,by omega,h1⟩
  ·rw [if_neg h1] at h; cases h
 ·rw [if_neg h0] at h
  by_cases h1 : -(n:Int)<=i
  ·rw [if_pos h1] at h
   have e:(i+n).toNat=j:=aT5 h
   exact⟨by rw [seqIndex_neg (by omega) h1,e],by omega,h1,by omega⟩
  ·rw [if_neg h1] at h; cases h
theorem sQ {α:Type}{xs:List α}{i:Int}{v:α} (h:atI xs i=some v):∃ j,seqIndex? i xs.length=some j/\xs[j]? = some v/\j < xs.length/\-(xs.length:Int)<=i/\i < xs.length:=by
 unfold atI at h
 cases e:k7 xs.length i with
 | none=>rw [e] at h; cases h
 | some j=>
  rw [e] at h
  obtain ⟨h1,h2,h3,h4⟩:=ag1 e
  exact⟨j,h1,h,h2,h3,h4⟩
theorem oM {α:Type}{xs:List α}{j:Nat}{v:α} (h:xs[j]? = some v):atI xs (j:Int)=some v:=by
 have hj:j < xs.length:=(aS2.mp h).1
 have e:k7 xs.length (j:Int)=some j:=by
  unfold k7
  rw [if_pos (by omega),if_pos (by omega)]; simp
 unfold atI; rw [e]; exact h
def xW (b:Expr):Prop:=∀ o i,subscripted b false o i=operate [o,i] (getItem o i)
def iO (X:Cx) (r:R2):Prop:=
 ∀ (value slice:Expr) (pins:List (Addr × Obj)) (s:Shared) (σ:St) (H:Hp) (x y:V) (v u:Value) (Q:VK),a6 X pins σ H s->aQ x v->aQ y u->r x y H Q->
  subscripted slice false v u=operate [v,u] (getItem v u)->wpAny (model X.prog X.w) X.A (subscriptTail value slice v u) (EP X pins σ Q) X.xe s
def xX (X:Cx) (id:String) (r:V->List V->Hp->VK->Prop):Prop:=
 ∀ (pins:List (Addr × Obj)) (s:Shared) (σ:St) (H:Hp) (x:V) (xs:List V) (v:Value) (us:List Value) (Q:VK),a6 X pins σ H s->aQ x v->aJ xs us->r x xs H Q->
  wpAny (model X.prog X.w) X.A (call (.builtin id) (v :: us)) (EP X pins σ Q) X.xe s
section
variable {X : Cx} {a b : Expr} {ta tb : TE} {pos : Pos}
theorem iO.or {r r':R2} (h:iO X r) (h':iO X r'):iO X (fun x y H Q=>r x y H Q ∨ r' x y H Q):=by
 intro value slice pins s σ H x y v u Q I rx ry q hs
 rcases q with q | q
 ·exact h value slice pins s σ H x y v u Q I rx ry q hs
 ·exact h' value slice pins s σ H x y v u Q I rx ry q hs
theorem ag2 {r:R2} (hr:iO X r) (ha:PE X a ta) (hb:PE X b tb) (hs:xW b):PE X (.Subscript a b pos) (mI r ta tb):=by
 intro pins s σ H Q I h
 exact Subscript_ (sF ha hb I h fun v u s2 x y H2 I2 rx ry q=>hr a b pins s2 σ H2 x y v u Q I2 rx ry q (hs _ _))
def xY (K:PySem.W.Frag):R2:=fun x y H Q=>∃ p xs i v,x = .ref p/\y = .int i/\aP K H p xs/\atI xs i=some v/\Q v H
def xZ (K:PySem.W.Frag):R2:=fun x y H Q=>∃ p xs i v,x = .ref p/\y = .int i/\aN K H p xs/\atI xs i=some v/\Q v H
def y3:R2:=fun x y H Q=>∃ z i c,x = .str z/\y = .int i/\z.length<=sizeLine/\atI z.cps.toList i=some c/\Q (.str ⟨#[c]⟩) H
theorem ag3:iO X (xY X.K):=by
 intro value slice pins s σ H x y v u Q I rx ry h hs
 obtain ⟨p,xs,i,z,rfl,rfl,hq,he,q⟩:=h
 cases rx
 obtain ⟨t,rfl⟩:=ry
 obtain ⟨its,r,pl,hz⟩:=I.list hq
 obtain ⟨j,h1,h2,h3,h4,h5⟩:=sQ he
 obtain ⟨w,ew,rw'⟩:=r.get h2
 have hl:=r.length
 have hn:=oI
 have fin:EP X pins σ Q w s:=⟨z,H,I,rw',q⟩
 by_cases h0:0<=i
 ·have hj:i.toNat=j:=by
   rw [seqIndex_of h0 h5] at h1
   exact aT5 h1
  exact item_listR pl.isList h0 (by omega) (by rw [hj]; simpa using ew) fin hs
 ·have hj:(i+(its.toArray.size:Int)).toNat=j:=by
   rw [seqIndex_neg (by omega) h4] at h1
   rw [aR1,<- hl]
   exact aT5 h1
  exact subscriptTail_builtinR (x:=w) pl.isList.typeIs slot_list_getitem.lookup
   (wpAny_getItem_list_neg (Q:=fun r s'=>r=w/\EP X pins σ Q r s') pl.isList (by omega) (by rw [aR1] <;> omega) (by omega) (by rw [hj]; simpa using ew) ⟨rfl,fin⟩) hs
theorem ag4:iO X (xZ X.K):=by
 intro value slice pins s σ H x y v u Q I rx ry h hs
 obtain ⟨p,xs,i,z,rfl,rfl,hq,he,q⟩:=h
 cases rx
 obtain ⟨t,rfl⟩:=ry
 obtain ⟨its,r,pl,hz⟩:=I.tuple hq
 obtain ⟨j,h1,h2,h3,h4,h5⟩:=sQ he
 obtain ⟨w,ew,rw'⟩:=r.get h2
 have hl:=r.length
 have hn:=oI
 have fin:EP X pins σ Q w s:=⟨z,H,I,rw',q⟩
 exact subscriptTail_builtinR (x:=w) pl.typeIs slot_tuple_getitem.lookup
  (getItem_tuple (j:=j) (Q:=fun r s'=>r=w/\EP X pins σ Q r s') pl (by omega) (by omega) (by rw [aR1,<- hl]; exact h1) (by simpa using ew) ⟨rfl,fin⟩) hs
theorem ag5:iO X y3:=by
 intro value slice pins s σ H x y v u Q I rx ry h hs
 obtain ⟨z,i,c,rfl,rfl,hz,he,q⟩:=h
 obtain ⟨t,rfl⟩:=rx
 obtain ⟨t',rfl⟩:=ry
 obtain ⟨j,h1,h2,h3,h4,h5⟩:=sQ he
 have hl:z.cps.toList.length=z.length:=by simp [Str.length]
 rw [hl] at h1 h4 h5
 have hn:=oI
 exact tail_any (typeIs_str s z t) slot_str_getitem.lookup (getItem_str (c:=c) (by
  have e1:decide (i < -(2 ^ 63:Int))=false:=aR2 (by omega)
  have e2:decide (i >= 2 ^ 63)=false:=aR2 (by omega)
  rw [e1,e2,Bool.or_false]) (by rw [h1]; simpa using h2) ⟨.str ⟨#[c]⟩,H,I.tok _,⟨_,rfl⟩,q⟩) hs
def y9 (K:PySem.W.Frag):R2:=fun x y H Q=>xY K x y H Q ∨ xZ K x y H Q ∨ y3 x y H Q
theorem ag6:iO X (y9 X.K):=ag3.or (ag4.or ag5)
theorem ag7 (lo hi:Option Int) (n:Nat):(sliceBounds lo hi none n).1=((HT.aT n 0 lo:Nat):Int)/\(sliceBounds lo hi none n).2.1=((HT.aT n n hi:Nat):Int)/\(sliceBounds lo hi none n).2.2=1:=by
 refine⟨?_,?_,rfl⟩
 ·cases lo with
  | none=>simp [sliceBounds,HT.aT]
  | some i=>
   simp only [sliceBounds,HT.aT,Option.getD_none,show (1:Int) > 0 by decide,if_true]
   by_cases h:i < 0
   ·simp only [h,if_true] <;> omega
   ·simp only [h,aY3] <;> omega
 ·cases hi with
  | none=>simp [sliceBounds,HT.aT]
  | some i=>
   simp only [sliceBounds,HT.aT,Option.getD_none,show (1:Int) > 0 by decide,if_true]
   by_cases h:i < 0
   ·simp only [h,if_true] <;> omega
   ·simp only [h,aY3] <;> omega
theorem ag8 (its:List Value) (lo hi:Option Int):slicePick its.toArray lo hi none=((its.drop (HT.aT its.length 0 lo)).take (HT.aT its.length its.length hi - HT.aT its.length 0 lo)).toArray:=by
 obtain ⟨h1,h2,h3⟩:=ag7 lo hi its.toArray.size
 unfold slicePick
 rw [h1,h2,h3]
 simp only [sliceRange_one,pick_run,aR1] <;> rfl
def ag9 (K:PySem.W.Frag):V->Option Int->Option Int->Hp->VK->Prop:=fun x lo hi H Q=>∃ a xs,x = .ref a/\aP K H a xs/\∀ p,H p=none->Q (.ref p) (upd H p (.lst (gN xs lo hi)))
theorem ah0:jK X (ag9 X.K):=by
 intro pins s σ H x v vl vu lo hi sl Q I rx hs pl pu h
 obtain ⟨a,xs,rfl,hx,q⟩:=h
 cases rx
 obtain ⟨its,r,ht,hz⟩:=I.list hx
 have hlen:=r.length
 refine⟨"list",_,slot_list_getitem.lookup,ht.isList.typeIs,?_⟩
 refine wpAny_getItem_list_slice ht.isList hs pl pu .none (by simp) ?_ (by rw [aR1] <;> omega)
 rw [ag8,<- hlen]
 refine⟨.ref s.heap.objs.size,_,I.laid (t':=s.toks) (o:=.lst (gN xs lo hi)) (fun b ob q=>aQ9 _ q) (aR8 _) ?_,rfl,q _ (I.hok.fresh (aR8 _))⟩
 exact⟨aU8 (xU xs lo hi) hz,_,0,(r.drop (HT.aT xs.length 0 lo)).take (HT.aT xs.length xs.length hi - HT.aT xs.length 0 lo),aS5 _ rfl⟩
theorem ah1:cN X (.builtin "len") (fun xs H Q=>∃ p ys,xs = [.ref p]/\(aP X.K H p ys ∨ aN X.K H p ys)/\Q (.int ys.length) H):=by
 intro pins s σ H xs us Q I r h
 obtain ⟨p,ys,rfl,hq,q⟩:=h
 obtain ⟨u,rfl,rx⟩:=iM r
 cases rx
 have hn:=oI
 rcases hq with hq | hq
 ·obtain ⟨its,r',pl,hz⟩:=I.list hq
  have hlen:=r'.length
  exact Calls.call_len_list pl.isList (by simp only [aR1] <;> omega) ⟨.int ys.length,H,I.tok _,⟨s.toks+1,by rw [aR1,hlen]⟩,q⟩
 ·obtain ⟨its,r',pl,hz⟩:=I.tuple hq
  have hlen:=r'.length
  exact len_tuple pl (by simp only [aR1] <;> omega) ⟨.int ys.length,H,I.tok _,⟨s.toks+1,by rw [aR1,hlen]⟩,q⟩
theorem cN.or {f:Value}{r r':List V->Hp->VK->Prop} (h:cN X f r) (h':cN X f r'):cN X f (fun xs H Q=>r xs H Q ∨ r' xs H Q):=by
 intro pins s σ H xs us Q I rs q
 rcases q with q | q
 ·exact h pins s σ H xs us Q I rs q
 ·exact h' pins s σ H xs us Q I rs q
theorem ah2:cN X (.type "list") (fun xs H Q=>∃ p ys,xs = [.ref p]/\(aP X.K H p ys ∨ aN X.K H p ys)/\∀ l,H l=none->Q (.ref l) (upd H l (.lst ys))):=by
 intro pins s σ H xs us Q I r h
 obtain ⟨p,ys,rfl,hq,q⟩:=h
 obtain ⟨u,rfl,rx⟩:=iM r
 cases rx
 have fin:∀ (its:List Value),aJ ys its->ys.length<=sizeLine->∀ (h':Heap) (c':Nat),(∀ b o',s.heap.get? b=some o'->h'.get? b=some o')->
   h'.get? s.heap.objs.size=some { cls:=.type "list",dict:=none,data:=.seq its.toArray c',slots:=#[] }->EP X pins σ Q (.ref s.heap.objs.size) { s with heap:=h' }:=fun its r' hz h' c' kp e=>
  ⟨.ref s.heap.objs.size,_,I.laid (t':=s.toks) kp (aR8 _) (show bT X.prog X.w _ h' _ (.lst ys) from ⟨hz,its,c',r',e⟩),rfl,q _ (I.hok.fresh (aR8 _))⟩
 rcases hq with hq | hq
 ·obtain ⟨its,r',pl,hz⟩:=I.list hq
  have hlen:=r'.length
  obtain ⟨o,ho,hc,n,hd⟩:=pl.isList
  exact call_list_seq p (.inl rfl) ho hc hd (fun h' c' kp e=>fin its r' hz h' c' kp e) (by simp only [aR1] <;> omega)
 ·obtain ⟨its,r',pl,hz⟩:=I.tuple hq
  have hlen:=r'.length
  obtain ⟨o,ho,hc,n,hd⟩:=pl
  exact call_list_seq p (.inr rfl) ho hc hd (fun h' c' kp e=>fin its r' hz h' c' kp e) (by simp only [aR1] <;> omega)
theorem ah3:cN X (.type "tuple") (fun xs H Q=>∃ p ys,xs = [.ref p]/\((aP X.K H p ys/\∀ l,H l=none->Q (.ref l) (upd H l (.tup ys))) ∨ (aN X.K H p ys/\Q (.ref p) H))):=by
 intro pins s σ H xs us Q I r h
 obtain ⟨p,ys,rfl,h⟩:=h
 obtain ⟨u,rfl,rx⟩:=iM r
 cases rx
 rcases h with ⟨hq,q⟩ | ⟨hq,q⟩
 ·obtain ⟨its,r',pl,hz⟩:=I.list hq
  have hlen:=r'.length
  refine call_tuple_list pl.isList (fun h' kp=>?_) (by simp only [aR1] <;> omega)
  have I1:a6 X pins σ H { s with heap:=h' }:=I.kept (t':=s.toks) kp
  have I2:a6 X pins σ (upd H h'.objs.size (.tup ys)) { s with heap:=h'.push { cls:=.type "tuple",data:=.seq its.toArray } }:=
   I1.laid (t':=s.toks) (fun b o e=>aQ9 _ e) (aR8 _) (show bT X.prog X.w _ _ _ (.tup ys) from ⟨hz,its,r',IsTup.new _ _,iJ.new _ _ rfl⟩)
  exact⟨.ref h'.objs.size,_,I2,rfl,q _ (I1.hok.fresh (aR8 _))⟩
 ·obtain ⟨its,r',pl,hz⟩:=I.tuple hq
  exact call_tuple_same pl ⟨.ref p,H,I,rfl,q⟩
def mL (K:PySem.W.Frag) (T:String) (x:V) (H:Hp):Prop:=match x with
 | .str _=>T="str"
 | .int _=>T="int"
 | .ref p=>(T="list"/\∃ xs,aP K H p xs) ∨ (T="tuple"/\∃ o,K.lookup p=some o/\o.cls = .type "tuple"/\o.dict=none) ∨
   (T="dict"/\((∃ kvs,H p=some (.dK kvs)) ∨ ∃ kvs,H p=some (.dT kvs))) ∨ (T="set"/\∃ S n,H p=some (.set S n))
 | _=>False
theorem yA {pins:List (Addr × Obj)}{σ:St}{H:Hp}{s:Shared}{T:String}{x:V}{v:Value} (I:a6 X pins σ H s) (r:aQ x v) (ty:mL X.K T x H) :
  s.TypeIs v T/\∀ a,v = .ref a->∃ ob,s.heap.get? a=some ob/\ob.dict=none:=by
 cases x with
 | str z=>
  obtain ⟨t,rfl⟩:=r
  cases (show T="str" from ty)
  exact⟨typeIs_str s z t,fun _ e=>nomatch e⟩
 | int i=>
  obtain ⟨t,rfl⟩:=r
  cases (show T="int" from ty)
  exact⟨typeIs_int s i t,fun _ e=>nomatch e⟩
 | ref p=>
  cases r
  rcases ty with ⟨rfl,xs,hq⟩ | ⟨rfl,o,hk,hc,hd⟩ | ⟨rfl,hk⟩ | ⟨rfl,S,n,hk⟩
  ·obtain ⟨its,_,pl,_⟩:=I.list hq
   refine⟨pl.isList.typeIs,fun a e=>?_⟩
   cases e
   obtain ⟨o,n,e,c,hd,_⟩:=pl
   exact⟨o,e,hd⟩
  ·refine⟨⟨o,I.kIn p o hk,hc⟩,fun a e=>?_⟩
   cases e
   exact⟨o,I.kIn _ o hk,hd⟩
  ·have z:∃ o,s.heap.get? p=some o/\o.ExactDict:=by
    rcases hk with ⟨kvs,hk⟩ | ⟨kvs,hk⟩
    ·obtain ⟨_,_,_,_,o,_,_,e,ex,_⟩:=I.hok p _ hk
     exact⟨o,e,ex⟩
    ·obtain ⟨_,_,_,_,o,_,_,e,ex,_⟩:=I.hok p _ hk
     exact⟨o,e,ex⟩
   obtain ⟨o,e,ex⟩:=z
   refine⟨⟨o,e,ex.1⟩,fun a e2=>?_⟩
   cases e2
   exact⟨o,e,ex.2.1⟩
  ·obtain ⟨o,_,_,_,e,ex,_⟩:=I.hok p _ hk
   refine⟨⟨o,e,ex.1⟩,fun a e2=>?_⟩
   cases e2
   exact⟨o,e,ex.2.1⟩
 | _=>exact False.elim ty
def yB (K:PySem.W.Frag) (T:String) (r:V->List V->Hp->VK->Prop) (to:TE):TE:=fun σ H Q=>to σ H fun x H1=>mL K T x H1/\r x [] H1 Q
def sR (K:PySem.W.Frag) (T:String) (r:V->List V->Hp->VK->Prop) (to:TE) (t:TA):TE:=fun σ H Q=>to σ H fun x H1=>mL K T x H1/\t σ H1 fun xs H2=>r x xs H2 Q
variable {o e : Expr} {es : List Expr} {to : TE} {t : TA} {name : Str} {apos cpos : Pos} {T id : String} {r : V → List V → Hp → VK → Prop}
theorem ah4 (pa:PlainAttrs T) (slot:Slot T name id) (hty:typeOf (.builtin id)=pure (.type "method_descriptor")) (hm:xX X id r) (ho:PE X o to)
  (hbase:attributeBase o name X.env (eval o X.env)=eval o X.env:=by rfl) (hline:(apos.endLine == cpos.line)=true:=by rfl):PE X (.Call (.Attribute o name apos) [] [] cpos) (yB X.K T r to):=by
 intro pins s σ H Q I h
 refine wpAny_Call_method0_late hbase hline (aM (ho pins s σ H _ I h) fun v s1 ⟨x,H1,I1,r1,ty,q1⟩=>?_)
 obtain ⟨h1,h2⟩:=yA I1 r1 ty
 exact⟨T,id,pa,slot,hty,h1,h2,Calls.callWith_builtin rfl (PySem.evalArgs_none (hm pins s1 σ H1 x [] v [] Q I1 r1 .nil q1))⟩
theorem yC (pa:PlainAttrs T) (slot:Slot T name id) (hty:typeOf (.builtin id)=pure (.type "method_descriptor")) (hm:xX X id r) (ho:PE X o to) (ha:PA X (e :: es) t)
  (hbase:attributeBase o name X.env (eval o X.env)=eval o X.env:=by rfl)
  (hfew:((backTo cpos (starEach (e :: es) X.env)).all (fun x=>!x.1) && (backToKw cpos (keywordEach [] X.env)).all (fun x=>x.1.isSome)
   && decide ((e :: es).length+([]:List Keyword).length+(if ([]:List Keyword).isEmpty then 0 else 1) < 30))=true:=by rfl)
  (hline:(apos.endLine == cpos.line)=true:=by rfl) (hs:starEach (e :: es) X.env=(false,eval e X.env) :: starEach es X.env:=by rfl) (hplain:(backTo cpos (starEach es X.env)).any (·.1)=false:=by rfl) :
  PE X (.Call (.Attribute o name apos) (e :: es) [] cpos) (sR X.K T r to t):=by
 intro pins s σ H Q I h
 refine wpAny_Call_method_late hbase hfew hline rfl (aM (ho pins s σ H _ I h) fun v s1 ⟨x,H1,I1,r1,ty,q1⟩=>?_)
 obtain ⟨h1,h2⟩:=yA I1 r1 ty
 refine⟨T,id,pa,slot,hty,h1,h2,?_⟩
 have hA:=ha cpos pins s1 σ H1 _ I1 q1
 rw [hs] at hA ⊢
 refine Calls.callWith_builtin (by show (false || (backTo cpos (starEach es X.env)).any (·.1))=false; rw [hplain] <;> rfl) (Calls.evalArgs_plain ?_)
 exact aM hA fun us s2 ⟨vs,H2,I2,r2,q2⟩=>hm pins s2 σ H2 x vs v us Q I2 r1 r2 q2
end
def mM (X:Cx) (id:String) (r:V->List V->Hp->VK->Prop):Prop:=
 ∀ (pins:List (Addr × Obj)) (s:Shared) (σ:St) (H:Hp) (x:V) (xs:List V) (v:Value) (us:List Value) (Q:VK),a6 X pins σ H s->aQ x v->aJ xs us->r x xs H Q->
  wpAny (model X.prog X.w) X.A (call (.builtin id) (v :: us)) (EP X pins σ Q) X.xe s
theorem aJ.one {x:V}{us:List Value} (h:aJ [x] us):∃ u,us = [u]/\aQ x u:=by
 cases h with
 | cons r t=>
  cases t
  exact⟨_,rfl,r⟩
theorem aJ.two {x y:V}{us:List Value} (h:aJ [x,y] us):∃ u v,us = [u,v]/\aQ x u/\aQ y v:=by
 cases h with
 | cons r t=>
  cases t with
  | cons q t=>
   cases t
   exact⟨_,_,rfl,r,q⟩
theorem aJ.zero:∀ {us:List Value},aJ [] us->us = []
 | _,.nil=>rfl
theorem aJ.dropLast {xs:List V}{us:List Value} (h:aJ xs us):aJ xs.dropLast us.dropLast:=by
 induction h with
 | nil=>exact .nil
 | cons r t ih=>
  cases t with
  | nil=>exact .nil
  | cons q t'=>exact .cons r ih
theorem aJ.eraseIdx:∀ {xs:List V}{us:List Value} (i:Nat),aJ xs us->aJ (xs.eraseIdx i) (us.eraseIdx i)
 | _,_,_,.nil=>.nil
 | _,_,0,.cons _ t=>t
 | _,_,i+1,.cons r t=>.cons r (aJ.eraseIdx i t)
theorem ah5 {α:Type} (l:List α):l.eraseIdx (l.length - 1)=l.dropLast:=by
 induction l with
 | nil=>rfl
 | cons a r ih=>
  cases r with
  | nil=>rfl
  | cons b r=>
   have e:(a :: b :: r).length - 1=((b :: r).length - 1)+1:=by
    have h1:(a :: b :: r).length=r.length+2:=rfl
    have h2:(b :: r).length=r.length+1:=rfl
    omega
   rw [e,List.eraseIdx_cons_succ,ih]
   all_goals rfl
section
variable {X : Cx} {pins : List (Addr × Obj)} {σ : St} {H : Hp} {s : Shared} {l b : Addr} {xs ys zs : List V}
theorem a6.lset {its its':List Value}{n:Nat}{f:Array Value->Array Value}{t':Nat} (I:a6 X pins σ H s) (hH:H l=some (.lst xs))
  (e:s.heap.get? l=some { cls:=.type "list",data:=.seq its.toArray n }) (hf:f its.toArray=its'.toArray) (hv:aJ ys its') (hz:ys.length<=sizeLine) :
  a6 X pins σ (upd H l (.lst ys)) { s with heap:=s.heap.update l (Obj.mapSeq f),toks:=t' }:=by
 have q:=PySem.IsL.update e f
 rw [hf] at q
 refine I.write (x:=l) (e:=l) (by rw [hH]; exact trivial) (.inl rfl) (fun b' u hb hu=>(be2 s.heap (Obj.mapSeq f) (Ne.symm hb)).trans hu) ⟨_,q⟩ ?_
 exact⟨hz,its',_,hv,q⟩
theorem a6.lnew {its:List Value}{t':Nat} (I:a6 X pins σ H s) (hv:aJ ys its) (hz:ys.length<=sizeLine) :
  a6 X pins σ (upd H s.heap.objs.size (.lst ys)) { s with heap:=s.heap.push { cls:=.type "list",data:=.seq its.toArray },toks:=t' }:=
 I.laid (fun _ _ q=>aQ9 _ q) (aR8 _) ⟨hz,its,0,hv,aS5 _ rfl⟩
theorem a6.fresh (I:a6 X pins σ H s):H s.heap.objs.size=none:=I.hok.fresh (aR8 _)
theorem a6.lstM (I:a6 X pins σ H s) (hH:H l=some (.lst xs)):xs.length<=sizeLine/\∃ (its:List Value) (n:Nat),aJ xs its/\xs.length=its.length/\s.heap.get? l=some { cls:=.type "list",data:=.seq its.toArray n }:=by
 obtain ⟨z,its,n,r,e⟩:=I.hok l _ hH
 exact⟨z,its,n,r,r.length,e⟩
theorem ah6 {n:Nat} (h:n<=sizeLine):Builtin.List.listTooLong n=false:=by
 unfold Builtin.List.listTooLong
 exact aR2 (by omega)
end
section
variable {X : Cx}
def yD:V->List V->Hp->VK->Prop:=fun x vs H Q=>∃ l xs y,x = .ref l/\vs = [y]/\H l=some (.lst xs)/\xs.length < sizeLine/\Q .non (upd H l (.lst (xs ++ [y])))
theorem yE:mM X "list.append" yD:=by
 intro pins s σ H x vs v us Q I rx rv h
 obtain ⟨l,xs,y,rfl,rfl,hH,hz,q⟩:=h
 cases rx
 obtain ⟨u,rfl,ru⟩:=rv.one
 obtain ⟨z,its,n,r,hl,e⟩:=I.lstM hH
 refine call_meets F.slot_list_append ⟨_,e,rfl⟩ F.entry_list_append (F.args_list_append_2 _ _) (PySem.list_append l its.toArray n u (by rw [aR1]; omega)) ⟨e,?_⟩
 refine⟨.non,_,I.lset (its':=its ++ [u]) hH e (by simp) (r.append (.cons ru .nil)) ?_,rfl,q⟩
 rw [aU1,ba0]
 omega
def ah7:V->List V->Hp->VK->Prop:=fun x vs H Q=>∃ l b xs zs,x = .ref l/\vs = [.ref b]/\H l=some (.lst xs)/\H b=some (.lst zs)/\xs.length+zs.length<=sizeLine/\Q .non (upd H l (.lst (xs ++ zs)))
theorem aQ4:mM X "list.extend" ah7:=by
 intro pins s σ H x vs v us Q I rx rv h
 obtain ⟨l,b,xs,zs,rfl,rfl,hH,hB,hz,q⟩:=h
 cases rx
 obtain ⟨u,rfl,ru⟩:=rv.one
 cases ru
 obtain ⟨z,its,n,r,hl,e⟩:=I.lstM hH
 obtain ⟨z2,its2,n2,r2,hl2,e2⟩:=I.lstM hB
 have hsz:its.toArray.size+its2.toArray.size<=sizeLine:=by rw [aR1,aR1]; omega
 have hlong : ¬ (!its.toArray.isEmpty && Builtin.List.listTooLong (its.toArray.size+its2.toArray.size))=true:=by
  rw [ah6 hsz,ba9]
  exact aT3
 refine call_meets F.slot_list_extend ⟨_,e,rfl⟩ F.entry_list_extend (F.args_list_extend_2 _ _)
  (AutoSeq1.list_extend_list_list_0 l its.toArray n b its2.toArray n2 hlong (by rw [aR1]; omega) (by omega)) ⟨e,e2,?_⟩
 refine⟨.non,_,I.lset (its':=its ++ its2) hH e (by simp) (r.append r2) ?_,rfl,q⟩
 rw [aU1]
 omega
def ah8:V->List V->Hp->VK->Prop:=fun x vs H Q=>∃ l xs y,x = .ref l/\vs = []/\H l=some (.lst xs)/\xs[xs.length - 1]? = some y/\Q y (upd H l (.lst xs.dropLast))
theorem aQ5:mM X "list.pop" ah8:=by
 intro pins s σ H x vs v us Q I rx rv h
 obtain ⟨l,xs,y,rfl,rfl,hH,hy,q⟩:=h
 cases rx
 have hus:=rv.zero
 subst hus
 obtain ⟨z,its,n,r,hl,e⟩:=I.lstM hH
 obtain ⟨u,hu,ru⟩:=r.get hy
 have hy':its.toArray[its.toArray.size - 1]? = some u:=by
  show its.toArray[its.length - 1]? = some u
  rw [<- ba1,<- hl]
  exact hu
 refine call_meets F.slot_list_pop ⟨_,e,rfl⟩ F.entry_list_pop (F.args_list_pop_1 _) (MeetsSeq.list_pop_last l its.toArray n u hy' (by rw [aR1]; omega)) ⟨e,?_⟩
 refine⟨y,_,I.lset (its':=its.dropLast) hH e ?_ r.dropLast ?_,ru,q⟩
 ·show its.toArray.eraseIdxIfInBounds (its.toArray.size - 1)=its.dropLast.toArray
  rw [aR1,List.eraseIdxIfInBounds_toArray,ah5]
 ·rw [List.length_dropLast]
  omega
def yF:V->List V->Hp->VK->Prop:=fun x vs H Q=>∃ l xs,x = .ref l/\vs = []/\H l=some (.lst xs)/\Q .non (upd H l (.lst []))
theorem ah9:mM X "list.clear" yF:=by
 intro pins s σ H x vs v us Q I rx rv h
 obtain ⟨l,xs,rfl,rfl,hH,q⟩:=h
 cases rx
 have hus:=rv.zero
 subst hus
 obtain ⟨z,its,n,r,hl,e⟩:=I.lstM hH
 refine call_meets F.slot_list_clear ⟨_,e,rfl⟩ F.entry_list_clear (F.args_list_clear_1 _) (AutoSeq1.list_clear_list_0 l its.toArray n (by rw [aR1]; omega)) ⟨e,?_⟩
 exact⟨.non,_,I.lset (its':=[]) (ys:=[]) hH e rfl .nil (aZ6 _),rfl,q⟩
def yG:R2:=fun x y H Q=>∃ l b xs zs,x = .ref l/\y = .ref b/\H l=some (.lst xs)/\H b=some (.lst zs)/\xs.length+zs.length<=sizeLine/\∀ p,H p=none->Q (.ref p) (upd H p (.lst (xs ++ zs)))
theorem ai0:bX X (binaryOp .Add) yG:=by
 intro pins s σ H x y v u Q I rx ry h
 obtain ⟨l,b,xs,zs,rfl,rfl,hH,hB,hz,q⟩:=h
 cases rx
 cases ry
 obtain ⟨z,its,n,r,hl,e⟩:=I.lstM hH
 obtain ⟨z2,its2,n2,r2,hl2,e2⟩:=I.lstM hB
 refine PySem.P.add_list e e2 ?_ (by rw [aR1,aR1]; omega)
 have ea:its.toArray ++ its2.toArray=(its ++ its2).toArray:=by simp
 rw [ea]
 exact⟨.ref _,_,I.lnew (t':=s.toks) (r.append r2) (by rw [aU1]; omega),rfl,q _ I.fresh⟩
end
section
variable {κ : Type} [DecidableEq κ]
def eF (kvs:List (κ × V)) (k:κ):Option V:=(kvs.find? fun kv=>decide (kv.1=k)).map (·.2)
def eN (kvs:List (κ × V)) (k:κ) (v:V):List (κ × V):=
 if (kvs.any fun kv=>decide (kv.1=k))=true then kvs.map (fun kv=>if kv.1=k then (kv.1,v) else kv) else kvs ++ [(k,v)]
theorem sS {p:κ × V}{r:List (κ × V)}{k:κ} (e:p.1=k):eF (p :: r) k=some p.2:=by simp [eF,bc0,e]
theorem sU {p:κ × V}{r:List (κ × V)}{k:κ} (e : ¬ p.1=k):eF (p :: r) k=eF r k:=by simp [eF,bc0,e]
theorem yH (k:κ):∀ kvs:List (κ × V),(kvs.any fun kv=>decide (kv.1=k))=(eF kvs k).isSome
 | []=>rfl
 | p :: r=>by
  rw [List.any_cons]
  by_cases e:p.1=k
  ·simp only [sS e,aR6 e,Bool.true_or,Option.isSome_some]
  ·rw [sU e,aR2 e,Bool.false_or]; exact yH k r
theorem yI (kvs:List (κ × V)) (k:κ) (v:V):(eN kvs k v).length<=kvs.length+1:=by
 unfold eN
 split
 ·rw [aS0]; omega
 ·rw [aU1,aV5,bd9]; omega
theorem eZ.isSome_eq {o:Option V}{u:Option Value} (r:eZ o u):o.isSome=u.isSome:=by
 cases o with
 | none=>cases u with
  | none=>rfl
  | some _=>exact (show False from r).elim
 | some _=>cases u with
  | none=>exact (show False from r).elim
  | some _=>rfl
theorem eZ.getD {o:Option V}{u:Option Value}{d:V}{d':Value} (r:eZ o u) (rd:aQ d d'):aQ (o.getD d) (u.getD d'):=by
 cases o with
 | none=>cases u with
  | none=>exact rd
  | some _=>exact (show False from r).elim
 | some _=>cases u with
  | none=>exact (show False from r).elim
  | some _=>exact r
theorem KV.val {kvs:List (κ × V)}{vs:List (κ × Value)} (r:KV kvs vs) (k:κ):eZ (eF kvs k) (valueAt vs k):=by
 unfold KV at r
 induction r with
 | nil=>exact bg8
 | @cons p q ps qs h t ih=>
  obtain ⟨h1,h2⟩:=h
  by_cases e:p.1=k
  ·have e':q.1=k:=h1.symm.trans e
   have b:valueAt (q :: qs) k=some q.2:=by simp [valueAt,bc0,e']
   rw [sS e,b]; exact h2
  ·have e' : ¬ q.1=k:=fun z=>e (h1.trans z)
   have b:valueAt (q :: qs) k=valueAt qs k:=by simp [valueAt,bc0,e']
   rw [sU e,b]; exact ih
theorem KV.any {kvs:List (κ × V)}{vs:List (κ × Value)} (r:KV kvs vs) (k:κ):(kvs.any fun kv=>decide (kv.1=k))=vs.any fun kv=>decide (kv.1=k):=by
 unfold KV at r
 induction r with
 | nil=>rfl
 | cons h t ih=>rw [List.any_cons,List.any_cons,ih,h.1]
theorem KV.repl {kvs:List (κ × V)}{vs:List (κ × Value)} (r:KV kvs vs) (k:κ) {y:V}{u:Value} (ry:aQ y u) :
  KV (kvs.map fun kv=>if kv.1=k then (kv.1,y) else kv) (vs.map fun kv=>if kv.1=k then (kv.1,u) else kv):=by
 unfold KV at r ⊢
 induction r with
 | nil=>exact .nil
 | @cons p q ps qs h t ih=>
  rw [aW3,aW3]
  refine .cons ?_ ih
  obtain ⟨h1,h2⟩:=h
  by_cases e:p.1=k
  ·rw [if_pos e,if_pos (h1.symm.trans e)]; exact⟨h1,ry⟩
  ·rw [if_neg e,if_neg (fun z=>e (h1.trans z))]; exact⟨h1,h2⟩
theorem KV.put {kvs:List (κ × V)}{vs:List (κ × Value)} (r:KV kvs vs) (k:κ) {y:V}{u:Value} (ry:aQ y u):KV (eN kvs k y) (stored vs k u):=by
 unfold eN stored
 rw [r.any k]
 by_cases e:(vs.any fun kv=>decide (kv.1=k))=true
 ·rw [if_pos e,if_pos e]; exact r.repl k ry
 ·rw [if_neg e,if_neg e]; exact Paired.snoc r ⟨rfl,ry⟩
theorem KV.length {kvs:List (κ × V)}{vs:List (κ × Value)} (r:KV kvs vs):kvs.length=vs.length:=Paired.length r
end
theorem mO {P:Program}{w:World}{k:aH}{u:Value} (r:aQ (kV k) u):(dW P w).is k u=true:=by
 cases k with
 | inl i=>obtain ⟨t,e⟩:=(show ∃ t,u=Value.int i t from r); subst e; exact Y5 P w i t
 | inr x=>obtain ⟨t,e⟩:=(show ∃ t,u=Value.str x t from r); subst e; exact Y6 P w x t
theorem yJ {P:Program}{w:World}:∀ {ks:List aH}{us:List Value},aJ (ks.map kV) us->ItemsAre (dW P w) ks us
 | [],_,r=>by rw [List.map_nil] at r; cases r; exact .nil
 | k :: ks,_,r=>by
  rw [aW3] at r
  cases r with
  | cons h t=>exact .cons (mO h) (yJ t)
abbrev KT (H:Hp):List (List aH × V)->List (List aH × Addr × Value)->Prop:=Paired fun p q=>p.1=q.1/\H q.2.1=some (.tup (p.1.map kV))/\aQ p.2 q.2.2
theorem KT.val {H:Hp}{kvs:List (List aH × V)}{xs:List (List aH × Addr × Value)} (r:KT H kvs xs) (k:List aH):eZ (eF kvs k) ((atKey xs k).map (·.2)):=by
 induction r with
 | nil=>exact bg8
 | @cons p q ps qs h t ih=>
  obtain ⟨h1,_,h2⟩:=h
  by_cases e:p.1=k
  ·have e':q.1=k:=h1.symm.trans e
   have b:atKey (q :: qs) k=some q.2:=by simp [atKey,bc0,e']
   rw [sS e,b]; exact h2
  ·have e' : ¬ q.1=k:=fun z=>e (h1.trans z)
   have b:atKey (q :: qs) k=atKey qs k:=by simp [atKey,bc0,e']
   rw [sU e,b]; exact ih
theorem KT.repl {H:Hp}{kvs:List (List aH × V)}{xs:List (List aH × Addr × Value)} (r:KT H kvs xs) (k:List aH) {y:V}{u:Value} (ry:aQ y u) :
  KT H (kvs.map fun kv=>if kv.1=k then (kv.1,y) else kv) (xs.map (putAt k u)):=by
 induction r with
 | nil=>exact .nil
 | @cons p q ps qs h t ih=>
  rw [aW3,aW3]
  refine .cons ?_ ih
  obtain ⟨h1,h2,h3⟩:=h
  unfold putAt
  by_cases e:p.1=k
  ·rw [if_pos e,if_pos (h1.symm.trans e)]; exact⟨h1,h2,ry⟩
  ·rw [if_neg e,if_neg (fun z=>e (h1.trans z))]; exact⟨h1,h2,h3⟩
theorem KT.put {H:Hp}{kvs:List (List aH × V)}{xs:List (List aH × Addr × Value)} (r:KT H kvs xs) (k:List aH) {b:Addr}{y:V}{u:Value} (hb:H b=some (.tup (k.map kV))) (ry:aQ y u) :
  KT H (eN kvs k y) (storedH xs k b u):=by
 have e:(kvs.any fun kv=>decide (kv.1=k))=(atKey xs k).isSome:=by
  rw [yH,(r.val k).isSome_eq,Option.isSome_map]
 unfold eN storedH
 rw [e]
 by_cases q:(atKey xs k).isSome=true
 ·rw [if_pos q,if_pos q]; exact r.repl k ry
 ·rw [if_neg q,if_neg q]; exact Paired.snoc r ⟨rfl,hb,ry⟩
theorem KT.keeps {H H':Hp}{kvs:List (List aH × V)}{xs:List (List aH × Addr × Value)} (r:KT H kvs xs) (ht:∀ b ys,H b=some (.tup ys)->H' b=some (.tup ys)):KT H' kvs xs:=
 Paired.mapP r fun _ _ z=>⟨z.1,ht _ _ z.2.1,z.2.2⟩
section
variable {P : Program} {w : World} {H : Hp} {h : Heap} {a : Addr}
theorem yK {u:HO} (ok:bK P w H h) (e:Rd H a u):bT P w H h a u:=e.ok ok
theorem k8 {kvs:List (aH × V)} (ok:bK P w H h) (e:Rd H a (.dK kvs)):kvs.length<=sizeLine/\(a == sysModules)=false/\∃ vs,KV kvs vs/\h.DictOf (dW P w) a vs:=
 show bT P w H h a (.dK kvs) from yK ok e
theorem ai1 {kvs:List (aH × V)} (ok:bK P w H h) (e:H a=some (.dK kvs)):kvs.length<=sizeLine/\(a == sysModules)=false/\∃ vs,KV kvs vs/\h.DictOf (dW P w) a vs:=k8 ok (.inl e)
theorem l6 {ks:List aH} (ok:bK P w H h) (e:H a=some (.tup (ks.map kV))):(tupleKind (dW P w)).is h ks a:=by
 obtain ⟨_,its,r,⟨o,h1,h2,n,h3⟩,_⟩:=(show bT P w H h a (.tup (ks.map kV)) from ok a _ e)
 exact⟨o,its.toArray,n,h1,h2,h3,by simpa using yJ r⟩
theorem l7 {kvs:List (List aH × V)} (ok:bK P w H h) (e:Rd H a (.dT kvs)):kvs.length<=sizeLine/\(a == sysModules)=false/\
  ∃ xs,KT H kvs xs/\h.DictOfH (tupleKind (dW P w)) a xs:=by
 obtain ⟨z,y,xs,r,o,es,ep,h1,h2,h3,h4,h5⟩:=(show bT P w H h a (.dT kvs) from yK ok e)
 refine⟨z,y,xs,r,o,es,ep,h1,h2,h3,h4,fun x hx=>?_,h5⟩
 have all:∀ {l:List (List aH × V)}{m:List (List aH × Addr × Value)},KT H l m->∀ x ∈ m,(tupleKind (dW P w)).is h x.1 x.2.1:=by
  intro l m q
  induction q with
  | nil=>intro x hx; exact nomatch hx
  | @cons p q ps qs hq t ih=>
   intro x hx
   rcases aR5.mp hx with e | hx
   ·subst e
    exact l6 ok (by rw [<- hq.1]; exact hq.2.1)
   ·exact ih x hx
 exact all r x hx
theorem yL {kvs:List (List aH × V)} (ok:bK P w H h) (e:H a=some (.dT kvs)):kvs.length<=sizeLine/\(a == sysModules)=false/\
  ∃ xs,KT H kvs xs/\h.DictOfH (tupleKind (dW P w)) a xs:=l7 ok (.inl e)
end
def eO (H:Hp) (a:Addr) (y:V) (r:Option V):Prop:=
 (∃ kvs k,Rd H a (.dK kvs)/\y=kV k/\r=eF kvs k) ∨ ∃ kvs k b,Rd H a (.dT kvs)/\y = .ref b/\H b=some (.tup (k.map kV))/\r=eF kvs k
def mP (H:Hp) (a:Addr) (y v:V) (H':Hp):Prop:=
 (∃ kvs k,H a=some (.dK kvs)/\y=kV k/\kvs.length < sizeLine/\H'=upd H a (.dK (eN kvs k v))) ∨
 ∃ kvs k b,H a=some (.dT kvs)/\y = .ref b/\H b=some (.tup (k.map kV))/\kvs.length < sizeLine/\H'=upd H a (.dT (eN kvs k v))
theorem eO.k {H:Hp}{a:Addr}{kvs:List (aH × V)}{k:aH} (e:H a=some (.dK kvs)):eO H a (kV k) (eF kvs k):=.inl ⟨kvs,k,.inl e,rfl,rfl⟩
theorem eO.t {H:Hp}{a b:Addr}{kvs:List (List aH × V)}{k:List aH} (e:H a=some (.dT kvs)) (eb:H b=some (.tup (k.map kV))):eO H a (.ref b) (eF kvs k):=.inr ⟨kvs,k,b,.inl e,rfl,eb,rfl⟩
theorem mP.t {H:Hp}{a b:Addr}{kvs:List (List aH × V)}{k:List aH}{v:V} (e:H a=some (.dT kvs)) (eb:H b=some (.tup (k.map kV))) (hl:kvs.length < sizeLine) :
  mP H a (.ref b) v (upd H a (.dT (eN kvs k v))):=.inr ⟨kvs,k,b,e,rfl,eb,hl,rfl⟩
section
variable {X : Cx} {pins : List (Addr × Obj)} {σ : St} {H : Hp} {s : Shared} {a : Addr} {y v : V} {u r : Value} {o : Option V} {A : Around} {E : Value → Shared → Prop}
theorem a6.big (I:a6 X pins σ H s):sysModules < s.heap.objs.size:=by
 have h:mainGlobals < s.heap.objs.size:=(I.mod.glob.keeps I.bk).lt
 exact Nat.lt_trans (by decide) h
theorem ai2 {Q:Value->Shared->Prop} (hu:A.units+1 < cLine) (I:a6 X pins σ H s) (g:eO H a y (some v)) (ry:aQ y u) (h:∀ w' s',a6 X pins σ H s'->aQ v w'->Q w' s') :
  wpAny (model X.prog X.w) A (getItem (.ref a) u) Q E s:=by
 rcases g with ⟨kvs,k,e,ey,l⟩ | ⟨kvs,k,b,e,ey,eb,l⟩
 ·subst ey
  obtain ⟨z,hd,vs,rel,dd⟩:=k8 I.hok e
  obtain ⟨w',hw,rw'⟩:=eZ.some_of (v:=v) (o:=valueAt vs k) (by rw [l]; exact rel.val k)
  exact wpAny_getItem_of (mO ry) dd.mapOf hw (h w' _ (I.tok _) rw')
 ·subst ey
  cases (show u=Value.ref b from ry)
  obtain ⟨z,hd,xs,rel,dd⟩:=l7 I.hok e
  obtain ⟨w',hw,rw'⟩:=eZ.some_of (v:=v) (o:=(atKey xs k).map (·.2)) (by rw [l]; exact rel.val k)
  obtain ⟨p,hp,hp2⟩:=Option.map_eq_some_iff.mp hw
  refine wpAny_getItem_heap (tupleKind_room_in1 hu) (l6 I.hok eb) dd hp ?_
  rw [hp2]
  exact h w' _ (I.tok _) rw'
theorem ai3 {Q:Value->Shared->Prop} (hu:A.units+1 < cLine) (I:a6 X pins σ H s) (g:eO H a y o) (ry:aQ y u) (h:∀ s',a6 X pins σ H s'->Q (.bool (!o.isSome)) s') :
  wpAny (model X.prog X.w) A (compareOp .NotIn u (.ref a)) Q E s:=by
 rcases g with ⟨kvs,k,e,ey,l⟩ | ⟨kvs,k,b,e,ey,eb,l⟩
 ·subst ey
  obtain ⟨z,hd,vs,rel,dd⟩:=k8 I.hok e
  refine wpAny_notIn_of (mO ry) hd dd.mapOf ?_
  rw [<- (rel.val k).isSome_eq,<- l]
  exact h _ (I.tok _)
 ·subst ey
  cases (show u=Value.ref b from ry)
  obtain ⟨z,hd,xs,rel,dd⟩:=l7 I.hok e
  refine wpAny_notIn_heap (tupleKind_room_in1 hu) (l6 I.hok eb) hd dd ?_
  have q:=(rel.val k).isSome_eq
  rw [Option.isSome_map] at q
  rw [<- q,<- l]
  exact h _ (I.tok _)
theorem sV {h':Heap}{t':Nat}{ob:HO} (I:a6 X pins σ H s) (mu:mD (H a)) (hs:Heap.SameBut a s.heap h') (he:∃ q,h'.get? a=some q) (new:bT X.prog X.w (upd H a ob) h' a ob) :
  a6 X pins σ (upd H a ob) { s with heap:=h',toks:=t' }:=
 I.write (x:=a) (e:=a) mu (.inl rfl) (fun b q hb z=>(hs.2 b hb).trans z) he new
theorem ai4 {P:Program}{w:World}{H':Hp}{h':Heap}{kvs:List (aH × V)}{vs:List (aH × Value)} (z:kvs.length<=sizeLine) (hd:(a == sysModules)=false) (rel:KV kvs vs) (dd:h'.DictOf (dW P w) a vs) :
  bT P w H' h' a (.dK kvs):=⟨z,hd,vs,rel,dd⟩
theorem ai5 {H':Hp}{Q:Unit->Shared->Prop} (hu:A.units+1 < cLine) (I:a6 X pins σ H s) (g:mP H a y v H') (ry:aQ y u) (rv:aQ v r) (h:∀ s',a6 X pins σ H' s'->Q () s') :
  wpAny (model X.prog X.w) A (setItem (.ref a) u r) Q E s:=by
 rcases g with ⟨kvs,k,e,ey,l,eH⟩ | ⟨kvs,k,b,e,ey,eb,l,eH⟩
 ·subst ey eH
  obtain ⟨z,hd,vs,rel,dd⟩:=ai1 I.hok e
  have hz:vs.length<=sizeLine:=by rw [<- rel.length]; exact z
  have hl:(eN kvs k v).length<=sizeLine:=by have:=yI kvs k v; omega
  refine wpAny_setItem_pairs (hsz:=hz) (mO ry) dd fun h' dd' hs=>h _ ?_
  have he:∃ q,h'.get? a=some q:=let ⟨q,_,_,hq,_⟩:=dd'; ⟨q,hq⟩
  exact sV I (by rw [e]; exact bg8) hs he (ai4 hl hd (rel.put k rv) dd')
 ·subst ey eH
  cases (show u=Value.ref b from ry)
  obtain ⟨z,hd,xs,rel,dd⟩:=yL I.hok e
  have hz:xs.length<=sizeLine:=by rw [<- Paired.length rel]; exact z
  have hl:(eN kvs k v).length<=sizeLine:=by have:=yI kvs k v; omega
  refine wpAny_setItem_heap (hsz:=hz) (tupleKind_room_in1 hu) (l6 I.hok eb) dd fun h' dd' hs=>h _ ?_
  obtain ⟨q,es,ep,hq,h2,h3,h4,_,h5⟩:=dd'
  refine sV I (by rw [e]; exact bg8) hs ⟨q,hq⟩ ⟨hl,hd,_,(rel.put k eb rv).keeps fun c ys ec=>?_,q,es,ep,hq,h2,h3,h4,h5⟩
  rw [aZ (wF ec e (fun z=>nomatch z))]
  exact ec
end
section
variable {X : Cx} {pins : List (Addr × Obj)} {σ : St} {H : Hp} {s : Shared} {a : Addr} {kvs : List (aH × V)} {k : aH} {u : Value} {A : Around} {E : Value → Shared → Prop}
theorem ai6 {Q:Value->Shared->Prop} (I:a6 X pins σ H s) (e:Rd H a (.dK kvs)) (h:∀ t s',a6 X pins σ H s'->Q (.int kvs.length t) s'):wpAny (model X.prog X.w) A (call (.builtin "len") [.ref a]) Q E s:=by
 obtain ⟨z,hd,vs,rel,dd⟩:=k8 I.hok e
 refine call_len_dict hd dd (by rw [<- rel.length]; rw [sizeLine_eq] at z; omega) ?_
 rw [<- rel.length]
 exact h _ _ (I.tok _)
end
def sW (i:Expr):Prop:=∀ ov iv,subscripted i false ov iv=operate [ov,iv] (getItem ov iv)
theorem ai7 {prog:Program}{w:World}{A:Around}{E:Value->Shared->Prop}{s:Shared}{env:Env}{value slice:Expr}{pos:Pos}{T id:String}{Q:Value->Shared->Prop}
  (hl:typeLookup (.type T) "__getitem__" = pure (some (.builtin id))) (hs:sW slice)
  (h:wpAny (model prog w) A (eval value env) (fun o s₁=>wpAny (model prog w) A (eval slice env) (fun i s₂=>s₂.TypeIs o T/\wpAny (model prog w) A (getItem o i) Q E s₂) E s₁) E s) :
  wpAny (model prog w) A (eval (.Subscript value slice pos) env) Q E s:=by
 refine Subscript_ (aZ8 h (fun o s₁ h₁=>aZ8 h₁ (fun i s₂ h₂=>?_) fun _ _ x=>x) fun _ _ x=>x)
 obtain ⟨hT,h₂⟩:=h₂
 unfold subscriptTail
 refine aQ7 ?_
 rw [getitemInPython_of_ne hT.not_modules]
 refine aQ7 (wpAny_specialOf hT hl ?_)
 have fin:wpAny (model prog w) A (subscripted slice false o i) (fun r s₃=>wpAny (model prog w) A (letTemporaryGo value o r >>= fun _=>pure r) Q E s₃) E s₂:=by
  rw [hs o i]
  exact wpAny_operating (aZ8 h₂ (fun r s₃ h₃=>aQ7 (wpAny_letTemporaryGo (aR3 h₃))) fun _ _ x=>x)
 first
  | exact aR3 (aQ7 fin)
  | exact aQ7 (aR3 (aQ7 fin))
  | exact aQ7 fin
theorem ai8 {X:Cx}{pins:List (Addr × Obj)}{σ:St}{H:Hp}{s:Shared}{a:Addr}{y:V}{o:Option V} (I:a6 X pins σ H s) (g:eO H a y o):s.TypeIs (.ref a) "dict":=by
 rcases g with ⟨kvs,k,e,_,_⟩ | ⟨kvs,k,b,e,_,_,_⟩
 ·obtain ⟨_,_,vs,_,dd⟩:=k8 I.hok e
  exact dd.typeIs
 ·obtain ⟨_,_,xs,_,dd⟩:=l7 I.hok e
  exact dd.typeIs
def yM (td ty:TE):TE:=fun σ H Q=>td σ H fun x H1=>ty σ H1 fun y H2=>∃ a v,x = .ref a/\eO H2 a y (some v)/\Q v H2
def yN (ty td:TE):TE:=fun σ H Q=>ty σ H fun y H1=>td σ H1 fun x H2=>∃ a o,x = .ref a/\eO H2 a y o/\Q (.bl (!o.isSome)) H2
def yO (td ty tv:TE):TS:=fun D σ H=>tv σ H fun v H1=>td σ H1 fun x H2=>ty σ H2 fun y H3=>∃ a H4,x = .ref a/\mP H3 a y v H4/\D.nx σ H4
section
variable {X : Cx} {o i e value : Expr} {pos pos' tpos : Pos} {td ty tv : TE}
theorem ai9 (hu:X.A.units+1 < cLine) (ho:PE X o td) (hi:PE X i ty) (hs:sW i):PE X (.Subscript o i pos) (yM td ty):=by
 intro pins s σ H Q I h
 refine ai7 PySem.F.slot_dict_getitem.lookup hs (aM (ho pins s σ H _ I h) fun u s1 ⟨x,H1,I1,rx,q1⟩=>aM (hi pins s1 σ H1 _ I1 q1) fun iv s2 ⟨y,H2,I2,ry,a,v,ex,g,q2⟩=>?_)
 subst ex
 obtain rfl:u=Value.ref a:=rx
 exact⟨ai8 I2 g,ai2 hu I2 g ry fun w' s3 I3 rw'=>⟨v,H2,I3,rw',q2⟩⟩
theorem aj0 (hu:X.A.units+1 < cLine) (hi:PE X i ty) (ho:PE X o td):PC X .NotIn i o (yN ty td):=by
 intro pins s σ H Q I h
 refine aM (hi pins s σ H _ I h) fun iv s1 ⟨y,H1,I1,ry,q1⟩=>aM (ho pins s1 σ H1 _ I1 q1) fun u s2 ⟨x,H2,I2,rx,a,ov,ex,g,q2⟩=>?_
 subst ex
 obtain rfl:u=Value.ref a:=rx
 exact ai3 hu I2 g ry fun s3 I3=>⟨.bl (!ov.isSome),H2,I3,rfl,q2⟩
theorem aj1 (hu:X.A.units+1 < cLine) (ho:PE X o td) (hi:PE X i ty) (hv:PE X value tv) (hs:swapsWith value (some (.Subscript o i pos')) pos.line X.env=pure false) :
  PS X (.Assign [.Subscript o i pos'] value pos) (yO td ty tv):=by
 intro pins s σ H D I h
 refine wpAny_Assign_Subscript (aM (hv pins s σ H _ I h) fun r s1 ⟨v,H1,I1,rv,q1⟩=>aM (ho pins s1 σ H1 _ I1 q1) fun u s2 ⟨x,H2,I2,rx,q2⟩=>aM (hi pins s2 σ H2 _ I2 q2) fun iv s3 ⟨y,H3,I3,ry,a,H4,ex,g,q3⟩=>?_) hs
 subst ex
 obtain rfl:u=Value.ref a:=rx
 exact ai5 hu I3 g ry rv fun s4 I4=>⟨σ,H4,I4,q3⟩
end
theorem aj2 {P:Program}{w:World}{H:Hp} (h:Heap) (hb:sysModules < h.objs.size):bT P w H (h.push { cls:=.type "dict",data:=.dict #[] }) h.objs.size (.dT []):=
 ⟨aZ6 _,beq_eq_false_iff_ne.mpr (Ne.symm (aU5 hb)),[],.nil,_,#[],0,aS5 _ rfl,⟨rfl,rfl,rfl⟩,rfl,rfl,List.nodup_nil⟩
def yP:TE:=fun _ H Q=>∀ p,H p=none->Q (.ref p) (upd H p (.dT []))
section
variable {X : Cx} {pos : Pos}
theorem aj3:PE X (.Dict [] [] pos) yP:=fun pins s σ H Q I h=>
 wpAny_Dict_empty ⟨.ref s.heap.objs.size,_,I.laid (a:=s.heap.objs.size) (o:=.dT []) (t':=s.toks) (fun _ _ q=>aQ9 _ q) (aR8 _) (aj2 s.heap I.big),rfl,h _ (I.hok.fresh (aR8 _))⟩
end
structure M1 (X:Cx) (o:Expr) (m:Str) (apos:Pos) (e:Expr) (cpos:Pos):Prop where
 base:attributeBase o m X.env (eval o X.env)=eval o X.env
 few:((backTo cpos (starEach [e] X.env)).all (fun x=>!x.1) && (backToKw cpos (keywordEach [] X.env)).all (fun x=>x.1.isSome)
  && decide (([e]:List Expr).length+([]:List Keyword).length+(if ([]:List Keyword).isEmpty then 0 else 1) < 30))=true
 line:(apos.endLine == cpos.line)=true
 trees:backTo cpos (starEach [e] X.env) = [(false,eval e X.env)]
structure M2 (X:Cx) (o:Expr) (m:Str) (apos:Pos) (e f:Expr) (cpos:Pos):Prop where
 base:attributeBase o m X.env (eval o X.env)=eval o X.env
 few:((backTo cpos (starEach [e,f] X.env)).all (fun x=>!x.1) && (backToKw cpos (keywordEach [] X.env)).all (fun x=>x.1.isSome)
  && decide (([e,f]:List Expr).length+([]:List Keyword).length+(if ([]:List Keyword).isEmpty then 0 else 1) < 30))=true
 line:(apos.endLine == cpos.line)=true
 trees:backTo cpos (starEach [e,f] X.env) = [(false,eval e X.env),(false,eval f X.env)]
def sX (H:Hp) (a:Addr):Prop:=(∃ kvs,Rd H a (.dK kvs)) ∨ ∃ kvs,Rd H a (.dT kvs)
theorem yQ {X:Cx}{pins:List (Addr × Obj)}{σ:St}{H:Hp}{s:Shared}{a:Addr} (I:a6 X pins σ H s) (d:sX H a) :
  s.TypeIs (.ref a) "dict"/\(∀ b,Value.ref a = .ref b->∃ ob,s.heap.get? b=some ob/\ob.dict=none)/\(a == sysModules)=false:=by
 rcases d with ⟨kvs,e⟩ | ⟨kvs,e⟩
 ·obtain ⟨_,hd,vs,_,dd⟩:=k8 I.hok e
  refine⟨dd.typeIs,fun b q=>?_,hd⟩
  cases q
  obtain ⟨ob,_,_,h1,h2,_⟩:=dd
  exact⟨ob,h1,h2.2.1⟩
 ·obtain ⟨_,hd,xs,_,dd⟩:=l7 I.hok e
  refine⟨dd.typeIs,fun b q=>?_,hd⟩
  cases q
  obtain ⟨ob,_,_,h1,h2,_⟩:=dd
  exact⟨ob,h1,h2.2.1⟩
section
variable {X : Cx} {pins : List (Addr × Obj)} {σ : St} {H : Hp} {s : Shared} {a : Addr} {y d : V} {u r : Value} {o : Option V} {A : Around} {E : Value → Shared → Prop}
theorem aj4 {Q:Value->Shared->Prop} (hu:A.units+1 < cLine) (I:a6 X pins σ H s) (g:eO H a y o) (ry:aQ y u) (rd:aQ d r) (h:∀ w' s',a6 X pins σ H s'->aQ (o.getD d) w'->Q w' s') :
  wpAny (model X.prog X.w) A (call (.builtin "dict.get") [.ref a,u,r]) Q E s:=by
 rcases g with ⟨kvs,k,e,ey,l⟩ | ⟨kvs,k,b,e,ey,eb,l⟩
 ·subst ey
  obtain ⟨z,hd,vs,rel,dd⟩:=k8 I.hok e
  refine call_meetsIn PySem.F.slot_dict_get dd.typeIs PySem.F.entry_dict_get (PySem.F.args_dict_get_3 _ _ _) (meets_dict_get_default (dW X.prog X.w) a (mO ry) hd r) ⟨_,dd.mapOf,h _ _ (I.tok _) ?_⟩
  rw [l]
  exact (rel.val k).getD rd
 ·subst ey
  cases (show u=Value.ref b from ry)
  obtain ⟨z,hd,xs,rel,dd⟩:=l7 I.hok e
  refine call_meetsIn PySem.F.slot_dict_get dd.typeIs PySem.F.entry_dict_get (PySem.F.args_dict_get_3 _ _ _) (meetsH_dict_get_default (tupleKind (dW X.prog X.w)) a b hd r) ⟨tupleKind_room_in1 hu,k,xs,l6 I.hok eb,dd,h _ _ (I.tok _) ?_⟩
  rw [l]
  exact (rel.val k).getD rd
end
def yR (td ty tx:TE):TE:=fun σ H Q=>td σ H fun x H1=>∃ a,x = .ref a/\sX H1 a/\ty σ H1 fun y H2=>tx σ H2 fun z H3=>∃ o,eO H3 a y o/\Q (o.getD z) H3
section
variable {X : Cx} {o e f : Expr} {apos cpos : Pos} {td ty tx : TE}
theorem aj5 (hu:X.A.units+1 < cLine) (ho:PE X o td) (he:PE X e ty) (hf:PE X f tx) (m:M2 X o "get" apos e f cpos):PE X (.Call (.Attribute o "get" apos) [e,f] [] cpos) (yR td ty tx):=by
 intro pins s σ H Q I h
 refine wpAny_Call_method m.base m.few m.line PySem.F.plainAttrs_dict PySem.F.slot_dict_get PySem.F.type_dict_get (aM (ho pins s σ H _ I h) fun u s1 ⟨x,H1,I1,rx,a,ex,d,q1⟩=>?_)
 subst ex
 obtain rfl:u=Value.ref a:=rx
 obtain ⟨t1,t2,_⟩:=yQ I1 d
 refine⟨t1,t2,?_⟩
 rw [m.trees]
 refine Calls.callWith_builtin rfl (Calls.evalArgs_plain (Calls.spliced_cons (aM (he pins s1 σ H1 _ I1 q1) fun iv s2 ⟨y,H2,I2,ry,q2⟩=>
  Calls.spliced_cons (aM (hf pins s2 σ H2 _ I2 q2) fun fv s3 ⟨z,H3,I3,rz,ov,g,q3⟩=>Calls.spliced_nil ?_))))
 exact aj4 hu I3 g ry rz fun w' s4 I4 rw'=>⟨_,H3,I4,rw',q3⟩
end
end L2
namespace Att
open PySem PySem.W PySem.Calls PyProof.Rows
theorem aj6 {P:Params}{h:Heap}:∀ (ns:List Int) (vs:List Value),WellAll P h vs (ns.map WData.int)->IntsAre vs ns:=by
 intro ns
 induction ns with
 | nil=>
  intro vs w
  rw [List.map_nil] at w
  cases w
  exact .nil
 | cons n ns ih=>
  intro vs w
  rw [aW3] at w
  cases w with
  | cons a b=>
   cases a
   exact .cons _ _ (ih _ b)
theorem yS {l:OpenLaw}{n:Nat} (hn:l.most=some n) {P:Params}{h:Heap}{args:List WData}{vals:List Value}
  (hpre:l.row.toRowW.claim.pre args=true) (hwl:WellAll P h vals args) :
  ∃ a vs ns,vals = [Value.ref a]/\args = [WData.list (ns.map WData.int)]/\h.get? a=some { cls:=.type "list",data:=.seq vs.toArray }/\IntsAre vs ns/\ns.length<=n:=by
 have hsh:WShape.hasAll [] args [.list .int]=true:=(pre_splitW hpre).1
 have hc:l.pre.holds [] { args:=args }=true:=(pre_splitW hpre).2
 obtain ⟨d,r,rfl,h1,h2⟩:=hasAllW_cons hsh
 obtain rfl:=hasAllW_nil h2
 obtain ⟨xs,rfl,h3⟩:=hasW_list h1
 obtain ⟨ns,rfl⟩:=items_int h3
 have hlen:ns.length<=n:=by
  unfold OpenLaw.pre at hc
  have h4:(WTm.not (.lt (.lit (.int (n:Int))) (.len (.arg 0)))).holds [] { args:=[.list (ns.map .int)] }=true:=by
   have h4:=(holds_andW hc).1
   rw [hn] at h4
   exact h4
  have h5:=condW_of h4 (w_not (w_lt w_lit (w_len_list (w_arg rfl))))
  rw [aS0] at h5
  refine Nat.le_of_not_lt fun q=>?_
  have q':(n:Int) < ((ns.length:Nat):Int):=by omega
  first
   | (rw [aR6 q'] at h5; exact absurd h5 (by decide))
   | (simp at h5; omega)
 cases hwl with
 | cons w1 w2=>
  cases w2
  cases w1 with
  | list ho hall=>exact⟨_,_,ns,rfl,rfl,ho,aj6 ns _ hall,hlen⟩
theorem yT (l:OpenLaw) (args:List WData):l.row.toRowW.claim.post args (.bool true) args=true:=
 postW_of (r:=l.row.toRowW) (X:=(true == true))
  (show WShape.has [] (.bool true) .bool=true by first | rfl | decide | simp [WShape.has,WShape.arms,WShape.armsAll])
  (show (WTm.eq .res (.lit (.bool true))).value [] { args:=args,res:=some (.bool true),after:=args }=some (.bool (true == true)) from w_eq_bool (w_res rfl) w_lit) rfl
theorem aQ6 {l:OpenLaw}{n:Nat}{q:Program}{loose:List Str}{XP:(Str->Option Value)->Heap->Prop}{YP:World->Heap->Prop}{d:DefRec}{x:Str}
  (hn:l.most=some n) (hdf:d.params.defaults = [])
  (hbind:∀ pm cd doc v:Value,bindArgs (docDef d.name d.params d.body d.scope pm cd doc) ⟨[v],[]⟩=pure [(x,v)])
  (hx:d.scope.names.lookup x=some .local ∨ d.scope.names.lookup x=some .cell)
  (hk:d.scope.kind = .function) (hco:d.scope.isCoroutine=false) (hgen:d.scope.isGenerator=false)
  (body:∀ (w:World) (s₀ s₁ s:Shared) (mg mb:Str->Option Value) (fa:Addr) (o:Obj) (pm cd doc:Value) (a:Addr) (vs:List Value) (ns:List Int),
   Ground q loose [] XP w s₀ mg mb s₁.heap->YP w s₁.heap->
   s₁.heap.get? fa=some o->o.data = .func (docDef d.name d.params d.body d.scope pm cd doc)->s₁.heap.CodeRec cd d.name->mg d.name=some (.ref fa)->
   s₁.heap.get? a=some { cls:=.type "list",data:=.seq vs.toArray }->IntsAre vs ns->ns.length<=n->
   s.gens = #[]->s.os=s₁.os->
   Fr s₁.heap s₁.heap.objs.size s.heap (bindL (envOfC d.name d.scope s₁.heap.objs.size fa cd).kindOf [(x,.ref a)] fun _=>none)->
   Cl s₁.heap.objs.size (cellsFrom (s₁.heap.objs.size+1) d.scope.names []) s.heap (bindC (envOfC d.name d.scope s₁.heap.objs.size fa cd).kindOf [(x,.ref a)] fun _=>none)->
   wpAny (model l.prog w) (callerA.deeper (envOfC d.name d.scope s₁.heap.objs.size fa cd)) (execs d.body (envOfC d.name d.scope s₁.heap.objs.size fa cd))
    (fun f s'=>f = .ret (.bool true)/\OldK s₁.heap s'.heap/\s'.os=s₁.os/\AllBare s'.gens) (fun _ _=>False) s) :
  WalkO q loose XP YP l.row.toRowW d [] (fun f vs=>PySem.call f vs):=by
 intro w s₀ s₁ mg mb G Y fa o pm cd doc dV kV ho hd hcd hD hmg hg args vals as hpre hlay hrd hwl hlo
 obtain rfl:dV = .none:=Dflts.none hD hdf
 obtain rfl:kV = .none:=Dflts.noKw hD
 obtain ⟨a,vs,ns,rfl,rfl,hobj,hints,hlen⟩:=yS hn hpre hwl
 refine enter_call ?_
 refine call_cells_ret (o:=o) (by rw [depth_caller]; decide) ho (fd_plain hd) G.T.nolimit hcd (hbind pm cd doc (.ref a)) (fun y hy=>?_) (fun h₁ tk F X=>?_) hco hgen hk
 ·obtain rfl:y=(x,Value.ref a):=aS1.mp hy
  rcases hx with e | e
  ·exact .inl e
  ·exact .inr ⟨e,cellsFrom_some _ _ _ (.inl e)⟩
 ·refine aZ8 (body w s₀ s₁ { s₁ with heap:=h₁,toks:=tk } mg mb fa o pm cd doc a vs ns G Y ho (fd_plain hd) hcd hmg hobj hints hlen hg rfl F X) (fun f s' hq=>?_) (fun _ _ hq=>hq)
  obtain ⟨rfl,h2,h3,h4⟩:=hq
  exact⟨.inl ⟨.bool true,.bool true,[],rfl,fun _=>rfl,.bool true,yT l _,fun _=>⟨ba4,fun _ hm=>(nomatch hm)⟩⟩,h2,h3,h4⟩
theorem aj7 {l:OpenLaw}{n:Nat}{q:Program}{loose:List Str}{XP:(Str->Option Value)->Heap->Prop}{YP:World->Heap->Prop}{d:DefRec}
  (hn:l.most=some n) (hdf:d.params.defaults = [])
  (call:∀ (w:World) (s₀ s₁:Shared) (mg mb:Str->Option Value) (fa:Addr) (o:Obj) (pm cd doc:Value) (a:Addr) (vs:List Value) (ns:List Int),
   Ground q loose [] XP w s₀ mg mb s₁.heap->YP w s₁.heap->
   s₁.heap.get? fa=some o->o.data = .func (docDef d.name d.params d.body d.scope pm cd doc)->s₁.heap.CodeRec cd d.name->mg d.name=some (.ref fa)->
   s₁.heap.get? a=some { cls:=.type "list",data:=.seq vs.toArray }->IntsAre vs ns->ns.length<=n->s₁.gens = #[]->
   codeAny (model l.prog w) callerA (.call (.ref fa) ⟨[.ref a],[]⟩) (fun r s'=>r = .ok (.ret (.bool true))/\OldK s₁.heap s'.heap/\s'.os=s₁.os/\AllBare s'.gens) s₁) :
  WalkO q loose XP YP l.row.toRowW d [] (fun f vs=>PySem.call f vs):=by
 intro w s₀ s₁ mg mb G Y fa o pm cd doc dV kV ho hd hcd hD hmg hg args vals as hpre hlay hrd hwl hlo
 obtain rfl:dV = .none:=Dflts.none hD hdf
 obtain rfl:kV = .none:=Dflts.noKw hD
 obtain ⟨a,vs,ns,rfl,rfl,hobj,hints,hlen⟩:=yS hn hpre hwl
 refine enter_call (codeAny_mono (call w s₀ s₁ mg mb fa o pm cd doc a vs ns G Y ho (fd_plain hd) hcd hmg hobj hints hlen hg) fun r s' hq=>?_)
 obtain ⟨rfl,h2,h3,h4⟩:=hq
 exact⟨.inl ⟨.bool true,.bool true,[],rfl,fun _=>rfl,.bool true,yT l _,fun _=>⟨ba4,fun _ hm=>(nomatch hm)⟩⟩,h2,h3,h4⟩
end Att
namespace L2
open PySem PySem.Spec PyProof.Rows
theorem yU:∀ {vs:List Value}{ns:List Int},IntsAre vs ns->aJ (ns.map V.int) vs
 | _,_,.nil=>.nil
 | _,_,.cons n t h=>.cons ⟨t,rfl⟩ (yU h)
def oN (H:Hp):Prop:=∀ b,H b=none ∨ ∃ o xs,H b=some (.frz o (.lst xs))
theorem aj8 {P:Program}{w:World}{K:PySem.W.Frag}{mg mb:Str->Option Value}{CX:g9}{k:Nat}{fa a:Addr}{fd:FuncData}{x:Str}{sp:Sp}{s₁:Shared}{vs:List Value}{ns:List Int}
  (KX:K.In s₁.heap) (hns:s₁.heap.Ns mainGlobals mg) (hb:s₁.heap.Ns builtinsNs mb) (hbb:∀ x:Str,x ≠ "__name__"->mb x=bootBuiltins x) (hlim:s₁.heap.NoLimit) (hg:s₁.gens = #[])
  (ha:s₁.heap.get? a=some { cls:=.type "list",data:=.seq vs.toArray }) (hi:IntsAre vs ns) (hl:ns.length<=sizeLine) (hr:bY k callerA)
  (F:∀ base:Heap,K.In base->base.Ns mainGlobals mg->dH P w K mg base CX k fa fd [x] sp) (hbind:∀ (s:Shared) (u:Value),BindsTo s fd ⟨[u],[]⟩ [(x,u)])
  (hsp:∀ H:Hp,oN H->aP K H a (ns.map V.int)->sp [.ref a] H (fun v _=>v = .bl true) fun _ _ _=>False)
  (hCX:∀ H e s',CX [] H s₁ (fun _ _ _=>False) e s'->False) :
  codeAny (model P w) callerA (.call (.ref fa) ⟨[.ref a],[]⟩) (fun r s'=>r = .ok (.ret (.bool true))/\OldK s₁.heap s'.heap/\s'.os=s₁.os/\AllBare s'.gens) s₁:=by
 have rv:=yU hi
 have lenV:=hi.length
 have core:∀ H:Hp,oN H->aP K H a (ns.map V.int)->bK P w H s₁.heap->(∀ b,H b ≠ none->b=a)->(H a ≠ none->K.lookup a=none)->
   codeAny (model P w) callerA (.call (.ref fa) ⟨[.ref a],[]⟩) (fun r s'=>r = .ok (.ret (.bool true))/\OldK s₁.heap s'.heap/\s'.os=s₁.os/\AllBare s'.gens) s₁:=by
  intro H hO hS hok hA hK
  have base_of:∀ {b:Addr}{o:Obj},s₁.heap.get? b=some o->H b=none->(iK s₁.heap H).get? b=some o:=fun e n=>Y8 e n
  have noA:∀ {b:Addr}{o:Obj}{es:Array DictEntry}{ep:Nat},s₁.heap.get? b=some o->o.data = .dict es ep->H b=none:=fun {b o es ep} e d=>by
   cases q:H b with
   | none=>rfl
   | some u=>
    have e':b=a:=hA b (by rw [q]; simp)
    subst e'
    rw [ha] at e; cases e
    have d':Data.seq vs.toArray _=Data.dict es ep:=d
    cases d'
  have nsK:∀ {b:Addr}{m:Str->Option Value},s₁.heap.Ns b m->(iK s₁.heap H).Ns b m:=fun {b m} ⟨o,es,ep,e,d,r⟩=>⟨o,es,ep,base_of e (noA e d),d,r⟩
  have hKb:K.In (iK s₁.heap H):=fun b o e=>base_of (KX b o e) (by
   cases q:H b with
   | none=>rfl
   | some u=>
    have e':b=a:=hA b (by rw [q]; simp)
    subst e'
    rw [hK (by rw [q]; simp)] at e; cases e)
  have hM:Mod K mg (iK s₁.heap H):=⟨hKb,nsK hns,⟨mb,nsK hb,hbb⟩,let ⟨mc,h1,h2⟩:=hlim; ⟨mc,nsK h1,h2⟩⟩
  have e0:oJ P w K mg (iK s₁.heap H) callerA [] s₁ H:=⟨rfl,hM,fun b o e=>Y9 e,Nat.le_of_eq (Y7 _ _),trivial,fun b hb=>absurd (show b ∈ ([]:List Addr) from hb) (by simp),hok,.of_eq hg⟩
  refine codeAny_mono ((F _ hKb (nsK hns)).run callerA [] s₁ H ⟨[.ref a],[]⟩ [.ref a] [.ref a] _ _ hr e0 (hbind s₁ (.ref a)) (.cons rfl .nil) (hsp H hO hS)) fun r s' h=>?_
  cases r with
  | error e=>exact (hCX H e s' h).elim
  | ok fl=>
   cases fl with
   | next=>exact False.elim h
   | brk=>exact False.elim h
   | cont=>exact False.elim h
   | ret u=>
    obtain ⟨v,H',os,bare,un,hok',r',q⟩:=h
    have q':v = .bl true:=q
    subst q'
    obtain rfl:u=Value.bool true:=r'
    refine⟨rfl,OldK.of_keep fun b o e=>?_,os,bare⟩
    cases q:H b with
    | none=>exact un.keep b o e q (by intro z; exact absurd (show b ∈ ([]:List Addr) from z) (by simp)) (by simp)
    | some u=>
     rcases hO b with z | ⟨ob,xs,z⟩
     ·rw [q] at z; cases z
     ·have z2:=un.frzs b ob _ z
      obtain ⟨e1,_⟩:=hok b _ z
      obtain ⟨e2,_⟩:=hok' b _ z2
      rw [e] at e1; cases e1
      exact e2
 cases hk:K.lookup a with
 | some o=>
  have e:=KX a o hk
  rw [ha] at e
  cases e
  refine core (fun _=>none) (fun _=>.inl rfl) (.inr ⟨_,vs.toArray,_,hk,rfl,rfl,rfl,by rw [aR1,lenV]; exact hl,by simpa using rv⟩) (fun b u z=>by have z':(none:Option HO)=some u:=z; cases z') (fun b z=>absurd rfl z) fun z=>absurd rfl z
 | none=>
  refine core (fun b=>if b=a then some (.frz { cls:=.type "list",data:=.seq vs.toArray } (.lst (ns.map V.int))) else none) (fun b=>?_) (.inl (.inr ⟨{ cls:=.type "list",data:=.seq vs.toArray },if_pos rfl⟩)) (fun b u z=>?_) (fun b z=>?_) fun _=>hk
  ·by_cases hb:b=a
   ·exact .inr ⟨_,_,if_pos hb⟩
   ·exact .inl (if_neg hb)
  ·by_cases hb:b=a
   ·have z':=(if_pos hb).symm.trans z
    cases z'
    subst hb
    exact⟨ha,by rw [aS0]; exact hl,vs,_,rv,ha⟩
   ·have z':=(if_neg hb).symm.trans z
    cases z'
  ·by_cases hb:b=a
   ·exact hb
   ·exact absurd (if_neg hb) z
theorem aj9 {l:PySem.W.OpenLaw}{n k:Nat}{q:Program}{loose:List Str}{XP:(Str->Option Value)->Heap->Prop}{YP:World->Heap->Prop}{d:DefRec}{K:Params->PySem.W.Frag}{CX:World->g9}{sp:World->Sp}{x:Str}
  (hn:l.most=some n) (hn2:n<=sizeLine) (hdf:d.params.defaults = []) (hr:bY k callerA)
  (hY:∀ (w:World) (h:Heap),YP w h->(K w.params).In h)
  (F:∀ (w:World) (mg:Str->Option Value) (fa:Addr) (h:Heap),(K w.params).In h->h.Ns mainGlobals mg->mg d.name=some (.ref fa)->
   ∃ fd:FuncData,(∀ (s:Shared) (u:Value),BindsTo s fd ⟨[u],[]⟩ [(x,u)])/\
    ∀ base:Heap,(K w.params).In base->base.Ns mainGlobals mg->dH l.prog w (K w.params) mg base (CX w) k fa fd [x] (sp w))
  (hsp:∀ (w:World) (H:Hp) (a:Addr) (ns:List Int),ns.length<=n->oN H->aP (K w.params) H a (ns.map V.int)->sp w [.ref a] H (fun v _=>v = .bl true) fun _ _ _=>False)
  (hCX:∀ (w:World) (H:Hp) (s:Shared) (e:Value) (s':Shared),CX w [] H s (fun _ _ _=>False) e s'->False) :
  PySem.W.WalkO q loose XP YP l.row.toRowW d [] (fun f vs=>PySem.call f vs):=by
 refine Att.aj7 hn hdf fun w s₀ s₁ mg mb fa o pm cd doc a vs ns G Y ho hd hcd hmg hobj hints hlen hg=>?_
 have KX:=hY w _ Y
 obtain ⟨fd,hb,hF⟩:=F w mg fa _ KX G.T.g hmg
 exact aj8 KX G.T.g G.T.b G.T.builtins G.T.nolimit hg hobj hints (aU8 hlen hn2) hr hF hb (fun H hO hS=>hsp w H a ns hlen hO hS) fun H e s'=>hCX w H s₁ e s'
def iP (s:Stmt):Arguments:=match s with
 | .FunctionDef _ a _ _ _ _ _ _ _ _=>a
 | _=>{ posonlyargs:=[],args:=[],vararg:=none,kwonlyargs:=[],kw_defaults:=[],kwarg:=none,defaults:=[] }
def dX (s:Stmt):List Stmt:=match s with
 | .FunctionDef _ _ b _ _ _ _ _ _ _=>b
 | _=>[]
def aX (s:Stmt):Scope:=match s with
 | .FunctionDef _ _ _ _ _ _ sc _ _ _=>sc
 | _=>{ kind:=.function,names:=[],isGenerator:=false,isCoroutine:=false }
abbrev eG:g9:=fun _ _ _ _ _ _=>False
abbrev E0:XK:=fun _ _ _=>False
theorem ak0 {X:Cx}:mK eG X E0:=fun _ _ _ _ _ _ _ h=>h.elim
structure fF (K:PySem.W.Frag) (x qual:Str) (st:Stmt) (f:Addr) (fd:FuncData):Prop where
 ex:∃ (oc:Value) (od:Option Addr) (kV doc pm:Value) (an:Option Addr) (cdv ct:Value) (osl:Array (Option Value)),
  fd=PySem.W.fnOf x qual (iP st) (dX st) (aX st) .none kV doc pm an cdv ct/\K.lookup f=some ⟨oc,od,.func fd,osl⟩/\PySem.W.codeIn K cdv qual=true
 kp:PySem.W.keepIn K (.ref f)=true
section
variable {P : Program} {w : World} {K : PySem.W.Frag} {mg : Str → Option Value} {base : Heap}
theorem fF.ok {x qual:Str}{st:Stmt}{f:Addr}{fd:FuncData}{N ps:List Str}{k:Nat}{sp:Sp} (F:fF K x qual st f fd) (S:FnScope N ps (aX st)) (len:∀ vs H Q E,sp vs H Q E->vs.length=ps.length)
  (hbody:∀ (cdv:Value) (A:Around) (outer:List Env) (s:Shared) (H:Hp) (vs:List V) (Q:VK) (E:XK),bY k (A.deeper (envOfC qual (aX st) s.heap.objs.size f cdv))->sp vs H Q E->
   ∃ t,dP (cV eG P w K mg base N qual (aX st) f cdv A outer s H E).nox (dX st) t/\t { nx:=fun _ H'=>Q .non H',rt:=Q } (gA N vs) H):dH P w K mg base eG (k+1) f fd ps sp:=by
 obtain ⟨oc,od,kV,doc,pm,an,cdv,ct,osl,rfl,lk,hcd⟩:=F.ex
 refine xL lk hcd S len fun A outer s H vs Q E hr hsp=>?_
 obtain ⟨t,h,q⟩:=hbody cdv A outer s H vs Q E hr hsp
 exact⟨t,h.nox,q⟩
theorem fF.binds {x qual:Str}{st:Stmt}{f:Addr}{fd:FuncData}{ps:List Str} (F:fF K x qual st f fd)
  (h:∀ (kV doc pm:Value) (an:Option Addr) (cdv ct:Value) (us:List Value),us.length=ps.length->bindArgs (PySem.W.fnOf x qual (iP st) (dX st) (aX st) .none kV doc pm an cdv ct) ⟨us,[]⟩=pure (ps.zip us)):jJ K fd ps []:=by
 obtain ⟨oc,od,kV,doc,pm,an,cdv,ct,osl,rfl,lk,hcd⟩:=F.ex
 exact .all (h kV doc pm an cdv ct)
theorem ak1 {x qual:Str}{st:Stmt}{f:Addr}{oc:Value}{od an:Option Addr}{osl:Array (Option Value)}{kV doc pm cdv ct:Value} (l:K.lookup f=some ⟨oc,od,.func (PySem.W.fnOf x qual (iP st) (dX st) (aX st) .none kV doc pm an cdv ct),osl⟩)
  (c:PySem.W.codeIn K cdv qual=true) (k:PySem.W.keepIn K (.ref f)=true):fF K x qual st f (PySem.W.fnOf x qual (iP st) (dX st) (aX st) .none kV doc pm an cdv ct):=⟨⟨oc,od,kV,doc,pm,an,cdv,ct,osl,rfl,l,c⟩,k⟩
end
theorem mQ {A:Around}{k:Nat} (hr:bY k A):A.units+1 < cLine:=Nat.lt_of_le_of_lt (Nat.add_le_add_left (by decide:1<=64) _) hr.units
theorem ak2 {n:Nat} (h:n<=1000):n < sizeLine:=Nat.lt_of_le_of_lt h (by decide)
section
variable {X : Cx}
theorem ak3:cN X (.builtin "len") (fun xs H Q=>∃ a kvs,xs = [V.ref a]/\H a=some (.dK kvs)/\Q (.int kvs.length) H):=by
 intro pins s σ H xs us Q I r h
 obtain ⟨a,kvs,rfl,ha,q⟩:=h
 obtain ⟨u,rfl,ru⟩:=iM r
 cases ru
 exact ai6 I (.inl ha) fun t s' I'=>⟨.int kvs.length,H,I',⟨t,rfl⟩,q⟩
end
theorem aY {A B:Prop} (h:B):if false=true then A else B:=by
 rw [if_neg aT3]
 exact h
theorem bC {A B:Prop} (h:A):if true=true then A else B:=by
 rw [if_pos rfl]
 exact h
def aC (H H':Hp):Prop:=∀ b o,H b=some o->H' b=some o
theorem aC.refl (H:Hp):aC H H:=fun _ _ h=>h
theorem aC.trans {H H1 H2:Hp} (a:aC H H1) (b:aC H1 H2):aC H H2:=fun c o h=>b c o (a c o h)
theorem aC.free {H H':Hp} (e:aC H H') {l:Addr} (h:H' l=Option.none):H l=Option.none:=by
 cases q:H l with
 | none=>rfl
 | some o=>
  rw [e l o q] at h
  cases h
def dQ (cells:List (Str × Addr)):List (Str × NameKind)->List (Str × Addr)->List (Str × Addr)
 | [],cs=>cs
 | (n,k) :: r,cs=>dQ cells r (if k == .free then (n,(cells.lookup n).getD 0) :: cs else cs)
theorem sY {env:Env}:∀ (ns:List (Str × NameKind)) (cs:List (Str × Addr)),(∀ x ∈ ns,x.2 = .free->∃ c,env.cells.lookup x.1=some c)->
  (forIn ns cs (fun (x:Str × NameKind) r=>(match x with
   | (name,kind)=>if (kind == .free)=true then (do let y <- cellOf env name; pure (ForInStep.yield ((name,y) :: r))) else pure (ForInStep.yield r)):_->_->Sem _))=(pure (dQ env.cells ns cs):Sem (List (Str × Addr)))
 | [],cs,_=>by rw [List.forIn_nil]; rfl
 | (n,k) :: r,cs,h=>by
  rw [List.forIn_cons]
  have hr:∀ x ∈ r,x.2 = .free->∃ c,env.cells.lookup x.1=some c:=fun x hx=>h x (aR7 _ hx)
  cases hk:(k == NameKind.free) with
  | true=>
   have e:k = .free:=by simpa using hk
   obtain ⟨c,hc⟩:=h (n,k) aS3 e
   simp only [hk,if_true]
   have e1:cellOf env n=pure c:=by unfold cellOf; rw [hc]
   rw [e1]
   show ((pure c >>= fun y=>pure (ForInStep.yield ((n,y) :: cs))) >>= _:Sem _)=_
   rw [pure_bind,pure_bind]
   have:=sY (env:=env) r ((n,c) :: cs) hr
   refine this.trans ?_
   unfold dQ
   simp only [hk,if_true,hc,Option.getD_some]
   cases r <;> rfl
  | false=>
   simp only [hk,aT6,aY3]
   rw [pure_bind]
   have:=sY (env:=env) r cs hr
   refine this.trans ?_
   conv=>rhs; unfold dQ
   simp only [hk,aT6,aY3]
theorem ak4 {scope:Scope}{env:Env} (h:∀ x ∈ scope.names,x.2 = .free->∃ c,env.cells.lookup x.1=some c):closureFor scope env=pure (dQ env.cells scope.names []):=by
 have e:=sY (env:=env) scope.names [] h
 unfold closureFor
 rw [show (pure (dQ env.cells scope.names []):Sem (List (Str × Addr)))=(pure (dQ env.cells scope.names []) >>= pure) by rw [pure_bind]]
 rw [<- e]
theorem oO {cells:List (Str × Addr)}:∀ (ns:List (Str × NameKind)) (cs:List (Str × Addr)) {x:Str}{c:Addr},(∀ y ∈ ns,y.2 = .free->∃ c,cells.lookup y.1=some c)->
  (∀ x c,cs.lookup x=some c->cells.lookup x=some c)->(dQ cells ns cs).lookup x=some c->cells.lookup x=some c
 | [],cs,x,c,_,hc,h=>hc x c h
 | (n,k) :: r,cs,x,c,hn,hc,h=>by
  unfold dQ at h
  have hr:∀ y ∈ r,y.2 = .free->∃ c,cells.lookup y.1=some c:=fun y hy=>hn y (aR7 _ hy)
  cases hk:(k == NameKind.free) with
  | false=>
   simp only [hk,aT6,aY3] at h
   exact oO r cs hr hc h
  | true=>
   simp only [hk,if_true] at h
   refine oO r _ hr (fun y d e=>?_) h
   obtain ⟨c0,h0⟩:=hn (n,k) aS3 (by simpa using hk)
   have h0:cells.lookup n=some c0:=h0
   rw [h0] at e
   rw [aX0] at e
   by_cases hyn:y=n
   ·subst hyn
    simp only [aZ3,Option.getD_some] at e
    rw [h0]; exact e
   ·have:(y == n)=false:=beq_eq_false_iff_ne.mpr hyn
    simp only [this] at e
    exact hc y d e
theorem sZ {cells:List (Str × Addr)}:∀ (ns:List (Str × NameKind)) (cs:List (Str × Addr)) {x:Str},((x,NameKind.free) ∈ ns ∨ ∃ c,cs.lookup x=some c)->∃ c,(dQ cells ns cs).lookup x=some c
 | [],cs,x,h=>by
  rcases h with h | h
  ·simp at h
  ·exact h
 | (n,k) :: r,cs,x,h=>by
  unfold dQ
  refine sZ r _ ?_
  rcases h with h | ⟨c,h⟩
  ·rcases aR5.mp h with e | e
   ·cases e
    exact .inr ⟨_,by simp [aX0]; rfl⟩
   ·exact .inl e
  ·right
   cases hk:(k == NameKind.free) with
   | false=>exact⟨c,by simpa [hk] using h⟩
   | true=>
    simp only [if_true]
    rw [aX0]
    by_cases hxn:(x == n)=true
    ·simp only [hxn]; exact⟨_,rfl⟩
    ·simp only [Bool.eq_false_iff.mpr hxn]; exact⟨c,h⟩
theorem oP {env:Env}:∀ {names:List (Str × NameKind)}{x:Str}{k:NameKind},(names.map fun (n,k)=>if (k == NameKind.free && env.scope.kind == .function && env.kindOf n == some .cell) then (n,NameKind.cell) else (n,k)).lookup x=some k->
  names.lookup x=some k ∨ (names.lookup x=some .free/\k = .cell)
 | [],_,_,h=>by simp at h
 | (n,q) :: r,x,k,h=>by
  have ih:=@oP env r x k
  rw [aW3] at h
  by_cases hx:(x == n)=true
  ·have e:x=n:=by simpa using hx
   subst e
   by_cases hc:(q == NameKind.free && env.scope.kind == .function && env.kindOf x == some .cell)=true
   ·simp only [hc,if_true,aX0,aZ3] at h
    have hq:q = .free:=by simp at hc; exact hc.1.1
    exact .inr ⟨by simp [aX0,hq],(aT5 h).symm⟩
   ·simp only [hc,aT6,aY3,aX0,aZ3] at h
    exact .inl (by simp [aX0]; exact aT5 h)
  ·have hx':(x == n)=false:=Bool.eq_false_iff.mpr hx
   have h':(r.map fun (n,k)=>if (k == NameKind.free && env.scope.kind == .function && env.kindOf n == some .cell) then (n,NameKind.cell) else (n,k)).lookup x=some k:=by
    by_cases hc:(q == NameKind.free && env.scope.kind == .function && env.kindOf n == some .cell)=true
    ·simp only [hc,if_true,aX0,hx'] at h; exact h
    ·simp only [hc,aT6,aY3,aX0,hx'] at h; exact h
   simp only [aX0,hx']
   exact ih h'
def fG (fr:List (Option Nat)) (σ:St):St:=fr.map fun o=>o.bind fun j=>(σ[j]?).join
def Wk (σ₁ σ₂:St):Prop:=σ₁.length=σ₂.length/\∀ (i:Nat) v,σ₁[i]? = some (some v)->σ₂[i]? = some (some v)
theorem iQ:∀ (ns:List (Str × NameKind)) (n:Nat) (cs:List (Str × Addr)),cellsFrom n ns cs=cellsFrom n ns [] ++ cs
 | [],_,_=>rfl
 | (x,k) :: r,n,cs=>by
  unfold cellsFrom
  split
  ·rw [iQ r (n+1) ((x,n) :: cs),iQ r (n+1) [(x,n)]]; simp
  ·exact iQ r n cs
theorem t0:∀ (ns:List (Str × NameKind)) (n:Nat) {x:Str}{c:Addr},(x,c) ∈ cellsFrom n ns []->(x,NameKind.cell) ∈ ns
 | [],_,_,_,h=>by simp [cellsFrom] at h
 | (y,k) :: r,n,x,c,h=>by
  unfold cellsFrom at h
  split at h
  ·rename_i hk
   rw [iQ] at h
   rcases aU4.mp h with z | z
   ·exact aR7 _ (t0 r _ z)
   ·rw [aS1] at z
    cases z
    have:k = .cell:=by simpa using hk
    rw [this]; exact aS3
  ·exact aR7 _ (t0 r _ h)
theorem oQ:∀ (ns:List (Str × NameKind)) (n:Nat) {x:Str},(x,NameKind.cell) ∈ ns->∃ c,(x,c) ∈ cellsFrom n ns []
 | (y,k) :: r,n,x,h=>by
  unfold cellsFrom
  rcases aR5.mp h with z | z
  ·cases z
   rw [if_pos (by rfl),iQ]
   exact⟨n,aU0 _ (by simp)⟩
  ·split
   ·obtain ⟨c,hc⟩:=oQ r (n+1) z
    rw [iQ]
    exact⟨c,aU3 _ hc⟩
   ·exact oQ r n z
theorem t5 {α:Type}:∀ {l:List (Str × α)}{x:Str}{c:α},(x,c) ∈ l->∃ d,l.lookup x=some d
 | (y,v) :: r,x,c,h=>by
  rw [aX0]
  cases hb:x == y with
  | true=>exact⟨v,rfl⟩
  | false=>
   rcases aR5.mp h with z | z
   ·cases z; simp at hb
   ·exact t5 z
theorem oR {α:Type}{x:Str}:∀ (l r:List (Str × α)),(l ++ r).lookup x=(match l.lookup x with | some v=>some v | none=>r.lookup x)
 | [],_=>rfl
 | (y,v) :: l,r=>by
  rw [List.cons_append,aX0,aX0]
  cases hb:x == y with
  | true=>rfl
  | false=>exact oR l r
def gC (X:Cx) (scope:Scope) (C:Addr):List (Str × Addr):=cellsFrom (C+1) scope.names (dQ X.env.cells scope.names [])
theorem k9 {X:Cx}{scope:Scope}{C:Addr}{x:Str}{c:Addr} (h:(gC X scope C).lookup x=some c) :
  (x,c) ∈ cellsFrom (C+1) scope.names [] ∨ ((∀ d,(x,d) ∉ cellsFrom (C+1) scope.names [])/\(dQ X.env.cells scope.names []).lookup x=some c):=by
 unfold gC at h
 rw [iQ,oR] at h
 cases e:(cellsFrom (C+1) scope.names []).lookup x with
 | some v=>rw [e] at h; cases h; exact .inl (aW2 e)
 | none=>
  rw [e] at h
  refine .inr ⟨fun d hd=>?_,h⟩
  obtain ⟨d',z⟩:=t5 hd
  rw [e] at z; cases z
theorem ak5 {X:Cx}{scope:Scope}{C:Addr}{x:Str}{c:Addr} (hn:(x,NameKind.cell) ∉ scope.names) (h:(dQ X.env.cells scope.names []).lookup x=some c):(gC X scope C).lookup x=some c:=by
 unfold gC
 rw [iQ,oR]
 cases e:(cellsFrom (C+1) scope.names []).lookup x with
 | some v=>exact absurd (t0 _ _ (aW2 e)) hn
 | none=>exact h
theorem yV {X:Cx}{scope:Scope}{C:Addr}{x:Str} (h:(x,NameKind.cell) ∈ scope.names ∨ ∃ c,(dQ X.env.cells scope.names []).lookup x=some c):∃ c,(gC X scope C).lookup x=some c:=by
 unfold gC
 rw [iQ,oR]
 cases e:(cellsFrom (C+1) scope.names []).lookup x with
 | some v=>exact⟨v,rfl⟩
 | none=>
  rcases h with h | h
  ·obtain ⟨c,hc⟩:=oQ scope.names (C+1) h
   obtain ⟨d,hd⟩:=t5 hc
   rw [e] at hd; cases hd
  ·exact h
def cD (X:Cx) (scope:Scope) (N:List Str) (s:Shared) (H:Hp) (C:Addr) (fp:List Addr) (E:Value->Shared->Prop):Cx:=
 { X with N:=N,s₀:=s,H₀:=H,env:=compEnvC scope (gC X scope C) C X.env,outer:=X.stack,ex:=fp,fn:=fun x=>scope.names.lookup x == some .cell,pn:=[],xe:=E }
structure fH (X:Cx) (scope:Scope) (N:List Str) (fr:List (Option Nat)):Prop where
 kind:scope.kind = .function
 own:∀ y ∈ scope.names,y.2 = .cell->scope.names.lookup y.1=some .cell
 names:∀ y ∈ scope.names,y.2 = .local->scope.names.lookup y.1=some .local
 free:∀ y ∈ scope.names,y.2 = .free->X.env.scope.names.lookup y.1=some .cell ∨ X.env.scope.names.lookup y.1=some .free
 len:fr.length=N.length
 from_:∀ (i j:Nat),fr[i]? = some (some j)->∃ x,N[i]? = some x/\X.N[j]? = some x/\scope.names.lookup x=some .free
section
variable {X : Cx} {pins : List (Addr × Obj)} {σ : St} {H : Hp} {s : Shared} {scope : Scope} {N : List Str} {fr : List (Option Nat)}
theorem fH.cells (S:fH X scope N fr) (I:a6 X pins σ H s):∀ y ∈ scope.names,y.2 = .free->∃ c,X.env.cells.lookup y.1=some c:=fun y hy hk=>I.ok.has y.1 (S.free y hy hk)
theorem ak6 {C D:Addr}{fp:List Addr}{E:Value->Shared->Prop}{h1:Heap}{tk:Nat}{m:Str->Option Value} (S:fH X scope N fr) (I:a6 X pins σ H s)
  (hf:∀ b ∈ fp,fD X pins H b) (hfl:∀ b ∈ fp,b < s.heap.objs.size) (hD:s.heap.objs.size<=D) (hC:s.heap.objs.size<=C) (hDC:D < C)
  (old:∀ b o,s.heap.get? b=some o->h1.get? b=some o) (hns:h1.Ns C m) (hacc:h1.get? D=some { cls:=.type "list",data:=.seq #[] 0 }) (hco:CellsOk h1 (C+1) (cellsFrom (C+1) scope.names [])) :
  a6 (cD X scope N s H C fp E) [] (fG fr σ) (upd H D (.lst [])) { s with heap:=h1,toks:=tk }:=by
 have hHD:H D=none:=I.hok.fresh hD
 have cl:=S.cells I
 have cs:∀ {x:Str}{c:Addr},(dQ X.env.cells scope.names []).lookup x=some c->X.env.cells.lookup x=some c:=fun {x c} h=>oO scope.names [] cl (fun _ _ z=>by simp at z) h
 have clt:∀ {x:Str}{c:Addr},X.env.cells.lookup x=some c->c < s.heap.objs.size:=fun {x c} h=>by obtain ⟨v,z⟩:=I.cell x c h; exact z.lt
 have nge:∀ {x:Str}{c:Addr},(x,c) ∈ cellsFrom (C+1) scope.names []->C < c:=fun {x c} h=>(hco.empty x c h).2
 refine⟨⟨I.ok.mod,?_,I.ok.glob,I.ok.blt,hC,?_,?_,?_,I.ok.hd,I.ok.frames,.inl rfl,?_,I.bs,aU8 I.ok.bsz I.sz,?_,?_,I.stack,I.stkFree⟩,rfl,I.bare,Un.laid old hD hHD,⟨m,hns,?_⟩,?_,?_,?_,fun p hp=>absurd (show p ∈ ([]:List (Addr × Obj)) from hp) (by simp),?_,?_⟩
 ·exact S.kind
 ·intro x y c h1 h2
  rcases k9 h1 with a | ⟨_,a⟩ <;> rcases k9 h2 with b | ⟨_,b⟩
  ·exact name_of_addr hco.apart a b
  ·exact absurd (aT0 (Nat.lt_trans (nge a) (clt (cs b))) hC) (aZ0 _)
  ·exact absurd (aT0 (Nat.lt_trans (nge b) (clt (cs a))) hC) (aZ0 _)
  ·exact I.ok.inj x y c (cs a) (cs b)
 ·intro x hx
  have hx:(relabel scope X.env).names.lookup x=some .cell ∨ (relabel scope X.env).names.lookup x=some .free:=hx
  have fin:(x,NameKind.free) ∈ scope.names->∃ c,(gC X scope C).lookup x=some c:=fun z=>yV (.inr (sZ scope.names [] (.inl z)))
  rcases hx with hx | hx
  ·rcases oP hx with z | z
   ·exact yV (.inl (aW2 z))
   ·exact fin (aW2 z.1)
  ·rcases oP hx with z | z
   ·exact fin (aW2 z)
   ·exact absurd z.2 (by decide)
 ·intro x c hx h
  have hx:(scope.names.lookup x == some NameKind.cell)=true:=hx
  have hx:scope.names.lookup x=some .cell:=by simpa using hx
  rcases k9 h with a | ⟨a,_⟩
  ·exact aU8 hC (bc6 (nge a))
  ·obtain ⟨d,hd⟩:=oQ scope.names (C+1) (aW2 hx)
   exact absurd hd (a d)
 ·intro b hb
  refine⟨aU5 (aT0 (hfl b hb) hC),fun x c e=>?_⟩
  rcases k9 e with a | ⟨_,a⟩
  ·exact bb3 (Nat.lt_trans (aT0 (hfl b hb) hC) (nge a))
  ·exact (hf b hb).2.2.2.2.1 x c (cs a)
 ·intro b o e hb
  rcases (hf b hb).2.2.2.1 with z | z
  ·exact I.ok.noex b o e z
  ·exact absurd (aT0 (aS4 e) (aU8 I.ok.bsz z)) (aZ0 _)
 ·intro b hb z
  rcases aR5.mp (I.stkSub b z) with e | e
  ·exact (hf b hb).2.1 e
  ·exact (hf b hb).2.2.1 e
 ·intro i x v e1 e2 e3
  have e2:(fr.map fun o=>o.bind fun j=>(σ[j]?).join)[i]? = some (some v):=e2
  rw [aS8] at e2
  cases ef:fr[i]? with
  | none=>rw [ef] at e2; cases e2
  | some o=>
   rw [ef] at e2
   cases o with
   | none=>cases e2
   | some j=>
    have e2:some ((σ[j]?).join)=some (some v):=e2
    have ej:σ[j]? = some (some v):=by
     cases q:σ[j]? with
     | none=>rw [q] at e2; cases e2
     | some w=>rw [q] at e2; cases w with
      | none=>cases e2
      | some w=>cases e2; rfl
    obtain ⟨y,a1,a2,a4⟩:=S.from_ i j ef
    have e1:N[i]? = some x:=e1
    rw [e1] at a1
    cases a1
    have a3:(x,NameKind.free) ∈ scope.names:=aW2 a4
    have vis:iL X.env.scope x:=(S.free _ a3 rfl).elim (fun z=>.inr (.inl z)) fun z=>.inr (.inr z)
    obtain ⟨m0,hn0,hl0⟩:=I.loc
    obtain ⟨u,r,l⟩:=hl0 j x v a2 ej vis
    refine⟨u,r,.inr ⟨?_,?_⟩⟩
    ·have e3:(relabel scope X.env).names.lookup x=some .local ∨ (relabel scope X.env).names.lookup x=some .cell ∨ (relabel scope X.env).names.lookup x=some .free:=e3
     rcases e3 with z | z | z
     ·rcases oP z with y | y
      ·rw [a4] at y; cases y
      ·exact absurd y.2 (by decide)
     ·exact .inl z
     ·exact .inr z
    ·obtain ⟨c,hc⟩:=sZ (cells:=X.env.cells) scope.names [] (x:=x) (.inl a3)
     refine⟨c,ak5 (fun z=>by have:=S.own _ z rfl; rw [a4] at this; cases this) hc,?_⟩
     have hc':=cs hc
     have S1:=S.free (x,.free) a3 rfl
     rcases l with ⟨k,_⟩ | ⟨_,c2,hc2,z⟩
     ·have k:X.env.scope.names.lookup x=some .local:=k
      rcases S1 with q | q <;> (have q:X.env.scope.names.lookup x=_:=q; rw [k] at q; cases q)
     ·rw [hc'] at hc2; cases hc2
      obtain ⟨oc,ho,hd⟩:=z
      exact⟨oc,old c oc ho,hd⟩
 ·intro x c e
  rcases k9 e with a | ⟨_,a⟩
  ·exact⟨_,(hco.empty x c a).1⟩
  ·obtain ⟨v,oc,ho,hd⟩:=I.cell x c (cs a)
   exact⟨v,oc,old c oc ho,hd⟩
 ·show upd H D (.lst []) C=none
  rw [aZ (bb3 hDC)]; exact I.hok.fresh hC
 ·intro x c e
  show upd H D (.lst []) c=none
  rcases k9 e with a | ⟨_,a⟩
  ·rw [aZ (bb3 (Nat.lt_trans hDC (nge a)))]; exact I.hok.fresh (aU8 hC (bc6 (nge a)))
  ·have q:=cs a
   rw [aZ (aU5 (aT0 (clt q) hD))]
   exact I.freeC x c q
 ·exact I.hok.laid old hD ⟨aZ6 _,[],0,.nil,hacc⟩
 ·show (fG fr σ).length=N.length
  unfold fG; rw [aS0]; exact S.len
end
def kA (X:Cx) (ifs:List Expr) (t:TT):Prop:=
 ∀ (pins:List (Addr × Obj)) (s:Shared) (σ:St) (H:Hp) (Q:Bool->Hp->Prop),a6 X pins σ H s->t σ H Q->
  wpAny (model X.prog X.w) X.A (forIn ifs true fun c r=>if r=true then do let ok <- isTrue c X.env (eval c X.env); pure (ForInStep.yield ok) else pure (ForInStep.yield r)) (TP X pins σ Q) X.xe s
def yW:TT:=fun _ H Q=>Q true H
theorem ak7 {X:Cx}:kA X [] yW:=fun _ _ _ H _ I h=>wpAny_tests_nil ⟨H,I,h⟩
theorem ak8 {X:Cx}{c:Expr}{t:TT} (h:PT X c t):kA X [c] t:=fun pins s σ H Q I hq=>wpAny_tests_one (h pins s σ H Q I hq)
section
variable {prog : Program} {w : World} {A : Around}
def t6 (prog:Program) (w:World) (A:Around) (elt tg:Expr) (ifs:List Expr) (it acc:Value) (env:Env) (lost:Value->Shared->Prop) (stop next:Shared->Prop) (s:Shared):Prop:=
 let M:=model prog w
 let tests:Sem Bool:=forIn ifs true fun c r=>if r=true then do let ok <- isTrue c env (eval c env); pure (ForInStep.yield ok) else pure (ForInStep.yield r)
 let put:Shared->Prop:=wpAny M A (eval elt env) (fun x=>wpAny M A (call (.builtin "list.append") [acc,x]) (fun _=>next) lost) lost
 let taken:Value->Shared->Prop:=fun v=>wpAny M A (letOwnedTupleGo tg it v) (fun _=>wpAny M A (assign tg env v) (fun _=>wpAny M A tests (fun ok s'=>if ok=true then put s' else next s') lost) lost) lost
 wpAny M A (pyNext it) (fun r s'=>match r with
  | none=>stop s'
  | some v=>taken v s') lost s
theorem ak9 {R:Result->Shared->Prop}{s:Shared}{elt tg iter:Expr}{ifs:List Expr}{scope:Scope}{pos:Pos}{it acc:Value}{env:Env} (I:Nat->Shared->Prop)
  (turn:∀ n s,I n s->t6 prog w A elt tg ifs it acc env (notedBy (model prog w) A env fun e=>R (.error e)) (R (.ok .next)) (fun s'=>∃ m,m < n/\I m s') s) (n:Nat) (h:I n s) :
  codeAny (model prog w) A (.compLoop (.ListComp elt [⟨tg,iter,ifs,0⟩] scope pos) 0 it acc env) R s:=by
 apply codeAny_loop rfl I _ n h
 intro k s1 h1
 change wpAny _ A ((compTurn _ 0 it acc env).onRaise (fun x=>do noteFrame x env; theTreesLotGoes x)) _ _ s1
 apply wpAny_noted
 rw [compTurn_list]
 have t:=turn k s1 h1
 unfold t6 at t
 apply aQ7
 apply wpAny_standAt
 apply aQ7
 refine aZ8 t (fun r s2 h2=>?_) fun _ _ z=>z
 cases r with
 | none=>exact aR3 h2
 | some v=>
  apply aQ7
  refine aZ8 h2 (fun _ s3 h3=>?_) fun _ _ z=>z
  apply aQ7
  refine aZ8 h3 (fun _ s4 h4=>?_) fun _ _ z=>z
  apply aQ7
  refine aZ8 h4 (fun ok s5 h5=>?_) fun _ _ z=>z
  cases ok with
  | false=>exact aR3 ⟨rfl,h5⟩
  | true=>
   apply aQ7
   apply aQ7
   refine aZ8 h5 (fun x s6 h6=>?_) fun _ _ z=>z
   apply aQ7
   exact aZ8 h6 (fun _ s7 h7=>aR3 (aR3 ⟨rfl,h7⟩)) fun _ _ z=>z
end
def yX (g:TG) (tc:TT) (te:TE) (σ0:St) (J:It) (D:Addr) (Q:VK) (W:Nat->Nat->List V->Hp->Prop):Prop:=
 ∀ i m acc H',W i m acc H'->H' D=some (.lst acc)/\((J.stop i H'/\Q (.ref D) H') ∨ (J.go i H'/\∀ x H2,J.yld i H' x H2->g x σ0 H2 fun σ2 H3=>Wk σ0 σ2/\tc σ2 H3 fun b H4=>
  if b=true then te σ2 H4 fun v H5=>H5 D=some (.lst acc)/\acc.length < sizeLine/\∃ m',m' < m/\W (i+1) m' (acc ++ [v]) (upd H5 D (.lst (acc ++ [v]))) else ∃ m',m' < m/\W (i+1) m' acc H4))
section
variable {M : Model} {A : Around} {E : Value → Shared → Prop} {s : Shared}
theorem al0 {scope:Scope}{globals:Addr}{cl:List (Str × Addr)}{qual:Str}{func:Option Addr}{code:Value}{builtins:Addr}{outer:Env}{Q:Env->Shared->Prop}
  (hQ:∀ h',h'.Ns s.heap.objs.size (fun _=>none)->(∀ b o,s.heap.get? b=some o->h'.get? b=some o)->CellsOk h' (s.heap.objs.size+1) (cellsFrom (s.heap.objs.size+1) scope.names [])->
   Q (newEnv scope s.heap.objs.size globals (cellsFrom (s.heap.objs.size+1) scope.names cl) qual func code (some outer) builtins) { s with heap:=h' }) :
  wpAny M A (newFunctionEnv scope globals cl [] qual func code (some outer) builtins) Q E s:=by
 simp only [newFunctionEnv,Option.isSome_some,if_true]
 refine aQ7 (wpAny_alloc ?_)
 refine aQ7 (wpAny_layCells _ (fun name kind cells=>by cases hkc:kind == NameKind.cell <;> simp [hkc]) _ _ _ _ ?_)
 have ok:=cellsFrom_ok scope.names (s.heap.push { cls:=.type "dict",data:=.dict #[] }) (s.heap.objs.size+1) [] ⟨fun _ _ hm=>(nomatch hm),ba4⟩ (by rw [aY1]; exact aR8 _)
 rw [aY1] at ok
 rw [show ({ s with heap:=s.heap.push { cls:=.type "dict",data:=.dict #[] } }:Shared).heap.objs.size=s.heap.objs.size+1 from aY1 ..]
 rw [List.forIn_nil]
 refine aQ7 (aR3 (aR3 (hQ _ ((Heap.Ns.new s.heap (.type "dict")).keeps (pushCells_keeps _ _)) (fun b o e=>pushCells_keeps _ _ b o (aQ9 _ e)) ok)))
end
section
variable {X : Cx} {pins : List (Addr × Obj)} {σ : St} {H : Hp} {s : Shared} {scope : Scope} {N : List Str} {fr : List (Option Nat)} {tg iter elt : Expr} {ifs : List Expr} {pos : Pos} {wi : TI} {g : TG} {tc : TT} {te : TE}
structure oS (X:Cx) (scope:Scope) (N:List Str) (tg:Expr) (ifs:List Expr) (elt:Expr) (s:Shared) (H:Hp) (g:TG) (tc:TT) (te:TE):Prop where
 tg:∀ (C:Addr) (fp:List Addr),PG (cD X scope N s H C fp fun _ _=>False) tg g
 ifs:∀ (C:Addr) (fp:List Addr),kA (cD X scope N s H C fp fun _ _=>False) ifs tc
 elt:∀ (C:Addr) (fp:List Addr),PE (cD X scope N s H C fp fun _ _=>False) elt te
theorem al1 {C:Addr}{fp:List Addr}{E:Value->Shared->Prop}{pins':List (Addr × Obj)}{σ':St}{H':Hp}{s':Shared} (I:a6 X pins σ H s) (hf:∀ b ∈ fp,fD X pins H b) (I':a6 (cD X scope N s H C fp E) pins' σ' H' s'):a6 X pins σ H' s':=
 I.call' (ch:=fp) I'.os I'.base I'.hok I'.bare fun b hb=>⟨(hf b hb).2.2.2.1,(hf b hb).2.1,(hf b hb).2.2.2.2.1,(hf b hb).2.2.2.2.2⟩
theorem al2 {Rr:Value->Addr->Result->Shared->Prop}{J:It}{fp:List Addr}{it:Addr}{tn:Nat->Heap->Prop}{Q:VK}
  (hc:X.calm=true) (S:fH X scope N fr) (B:oS X scope N tg ifs elt s H g tc te) (I:a6 X pins σ H s) (T:i6 X.prog X.w X.K tg J fp it tn) (hst:tn 0 s.heap) (hf:∀ b ∈ fp,fD X pins H b)
  (h:∀ D,H D=none->∃ W:Nat->Nat->List V->Hp->Prop,(∃ m,W 0 m [] (upd H D (.lst [])))/\yX g tc te (fG fr σ) J D Q W)
  (hend:∀ (D C:Addr) (s':Shared) (H':Hp) (m:Str->Option Value),s.heap.objs.size<=C->s.heap.objs.size<=D->a6 X pins σ H' s'->s'.heap.Ns C m->H' C=none->Q (.ref D) H'->Rr (.ref D) C (.ok .next) s') :
  wpAny (model X.prog X.w) X.A (newList []) (fun acc s₃=>wpAny (model X.prog X.w) X.A (newFunctionEnv scope X.env.globals (dQ X.env.cells scope.names []) [] X.env.qual none .none (some X.env)) (fun cenv s₄=>
   codeAny (model X.prog X.w) X.A (.compStart (.ListComp elt [⟨tg,iter,ifs,0⟩] scope pos) 0 (.ref it) acc { cenv with scope:=relabel scope X.env }) (Rr acc cenv.locals) s₄) X.xe s₃) X.xe s:=by
 refine aV4 (al0 (fun h₁ hns₁ keep₁ hco₁=>?_))
 dsimp only at hns₁ keep₁ hco₁ ⊢
 generalize hH2:s.heap.push { cls:=.type "list",dict:=none,data:=.seq ([]:List Value).toArray }=H2 at hns₁ keep₁ hco₁ ⊢
 have hC:H2.objs.size=s.heap.objs.size+1:=by rw [<- hH2,aY1]
 have hDC:s.heap.objs.size < H2.objs.size:=by rw [hC]; exact Nat.lt_succ_self _
 have hCle:s.heap.objs.size<=H2.objs.size:=by rw [hC]; exact Nat.le_succ _
 have old:∀ b o,s.heap.get? b=some o->h₁.get? b=some o:=fun b o e=>keep₁ b o (hH2 ▸ aQ9 _ e)
 have hacc:h₁.get? s.heap.objs.size=some { cls:=.type "list",data:=.seq #[] 0 }:=keep₁ _ _ (hH2 ▸ aS5 _ rfl)
 have hfl:∀ b ∈ fp,b < s.heap.objs.size:=fun b hb=>by obtain ⟨o,e,_⟩:=T.obj _ _ hst b hb; exact aS4 e
 obtain ⟨W,⟨m0,w0⟩,turn⟩:=h s.heap.objs.size (I.hok.fresh (aR8 _))
 have st1:tn 0 h₁:=T.keep _ _ _ hst fun b _ o e=>old b o e
 have fr0:∀ b ∈ fp,upd H s.heap.objs.size (.lst []) b=none:=fun b hb=>by rw [aZ (aU5 (hfl b hb))]; exact (hf b hb).1
 have stat:∀ {H':Hp},(∀ b ∈ fp,H' b=none)->∀ b ∈ fp,fD (cD X scope N s H H2.objs.size fp fun _ _=>False) [] H' b:=fun {H'} hn b hb=>by
  have f:=hf b hb
  refine⟨hn b hb,aU5 (aT0 (hfl b hb) hCle),fun z=>?_,.inl hb,fun x c e=>(k9 e).elim (fun z=>bb3 (Nat.lt_trans (aT0 (hfl b hb) hCle) (hco₁.empty x c z).2)) fun z=>f.2.2.2.2.1 x c (oO scope.names [] (S.cells I) (fun _ _ z=>by simp at z) z.2),fun p hp=>absurd (show p ∈ ([]:List (Addr × Obj)) from hp) (by simp)⟩
  rcases aR5.mp (I.stkSub b z) with e | e
  ·exact f.2.1 e
  ·exact f.2.2.1 e
 generalize hX:cD X scope N s H H2.objs.size fp (fun _ _=>False)=Y at stat
 have I0:a6 Y [] (fG fr σ) (upd H s.heap.objs.size (.lst [])) { s with heap:=h₁ }:=hX ▸ ak6 S I hf hfl (aR8 _) hCle hDC old hns₁ hacc hco₁
 have bt:PG Y tg g:=hX ▸ B.tg H2.objs.size fp
 have bi:kA Y ifs tc:=hX ▸ B.ifs H2.objs.size fp
 have be:PE Y elt te:=hX ▸ B.elt H2.objs.size fp
 have eP:Y.prog=X.prog:=by rw [<- hX]; rfl
 have ew:Y.w=X.w:=by rw [<- hX]; rfl
 have eK:Y.K=X.K:=by rw [<- hX]; rfl
 have eA:Y.A=X.A:=by rw [<- hX]; rfl
 have eE:Y.env=compEnvC scope (gC X scope H2.objs.size) H2.objs.size X.env:=by rw [<- hX]; rfl
 have eX:Y.xe=fun _ _=>False:=by rw [<- hX]; rfl
 have ec:Y.calm=true:=by rw [<- hX]; exact hc
 have never:∀ {E:Value->Shared->Prop} (e:Value) (s':Shared),Y.xe e s'->E e s':=fun {E} e s' z=>by rw [eX] at z; exact z.elim
 have out:∀ {pins' σ' H' s'},a6 Y pins' σ' H' s'->a6 X pins σ H' s':=fun {_ _ _ _} I'=>al1 (C:=H2.objs.size) (E:=fun _ _=>False) (scope:=scope) (N:=N) I hf (hX ▸ I')
 have loop:codeAny (model X.prog X.w) X.A (.compLoop (.ListComp elt [⟨tg,iter,ifs,0⟩] scope pos) 0 (.ref it) (.ref s.heap.objs.size) (compEnvC scope (gC X scope H2.objs.size) H2.objs.size X.env))
   (Rr (.ref s.heap.objs.size) H2.objs.size) { s with heap:=h₁ }:=by
  refine ak9 (fun n s'=>∃ i acc H',a6 Y [] (fG fr σ) H' s'/\tn i s'.heap/\(∀ b ∈ fp,H' b=none)/\W i n acc H') ?_ m0 ⟨0,[],_,I0,st1,fr0,w0⟩
  rintro n s3 ⟨i,acc,H3,I3,st3,fr3,w3⟩
  unfold t6
  dsimp only
  obtain ⟨hD3,step⟩:=turn i n acc H3 w3
  rcases step with ⟨stop,qn⟩ | ⟨go,step⟩
  ·have z:=T.done Y eP ew eK ec i [] s3 _ H3 (notedBy (model X.prog X.w) X.A (compEnvC scope (gC X scope H2.objs.size) H2.objs.size X.env) fun e s'=>Rr (.ref s.heap.objs.size) H2.objs.size (.error e) s') I3 (stat fr3) st3 stop
   rw [eA] at z
   refine aM z fun r s4 ⟨hr,I4⟩=>?_
   subst hr
   obtain ⟨m4,hn4,_⟩:=I4.loc
   rw [eE] at hn4
   have f4:=I4.free
   rw [eE] at f4
   exact hend _ _ s4 H3 m4 hCle (aR8 _) (out I4) hn4 f4 qn
  ·have z:=T.item Y eP ew eK ec i [] s3 _ H3 (notedBy (model X.prog X.w) X.A (compEnvC scope (gC X scope H2.objs.size) H2.objs.size X.env) fun e s'=>Rr (.ref s.heap.objs.size) H2.objs.size (.error e) s') I3 (stat fr3) st3 go
   rw [eA] at z
   refine aM z fun r s4 ⟨u,hr,h4⟩=>?_
   subst hr
   refine aM h4 fun _ s5 ⟨x,H5,I5,r5,y5,st5,fr5⟩=>?_
   have I5':=I5.pinned (stat fr5) (T.obj _ _ st5)
   have q1:=bt _ s5 _ H5 x u _ I5' r5 (step x H5 y5)
   rw [eP,ew,eA,eE] at q1
   refine aZ8 q1 (fun _ s6 ⟨σ6,H6,I6,wk,q6⟩=>?_) never
   have q2:=bi _ s6 σ6 H6 _ I6 q6
   rw [eP,ew,eA,eE] at q2
   refine aZ8 q2 (fun b s7 ⟨H7,I7,q7⟩=>?_) never
   have again:∀ {H8:Hp}{s8:Shared}{acc':List V},a6 Y ([] ++ mH fp s5.heap) σ6 H8 s8->(∃ m',m' < n/\W (i+1) m' acc' H8)->∃ m,m < n/\∃ i acc H',a6 Y [] (fG fr σ) H' s8/\tn i s8.heap/\(∀ b ∈ fp,H' b=none)/\W i m acc H':=fun {H8 s8 acc'} I8 n8=>by
    obtain ⟨m',hm,w8⟩:=n8
    refine⟨m',hm,i+1,acc',H8,(I8.unpinned).weak wk.1 wk.2,T.keep _ _ _ st5 fun b hb o e=>(I8.pin (b,o) (aU0 _ (aU0 _ (oF hb e)))).1,fun b hb=>?_,w8⟩
    obtain ⟨o,e,d⟩:=T.obj _ _ st5 b hb
    exact (I8.pin (b,o) (aU0 _ (aU0 _ (oF hb e)))).2.1
   cases b with
   | false=>
    rw [if_neg aT3] at q7 ⊢
    exact again I7 q7
   | true=>
    rw [if_pos rfl] at q7 ⊢
    have q3:=be _ s7 σ6 H7 _ I7 q7
    rw [eP,ew,eA,eE] at q3
    refine aZ8 q3 (fun v s8 ⟨y,H8,I8,r8,hD8,hz8,q8⟩=>?_) never
    have q4:=yE _ s8 σ6 H8 (.ref s.heap.objs.size) [y] (.ref s.heap.objs.size) [v] (fun _ H9=>∃ m',m' < n/\W (i+1) m' (acc ++ [y]) H9) I8 rfl (.cons r8 .nil) ⟨_,_,_,rfl,rfl,hD8,hz8,q8⟩
    rw [eP,ew,eA] at q4
    exact aZ8 q4 (fun _ s9 ⟨_,H9,I9,_,q9⟩=>again I9 q9) never
 exact codeAny_compStart_list loop (T.self _ 0 _ _ _ st1 loop)
end
section
variable {X : Cx} {scope : Scope} {N : List Str} {fr : List (Option Nat)} {tg iter elt : Expr} {ifs : List Expr} {pos : Pos} {wi : TI} {g : TG} {tc : TT} {te : TE}
theorem a6.drop {pins:List (Addr × Obj)}{σ:St}{H H':Hp}{s s':Shared}{C:Addr}{h':Heap} (I0:a6 X pins σ H s) (hC:s.heap.objs.size<=C) {σ':St} (I:a6 X pins σ' H' s') (hn:H' C=none) (sb:Heap.SameBut C s'.heap h'):a6 X pins σ' H' { s' with heap:=h' }:=by
 refine I.turned (t':=s'.toks) (it:=C) (fun b o hb e=>(sb.2 b hb).trans e) hn (bb3 (aT0 I0.lt hC)) (.inr (aU8 I0.sz hC)) (fun x c e z=>?_) fun p hp z=>?_
 ·obtain ⟨v,q⟩:=I0.cell x c e
  exact absurd (aT0 q.lt (by rw [z]; exact hC)) (aZ0 _)
 ·exact absurd (aT0 (aS4 (I0.pin p hp).1) (by rw [z]; exact hC)) (aZ0 _)
variable {gh : Hp → TG} {tch : Hp → TT} {teh : Hp → TE}
def yY (wi:TI) (fr:List (Option Nat)) (gh:Hp->TG) (tch:Hp->TT) (teh:Hp->TE):TE:=fun σ H Q=>wi σ H fun J H1=>∀ D,H1 D=none->
 ∃ W:Nat->Nat->List V->Hp->Prop,(∃ m,W 0 m [] (upd H1 D (.lst [])))/\yX (gh H1) (tch H1) (teh H1) (fG fr σ) J D Q W
theorem t7 (hc:X.calm=true) (S:fH X scope N fr) (hi:PI X tg iter wi) (B:∀ (s:Shared) (H:Hp),oS X scope N tg ifs elt s H (gh H) (tch H) (teh H))
  (hs:∀ x,foldedSetIterable iter X.env x=pure x:=by intro _; rfl):PE X (.ListComp elt [⟨tg,iter,ifs,0⟩] scope pos) (yY wi fr gh tch teh):=by
 intro pins s σ H Q I h
 rw [eval_ListComp]
 refine wpAny_comprehension_free (use:=none) rfl hs (ak4 (S.cells I)) S.kind S.names (aM (hi pins s σ H _ I h) fun v s1 h1=>aM h1 fun itv s2 h2=>?_)
 obtain ⟨it,fp,tn,J,H2,e,I2,T,st2,f2,hW⟩:=h2
 subst e
 refine al2 (Rr:=fun acc C=>compPost (model X.prog X.w) X.A X.xe none (EP X pins σ Q) acc C) hc S (B _ _) I2 T st2 f2 hW ?_
 intro D C s' H' m hC hD I' hns hHC q
 exact⟨m,hns,fun h' sb=>⟨.ref D,H',I2.drop hC I' hHC sb,rfl,q⟩⟩
end
theorem bZ {H:Hp}{p:Addr} (h:H p=none) (o:HO):aC H (upd H p o):=fun b u q=>by rw [aZ (cU q h)]; exact q
end L2
namespace Srt
open PySem PySem.W PyProof.Rows
abbrev G (p:Array Nat) (i:Nat):Nat:=p.getD i 0
def PP (n:Nat) (p:Array Nat):Prop:=p.toList.Perm (List.range n)
structure yZ (c:Nat->Nat->Bool):Prop where
 asym:∀ {i j},c i j=true->c j i=false
 ntr:∀ {i j k},c i j=false->c j k=false->c i k=false
section
variable {c : Nat → Nat → Bool} (O : yZ c)
def Le (c:Nat->Nat->Bool) (i j:Nat):Prop:=c j i=false
include O
theorem le_refl (i:Nat):Le c i i:=by
 unfold Le
 cases h:c i i with
 | false=>rfl
 | true=>have:=O.asym h; rw [h] at this; exact this
theorem le_trans {i j k:Nat} (h1:Le c i j) (h2:Le c j k):Le c i k:=O.ntr h2 h1
end
end Srt
namespace L2
open PySem PySem.Spec PyProof.Rows
theorem mR:∀ {xs:List V}{us:List Value} (i:Nat),i < xs.length->aJ xs us->aQ (xs.getD i .non) (us.getD i Value.none)
 | _,_,_,h,.nil=>by simp at h
 | _,_,0,_,.cons r _=>by simpa using r
 | _,_,i+1,h,.cons _ t=>by
  have:=mR i (by simpa using h) t
  simpa using this
theorem oT {α:Type}:∀ l:List α,(l.zip l).map (·.2)=l
 | []=>rfl
 | a :: l=>by
  show a :: ((l.zip l).map (·.2))=a :: l
  rw [oT l]
theorem z0 {prog:Program}{w:World}{A:Around}{E:Value->Shared->Prop}{s:Shared}{a:Addr}{vs:List Value}{n:Nat}{P:PySem.Fin->Shared->Prop} (e:s.heap.get? a=some (seqObj "list" vs.toArray n)) (few:vs.length < 2)
  (q:P (.done (.ret .none)) { s with heap:=sortedHeap s.heap a vs vs.toArray }):wpAny (model prog w) A (Builtin.«list.sort» ⟨[.ref a],[]⟩) P E s:=by
 have big:vs.length<=sizeLine:=aU8 (bc6 few) (by decide)
 have la:=aS4 e
 have c:vs.toArray.size < 2:=by simpa using few
 have same:(arrOf (SortSt.mk' general' (vs.toArray.zip vs.toArray) #[] 7 none)).map (·.2)=vs.toArray:=by
  change (vs.toArray.zip vs.toArray).map (·.2)=vs.toArray
  apply Array.ext'
  simpa using oT vs
 obtain ⟨k,ek⟩:∃ k,(s.heap.update a (Obj.mapSeq fun _=>#[])).get? a=some (seqObj "list" #[] k):=⟨_,get?_update_seq e fun _=>#[]⟩
 have there:(((s.heap.update a (Obj.mapSeq fun _=>#[])).push (seqObj "tuple" vs.toArray 0)).push (seqObj "list" #[] 0)).get? a=some (seqObj "list" #[] k):=
  aQ9 _ (aQ9 _ ek)
 rw [list_sort_plain]
 apply aQ7
 apply listItems_at e rfl
 apply aQ7
 refine listUpdate_at e rfl ?_ (by simpa using big) (aZ6 _)
 apply aQ7
 apply seqEpoch_at ek rfl
 apply aQ7
 refine wpAny_newTuple ?_ big
 apply aQ7
 refine wpAny_newList ?_ (aZ6 _)
 apply aZ1
 simp only [c,if_true,StateT.run_pure]
 apply aQ7
 apply aR3
 apply aQ7
 apply aR3
 apply aQ7
 apply seqEpoch_at there rfl
 apply aQ7
 refine listUpdate_at there rfl ?_ (aZ6 _) (by rw [same,aR1]; exact Nat.le_succ_of_le big)
 rw [same]
 simp only [bne_self_eq_false,aT6,aY3]
 exact aR3 q
theorem z9 {prog:Program}{w:World}{A:Around}{E:Value->Shared->Prop}{s:Shared}{l:Addr}{vs:List Value}{Q:Value->Shared->Prop} (hl:s.heap.IsList l vs.toArray) (few:vs.length < 2)
  (q:Q (.ref (s.heap.objs.size+1)) { s with heap:=sortedAll s.heap vs vs.toArray }):wpAny (model prog w) A (call (.builtin "sorted") [.ref l]) Q E s:=by
 have big:vs.length<=sizeLine:=aU8 (bc6 few) (by decide)
 apply Calls.call_function_entry kind_sorted plain_sorted entry_sorted (args_sorted1 _)
 simp only [Builtin.«sorted»]
 apply aQ7 (m:=checkCount "sorted" 1 1 _)
 apply aR3
 apply aQ7
 refine collect_list hl ?_ big
 apply aQ7
 refine wpAny_newList ?_ big
 have one:((s.heap.push (seqObj "list" #[] 0)).update s.heap.objs.size (Obj.mapSeq (· ++ vs.toArray))).objs.size=s.heap.objs.size+1:=(Heap.size_update _ _ _).trans (size_push' _ _)
 have at1:(((s.heap.push (seqObj "list" #[] 0)).update s.heap.objs.size (Obj.mapSeq (· ++ vs.toArray))).push (seqObj "list" vs.toArray 0)).get? (s.heap.objs.size+1)=some (seqObj "list" vs.toArray 0):=one ▸ aS5 _ rfl
 change wpAny _ _ _ _ _ { s with heap:=((s.heap.push (seqObj "list" #[] 0)).update s.heap.objs.size (Obj.mapSeq (· ++ vs.toArray))).push (seqObj "list" vs.toArray 0) }
 rw [one]
 apply aQ7
 apply aZ1
 refine aW9 slot_list_sort ⟨_,at1,rfl⟩ entry_list_sort ?_ (args_list_sort _)
 refine z0 at1 few ⟨_,rfl,?_⟩
 exact aR3 ⟨_,rfl,q⟩
theorem kB:∀ {a b:List Int},HT.aI a b=true->HT.aI b a=false
 | [],[],h=>by cases h
 | [],_ :: _,_=>rfl
 | _ :: _,[],h=>by cases h
 | x :: xs,y :: ys,h=>by
  rw [HT.gB] at h ⊢
  by_cases e:x=y
  ·rw [if_pos e] at h; rw [if_pos e.symm]; exact kB h
  ·rw [if_neg e] at h; rw [if_neg (Ne.symm e)]
   have:=bf6 h
   exact aR2 (by omega)
theorem t8:∀ {a b c:List Int},HT.aI a b=false->HT.aI b c=false->HT.aI a c=false
 | [],[],c,_,h=>h
 | [],_ :: _,_,h,_=>by cases h
 | _ :: _,[],[],_,_=>rfl
 | _ :: _,[],_ :: _,_,h=>by cases h
 | _ :: _,_ :: _,[],_,_=>rfl
 | x :: xs,y :: ys,z :: zs,h1,h2=>by
  rw [HT.gB] at h1 h2 ⊢
  by_cases e1:x=y
  ·rw [if_pos e1] at h1
   by_cases e2:y=z
   ·rw [if_pos e2] at h2; rw [if_pos (e1.trans e2)]; exact t8 h1 h2
   ·rw [if_neg e2] at h2; rw [if_neg (by rw [e1]; exact e2)]; rw [e1]; exact h2
  ·rw [if_neg e1] at h1
   have k1:=be7 h1
   by_cases e2:y=z
   ·rw [<- e2,if_neg e1]; exact h1
   ·rw [if_neg e2] at h2
    have k2:=be7 h2
    rw [if_neg (by omega)]
    exact aR2 (by omega)
theorem oU:∀ {a b:List Int},HT.aI a b=false->HT.aI b a=false->a=b
 | [],[],_,_=>rfl
 | [],_ :: _,h,_=>by cases h
 | _ :: _,[],_,h=>by cases h
 | x :: xs,y :: ys,h1,h2=>by
  rw [HT.gB] at h1 h2
  by_cases e:x=y
  ·rw [if_pos e] at h1; rw [if_pos e.symm] at h2; rw [e,oU h1 h2]
  ·rw [if_neg e] at h1; rw [if_neg (Ne.symm e)] at h2
   have:=be7 h1
   have:=be7 h2
   omega
section
variable {prog : Program} {w : World} {A : Around} {s : Shared} {Q : Bool → Shared → Prop}
theorem t9:∀ {us ws:List Value}{xs ys:List Int} (i:Nat),IntsAre us xs->IntsAre ws ys->Q (HT.aI xs ys) s->PySem.W.KatLex prog w A true (decide (us.length < ws.length)) Q (us.zip ws) i s
 | _,_,_,_,_,.nil,.nil,h=>h
 | _,_,_,_,_,.nil,.cons _ _ _,h=>h
 | _,_,_,_,_,.cons _ _ _,.nil,h=>h
 | _,_,_,_,i,.cons (vs:=us) x t hx,.cons (vs:=ws) y u hy,h=>by
  refine PySem.W.kat_cons (wpAny_eqBool_int ?_)
  rw [HT.gB] at h
  by_cases e:x=y
  ·rw [if_pos e] at h
   have eb:(x == y)=true:=by simpa using e
   rw [eb]
   refine PySem.W.kat_yes ?_
   have e2:decide ((Value.int x t :: us).length < (Value.int y u :: ws).length)=decide (us.length < ws.length):=by simp
   rw [e2]
   exact t9 (i+1) hx hy h
  ·rw [if_neg e] at h
   have eb:(x == y)=false:=by simpa using e
   rw [eb]
   refine PySem.W.kat_no ?_
   cases hi:(true && i == 0) with
   | true=>exact PySem.W.kat_lt_int h
   | false=>exact PySem.W.kat_one _ _ (lt_int h)
end
end L2
namespace Raw
open PySem PySem.W PySem.Calls PyProof.Rows
def gD (h:Heap) (d:Addr) (es:Array DictEntry) (ep:Nat):Prop:=∃ o,h.get? d=some o/\o.ExactDict/\o.data = .dict es ep
theorem gD.ty {s:Shared}{d:Addr}{es:Array DictEntry}{ep:Nat} (x:gD s.heap d es ep):s.TypeIs (.ref d) "dict":=x.elim fun o y=>⟨o,y.1,y.2.1.1⟩
theorem gD.lt {h:Heap}{d:Addr}{es:Array DictEntry}{ep:Nat} (x:gD h d es ep):d < h.objs.size:=x.elim fun _ y=>aS4 y.1
theorem gD.keep {h h':Heap}{d:Addr}{es:Array DictEntry}{ep:Nat} (x:gD h d es ep) (k:∀ o,h.get? d=some o->h'.get? d=some o):gD h' d es ep:=x.elim fun o y=>⟨o,k o y.1,y.2⟩
section
variable {prog : Program} {w : World} {A : Around} {E : Value → Shared → Prop} {s : Shared} {d it : Addr} {es : Array DictEntry} {ep i : Nat}
theorem made (far:(d == sysModules)=false) (x:gD s.heap d es ep) {Q:Value->Shared->Prop}
  (q:Q (.ref s.heap.objs.size) { s with heap:=s.heap.push { cls:=.type "dict_keyiterator",data:=.fields #[.ref d,.int 0 0,.int es.size 0,.int ep 0] } }):wpAny (model prog w) A (pyIter (.ref d)) Q E s:=by
 have T:=x.ty
 obtain ⟨o,e1,e2,e3⟩:=x
 apply wpAny_pyIter_slot T PySem.F.slot_dict_iter
 apply aW9 PySem.F.slot_dict_iter T PySem.F.entry_dict_iter _ (PySem.F.args_dict_iter_1 _)
 simp only [Builtin.«dict.__iter__»,Builtin.Dict.dictSlotNone]
 apply aQ7
 apply aQ7
 apply wpAny_notOrdered_dict T
 apply aR3
 change wpAny _ _ (Builtin.Dict.showsAll d >>= _) _ _ s
 have far':Builtin.Dict.showsAll d=pure ():=by
  unfold Builtin.Dict.showsAll
  simp only [far,aT6,aY3]
 rw [far',pure_bind]
 apply aQ7
 apply wpAny_dictEntries e1 e3
 apply aQ7
 apply wpAny_dictEpoch e1 e3
 apply aQ7
 refine aV4 (aR3 ?_)
 refine⟨.ref s.heap.objs.size,rfl,"dict_keyiterator",_,⟨_,aS5 _ rfl,rfl⟩,PySem.F.slot_dict_keyiterator_next.lookup,?_⟩
 simpa only [rawInt] using q
theorem turn (hh:A.handled=none) (hi:s.heap.IsKeyIter it d i es.size ep) (x:gD s.heap d es ep) {Q:Option Value->Shared->Prop}
  (yes:∀ (lt:i < es.size) h',h'.IsKeyIter it d (i+1) es.size ep->Heap.SameBut it s.heap h'->Q (some es[i].key) { s with heap:=h' })
  (no:es.size<=i->∀ h',Heap.ExtBut it s.heap h'->Q none { s with heap:=h' }):wpAny (model prog w) A (pyNext (.ref it)) Q E s:=by
 have T:=hi.typeIs
 obtain ⟨oi,f1,f2,f3⟩:=hi
 obtain ⟨o,e1,e2,e3⟩:=x
 have slot:=PySem.F.slot_dict_keyiterator_next
 have plain:Builtin.Dict_items.ownsTuple "dict_keyiterator" = false:=by decide
 have isref:(Value.ref d == Value.none)=false:=rfl
 have nn : ¬ (i:Int) < 0:=by omega
 unfold pyNext
 apply aQ7
 apply wpAny_attempt
 apply aW7 (name:=Str.ofString "__next__") T slot
 apply aW9 slot T PySem.F.entry_dict_keyiterator_next _ (PySem.F.args_dict_keyiterator_next_1 _)
 apply aQ7
 apply aR3
 apply aQ7
 apply aQ7
 apply aQ7
 first
  | apply wpAny_typeNameOfWhole_keyiter T
  | apply wpAny_typeNameOf_keyiter T
 apply aR3
 apply aQ7
 apply wpAny_fieldsOf f1 f3
 simp only [plain,aT6,aY3]
 change wpAny _ _ (if (Value.ref d == Value.none)=true then _ else _) _ _ s
 have adr:Builtin.Dict_items.addrOf (Value.ref d)=pure d:=rfl
 simp only [isref,aT6,aY3,adr,pure_bind]
 apply aQ7
 apply wpAny_dictEntries e1 e3
 simp only [bne_self_eq_false,aT6,aY3]
 apply aQ7
 apply wpAny_dictEpoch e1 e3
 simp only [bne_self_eq_false,aT6,aY3]
 apply aR3
 simp only [nn,aY3,Int.toNat_natCast]
 by_cases lt:i < es.size
 ·simp only [Array.getElem?_eq_getElem lt]
  apply aQ7
  apply aQ7
  first
   | apply wpAny_typeNameOfWhole_keyiter T
   | apply wpAny_typeNameOf_keyiter T
  apply aR3
  apply aQ7
  apply wpAny_isOneOf_keyiter T
  change wpAny _ _ (setField (.ref it) 1 (rawInt ((i:Int)+1)) >>= _) _ _ s
  apply aQ7
  refine wpAny_setField f1 f3 (by simp) ?_
  have again:(s.heap.update it (Obj.mapFields (·.setIfInBounds 1 (rawInt ((i:Int)+1))))).IsKeyIter it d (i+1) es.size ep:=by
   refine⟨_,ba2 _ f1 (Obj.isFreed_of_fields (Obj.data_mapFields f3 _)),?_,?_⟩
   ·rw [Obj.cls_mapFields]; exact f2
   ·rw [Obj.data_mapFields f3]; simp [rawInt]
  apply aQ7
  apply aZ1
  apply aQ7
  refine wpAny_isOneOf_keyiter (s:={ s with heap:=s.heap.update it (Obj.mapFields (·.setIfInBounds 1 (rawInt ((i:Int)+1)))) }) again.typeIs ?_
  change wpAny _ _ (pure es[i].key) _ _ _
  apply aR3
  apply aR3
  exact⟨es[i].key,rfl,aR3 (yes lt _ again (bc9 ..))⟩
 ·have ge:es.size<=i:=Nat.le_of_not_lt lt
  simp only [Array.getElem?_eq_none ge]
  apply aQ7
  apply aQ7
  first
   | apply wpAny_typeNameOfWhole_keyiter T
   | apply wpAny_typeNameOf_keyiter T
  apply aR3
  change wpAny _ _ (setField (.ref it) 0 .none >>= _) _ _ s
  apply aQ7
  refine wpAny_setField f1 f3 (by simp) ?_
  apply aQ7
  simp only [newExc,newTuple]
  apply aQ7
  refine aV4 ?_ (by size_fits)
  apply aQ7
  refine wpAny_of_eq (a:=Value.none) (by first | rfl | (simp only [firstArgMember]; rfl)) ?_
  refine aV4 ?_ (by size_fits)
  unfold raiseNew
  apply aQ7
  apply wpAny_handled
  have quiet:A.in1.handled=none:=hh
  rw [quiet]
  refine wpAny_throw ?_
  apply aQ7
  refine wpAny_isInstance (T:="StopIteration") (b:=true) ⟨_,aS5 _ rfl,rfl⟩ isSubtype_stop ?_
  exact aR3 (no ge _ (((bc9 ..).extBut.push _).push _))
theorem al3 (hh:A.handled=none) (ne:d ≠ it):Walks prog w A it [it,d] [it] es.size (fun i v=>∃ lt:i < es.size,es[i].key=v) (fun i h=>h.IsKeyIter it d i es.size ep/\gD h d es ep) where
 sub:=by intro b hb; rw [aS1.mp hb]; exact aS3
 frame:=by
  intro i h h' st hk
  exact⟨st.1.at (hk it aS3),st.2.keep (hk d (aR7 _ aS3))⟩
 item:=by
  intro i s Q E lt st hQ
  refine turn hh st.1 st.2 (fun lt' h' again sb=>?_) fun ge=>absurd lt (Nat.not_lt.mpr ge)
  exact hQ _ h' s.toks ⟨lt',rfl⟩ ⟨again,st.2.keep fun o e=>sb.extBut d o ne e⟩ fun b o hb e=>sb.extBut b o (fun z=>hb (aS1.mpr z)) e
 done:=by
  intro s Q E st hQ
  refine turn hh st.1 st.2 (fun lt=>absurd lt (aZ0 _)) fun _ h' eb=>?_
  exact hQ h' s.toks fun b o hb e=>eb b o (fun z=>hb (aS1.mpr z)) e
 self:=by intro i s Q E st hQ; exact wpAny_pyIter_keyiter st.1 hQ
theorem al4 (far:(d == sysModules)=false):KdlSrc prog w "dict" d d es.size (fun i v=>∃ lt:i < es.size,es[i].key=v) (fun h=>gD h d es ep) where
 type:=fun _ x=>x.ty
 there:=fun _ x=>⟨x.lt,x.lt⟩
 keep:=fun _ _ x k=>x.keep (k d (.inl rfl))
 notList:=by decide
 notTuple:=by decide
 hint:=fun _ _ _ _ x q=>kdl_hint_dict x.ty q
 iter:=fun _ _ hh x=>⟨_,_,fun _ _ q=>made far x q,al3 hh (aU5 x.lt),⟨_,aS5 _ rfl,rfl,rfl⟩,x.keep fun o e=>aQ9 _ e⟩
end
end Raw
namespace L2
open PySem PySem.Spec PyProof.Rows
section
variable {X : Cx} {pins : List (Addr × Obj)} {σ : St} {H : Hp} {s : Shared} {a : Addr}
def jL (H:Hp) (y:V) (k:List aH):Prop:=∃ q,y = .ref q/\H q=some (.tup (k.map kV))
theorem al5 {kvs:List (List aH × V)} (I:a6 X pins σ H s) (h:H a=some (.dT kvs)):∃ es ep ys,Raw.gD s.heap a es ep/\(a == sysModules)=false/\Paired (jL H) ys (kvs.map (·.1))/\aJ ys (es.toList.map (·.key))/\kvs.length<=sizeLine:=by
 obtain ⟨z,far,xs,rel,o,es,ep,e1,e2,e3,e4,nd⟩:=(show bT X.prog X.w H s.heap a (.dT kvs) from I.hok a _ h)
 refine⟨es,ep,xs.map fun q=>V.ref q.2.1,⟨o,e1,e2,e3⟩,far,?_,?_,z⟩
 ·clear e4 nd h z
  induction rel with
  | nil=>exact .nil
  | cons r rs ih=>exact .cons ⟨_,rfl,r.2.1⟩ ih
 ·rw [e4]
  clear rel e4 nd
  induction xs with
  | nil=>exact .nil
  | cons q qs ih=>exact .cons rfl ih
theorem zA {es:Array DictEntry}{acc:Array Value} (h:ItemsOf (fun i v=>∃ lt:i < es.size,es[i].key=v) acc es.size):acc.toList=es.toList.map (·.key):=by
 apply List.ext_getElem?
 intro j
 have h1:=h.1
 by_cases hj:j < es.size
 ·have hj':j < acc.size:=by rw [h1]; exact hj
  obtain ⟨_,e⟩:=h.2 j acc[j] (by simp [hj'])
  rw [aS8]
  simp [hj,hj',e]
 ·have hj' : ¬ j < acc.size:=by rw [h1]; exact hj
  rw [aS8]
  simp [Nat.le_of_not_lt hj,Nat.le_of_not_lt hj']
end
section
variable {X : Cx}
theorem al6:cN X (.builtin "isinstance") (fun xs H Q=>∃ x t n b,xs = [x,.ty n]/\eM X.K H x t/\PySem.W.kitOne X.K t (.type n)=some b/\Q (.bl b) H):=by
 intro pins s σ H xs us Q I r h
 obtain ⟨x,t,n,b,rfl,ty,e,q⟩:=h
 obtain ⟨u,u',rfl,ru,ru'⟩:=k6 r
 cases ru'
 exact ae0 I ru ty e fun tk=>⟨.bl b,H,I.tok tk,rfl,q⟩
end
def zB (outer:List (Str × NameKind)) (XN:List Str) (names:List (Str × NameKind)) (N:List Str) (fr:List (Option Nat)):Bool:=
 names.all (fun y=>!(y.2 == .cell) || names.lookup y.1 == some .cell) && names.all (fun y=>!(y.2 == .local) || names.lookup y.1 == some .local) &&
 names.all (fun y=>!(y.2 == .free) || (outer.lookup y.1 == some .cell || outer.lookup y.1 == some .free)) && fr.length == N.length &&
 (fr.zip N).all (fun p=>match p.1 with
  | none=>true
  | some j=>XN[j]? == some p.2 && names.lookup p.2 == some .free)
theorem fH.of {X:Cx}{scope:Scope}{N:List Str}{fr:List (Option Nat)} (hk:scope.kind = .function) (h:zB X.env.scope.names X.N scope.names N fr=true):fH X scope N fr:=by
 unfold zB at h
 simp only [aZ2] at h
 obtain ⟨⟨⟨⟨h1,h2⟩,h3⟩,h4⟩,h5⟩:=h
 refine⟨hk,fun y hy e=>?_,fun y hy e=>?_,fun y hy e=>?_,by simpa using h4,fun i j e=>?_⟩
 ·have:=bc3.mp h1 y hy
  rw [e] at this; simpa using this
 ·have:=bc3.mp h2 y hy
  rw [e] at this; simpa using this
 ·have:=bc3.mp h3 y hy
  rw [e] at this; simpa using this
 ·have hl:fr.length=N.length:=by simpa using h4
  have hi:i < fr.length:=(aS2.mp e).1
  have m:(some j,N[i]'(by omega)) ∈ fr.zip N:=by
   have:(fr.zip N)[i]? = some (some j,N[i]'(by omega)):=by
    rw [List.getElem?_zip_eq_some]
    exact⟨e,by simp⟩
   exact ba8 this
  have:=bc3.mp h5 _ m
  simp only [aZ2,beq_iff_eq] at this
  exact⟨N[i]'(by omega),by simp,this.1,this.2⟩
def tD (ls:List (Int × Int)) (k:Int):List Int:=ls.flatMap fun l=>(if l.1=k then [l.2] else []) ++ (if l.2=k then [l.1] else [])
theorem al7 {α:Type}{xs:List α}{i:Int}{v:α} (h0:0<=i) (h:xs[i.toNat]? = some v):atI xs i=some v:=by
 have:=oM h
 rwa [show ((i.toNat:Nat):Int)=i by omega] at this
theorem oV {n:Nat} (h:n<=16000000):n < sizeLine:=by rw [sizeLine_eq]; omega
theorem tE {K:PySem.W.Frag}{H:Hp}{p:Addr}{xs:List V} (h:aP K H p xs):mL K "list" (.ref p) H:=.inl ⟨rfl,xs,h⟩
end L2
namespace Zp
open PySem PyProof.Rows
section
variable {prog : Program} {w : World} {A : Around} {E : Value → Shared → Prop} {s : Shared}
theorem zC {it t:Addr}{i:Nat}{items:Array Value}{x:Value}{Q:Value->Shared->Prop} (hi:s.heap.IsTupleIter it t i) (ht:s.heap.IsTuple t items) (hx:items[i]? = some x)
  (q:∀ h',h'.IsTupleIter it t (i+1)->Heap.SameBut it s.heap h'->Q x { s with heap:=h' }):wpAny (model prog w) A (Builtin.SmallTypes.nextOf (.ref it)) Q E s:=by
 have T:=hi.typeIs
 obtain ⟨o,e1,e2,e3⟩:=hi
 obtain ⟨u,f1,_,k,f3⟩:=ht
 have slot:=PySem.F.slot_tuple_iterator_next
 have isref:(Value.ref t == Value.none)=false:=rfl
 unfold Builtin.SmallTypes.nextOf
 apply aQ7
 apply aW7 (name:=Str.ofString "__next__") T slot
 apply aW9 slot T PySem.F.entry_tuple_iterator_next _ (PySem.F.args_tuple_iterator_next_1 _)
 change wpAny _ _ (field (.ref it) 0 >>= _) _ _ s
 apply aQ7
 refine aW6 e1 e3 (x:=.ref t) rfl ?_
 change wpAny _ _ (if (Value.ref t == Value.none)=true then _ else _) _ _ s
 simp only [isref,aT6,aY3]
 change wpAny _ _ (field (.ref it) 1 >>= _) _ _ s
 apply aQ7
 refine aW6 e1 e3 (x:=.int i 0) rfl ?_
 change wpAny _ _ (seqItems? (.ref t) >>= _) _ _ s
 apply aQ7
 apply aY2 f1 f3
 simp only [Int.toNat_natCast,hx]
 apply aQ7
 refine wpAny_setField e1 e3 (by simp) ?_
 apply aR3
 refine⟨x,rfl,aR3 (q _ ⟨_,ba2 _ e1 (Obj.isFreed_of_fields (Obj.data_mapFields e3 _)),?_,?_⟩ (bc9 ..))⟩
 ·rw [Obj.cls_mapFields]; exact e2
 ·rw [Obj.data_mapFields e3]; simp [rawInt]
theorem zD {it t:Addr}{i:Nat}{items:Array Value}{Q:Value->Shared->Prop} (hh:A.handled=none) (hi:s.heap.IsTupleIter it t i) (ht:s.heap.IsTuple t items) (hx:items[i]? = none)
  (q:∀ h' e,Heap.ExtBut it s.heap h'->(∃ o,h'.get? e=some o/\o.cls = .type "StopIteration")->E (.ref e) { s with heap:=h' }):wpAny (model prog w) A (Builtin.SmallTypes.nextOf (.ref it)) Q E s:=by
 have T:=hi.typeIs
 obtain ⟨o,e1,e2,e3⟩:=hi
 obtain ⟨u,f1,_,k,f3⟩:=ht
 have slot:=PySem.F.slot_tuple_iterator_next
 have isref:(Value.ref t == Value.none)=false:=rfl
 unfold Builtin.SmallTypes.nextOf
 apply aQ7
 apply aW7 (name:=Str.ofString "__next__") T slot
 apply aW9 slot T PySem.F.entry_tuple_iterator_next _ (PySem.F.args_tuple_iterator_next_1 _)
 change wpAny _ _ (field (.ref it) 0 >>= _) _ _ s
 apply aQ7
 refine aW6 e1 e3 (x:=.ref t) rfl ?_
 change wpAny _ _ (if (Value.ref t == Value.none)=true then _ else _) _ _ s
 simp only [isref,aT6,aY3]
 change wpAny _ _ (field (.ref it) 1 >>= _) _ _ s
 apply aQ7
 refine aW6 e1 e3 (x:=.int i 0) rfl ?_
 change wpAny _ _ (seqItems? (.ref t) >>= _) _ _ s
 apply aQ7
 apply aY2 f1 f3
 simp only [Int.toNat_natCast,hx]
 apply aQ7
 apply be1
 apply aQ7
 refine wpAny_setField e1 e3 (by simp) ?_
 apply aQ7
 simp only [newExc,newTuple]
 apply aQ7
 refine aV4 ?_ (by size_fits)
 apply aQ7
 refine wpAny_of_eq (a:=Value.none) (by first | rfl | (simp only [firstArgMember]; rfl)) ?_
 refine aV4 ?_ (by size_fits)
 unfold raiseNew
 apply aQ7
 apply wpAny_handled
 have quiet:A.in1.handled=none:=hh
 rw [quiet]
 refine wpAny_throw ?_
 exact q _ _ (((bc9 ..).extBut.push _).push _) ⟨_,aS5 _ rfl,rfl⟩
theorem al8 (hh:A.handled=none) (it t:Addr) (ne:t ≠ it) (items:Array Value):Draws prog w A it [it,t] items.size (fun i v=>items[i]? = some v) (fun i h=>h.IsTupleIter it t i/\h.IsTuple t items) where
 live:=fun _ _ st=>st.1.elim fun o y=>⟨o,y.1⟩
 frame:=fun _ _ _ st k=>⟨st.1.at fun o e=>k it aS3 o e,st.2.elim fun o y=>⟨o,k t (aR7 _ aS3) o y.1,y.2⟩⟩
 item:=fun i s Q E lt st q=>zC st.1 st.2 (Array.getElem?_eq_getElem lt) fun h' again sb=>q _ h' s.toks (Array.getElem?_eq_getElem lt) ⟨again,st.2.elim fun o y=>⟨o,sb.extBut t o ne y.1,y.2⟩⟩ sb
 done:=fun s Q E st q=>zD hh st.1 st.2 (Array.getElem?_eq_none (aR8 _)) q
end
structure Ap (z TI TO i1 i2:Addr) (fp1 fp2:List Addr):Prop where
 TIz:TI ≠ z
 TOz:TO ≠ z
 TITO:TI ≠ TO
 z1:z ∉ fp1
 z2:z ∉ fp2
 o1:TO ∉ fp1
 o2:TO ∉ fp2
 t1:TI ∉ fp1
 t2:TI ∉ fp2
 m1:i1 ∈ fp1
 m2:i2 ∈ fp2
 n1:i1 ∉ fp2
 n2:i2 ∉ fp1
structure tF (z TI TO i1 i2:Addr) (St1 St2:Nat->Heap->Prop) (f0:Value) (i j:Nat) (h:Heap):Prop where
 zz:IsZip h z TI TO f0
 ti:IsPair h TI (.ref i1) (.ref i2)
 to_:∃ a b,IsPair h TO a b
 s1:St1 i h
 s2:St2 j h
section
variable {prog : Program} {w : World} {A : Around} {E : Value → Shared → Prop} {s : Shared} {z TI TO i1 i2 : Addr} {fp1 fp2 : List Addr} {n1 n2 : Nat} {P1 P2 : Nat → Value → Prop} {St1 St2 : Nat → Heap → Prop}
theorem l8 (ap:Ap z TI TO i1 i2 fp1 fp2) {b:Addr} (h:b ∉ fp1):b ≠ i1:=fun e=>h (e ▸ ap.m1)
theorem oW (ap:Ap z TI TO i1 i2 fp1 fp2) {b:Addr} (h:b ∉ fp2):b ≠ i2:=fun e=>h (e ▸ ap.m2)
theorem item (D1:Draws prog w A.in1 i1 fp1 n1 P1 St1) (D2:Draws prog w A.in1 i2 fp2 n2 P2 St2) (ap:Ap z TI TO i1 i2 fp1 fp2) {i:Nat} (l1:i < n1) (l2:i < n2) (st:tF z TI TO i1 i2 St1 St2 .none i i s.heap) {Q:Option Value->Shared->Prop}
  (q:∀ x y h' tk,P1 i x->P2 i y->tF z TI TO i1 i2 St1 St2 (rawInt s.heap.objs.size) (i+1) (i+1) h'->IsPair h' s.heap.objs.size x y->(∀ c o,c ≠ z->c ≠ TO->c ≠ i1->c ≠ i2->s.heap.get? c=some o->h'.get? c=some o)->
   h'.objs.size=s.heap.objs.size+1->Q (some (.ref s.heap.objs.size)) { s with heap:=h',toks:=tk }):wpAny (model prog w) A (pyNext (.ref z)) Q E s:=by
 obtain ⟨hz,hti,⟨a,b,hto⟩,h1,h2⟩:=st
 have T:s.TypeIs (.ref z) "zip":=⟨_,hz,rfl⟩
 have slot:=PySem.F.slot_zip_next
 unfold pyNext
 apply aQ7
 apply wpAny_attempt
 apply aW7 (name:=Str.ofString "__next__") T slot
 apply aW9 slot T PySem.F.entry_zip_next _ (PySem.F.args_zip_next_1 _)
 change wpAny _ _ (field (.ref z) 2 >>= _) _ _ _
 apply aQ7
 refine aW6 hz rfl (x:=.bool false) rfl ?_
 change wpAny _ _ (field (.ref z) 3 >>= _) _ _ _
 apply aQ7
 refine aW6 hz rfl (x:=.ref TI) rfl ?_
 apply aQ7
 apply aY2 hti rfl
 change wpAny _ _ (Builtin.SmallTypes.ownedTupleIsFree (.ref z) >>= _) _ _ _
 apply aQ7
 unfold Builtin.SmallTypes.ownedTupleIsFree
 apply aQ7
 refine aW6 hz rfl (x:=.none) rfl (aR3 ?_)
 simp only [if_true]
 apply aQ7
 apply be1
 apply aQ7
 refine aW6 hz rfl (x:=.ref TO) rfl ?_
 apply aQ7
 refine aX3 hz (by simp) fun g1 hz1 sb1=>?_
 have k1:∀ c o,c ≠ z->s.heap.get? c=some o->g1.get? c=some o:=fun c o c1 e=>sb1.extBut c o c1 e
 apply aQ7
 simp only [List.zipIdx_cons,List.zipIdx_nil,List.forIn_cons,List.forIn_nil]
 apply aQ7
 apply aQ7
 apply wpAny_onRaise
 change wpAny _ _ (Builtin.SmallTypes.nextOf (.ref i1) >>= _) _ _ _
 apply aQ7
 refine D1.item i { s with heap:=g1 } _ _ l1 (D1.frame _ _ _ h1 fun c hc o e=>k1 c o (fun y=>ap.z1 (y ▸ hc)) e) fun x g2 tk2 px st1 sb2=>aR3 ?_
 have k2:∀ c o,c ≠ z->c ≠ i1->s.heap.get? c=some o->g2.get? c=some o:=fun c o c1 c2 e=>sb2.extBut c o c2 (k1 c o c1 e)
 have to2:IsPair g2 TO a b:=k2 _ _ ap.TOz (l8 ap ap.o1) hto
 apply aQ7
 apply aY2 to2 rfl
 apply aQ7
 refine wpAny_updateSeq_pair to2 fun g3 to3 sb3=>?_
 have to3:IsPair g3 TO x b:=to3
 apply aQ7
 apply bd0
 apply aR3
 apply aQ7
 apply aQ7
 apply wpAny_onRaise
 change wpAny _ _ (Builtin.SmallTypes.nextOf (.ref i2) >>= _) _ _ _
 apply aQ7
 have k3:∀ c o,c ≠ z->c ≠ i1->c ≠ TO->s.heap.get? c=some o->g3.get? c=some o:=fun c o c1 c2 c3 e=>sb3.extBut c o c3 (k2 c o c1 c2 e)
 refine D2.item i { s with heap:=g3,toks:=tk2 } _ _ l2 (D2.frame _ _ _ h2 fun c hc o e=>k3 c o (fun y=>ap.z2 (y ▸ hc)) (fun y=>ap.n1 (y ▸ hc)) (fun y=>ap.o2 (y ▸ hc)) e) fun y g4 tk4 py st2 sb4=>aR3 ?_
 have to4:IsPair g4 TO x b:=sb4.extBut _ _ (oW ap ap.o2) to3
 apply aQ7
 apply aY2 to4 rfl
 apply aQ7
 refine wpAny_updateSeq_pair to4 fun g5 to5 sb5=>?_
 have to5:IsPair g5 TO x y:=to5
 apply aQ7
 apply bd0
 apply aR3
 apply aR3
 apply aQ7
 apply aY2 to5 rfl
 apply aQ7
 refine wpAny_newTuple ?_ (by show 2<=sizeLine; decide)
 have size:g5.objs.size=s.heap.objs.size:=by rw [sb5.1,sb4.1,sb3.1,sb2.1,sb1.1]
 have k5:∀ c o,c ≠ z->c ≠ TO->c ≠ i1->c ≠ i2->s.heap.get? c=some o->g5.get? c=some o:=fun c o c1 c2 c3 c4 e=>sb5.extBut c o c2 (sb4.extBut c o c4 (k3 c o c1 c3 c2 e))
 have z5:IsZip g5 z TI TO .ellipsis:=sb5.extBut _ _ (Ne.symm ap.TOz) (sb4.extBut _ _ (oW ap ap.z2) (sb3.extBut _ _ (Ne.symm ap.TOz) (sb2.extBut _ _ (l8 ap ap.z1) hz1)))
 change wpAny _ _ (Builtin.SmallTypes.ownedTupleHandOut (.ref z) (.ref g5.objs.size) >>= _) _ _ _
 apply aQ7
 unfold Builtin.SmallTypes.ownedTupleHandOut
 apply aQ7
 have z6:IsZip (g5.push { cls:=.type "tuple",data:=.seq #[x,y] }) z TI TO .ellipsis:=aQ9 _ z5
 refine aX3 z6 (by simp) fun g7 z7 sb7=>?_
 have z7:IsZip g7 z TI TO (rawInt g5.objs.size):=z7
 refine aX3 z7 (by simp) fun g8 z8 sb8=>?_
 have z8:IsZip g8 z TI TO (rawInt g5.objs.size):=z8
 have zlt:z < g5.objs.size:=aS4 z5
 have up:∀ c o,c ≠ z->g5.get? c=some o->g8.get? c=some o:=fun c o c1 e=>sb8.extBut c o c1 (sb7.extBut c o c1 (aQ9 _ e))
 have p8:IsPair g8 g5.objs.size x y:=sb8.extBut _ _ (bb3 zlt) (sb7.extBut _ _ (bb3 zlt) (aS5 _ rfl))
 have s8:g8.objs.size=g5.objs.size+1:=by rw [sb8.1,sb7.1,aY1]
 have f1:St1 (i+1) g8:=D1.frame _ _ _ st1 fun c hc o e=>up c o (fun y=>ap.z1 (y ▸ hc)) (sb5.extBut c o (fun y=>ap.o1 (y ▸ hc)) (sb4.extBut c o (fun y=>ap.n2 (y ▸ hc)) (sb3.extBut c o (fun y=>ap.o1 (y ▸ hc)) e)))
 have f2:St2 (i+1) g8:=D2.frame _ _ _ st2 fun c hc o e=>up c o (fun y=>ap.z2 (y ▸ hc)) (sb5.extBut c o (fun y=>ap.o2 (y ▸ hc)) e)
 have ti8:IsPair g8 TI (.ref i1) (.ref i2):=up _ _ ap.TIz (k5 _ _ ap.TIz ap.TITO (l8 ap ap.t1) (oW ap ap.t2) hti)
 rw [size] at z8 p8 s8
 apply aR3
 refine⟨_,rfl,aR3 ?_⟩
 change Q (some (.ref g5.objs.size)) _
 rw [size]
 exact q x y g8 tk4 px py ⟨z8,ti8,⟨x,y,up _ _ ap.TOz to5⟩,f1,f2⟩ p8 (fun c o c1 c2 c3 c4 e=>up c o c1 (k5 c o c1 c2 c3 c4 e)) s8
theorem fin (D1:Draws prog w A.in1 i1 fp1 n1 P1 St1) (D2:Draws prog w A.in1 i2 fp2 n2 P2 St2) (ap:Ap z TI TO i1 i2 fp1 fp2) {i:Nat} (le:i=n1 ∨ (i < n1/\i=n2)) (st:tF z TI TO i1 i2 St1 St2 .none i i s.heap) {Q:Option Value->Shared->Prop}
  (q:∀ h' tk,(∀ c o,c ≠ z->c ≠ TO->c ≠ i1->c ≠ i2->s.heap.get? c=some o->h'.get? c=some o)->Q none { s with heap:=h',toks:=tk }):wpAny (model prog w) A (pyNext (.ref z)) Q E s:=by
 obtain ⟨hz,hti,⟨a,b,hto⟩,h1,h2⟩:=st
 have T:s.TypeIs (.ref z) "zip":=⟨_,hz,rfl⟩
 have slot:=PySem.F.slot_zip_next
 unfold pyNext
 apply aQ7
 apply wpAny_attempt
 apply aW7 (name:=Str.ofString "__next__") T slot
 apply aW9 slot T PySem.F.entry_zip_next _ (PySem.F.args_zip_next_1 _)
 change wpAny _ _ (field (.ref z) 2 >>= _) _ _ _
 apply aQ7
 refine aW6 hz rfl (x:=.bool false) rfl ?_
 change wpAny _ _ (field (.ref z) 3 >>= _) _ _ _
 apply aQ7
 refine aW6 hz rfl (x:=.ref TI) rfl ?_
 apply aQ7
 apply aY2 hti rfl
 change wpAny _ _ (Builtin.SmallTypes.ownedTupleIsFree (.ref z) >>= _) _ _ _
 apply aQ7
 unfold Builtin.SmallTypes.ownedTupleIsFree
 apply aQ7
 refine aW6 hz rfl (x:=.none) rfl (aR3 ?_)
 simp only [if_true]
 apply aQ7
 apply be1
 apply aQ7
 refine aW6 hz rfl (x:=.ref TO) rfl ?_
 apply aQ7
 refine aX3 hz (by simp) fun g1 hz1 sb1=>?_
 have k1:∀ c o,c ≠ z->s.heap.get? c=some o->g1.get? c=some o:=fun c o c1 e=>sb1.extBut c o c1 e
 apply aQ7
 simp only [List.zipIdx_cons,List.zipIdx_nil,List.forIn_cons,List.forIn_nil]
 apply aQ7
 apply aQ7
 apply wpAny_onRaise
 change wpAny _ _ (Builtin.SmallTypes.nextOf (.ref i1) >>= _) _ _ _
 apply aQ7
 have z1:IsZip g1 z TI TO .ellipsis:=hz1
 rcases le with rfl | ⟨lt,rfl⟩
 ·refine D1.done { s with heap:=g1 } _ _ (D1.frame _ _ _ h1 fun c hc o e=>k1 c o (fun y=>ap.z1 (y ▸ hc)) e) fun g2 e eb ex=>?_
  have z2:IsZip g2 z TI TO .ellipsis:=eb _ _ (l8 ap ap.z1) z1
  refine aX3 z2 (by simp) fun g3 z3 sb3=>?_
  obtain ⟨oe,eo,co⟩:=ex
  have ne:e ≠ z:=fun y=>by
   rw [y,z2] at eo
   have:=aT5 eo
   rw [<- this] at co; exact absurd (show Value.type "zip" = Value.type "StopIteration" from co) (by decide)
  apply aQ7
  refine wpAny_isInstance (T:="StopIteration") (b:=true) ⟨oe,sb3.extBut _ _ ne eo,co⟩ isSubtype_stop ?_
  exact aR3 (q g3 s.toks fun c o c1 _ c3 _ e=>sb3.extBut c o c1 (eb c o c3 (k1 c o c1 e)))
 ·refine D1.item i { s with heap:=g1 } _ _ lt (D1.frame _ _ _ h1 fun c hc o e=>k1 c o (fun y=>ap.z1 (y ▸ hc)) e) fun x g2 tk2 px st1 sb2=>aR3 ?_
  have k2:∀ c o,c ≠ z->c ≠ i1->s.heap.get? c=some o->g2.get? c=some o:=fun c o c1 c2 e=>sb2.extBut c o c2 (k1 c o c1 e)
  have to2:IsPair g2 TO a b:=k2 _ _ ap.TOz (l8 ap ap.o1) hto
  apply aQ7
  apply aY2 to2 rfl
  apply aQ7
  refine wpAny_updateSeq_pair to2 fun g3 to3 sb3=>?_
  apply aQ7
  apply bd0
  apply aR3
  apply aQ7
  apply aQ7
  apply wpAny_onRaise
  change wpAny _ _ (Builtin.SmallTypes.nextOf (.ref i2) >>= _) _ _ _
  apply aQ7
  have k3:∀ c o,c ≠ z->c ≠ i1->c ≠ TO->s.heap.get? c=some o->g3.get? c=some o:=fun c o c1 c2 c3 e=>sb3.extBut c o c3 (k2 c o c1 c2 e)
  refine D2.done { s with heap:=g3,toks:=tk2 } _ _ (D2.frame _ _ _ h2 fun c hc o e=>k3 c o (fun y=>ap.z2 (y ▸ hc)) (fun y=>ap.n1 (y ▸ hc)) (fun y=>ap.o2 (y ▸ hc)) e) fun g4 e eb ex=>?_
  have z4:IsZip g4 z TI TO .ellipsis:=eb _ _ (oW ap ap.z2) (sb3.extBut _ _ (Ne.symm ap.TOz) (sb2.extBut _ _ (l8 ap ap.z1) z1))
  refine aX3 z4 (by simp) fun g5 z5 sb5=>?_
  obtain ⟨oe,eo,co⟩:=ex
  have ne:e ≠ z:=fun y=>by
   rw [y,z4] at eo
   have:=aT5 eo
   rw [<- this] at co; exact absurd (show Value.type "zip" = Value.type "StopIteration" from co) (by decide)
  apply aQ7
  refine wpAny_isInstance (T:="StopIteration") (b:=true) ⟨oe,sb5.extBut _ _ ne eo,co⟩ isSubtype_stop ?_
  exact aR3 (q g5 tk2 fun c o c1 c2 c3 c4 e=>sb5.extBut c o c1 (eb c o c4 (k3 c o c1 c3 c2 e)))
end
def fJ (h:Heap) (t u:Addr):Heap:=
 ((((h.push { cls:=.type "tuple_iterator",data:=.fields #[.ref t,.int 0 0] }).push { cls:=.type "tuple_iterator",data:=.fields #[.ref u,.int 0 0] }).push { cls:=.type "tuple",data:=.seq #[.ref h.objs.size,.ref (h.objs.size+1)] }).push
  { cls:=.type "tuple",data:=.seq #[.none,.none] }).push { cls:=.type "zip",data:=.fields #[.none,.bool false,.bool false,.ref (h.objs.size+2),.ref (h.objs.size+3)] }
theorem al9 (t u:Addr) (xs ys:Array Value):Meets (Builtin.«zip.__new__» ⟨[.type "zip",.ref t,.ref u],[]⟩) (fun _ R s=>s.heap.IsTuple t xs/\s.heap.IsTuple u ys/\R (.ok (.ret (.ref (s.heap.objs.size+4)))) { s with heap:=fJ s.heap t u }):=
 .of_wp fun prog w A R s h=>by
  obtain ⟨hp,g,d,tk,os⟩:=s
  obtain ⟨ht,hu,h⟩:=h
  have sub:=sub_zip
  have a1:Heap.IsTuple (Shared.heap ⟨hp,g,d,tk,os⟩) t xs:=ht
  have a2:Heap.IsTuple (Shared.heap ⟨hp.push { cls:=.type "tuple_iterator",data:=.fields #[.ref t,.int 0 0] },g,d,tk,os⟩) u ys:=hu.elim fun o y=>⟨o,aQ9 _ y.1,y.2⟩
  wp_walk using bd4 a1,bd4 a2
  have e:∀ (o:Obj) (k:Heap),(k.push o).objs.size=k.objs.size+1:=fun o k=>aY1 ..
  refine⟨_,rfl,?_⟩
  simp only [fJ,e] at h ⊢
  exact h
section
variable {prog : Program} {w : World} {A : Around} {E : Value → Shared → Prop} {s : Shared}
theorem am0 {t u:Addr}{xs ys:Array Value}{Q:Value->Shared->Prop} (ht:s.heap.IsTuple t xs) (hu:s.heap.IsTuple u ys)
  (q:∀ h',IsZip h' (s.heap.objs.size+4) (s.heap.objs.size+2) (s.heap.objs.size+3) .none->IsPair h' (s.heap.objs.size+2) (.ref s.heap.objs.size) (.ref (s.heap.objs.size+1))->
   IsPair h' (s.heap.objs.size+3) .none .none->h'.IsTupleIter s.heap.objs.size t 0->h'.IsTupleIter (s.heap.objs.size+1) u 0->(∀ c o,s.heap.get? c=some o->h'.get? c=some o)->Q (.ref (s.heap.objs.size+4)) { s with heap:=h' }) :
  wpAny (model prog w) A (call (.type "zip") [.ref t,.ref u]) Q E s:=by
 refine callType_new PySem.F.called_zip (by decide) (PySem.F.typeCall_zip_2 _ _) (PySem.F.newCall_zip_2 _ _) (fun obj=>PySem.F.args_object_init_3 obj _ _) PySem.F.entry_zip_new (al9 t u xs ys) ⟨ht,hu,?_⟩
 have e:∀ (o:Obj) (k:Heap),(k.push o).objs.size=k.objs.size+1:=fun o k=>aY1 ..
 have p0:∀ (k:Heap) (o:Obj) (m:Nat),o.isFreed=false->m=k.objs.size->(k.push o).get? m=some o:=fun k o m f z=>by rw [z]; exact aS5 _ f
 have g0:(fJ s.heap t u).get? s.heap.objs.size=some { cls:=.type "tuple_iterator",data:=.fields #[.ref t,.int 0 0] }:=by
  unfold fJ
  exact aQ9 _ (aQ9 _ (aQ9 _ (aQ9 _ (p0 _ _ _ rfl rfl))))
 have g1:(fJ s.heap t u).get? (s.heap.objs.size+1)=some { cls:=.type "tuple_iterator",data:=.fields #[.ref u,.int 0 0] }:=by
  unfold fJ
  exact aQ9 _ (aQ9 _ (aQ9 _ (p0 _ _ _ rfl (by simp only [e]))))
 have g2:(fJ s.heap t u).get? (s.heap.objs.size+2)=some { cls:=.type "tuple",data:=.seq #[.ref s.heap.objs.size,.ref (s.heap.objs.size+1)] }:=by
  unfold fJ
  exact aQ9 _ (aQ9 _ (p0 _ _ _ rfl (by simp only [e])))
 have g3:(fJ s.heap t u).get? (s.heap.objs.size+3)=some { cls:=.type "tuple",data:=.seq #[.none,.none] }:=by
  unfold fJ
  exact aQ9 _ (p0 _ _ _ rfl (by simp only [e]))
 have g4:(fJ s.heap t u).get? (s.heap.objs.size+4)=some { cls:=.type "zip",data:=.fields #[.none,.bool false,.bool false,.ref (s.heap.objs.size+2),.ref (s.heap.objs.size+3)] }:=by
  unfold fJ
  exact p0 _ _ _ rfl (by simp only [e])
 refine⟨⟨_,g4,rfl⟩,q _ g4 g2 g3 ⟨_,g0,rfl,rfl⟩ ⟨_,g1,rfl,rfl⟩ fun c o z=>?_⟩
 unfold fJ
 exact aQ9 _ (aQ9 _ (aQ9 _ (aQ9 _ (aQ9 _ z))))
end
end Zp
namespace L2
open PySem PySem.Spec PyProof.Rows
def tG (K:PySem.W.Frag) (a b:Addr):It:=
  ⟨fun i H=>∃ xs ys x y,aN K H a xs/\aN K H b ys/\xs[i]? = some x/\ys[i]? = some y,
   fun i H v H'=>∃ T x y,H T=none/\v = .ref T/\H'=upd H T (.tup [x,y])/\∀ xs ys,aN K H a xs->aN K H b ys->xs[i]? = some x/\ys[i]? = some y,
   fun i H=>∃ xs ys,aN K H a xs/\aN K H b ys/\(i=xs.length ∨ (i < xs.length/\i=ys.length))⟩
def Sq (t:Bool) (K:PySem.W.Frag) (H:Hp) (a:Addr) (xs:List V):Prop:=match t with
 | true=>aN K H a xs
 | false=>aP K H a xs
def fL (t:Bool) (h:Heap) (i a:Addr) (n:Nat):Prop:=match t with
 | true=>h.IsTupleIter i a n
 | false=>h.IsListIter i a n
def zE (t:Bool) (h:Heap) (a:Addr) (xs:Array Value):Prop:=match t with
 | true=>h.IsTuple a xs
 | false=>h.IsList a xs
theorem fL.at {h h':Heap}{i a:Addr}{n:Nat}:∀ {t:Bool},fL t h i a n->(∀ o,h.get? i=some o->h'.get? i=some o)->fL t h' i a n
 | true,x,k=>Heap.IsTupleIter.at x k
 | false,x,k=>Heap.IsListIter.at x k
theorem fL.ob {h:Heap}{i a:Addr}{n:Nat}:∀ {t:Bool},fL t h i a n->∃ o,h.get? i=some o/\∀ v,o.data ≠ .cell v
 | true,⟨o,f,_,d⟩=>⟨o,f,fun v q=>by rw [d] at q; cases q⟩
 | false,⟨o,f,_,d⟩=>⟨o,f,fun v q=>by rw [d] at q; cases q⟩
theorem fL.draws {prog:Program}{w:World}{A:Around}:∀ (t:Bool) (hh:A.handled=none) (it a:Addr) (ne:a ≠ it) (items:Array Value),Draws prog w A it [it,a] items.size (fun i v=>items[i]? = some v) (fun i h=>fL t h it a i/\zE t h a items)
 | true,hh,it,a,ne,items=>Zp.al8 hh it a ne items
 | false,hh,it,a,ne,items=>Draws.list hh it a ne items
section
variable {X : Cx} {pins : List (Addr × Obj)} {σ : St} {H : Hp} {s : Shared} {a : Addr} {xs ys : List V}
theorem Sq.get (I:a6 X pins σ H s):∀ {t:Bool},Sq t X.K H a xs->∃ us,aJ xs us/\zE t s.heap a us.toArray
 | true,h=>by obtain ⟨us,r,p,_⟩:=I.tuple h; exact⟨us,r,p⟩
 | false,h=>by obtain ⟨us,r,p,_⟩:=I.list h; exact⟨us,r,p.isList⟩
theorem Sq.inj (I:a6 X pins σ H s):∀ {t:Bool},Sq t X.K H a xs->Sq t X.K H a ys->xs=ys
 | true,h,g=>I.tuple_inj h g
 | false,h,g=>I.list_inj h g
theorem Sq.off (I:a6 X pins σ H s) (he:H a=none) (hb:X.base.get? a=none):∀ {t:Bool},Sq t X.K H a xs->False
 | true,h=>by
  rcases h with (h | ⟨_,h⟩) | ⟨o,_,_,h,_⟩
  ·rw [he] at h; cases h
  ·rw [he] at h; cases h
  ·have:=I.ok.mod.kin a o h
   rw [hb] at this; cases this
 | false,h=>by
  rcases h with (h | ⟨_,h⟩) | ⟨o,_,_,h,_⟩
  ·rw [he] at h; cases h
  ·rw [he] at h; cases h
  ·have:=I.ok.mod.kin a o h
   rw [hb] at this; cases this
end
def am1 (t1 t2:Bool) (K:PySem.W.Frag) (a b:Addr):It:=
  ⟨fun i H=>∃ xs ys x y,Sq t1 K H a xs/\Sq t2 K H b ys/\xs[i]? = some x/\ys[i]? = some y,
   fun i H v H'=>∃ T x y,H T=none/\v = .ref T/\H'=upd H T (.tup [x,y])/\∀ xs ys,Sq t1 K H a xs->Sq t2 K H b ys->xs[i]? = some x/\ys[i]? = some y,
   fun i H=>∃ xs ys,Sq t1 K H a xs/\Sq t2 K H b ys/\(i=xs.length ∨ (i < xs.length/\i=ys.length))⟩
structure tH (t1 t2:Bool) (z TI TO i1 i2 a b:Addr) (i:Nat) (h:Heap):Prop where
 zz:IsZip h z TI TO .none
 ti:IsPair h TI (.ref i1) (.ref i2)
 to_:∃ x y,IsPair h TO x y
 s1:fL t1 h i1 a i
 s2:fL t2 h i2 b i
theorem zF (t1 t2:Bool) {P:Program}{w:World}{K:PySem.W.Frag}{elts:List Expr}{k:Nat}{pos:Pos} (a b z TI TO i1 i2:Addr) (d : [z,TI,TO,i1,i2].Nodup) :
  i6 P w K (.Tuple elts k pos) (am1 t1 t2 K a b) [z,TI,TO,i1,i2] z (tH t1 t2 z TI TO i1 i2 a b):=by
 have nd:z ≠ TI/\z ≠ TO/\z ≠ i1/\z ≠ i2/\TI ≠ TO/\TI ≠ i1/\TI ≠ i2/\TO ≠ i1/\TO ≠ i2/\i1 ≠ i2:=by
  simp only [bd8,aR5,aS6,aV6,not_or] at d
  obtain ⟨⟨a1,a2,a3,a4⟩,⟨b1,b2,b3⟩,⟨c1,c2⟩,e1,_⟩:=d
  exact⟨a1,a2,a3,a4,b1,b2,b3,c1,c2,e1⟩
 obtain ⟨n1,n2,n3,n4,n5,n6,n7,n8,n9,n10⟩:=nd
 have offBase:∀ {X:Cx}{pins:List (Addr × Obj)}{σ:St}{H:Hp}{s:Shared},a6 X pins σ H s->(∀ c ∈ [z,TI,TO,i1,i2],fD X pins H c)->∀ c ∈ [z,TI,TO,i1,i2],X.base.get? c=none:=by
  intro X pins σ H s I hf c hc
  cases q:X.base.get? c with
  | none=>rfl
  | some o=>
   rcases (hf c hc).2.2.2.1 with h | h
   ·exact absurd h (I.ok.noex c o q)
   ·exact absurd (aT0 (aS4 q) (aU8 I.ok.bsz h)) (aZ0 _)
 have off:∀ {t:Bool}{X:Cx}{pins:List (Addr × Obj)}{σ:St}{H:Hp}{s:Shared}{c:Addr}{zs:List V},a6 X pins σ H s->(∀ c ∈ [z,TI,TO,i1,i2],fD X pins H c)->Sq t X.K H c zs->c ∉ [z,TI,TO,i1,i2]:=by
  intro t X pins σ H s c zs I hf hc hm
  exact Sq.off I (hf c hm).1 (offBase I hf c hm) hc
 have ap:∀ {c e:Addr},c ∉ [z,TI,TO,i1,i2]->e ∉ [z,TI,TO,i1,i2]->Zp.Ap z TI TO i1 i2 [i1,c] [i2,e]:=fun {c e} hc he=>by
  simp only [aR5,aS6,aV6,not_or] at hc he
  obtain ⟨c1,c2,c3,c4,c5⟩:=hc
  obtain ⟨e1,e2,e3,e4,e5⟩:=he
  have two:∀ {q u v:Addr},q ≠ u->q ≠ v->q ∉ [u,v]:=fun {q u v} h1 h2 hm=>by
   simp only [aR5,aS6,aV6] at hm
   exact hm.elim h1 h2
  exact⟨n1.symm,n2.symm,n5,two n3 (Ne.symm c1),two n4 (Ne.symm e1),two n8 (Ne.symm c3),two n9 (Ne.symm e3),two n6 (Ne.symm c2),two n7 (Ne.symm e2),aS3,aS3,two n10 (Ne.symm e4),two n10.symm (Ne.symm c5)⟩
 refine⟨by simp,fun i h st c hc=>?_,fun i h h' st kp=>?_,?_,?_,fun A i s Q E st q=>wpAny_pyIter_zip st.zz q⟩
 ·simp only [aR5,aS6,aV6] at hc
  obtain ⟨x,y,to⟩:=st.to_
  rcases hc with rfl | rfl | rfl | rfl | rfl
  ·exact⟨_,st.zz,fun v q=>by cases q⟩
  ·exact⟨_,st.ti,fun v q=>by cases q⟩
  ·exact⟨_,to,fun v q=>by cases q⟩
  ·exact st.s1.ob
  ·exact st.s2.ob
 ·obtain ⟨x,y,to⟩:=st.to_
  exact⟨kp z (by simp) _ st.zz,kp TI (by simp) _ st.ti,⟨x,y,kp TO (by simp) _ to⟩,st.s1.at fun o e=>kp i1 (by simp) o e,st.s2.at fun o e=>kp i2 (by simp) o e⟩
 ·
  intro X hP hw hK hc i pins s σ H E I hf st hg
  subst hP hw hK
  obtain ⟨xs,ys,x,y,ha,hb,hx,hy⟩:=hg
  obtain ⟨us,ru,pu⟩:=Sq.get I ha
  obtain ⟨vs,rv,pv'⟩:=Sq.get I hb
  obtain ⟨ux,eux,rux⟩:=ru.get hx
  obtain ⟨vy,evy,rvy⟩:=rv.get hy
  have fa:=off I hf ha
  have fb:=off I hf hb
  have hh:X.A.in1.handled=none:=I.ok.hd hc
  have l1:i < us.toArray.size:=by simpa using (aS2.mp eux).1
  have l2:i < vs.toArray.size:=by simpa using (aS2.mp evy).1
  have fa':a ≠ i1:=fun q=>fa (by rw [q]; simp)
  have fb':b ≠ i2:=fun q=>fb (by rw [q]; simp)
  have D1:=fL.draws t1 (prog:=X.prog) (w:=X.w) hh i1 a fa' us.toArray
  have D2:=fL.draws t2 (prog:=X.prog) (w:=X.w) hh i2 b fb' vs.toArray
  refine Zp.item D1 D2 (ap fa fb) l1 l2 ⟨st.zz,st.ti,st.to_,⟨st.s1,pu⟩,⟨st.s2,pv'⟩⟩ fun p q h' tk hp hq st' pr kp sz=>⟨_,rfl,?_⟩
  obtain rfl:p=ux:=by
   have:us.toArray[i]? = some ux:=by simpa using eux
   rw [this] at hp; exact (aT5 hp).symm
  obtain rfl:q=vy:=by
   have:vs.toArray[i]? = some vy:=by simpa using evy
   rw [this] at hq; exact (aT5 hq).symm
  refine wpAny_letOwnedTupleGo_zip (s:={ s with heap:=h',toks:=tk }) st'.zz fun g zz sb=>?_
  have hzl:z < s.heap.objs.size:=aS4 st.zz
  have up:∀ c o,c ≠ z->c ≠ TO->c ≠ i1->c ≠ i2->s.heap.get? c=some o->g.get? c=some o:=fun c o c1 c2 c3 c4 e=>sb.extBut c o c1 (kp c o c1 c2 c3 c4 e)
  have hT:H s.heap.objs.size=none:=I.hok.fresh (aR8 _)
  have prG:IsPair g s.heap.objs.size p q:=sb.extBut _ _ (bb3 hzl) pr
  have fpn:∀ c u,H c=some u->c ∉ [z,TI,TO,i1,i2]:=fun c u e hm=>by rw [(hf c hm).1] at e; cases e
  have upH:∀ c o u,H c=some u->s.heap.get? c=some o->g.get? c=some o:=fun c o u e z=>by
   have:=fpn c u e
   simp only [aR5,aS6,aV6,not_or] at this
   exact up c o this.1 this.2.2.1 this.2.2.2.1 this.2.2.2.2 z
  have ns:∀ m,s.heap.Ns X.env.locals m->g.Ns X.env.locals m:=fun m hm=>by
   obtain ⟨o,es,ep,e1,e2⟩:=hm
   exact⟨o,es,ep,up _ o (Ne.symm (hf z (by simp)).2.1) (Ne.symm (hf TO (by simp)).2.1) (Ne.symm (hf i1 (by simp)).2.1) (Ne.symm (hf i2 (by simp)).2.1) e1,e2⟩
  have I2:a6 X pins σ (upd H s.heap.objs.size (.tup [x,y])) { s with heap:=g,toks:=tk }:=by
   refine I.step (g':=s.gens) (d':=s.drawn) (ch:=[z,TO,i1,i2]) (fun c hc'=>?_) (fun c o _ _ hc' e _=>?_) (fun c o _ _ hc' e _=>⟨o.slots,?_⟩) (fun c o _ e n=>?_) (fun c o hc' e=>⟨o,?_⟩)
    (fun c zs e=>by rw [aZ (cU e hT)]; exact e) (fun c u zs e=>by rw [aZ (cU e hT)]; exact e) (fun c ps e=>⟨#[],by rw [aZ (cU e hT),e]; simp⟩) ns (fun c u e=>?_) I.bare
   ·have hm:c ∈ [z,TI,TO,i1,i2]:=by
     simp only [aR5,aS6,aV6] at hc' ⊢
     rcases hc' with h | h | h | h <;> simp [h]
    exact⟨(hf c hm).2.2.2.1,(hf c hm).2.1,(hf c hm).2.2.2.2.1,(hf c hm).2.2.2.2.2⟩
   ·simp only [aR5,aS6,aV6,not_or] at hc'
    exact up c o hc'.1 hc'.2.1 hc'.2.2.1 hc'.2.2.2 e
   ·simp only [aR5,aS6,aV6,not_or] at hc'
    exact up c o hc'.1 hc'.2.1 hc'.2.2.1 hc'.2.2.2 e
   ·rw [aZ (aU5 (aS4 e))]; exact n
   ·simp only [aR5,aS6,aV6,not_or] at hc'
    exact up c o hc'.1 hc'.2.1 hc'.2.2.1 hc'.2.2.2 e
   ·by_cases hcT:c=s.heap.objs.size
    ·subst hcT
     rw [cC] at e; cases e
     exact⟨by show 2<=sizeLine; decide,[p,q],.cons rux (.cons rvy .nil),⟨_,prG,rfl,_,rfl⟩,fun u e=>by rw [prG] at e; cases e; rfl⟩
    ·rw [aZ hcT] at e
     refine (I.hok c u e).stay (fun c' o' hc2 q'=>?_) (fun c' q'=>by rw [aZ (cU q' hT)]; exact q') fun c' zs q'=>by rw [aZ (cU q' hT)]; exact q'
     rcases hc2 with rfl | hc2
     ·exact upH _ _ _ e q'
     ·exact upH _ _ _ hc2 q'
  obtain ⟨x',y',to'⟩:=st'.to_
  refine⟨.ref s.heap.objs.size,_,I2,rfl,⟨_,x,y,hT,rfl,rfl,fun xs' ys' ha' hb'=>?_⟩,⟨zz,sb.extBut _ _ n1.symm st'.ti,⟨x',y',sb.extBut _ _ n2.symm to'⟩,st'.s1.1.at fun o e=>sb.extBut _ o n3.symm e,st'.s2.1.at fun o e=>sb.extBut _ o n4.symm e⟩,fun c hc'=>?_⟩
  ·rw [Sq.inj I ha' ha,Sq.inj I hb' hb]; exact⟨hx,hy⟩
  ·obtain ⟨o,e,_⟩:∃ o,s.heap.get? c=some o/\True:=by
    simp only [aR5,aS6,aV6] at hc'
    obtain ⟨x2,y2,to2⟩:=st.to_
    obtain ⟨o1,f1,_⟩:=st.s1.ob
    obtain ⟨o2,f2,_⟩:=st.s2.ob
    rcases hc' with rfl | rfl | rfl | rfl | rfl
    ·exact⟨_,st.zz,trivial⟩
    ·exact⟨_,st.ti,trivial⟩
    ·exact⟨_,to2,trivial⟩
    ·exact⟨_,f1,trivial⟩
    ·exact⟨_,f2,trivial⟩
   rw [aZ (aU5 (aS4 e))]; exact (hf c hc').1
 ·
  intro X hP hw hK hc i pins s σ H E I hf st hg
  subst hP hw hK
  obtain ⟨xs,ys,ha,hb,hi⟩:=hg
  obtain ⟨us,ru,pu⟩:=Sq.get I ha
  obtain ⟨vs,rv,pv'⟩:=Sq.get I hb
  have fa:=off I hf ha
  have fb:=off I hf hb
  have hh:X.A.in1.handled=none:=I.ok.hd hc
  have fa':a ≠ i1:=fun q=>fa (by rw [q]; simp)
  have fb':b ≠ i2:=fun q=>fb (by rw [q]; simp)
  have D1:=fL.draws t1 (prog:=X.prog) (w:=X.w) hh i1 a fa' us.toArray
  have D2:=fL.draws t2 (prog:=X.prog) (w:=X.w) hh i2 b fb' vs.toArray
  have e1:=ru.length
  have e2:=rv.length
  refine Zp.fin D1 D2 (ap fa fb) (by simp only [aR1]; omega) ⟨st.zz,st.ti,st.to_,⟨st.s1,pu⟩,⟨st.s2,pv'⟩⟩ fun g tk kp=>⟨rfl,?_⟩
  have fpn:∀ c u,H c=some u->c ∉ [z,TI,TO,i1,i2]:=fun c u e hm=>by rw [(hf c hm).1] at e; cases e
  have upH:∀ c o u,H c=some u->s.heap.get? c=some o->g.get? c=some o:=fun c o u e z=>by
   have:=fpn c u e
   simp only [aR5,aS6,aV6,not_or] at this
   exact kp c o this.1 this.2.2.1 this.2.2.2.1 this.2.2.2.2 z
  have ns:∀ m,s.heap.Ns X.env.locals m->g.Ns X.env.locals m:=fun m hm=>by
   obtain ⟨o,es,ep,e1,e2⟩:=hm
   exact⟨o,es,ep,kp _ o (Ne.symm (hf z (by simp)).2.1) (Ne.symm (hf TO (by simp)).2.1) (Ne.symm (hf i1 (by simp)).2.1) (Ne.symm (hf i2 (by simp)).2.1) e1,e2⟩
  refine I.step (g':=s.gens) (d':=s.drawn) (ch:=[z,TO,i1,i2]) (fun c hc'=>?_) (fun c o _ _ hc' e _=>?_) (fun c o _ _ hc' e _=>⟨o.slots,?_⟩) (fun c o _ e n=>n) (fun c o hc' e=>⟨o,?_⟩)
   (fun c zs e=>e) (fun c u zs e=>e) (fun c ps e=>⟨#[],by rw [e]; simp⟩) ns (fun c u e=>?_) I.bare
  ·have hm:c ∈ [z,TI,TO,i1,i2]:=by
    simp only [aR5,aS6,aV6] at hc' ⊢
    rcases hc' with h | h | h | h <;> simp [h]
   exact⟨(hf c hm).2.2.2.1,(hf c hm).2.1,(hf c hm).2.2.2.2.1,(hf c hm).2.2.2.2.2⟩
  ·simp only [aR5,aS6,aV6,not_or] at hc'
   exact kp c o hc'.1 hc'.2.1 hc'.2.2.1 hc'.2.2.2 e
  ·simp only [aR5,aS6,aV6,not_or] at hc'
   exact kp c o hc'.1 hc'.2.1 hc'.2.2.1 hc'.2.2.2 e
  ·simp only [aR5,aS6,aV6,not_or] at hc'
   exact kp c o hc'.1 hc'.2.1 hc'.2.2.1 hc'.2.2.2 e
  ·refine (I.hok c u e).stay (fun c' o' hc2 q'=>?_) (fun _ q'=>q') fun _ _ q'=>q'
   rcases hc2 with rfl | hc2
   ·exact upH _ _ _ e q'
   ·exact upH _ _ _ hc2 q'
abbrev am2:=tH true true
theorem am3 {P:Program}{w:World}{K:PySem.W.Frag}{elts:List Expr}{k:Nat}{pos:Pos} (a b z TI TO i1 i2:Addr) (d : [z,TI,TO,i1,i2].Nodup) :
  i6 P w K (.Tuple elts k pos) (tG K a b) [z,TI,TO,i1,i2] z (am2 z TI TO i1 i2 a b):=zF true true a b z TI TO i1 i2 d
section
variable {X : Cx}
theorem am4 (hc:X.calm=true):cN X (.builtin "all") (fun xs H Q=>∃ (a:Addr) (bs:List Bool),xs = [.ref a]/\aP X.K H a (bs.map V.bl)/\Q (.bl (bs.all id)) H):=by
 intro pins s σ H xs us Q I r h
 obtain ⟨a,bs,rfl,hq,q⟩:=h
 obtain ⟨u,rfl,ru⟩:=iM r
 cases ru
 obtain ⟨its,rv,p,hz⟩:=I.list hq
 have hl:=rv.length
 rw [aS0] at hl
 have hlt:a < s.heap.objs.size:=by obtain ⟨o,e,_⟩:=p.isList; exact aS4 e
 refine call_all_walk (wpAny_pyIter_list p.isList ?_)
 have hh:X.A.in1.handled=none:=I.ok.hd hc
 refine⟨s.heap.objs.size,_,_,_,_,_,fun i=>bs.getD i false,rfl,Walks.list hh s.heap.objs.size a (aU5 hlt) its.toArray,⟨⟨_,aS5 _ rfl,rfl,rfl⟩,p.isList.push _⟩,?_,fun h' tk kp=>?_⟩
 ·intro i v s' Q' E' hP hQ'
  have hi:its[i]? = some v:=by simpa using hP
  have hil:i < bs.length:=by rw [hl]; exact (aS2.mp hi).1
  obtain ⟨u,e1,e2⟩:=rv.get (i:=i) (x:=.bl bs[i]) (by simp [hil])
  rw [hi] at e1; cases e1
  cases e2
  have:bs.getD i false=bs[i]:=by rw [aT1,aR0 hil]; rfl
  have hQ2:Q' (bs.getD i false) s':=hQ'
  rw [this] at hQ2
  exact ba3 hQ2
 ·have all_eq:(List.range its.toArray.size).all (fun i=>bs.getD i false)=bs.all id:=by
   rw [aR1,<- hl]
   clear q rv hz hl hq hlt p hh kp
   induction bs with
   | nil=>rfl
   | cons b r ih=>
    rw [aV5,List.range_succ_eq_map,bg0,List.all_map,bg0,<- ih]
    rfl
  rw [all_eq]
  refine⟨.bl (bs.all id),H,I.kept (t':=tk) (h':=h') fun b o e=>kp b o (fun z=>?_) (aQ9 _ e),rfl,q⟩
  rw [aS1.mp z] at e
  exact absurd (aS4 e) (aZ0 _)
end
end L2
namespace HT
open PySem PyProof.Rows
section
variable {prog : Program} {w : World} {A : Around} {E : Value → Shared → Prop} {s : Shared}
theorem am5 {t sl:Addr}{items:Array Value}{vl vu:Value}{lo hi:Option Int}{Q:Value->Shared->Prop} (ht:IsTup s.heap t items) (hs:s.heap.IsSliceOf sl vl vu .none) (pl:IsPart vl lo) (pu:IsPart vu hi)
  (h1:aT items.size 0 lo=0) (h2:aT items.size items.size hi=items.size) (h:Q (.ref t) s):wpAny (model prog w) A (getItem (.ref t) (.ref sl)) Q E s:=by
 obtain ⟨o,e1,e2,e3⟩:=id hs
 have T:s.TypeIs (.ref sl) "slice":=⟨o,e1,e2⟩
 unfold getItem
 try with_reducible refine aZ1 ?_
 first | refine aQ7 (aR3 ?_) | skip
 apply aQ7
 apply wpAny_sequenceKey ht.typeIs (by decide)
 apply aQ7
 apply aW7 (name:=Str.ofString "__getitem__") ht.typeIs bd1
 apply aW9 bd1 ht.typeIs entry_tuple_getitem _ (args_tuple_getitem _ _)
 change wpAny _ _ (Builtin.Tuple.tupleItemsOf (.ref t) >>= _) _ _ s
 apply aQ7
 apply tupleItemsOf_ ht
 apply aQ7
 apply wpAny_typeOf T
 rw [if_pos (by decide)]
 apply aQ7
 apply xT hs pl pu
 rw [h1,h2]
 have yes:((((0:Nat):Int) == 0 && (1:Int) == 1 && (items.size - 0) == items.size)=true):=by simp
 change wpAny _ _ (if ((((0:Nat):Int) == 0 && (1:Int) == 1 && (items.size - 0) == items.size)=true) then _ else _) _ _ s
 rw [if_pos yes]
 apply aQ7
 unfold Builtin.Tuple.tupleIsExact
 apply aQ7
 apply wpAny_typeOf ht.typeIs
 apply aR3
 change wpAny _ _ (rule "tuple.getitem.whole" >>= fun _=>ret (Value.ref t)) _ _ s
 apply aQ7
 apply be1
 exact aR3 ⟨_,rfl,aR3 h⟩
end
end HT
namespace L2
open PySem PySem.Spec PyProof.Rows
section
variable {X : Cx}
def am6 (K:PySem.W.Frag):V->Option Int->Option Int->Hp->VK->Prop:=fun x lo hi H Q=>∃ a xs,x = .ref a/\aN K H a xs/\(∀ p,H p=none->Q (.ref p) (upd H p (.tup (gN xs lo hi))))/\(gN xs lo hi=xs->Q (.ref a) H)
theorem am7:jK X (am6 X.K):=by
 intro pins s σ H x v vl vu lo hi sl Q I rx hs pl pu h
 obtain ⟨a,xs,ex,hx,q1,q2⟩:=h
 by_cases hw:HT.aT xs.length 0 lo=0/\HT.aT xs.length xs.length hi=xs.length
 ·subst ex
  cases rx
  obtain ⟨its,r,ht,hz⟩:=I.tuple hx
  have hlen:its.toArray.size=xs.length:=by rw [aR1]; exact r.length.symm
  refine⟨"tuple",_,PyProof.Rows.slot_tuple_getitem.lookup,ht.typeIs,?_⟩
  refine HT.am5 ht hs pl pu (by rw [hlen]; exact hw.1) (by rw [hlen]; exact hw.2) ⟨.ref a,H,I,rfl,q2 ?_⟩
  unfold gN
  rw [hw.1,hw.2]
  simp
 ·exact ag0 pins s σ H x v vl vu lo hi sl Q I rx hs pl pu ⟨a,xs,ex,hx,hw,q1⟩
end
def tI (K:PySem.W.Frag) (a b:Addr):It:=
  ⟨fun i H=>∃ xs ys x y,aP K H a xs/\aP K H b ys/\xs[i]? = some x/\ys[i]? = some y,
   fun i H v H'=>∃ T x y,H T=none/\v = .ref T/\H'=upd H T (.tup [x,y])/\∀ xs ys,aP K H a xs->aP K H b ys->xs[i]? = some x/\ys[i]? = some y,
   fun i H=>∃ xs ys,aP K H a xs/\aP K H b ys/\(i=xs.length ∨ (i < xs.length/\i=ys.length))⟩
abbrev am8:=tH false false
theorem am9 {P:Program}{w:World}{K:PySem.W.Frag}{elts:List Expr}{k:Nat}{pos:Pos} (a b z TI TO i1 i2:Addr) (d : [z,TI,TO,i1,i2].Nodup) :
  i6 P w K (.Tuple elts k pos) (tI K a b) [z,TI,TO,i1,i2] z (am8 z TI TO i1 i2 a b):=zF false false a b z TI TO i1 i2 d
end L2
namespace PP
open PySem L2
inductive PV where
 | non | bl (b:Bool) | int (i:Int) | str (x:Str) | tup (xs:List PV) | lst (xs:List PV)
 | dK (kvs:List (aH × PV)) | dT (kvs:List (List aH × PV)) | scr (ns:List Int) | kt (xs:List PV) | exc (c:Str) | fK (kvs:List (aH × PV)) | fT (kvs:List (List aH × PV))
mutual
def flat:PV->Bool
 | .tup xs=>flats xs
 | .lst _=>false
 | .dK _=>false
 | .dT _=>false
 | .non=>true
 | .bl _=>true
 | .int _=>true
 | .str _=>true
 | .scr _=>true
 | .kt xs=>flats xs
 | .exc _=>true
 | .fK _=>false
 | .fT _=>false
def flats:List PV->Bool
 | []=>true
 | x :: r=>flat x && flats r
end
def iR (K:PySem.W.Frag) (H:Hp) (a:Addr) (ns:List Int):Prop:=(∃ o,H a=some (.frz o (.lst (ns.map V.int)))) ∨
  ∃ (o:Obj) (its:Array Value) (n:Nat),K.lookup a=some o/\o.cls = .type "list"/\o.dict=none/\o.data = .seq its n/\its.size<=sizeLine/\aJ (ns.map V.int) its.toList
def l9 (K:PySem.W.Frag) (a:Addr) (us:List V):Prop:=∃ (o:Obj) (its:Array Value) (n:Nat),K.lookup a=some o/\o.cls = .type "tuple"/\o.data = .seq its n/\its.size<=sizeLine/\aJ us its.toList
mutual
inductive aA (K:PySem.W.Frag) (M:Addr->Prop) (H:Hp):V->PV->Prop
 | non:aA K M H .non .non
 | bl (b:Bool):aA K M H (.bl b) (.bl b)
 | int (i:Int):aA K M H (.int i) (.int i)
 | str (x:Str):aA K M H (.str x) (.str x)
 | tup {a:Addr}{us:List V}{xs:List PV}:H a=some (.tup us)->Reps K M H us xs->aA K M H (.ref a) (.tup xs)
 | lst {a:Addr}{us:List V}{xs:List PV}:M a->H a=some (.lst us)->Reps K M H us xs->aA K M H (.ref a) (.lst xs)
 | dK {a:Addr}{kvs:List (aH × V)}{ps:List (aH × PV)}:M a->H a=some (.dK kvs)->kvs.map (·.1)=ps.map (·.1)->Reps K M H (kvs.map (·.2)) (ps.map (·.2))->aA K M H (.ref a) (.dK ps)
 | dT {a:Addr}{kvs:List (List aH × V)}{ps:List (List aH × PV)}:M a->H a=some (.dT kvs)->kvs.map (·.1)=ps.map (·.1)->Reps K M H (kvs.map (·.2)) (ps.map (·.2))->aA K M H (.ref a) (.dT ps)
 | scr {a:Addr}{ns:List Int}:iR K H a ns->aA K M H (.ref a) (.scr ns)
 | kt {a:Addr}{us:List V}{xs:List PV}:l9 K a us->Reps K M H us xs->aA K M H (.ref a) (.kt xs)
 | exc {a C:Addr}{o:Obj}{c:Str}:H a=some (.frz o (.own a))->PySem.W.nsIn K mainGlobals c=some (some (.ref C))->o.cls = .ref C->aA K M H (.ref a) (.exc c)
 | fK {a:Addr}{o:Obj}{kvs:List (aH × V)}{ps:List (aH × PV)}:H a=some (.frz o (.dK kvs))->kvs.map (·.1)=ps.map (·.1)->Reps K M H (kvs.map (·.2)) (ps.map (·.2))->aA K M H (.ref a) (.fK ps)
 | fT {a:Addr}{o:Obj}{kvs:List (List aH × V)}{ps:List (List aH × PV)}:H a=some (.frz o (.dT kvs))->kvs.map (·.1)=ps.map (·.1)->Reps K M H (kvs.map (·.2)) (ps.map (·.2))->aA K M H (.ref a) (.fT ps)
inductive Reps (K:PySem.W.Frag) (M:Addr->Prop) (H:Hp):List V->List PV->Prop
 | nil:Reps K M H [] []
 | cons {v:V}{x:PV}{vs:List V}{xs:List PV}:aA K M H v x->Reps K M H vs xs->Reps K M H (v :: vs) (x :: xs)
end
structure i8 (M M':Addr->Prop) (H H':Hp):Prop where
 lst:∀ a us,M a->H a=some (.lst us)->M' a/\H' a=some (.lst us)
 dK:∀ a kvs,M a->H a=some (.dK kvs)->M' a/\H' a=some (.dK kvs)
 dT:∀ a kvs,M a->H a=some (.dT kvs)->M' a/\H' a=some (.dT kvs)
 tup:∀ a us,H a=some (.tup us)->H' a=some (.tup us)
 frz:∀ a o u,H a=some (.frz o u)->H' a=some (.frz o u)
theorem iR.keep {K:PySem.W.Frag}{H H':Hp}{a:Addr}{ns:List Int} (k:∀ a o u,H a=some (.frz o u)->H' a=some (.frz o u)) (h:iR K H a ns):iR K H' a ns:=
 h.elim (fun ⟨o,e⟩=>.inl ⟨o,k _ _ _ e⟩) .inr
mutual
theorem aA.keep {K:PySem.W.Frag}{M M':Addr->Prop}{H H':Hp} (k:i8 M M' H H'):∀ {v:V}{x:PV},aA K M H v x->aA K M' H' v x
 | _,_,.non=>.non
 | _,_,.bl b=>.bl b
 | _,_,.int i=>.int i
 | _,_,.str x=>.str x
 | _,_,.tup h r=>.tup (k.tup _ _ h) (Reps.keep k r)
 | _,_,.lst m h r=>.lst (k.lst _ _ m h).1 (k.lst _ _ m h).2 (Reps.keep k r)
 | _,_,.dK m h e r=>.dK (k.dK _ _ m h).1 (k.dK _ _ m h).2 e (Reps.keep k r)
 | _,_,.dT m h e r=>.dT (k.dT _ _ m h).1 (k.dT _ _ m h).2 e (Reps.keep k r)
 | _,_,.scr h=>.scr (h.keep k.frz)
 | _,_,.kt h r=>.kt h (Reps.keep k r)
 | _,_,.exc h e c=>.exc (k.frz _ _ _ h) e c
 | _,_,.fK h e r=>.fK (k.frz _ _ _ h) e (Reps.keep k r)
 | _,_,.fT h e r=>.fT (k.frz _ _ _ h) e (Reps.keep k r)
theorem Reps.keep {K:PySem.W.Frag}{M M':Addr->Prop}{H H':Hp} (k:i8 M M' H H'):∀ {vs:List V}{xs:List PV},Reps K M H vs xs->Reps K M' H' vs xs
 | _,_,.nil=>.nil
 | _,_,.cons r t=>.cons (aA.keep k r) (Reps.keep k t)
end
mutual
theorem aA.flat {K:PySem.W.Frag}{M M':Addr->Prop}{H:Hp}{v:V}{x:PV} (f:flat x=true) (r:aA K M H v x):aA K M' H v x:=by
 cases r with
 | non=>exact .non
 | bl b=>exact .bl b
 | int i=>exact .int i
 | str x=>exact .str x
 | tup h r=>exact .tup h (Reps.flat (by unfold PP.flat at f; exact f) r)
 | lst m h r=>unfold PP.flat at f; cases f
 | dK m h e r=>unfold PP.flat at f; cases f
 | dT m h e r=>unfold PP.flat at f; cases f
 | scr h=>exact .scr h
 | kt h r=>exact .kt h (Reps.flat (by unfold PP.flat at f; exact f) r)
 | exc h e c=>exact .exc h e c
 | fK h e r=>unfold PP.flat at f; cases f
 | fT h e r=>unfold PP.flat at f; cases f
theorem Reps.flat {K:PySem.W.Frag}{M M':Addr->Prop}{H:Hp}{vs:List V}{xs:List PV} (f:flats xs=true) (r:Reps K M H vs xs):Reps K M' H vs xs:=by
 cases r with
 | nil=>exact .nil
 | cons r t=>
  unfold PP.flats at f
  rw [aZ2] at f
  exact .cons (aA.flat f.1 r) (Reps.flat f.2 t)
end
theorem i8.same {M M':Addr->Prop}{H H':Hp} (s:aC H H') (m:∀ a,M a->M' a):i8 M M' H H':=
 ⟨fun a _ h e=>⟨m a h,s _ _ e⟩,fun a _ h e=>⟨m a h,s _ _ e⟩,fun a _ h e=>⟨m a h,s _ _ e⟩,fun _ _ e=>s _ _ e,fun _ _ _ e=>s _ _ e⟩
theorem aA.same {K:PySem.W.Frag}{M M':Addr->Prop}{H H':Hp}{v:V}{x:PV} (r:aA K M H v x) (s:aC H H') (m:∀ a,M a->M' a):aA K M' H' v x:=r.keep (.same s m)
theorem Reps.same {K:PySem.W.Frag}{M M':Addr->Prop}{H H':Hp}{v:List V}{x:List PV} (r:Reps K M H v x) (s:aC H H') (m:∀ a,M a->M' a):Reps K M' H' v x:=r.keep (.same s m)
def eQ:HO->Bool
 | .lst _=>true
 | .dK _=>true
 | .dT _=>true
 | _=>false
theorem i8.upd {M M':Addr->Prop}{H:Hp}{a:Addr}{o o':HO} (h:H a=some o') (mu:eQ o'=true) (m:∀ b,M b->b ≠ a/\M' b):i8 M M' H (upd H a o):=
 ⟨fun b _ hb e=>⟨(m b hb).2,by rw [aZ (m b hb).1]; exact e⟩,fun b _ hb e=>⟨(m b hb).2,by rw [aZ (m b hb).1]; exact e⟩,fun b _ hb e=>⟨(m b hb).2,by rw [aZ (m b hb).1]; exact e⟩,
  fun b _ e=>by rw [aZ (fun z=>by rw [z,h] at e; cases e; cases mu)]; exact e,
  fun b _ _ e=>by rw [aZ (fun z=>by rw [z,h] at e; cases e; cases mu)]; exact e⟩
theorem Reps.length {K:PySem.W.Frag}{M:Addr->Prop}{H:Hp}:∀ {vs:List V}{xs:List PV},Reps K M H vs xs->vs.length=xs.length
 | _,_,.nil=>rfl
 | _,_,.cons _ t=>congrArg (· + 1) t.length
theorem Reps.get {K:PySem.W.Frag}{M:Addr->Prop}{H:Hp}:∀ {vs:List V}{xs:List PV}{i:Nat}{v:V},Reps K M H vs xs->vs[i]? = some v->∃ x,xs[i]? = some x/\aA K M H v x
 | _,_,_,_,.nil,e=>by simp at e
 | _,_,0,_,.cons r _,e=>by simp at e; subst e; exact⟨_,rfl,r⟩
 | _,_,i+1,v,.cons _ t,e=>by
  rw [aV7] at e
  obtain ⟨x,h1,h2⟩:=t.get e
  exact⟨x,by rw [aV7]; exact h1,h2⟩
theorem Reps.at {K:PySem.W.Frag}{M:Addr->Prop}{H:Hp}:∀ {vs:List V}{xs:List PV}{i:Nat}{x:PV},Reps K M H vs xs->xs[i]? = some x->∃ v,vs[i]? = some v/\aA K M H v x
 | _,_,_,_,.nil,e=>by simp at e
 | _,_,0,_,.cons r _,e=>by simp at e; subst e; exact⟨_,rfl,r⟩
 | _,_,i+1,v,.cons _ t,e=>by
  rw [aV7] at e
  obtain ⟨x,h1,h2⟩:=t.at e
  exact⟨x,by rw [aV7]; exact h1,h2⟩
theorem Reps.append {K:PySem.W.Frag}{M:Addr->Prop}{H:Hp}:∀ {vs:List V}{xs:List PV}{us:List V}{ys:List PV},Reps K M H vs xs->Reps K M H us ys->Reps K M H (vs ++ us) (xs ++ ys)
 | _,_,_,_,.nil,s=>s
 | _,_,_,_,.cons r t,s=>.cons r (t.append s)
theorem Reps.set {K:PySem.W.Frag}{M:Addr->Prop}{H:Hp}{v:V}{x:PV} (q:aA K M H v x):∀ (i:Nat) {vs:List V}{xs:List PV},Reps K M H vs xs->Reps K M H (vs.set i v) (xs.set i x)
 | _,_,_,.nil=>.nil
 | 0,_,_,.cons r t=>.cons q t
 | i+1,_,_,.cons r t=>.cons r (Reps.set q i t)
theorem Reps.take {K:PySem.W.Frag}{M:Addr->Prop}{H:Hp}:∀ (n:Nat) {vs:List V}{xs:List PV},Reps K M H vs xs->Reps K M H (vs.take n) (xs.take n)
 | 0,_,_,_=>by simp; exact .nil
 | _+1,_,_,.nil=>.nil
 | n+1,_,_,.cons r t=>.cons r (Reps.take n t)
theorem Reps.drop {K:PySem.W.Frag}{M:Addr->Prop}{H:Hp}:∀ (n:Nat) {vs:List V}{xs:List PV},Reps K M H vs xs->Reps K M H (vs.drop n) (xs.drop n)
 | 0,_,_,r=>r
 | _+1,_,_,.nil=>.nil
 | n+1,_,_,.cons _ t=>Reps.drop n t
theorem Reps.eraseIdx {K:PySem.W.Frag}{M:Addr->Prop}{H:Hp}:∀ (n:Nat) {vs:List V}{xs:List PV},Reps K M H vs xs->Reps K M H (vs.eraseIdx n) (xs.eraseIdx n)
 | _,_,_,.nil=>.nil
 | 0,_,_,.cons _ t=>t
 | n+1,_,_,.cons r t=>.cons r (Reps.eraseIdx n t)
abbrev intz (ns:List Int):List PV:=ns.map PV.int
theorem Reps.intz {K:PySem.W.Frag}{M:Addr->Prop}{H:Hp}:∀ (ns:List Int),Reps K M H (ns.map V.int) (intz ns)
 | []=>.nil
 | n :: r=>.cons (.int n) (Reps.intz r)
theorem Reps.ofInts {K:PySem.W.Frag}{M:Addr->Prop}{H:Hp}:∀ {ns:List Int}{us:List V},Reps K M H us (PP.intz ns)->us=ns.map V.int
 | [],_,.nil=>rfl
 | n :: r,_,.cons q t=>by
  cases q
  rw [Reps.ofInts t]; rfl
theorem tJ:∀ (ns:List Int),flats (intz ns)=true
 | []=>rfl
 | n :: r=>by show (flat (.int n) && flats (intz r))=true; rw [tJ r]; rfl
inductive Tg | rd | sh | nw | fr
inductive Slot | sh (g:Bool) (x:PV) | own (x:PV)
def Slot.val:Slot->PV
 | .sh _ x=>x
 | .own x=>x
def Slot.tag:Slot->Tg
 | .sh true _=>.nw
 | .sh false _=>.sh
 | .own _=>.rd
abbrev bE:=List (Option Slot)
def Ms (H0:Hp) (W:Addr->Prop):Bool->Addr->Prop
 | false,a=>¬ W a
 | true,a=>¬ W a/\H0 a=none
def Mg (H0:Hp) (W:Addr->Prop) (Hs:Hp):Tg->Addr->Prop
 | .rd,_=>True
 | .sh,a=>¬ W a
 | .nw,a=>¬ W a/\H0 a=none
 | .fr,a=>Hs a=none
def gO (K:PySem.W.Frag) (M:Addr->Prop) (H:Hp) (a:Addr):PV->Prop
 | .lst xs=>∃ us,H a=some (.lst us)/\Reps K M H us xs
 | .dK ps=>∃ kvs,H a=some (.dK kvs)/\kvs.map (·.1)=ps.map (·.1)/\Reps K M H (kvs.map (·.2)) (ps.map (·.2))
 | .dT ps=>∃ kvs,H a=some (.dT kvs)/\kvs.map (·.1)=ps.map (·.1)/\Reps K M H (kvs.map (·.2)) (ps.map (·.2))
 | _=>False
def zG (K:PySem.W.Frag) (H0:Hp) (W:Addr->Prop) (H:Hp) (v:V):Slot->Prop
 | .sh g x=>aA K (Ms H0 W g) H v x
 | .own x=>∃ a,v = .ref a/\W a/\gO K (Ms H0 W true) H a x
structure PX (K:PySem.W.Frag) (H0:Hp) (W:Addr->Prop) (σ:St) (ρ:bE) (H:Hp):Prop where
 len:ρ.length=σ.length
 same:aC H0 H
 wm:∀ a,W a->H0 a=none/\∃ o,H a=some o/\eQ o=true
 sl:∀ (i:Nat) (m:Slot),ρ[i]? = some (some m)->∃ v,σ[i]? = some (some v)/\zG K H0 W H v m
 dis:∀ (i j:Nat) (x y:PV) (a:Addr),ρ[i]? = some (some (.own x))->ρ[j]? = some (some (.own y))->σ[i]? = some (some (.ref a))->σ[j]? = some (some (.ref a))->i=j
theorem gO.keep {K:PySem.W.Frag}{M M':Addr->Prop}{H H':Hp}{a:Addr} (k:i8 M M' H H') (ha:∀ o,H a=some o->H' a=some o):∀ {x:PV},gO K M H a x->gO K M' H' a x
 | .lst _,⟨us,e,r⟩=>⟨us,ha _ e,r.keep k⟩
 | .dK _,⟨us,e,q,r⟩=>⟨us,ha _ e,q,r.keep k⟩
 | .dT _,⟨us,e,q,r⟩=>⟨us,ha _ e,q,r.keep k⟩
theorem gO.at {K:PySem.W.Frag}{M:Addr->Prop}{H:Hp}{a:Addr}:∀ {x:PV},gO K M H a x->∃ o,H a=some o/\eQ o=true
 | .lst _,⟨us,e,r⟩=>⟨_,e,rfl⟩
 | .dK _,⟨us,e,q,r⟩=>⟨_,e,rfl⟩
 | .dT _,⟨us,e,q,r⟩=>⟨_,e,rfl⟩
theorem gO.rep {K:PySem.W.Frag}{M M':Addr->Prop}{H:Hp}{a:Addr} (m:∀ b,M b->M' b) (ha:M' a):∀ {x:PV},gO K M H a x->aA K M' H (.ref a) x
 | .lst _,⟨us,e,r⟩=>.lst ha e (r.same (aC.refl _) m)
 | .dK _,⟨us,e,q,r⟩=>.dK ha e q (r.same (aC.refl _) m)
 | .dT _,⟨us,e,q,r⟩=>.dT ha e q (r.same (aC.refl _) m)
section
variable {K : PySem.W.Frag} {H0 : Hp} {W W' : Addr → Prop} {σ : St} {ρ : bE} {H H' : Hp}
theorem PX.mono (p:PX K H0 W σ ρ H) (s:aC H H'):PX K H0 W σ ρ H':=by
 refine⟨p.len,p.same.trans s,fun a h=>⟨(p.wm a h).1,let ⟨o,e,m⟩:=(p.wm a h).2; ⟨o,s _ _ e,m⟩⟩,fun i m h=>?_,p.dis⟩
 obtain ⟨v,e,r⟩:=p.sl i m h
 refine⟨v,e,?_⟩
 cases m with
 | sh g x=>exact aA.same r s fun _ z=>z
 | own x=>
  obtain ⟨a,e1,e2,r⟩:=r
  exact⟨a,e1,e2,r.keep (.same s fun _ z=>z) fun _ z=>s _ _ z⟩
theorem PX.new (p:PX K H0 W σ ρ H) {a:Addr} (h:H a=none) : ¬ W a/\H0 a=none:=
 ⟨fun z=>(by obtain ⟨_,o,e,_⟩:=p.wm a z; rw [h] at e; cases e),p.same.free h⟩
theorem Mg.back {g:Tg}{H1:Hp} (s:aC H H1) {a:Addr} (h:Mg H0 W H1 g a):Mg H0 W H g a:=by
 cases g with
 | fr=>exact s.free h
 | rd=>exact h
 | sh=>exact h
 | nw=>exact h
end
abbrev PK:=PV->Tg->Prop
abbrev aB:=bE->PK->Prop
abbrev cH:=bE->(Bool->Prop)->Prop
abbrev cL:=bE->(List (PV × Tg)->Prop)->Prop
inductive gP (K:PySem.W.Frag) (H0:Hp) (W:Addr->Prop) (Hs H:Hp):List V->List (PV × Tg)->Prop
 | nil:gP K H0 W Hs H [] []
 | cons {v:V}{x:PV}{g:Tg}{vs:List V}{xs:List (PV × Tg)}:aA K (Mg H0 W Hs g) H v x->gP K H0 W Hs H vs xs->gP K H0 W Hs H (v :: vs) ((x,g) :: xs)
def oX (K:PySem.W.Frag) (H0:Hp) (W:Addr->Prop) (H:Hp) (Q:PK) (Q':VK):Prop:=∀ v H' x g,aC H H'->aA K (Mg H0 W H g) H' v x->Q x g->Q' v H'
def LE (X:Cx) (t:aB):TE:=fun σ H Q'=>∃ (W:Addr->Prop) (ρ:bE) (Q:PK),PX X.K X.H₀ W σ ρ H/\t ρ Q/\oX X.K X.H₀ W H Q Q'
def LT (X:Cx) (t:cH):TT:=fun σ H Q'=>∃ (W:Addr->Prop) (ρ:bE) (Q:Bool->Prop),PX X.K X.H₀ W σ ρ H/\t ρ Q/\∀ b H',aC H H'->Q b->Q' b H'
def LA (X:Cx) (t:cL):TA:=fun σ H Q'=>∃ (W:Addr->Prop) (ρ:bE) (Q:List (PV × Tg)->Prop),PX X.K X.H₀ W σ ρ H/\t ρ Q/\∀ vs H' xs,aC H H'->gP X.K X.H₀ W H H' vs xs->Q xs->Q' vs H'
theorem gP.same {K:PySem.W.Frag}{H0:Hp}{W:Addr->Prop}{Hs Hs' H H':Hp} (s:aC H H') (b:aC Hs' Hs):∀ {vs:List V}{xs:List (PV × Tg)},gP K H0 W Hs H vs xs->gP K H0 W Hs' H' vs xs
 | _,_,.nil=>.nil
 | _,_,.cons r t=>.cons (r.same s fun _ z=>Mg.back b z) (t.same s b)
theorem gP.any {K:PySem.W.Frag}{H0:Hp}{W:Addr->Prop}{Hs H:Hp}:∀ {vs:List V}{xs:List (PV × Tg)},gP K H0 W Hs H vs xs->Reps K (fun _=>True) H vs (xs.map (·.1))
 | _,_,.nil=>.nil
 | _,_,.cons r t=>.cons (r.same (aC.refl _) fun _ _=>trivial) t.any
def Nw:Tg->PV->Prop
 | .fr,_=>True
 | .nw,_=>True
 | _,x=>flat x=true
section
variable {K : PySem.W.Frag} {H0 Hs H : Hp} {W : Addr → Prop} {σ : St} {ρ : bE}
theorem Nw.rep {g:Tg}{x:PV}{v:V} (px:PX K H0 W σ ρ Hs) (n:Nw g x) (r:aA K (Mg H0 W Hs g) H v x):aA K (Ms H0 W true) H v x:=by
 cases g with
 | fr=>exact r.same (aC.refl _) fun a z=>px.new z
 | nw=>exact r.same (aC.refl _) fun a z=>z
 | sh=>exact r.flat n
 | rd=>exact r.flat n
theorem zH {v:V}{m:Slot} (r:zG K H0 W H v m):aA K (Mg H0 W Hs m.tag) H v m.val:=by
 cases m with
 | sh g x=>
  cases g with
  | true=>exact aA.same r (aC.refl _) fun _ z=>z
  | false=>exact aA.same r (aC.refl _) fun _ z=>z
 | own x=>
  obtain ⟨a,rfl,_,r⟩:=r
  exact r.rep (fun _ _=>trivial) trivial
end
section
variable {X : Cx} {σ : St} {H : Hp} {Q' : VK} {ta tb : aB}
def a5 (i:Nat):aB:=fun ρ Q=>∃ m,ρ[i]? = some (some m)/\Q m.val m.tag
def qC (x:PV):aB:=fun _ Q=>Q x .fr
theorem an0 {i:Nat} (h:LE X (a5 i) σ H Q'):jX i σ H Q':=by
 obtain ⟨W,ρ,Q,px,⟨m,e,q⟩,k⟩:=h
 obtain ⟨v,ev,r⟩:=px.sl i m e
 exact⟨v,ev,k v H _ _ (aC.refl _) (zH r) q⟩
theorem mS {x:PV}{v:V} (hr:∀ M,aA X.K M H v x) (h:LE X (qC x) σ H Q'):tC v σ H Q':=by
 obtain ⟨W,ρ,Q,px,q,k⟩:=h
 exact k v H _ _ (aC.refl _) (hr _) q
def dY (X:Cx) (R:PV->Tg->PV->Tg->PK->Prop) (r:R2):Prop:=∀ (W:Addr->Prop) (Hs H:Hp) (u v:V) (x y:PV) (g g':Tg) (Q:PK) (Q':VK),aC Hs H->
 (∀ a,Hs a=none->¬ W a/\X.H₀ a=none)->aA X.K (Mg X.H₀ W Hs g) H u x->aA X.K (Mg X.H₀ W Hs g') H v y->R x g y g' Q->(∀ w H' z gz,aC H H'->aA X.K (Mg X.H₀ W Hs gz) H' w z->Q z gz->Q' w H')->r u v H Q'
def q2 (R:PV->Tg->PV->Tg->PK->Prop) (ta tb:aB):aB:=fun ρ Q=>ta ρ fun x g=>tb ρ fun y g'=>R x g y g' Q
theorem oY {R:PV->Tg->PV->Tg->PK->Prop}{r:R2} (c:dY X R r) (h:LE X (q2 R ta tb) σ H Q'):mI r (LE X ta) (LE X tb) σ H Q':=by
 obtain ⟨W,ρ,Q,px,q,k⟩:=h
 refine⟨W,ρ,_,px,q,fun u H1 x g s1 r1 q1=>⟨W,ρ,_,px.mono s1,q1,fun v H2 y g' s2 r2 q2=>?_⟩⟩
 exact c W H H2 u v x y g g' Q Q' (s1.trans s2) (fun a z=>px.new z) (r1.same s2 fun _ z=>z) (r2.same (aC.refl _) fun _ z=>Mg.back s1 z) q2 fun w H' z gz s3 r3 q3=>k w H' z gz ((s1.trans s2).trans s3) r3 q3
def RI (C:Int->Int->Prop) (f:Int->Int->PV):PV->Tg->PV->Tg->PK->Prop:=fun x _ y _ Q=>∃ i j,x = .int i/\y = .int j/\C i j/\Q (f i j) .fr
def dZ (f:Int->Int->PV):PV->Tg->PV->Tg->PK->Prop:=fun x _ y _ Q=>∃ i j,x = .int i/\y = .int j/\Q (f i j) .fr
theorem tK {C:Int->Int->Prop}{f:Int->Int->Int}:dY X (RI C fun i j=>.int (f i j)) (rI C fun i j=>.int (f i j)):=by
 rintro W Hs H u v x y g g' Q Q' s n r1 r2 ⟨i,j,rfl,rfl,c,q⟩ k
 cases r1; cases r2
 exact⟨i,j,rfl,rfl,c,k _ _ _ _ (aC.refl _) (.int _) q⟩
theorem zI {f:Int->Int->Int}:dY X (dZ fun i j=>.int (f i j)) (fE fun i j=>.int (f i j)):=by
 rintro W Hs H u v x y g g' Q Q' s n r1 r2 ⟨i,j,rfl,rfl,q⟩ k
 cases r1; cases r2
 exact⟨i,j,rfl,rfl,k _ _ _ _ (aC.refl _) (.int _) q⟩
theorem lA {f:Int->Int->Bool}:dY X (dZ fun i j=>.bl (f i j)) (fE fun i j=>.bl (f i j)):=by
 rintro W Hs H u v x y g g' Q Q' s n r1 r2 ⟨i,j,rfl,rfl,q⟩ k
 cases r1; cases r2
 exact⟨i,j,rfl,rfl,k _ _ _ _ (aC.refl _) (.bl _) q⟩
def lC (neg:Bool):PV->Tg->PV->Tg->PK->Prop:=fun x _ y _ Q=>(∃ i j,x = .int i/\y = .int j/\Q (.bl (if neg=true then !decide (i=j) else decide (i=j))) .fr) ∨ (∃ i j,x = .bl i/\y = .bl j/\Q (.bl (if neg=true then !decide (i=j) else decide (i=j))) .fr)
theorem zJ (i j:Int):decide (V.int i=V.int j)=decide (i=j):=by
 rw [aY8,aT4,aT4]; exact⟨fun z=>V.int.inj z,fun z=>congrArg V.int z⟩
theorem zK (i j:Bool):decide (V.bl i=V.bl j)=decide (i=j):=by
 rw [aY8,aT4,aT4]; exact⟨fun z=>V.bl.inj z,fun z=>congrArg V.bl z⟩
theorem an1:dY X (lC false) x4:=by
 rintro W Hs H u v x y g g' Q Q' s n r1 r2 (⟨i,j,rfl,rfl,q⟩ | ⟨i,j,rfl,rfl,q⟩) k
 ·cases r1; cases r2
  exact⟨rfl,by rw [zJ]; exact k _ _ _ _ (aC.refl _) (.bl _) q⟩
 ·cases r1; cases r2
  exact⟨rfl,by rw [zK]; exact k _ _ _ _ (aC.refl _) (.bl _) q⟩
theorem an2:dY X (lC true) x5:=by
 rintro W Hs H u v x y g g' Q Q' s n r1 r2 (⟨i,j,rfl,rfl,q⟩ | ⟨i,j,rfl,rfl,q⟩) k
 ·cases r1; cases r2
  exact⟨rfl,by rw [zJ]; exact k _ _ _ _ (aC.refl _) (.bl _) q⟩
 ·cases r1; cases r2
  exact⟨rfl,by rw [zK]; exact k _ _ _ _ (aC.refl _) (.bl _) q⟩
def b6 (t:aB):cH:=fun ρ Q=>t ρ fun x _=>∃ b,x = .bl b/\Q b
theorem oZ {t:aB}{Q':Bool->Hp->Prop} (h:LT X (b6 t) σ H Q'):LE X t σ H fun x H'=>∃ k,x = .bl k/\Q' k H':=by
 obtain ⟨W,ρ,Q,px,q,k⟩:=h
 refine⟨W,ρ,_,px,q,?_⟩
 rintro v H1 x g s r ⟨b,rfl,q⟩
 cases r
 exact⟨b,rfl,k _ _ s q⟩
def kC (t u:cH):cH:=fun ρ Q=>t ρ fun c=>if c=true then u ρ Q else Q false
def gQ (t u:cH):cH:=fun ρ Q=>t ρ fun c=>if c=true then Q true else u ρ Q
def gR (t:cH):cH:=fun ρ Q=>t ρ fun c=>Q (!c)
variable {t u : cH} {Qb : Bool → Hp → Prop}
theorem an3 (h:LT X (kC t u) σ H Qb):wI (LT X t) (LT X u) σ H Qb:=by
 obtain ⟨W,ρ,Q,px,q,k⟩:=h
 refine⟨W,ρ,_,px,q,fun b H1 s1 q1=>?_⟩
 cases b with
 | true=>exact bC ⟨W,ρ,Q,px.mono s1,by simpa using q1,fun b H2 s2 q2=>k _ _ (s1.trans s2) q2⟩
 | false=>exact aY (k _ _ s1 (by simpa using q1))
theorem an4 (h:LT X (gQ t u) σ H Qb):wJ (LT X t) (LT X u) σ H Qb:=by
 obtain ⟨W,ρ,Q,px,q,k⟩:=h
 refine⟨W,ρ,_,px,q,fun b H1 s1 q1=>?_⟩
 cases b with
 | false=>exact aY ⟨W,ρ,Q,px.mono s1,by simpa using q1,fun b H2 s2 q2=>k _ _ (s1.trans s2) q2⟩
 | true=>exact bC (k _ _ s1 (by simpa using q1))
theorem an5 (h:LT X (gR t) σ H Qb):wK (LT X t) σ H Qb:=by
 obtain ⟨W,ρ,Q,px,q,k⟩:=h
 exact⟨W,ρ,_,px,q,fun b H1 s1 q1=>k _ _ s1 q1⟩
def kD (ta tb:aB):aB:=fun ρ Q=>ta ρ fun x _=>∃ c,x = .bl c/\if c=true then tb ρ Q else Q (.bl false) .fr
def tL (ta:aB):aB:=fun ρ Q=>ta ρ fun x _=>∃ c,x = .bl c/\Q (.bl (!c)) .fr
theorem oX.back {K:PySem.W.Frag}{H0:Hp}{W:Addr->Prop}{H H1:Hp}{Q:PK} (k:oX K H0 W H Q Q') (s:aC H H1):oX K H0 W H1 Q Q':=fun v H' x g s' r q=>k v H' x g (s.trans s') (r.same (aC.refl _) fun _ z=>Mg.back s z) q
theorem an6 (h:LE X (kD ta tb) σ H Q'):wL (LE X ta) (LE X tb) σ H Q':=by
 obtain ⟨W,ρ,Q,px,q,k⟩:=h
 refine⟨W,ρ,_,px,q,?_⟩
 rintro v H1 x g s1 r ⟨c,rfl,q⟩
 cases r
 refine⟨c,rfl,?_⟩
 cases c with
 | true=>exact bC ⟨W,ρ,Q,px.mono s1,by simpa using q,k.back s1⟩
 | false=>exact aY (k _ _ _ _ s1 (.bl _) (by simpa using q))
theorem an7 (h:LE X (tL ta) σ H Q'):wM (LE X ta) σ H Q':=by
 obtain ⟨W,ρ,Q,px,q,k⟩:=h
 refine⟨W,ρ,_,px,q,?_⟩
 rintro v H1 x g s1 r ⟨c,rfl,q⟩
 cases r
 exact⟨c,rfl,k _ _ _ _ s1 (.bl _) q⟩
def aD:cL:=fun _ Q=>Q []
def a7 (te:aB) (tr:cL):cL:=fun ρ Q=>te ρ fun x g=>tr ρ fun xs=>Q ((x,g) :: xs)
variable {Qa : List V → Hp → Prop} {tr : cL}
theorem an8 (h:LA X aD σ H Qa):jH σ H Qa:=by
 obtain ⟨W,ρ,Q,px,q,k⟩:=h
 exact k _ _ _ (aC.refl _) .nil q
theorem an9 (h:LA X (a7 ta tr) σ H Qa):i7 (LE X ta) (LA X tr) σ H Qa:=by
 obtain ⟨W,ρ,Q,px,q,k⟩:=h
 refine⟨W,ρ,_,px,q,fun v H1 x g s1 r1 q1=>⟨W,ρ,_,px.mono s1,q1,fun vs H2 xs s2 r2 q2=>?_⟩⟩
 exact k _ _ _ (s1.trans s2) (.cons (r1.same s2 fun _ z=>z) (r2.same (aC.refl _) s1)) q2
def e8 (t:cL):aB:=fun ρ Q=>t ρ fun xs=>xs.length<=1000/\flats (xs.map (·.1))=true/\Q (.tup (xs.map (·.1))) .fr
def iS (t:cL):aB:=fun ρ Q=>t ρ fun xs=>xs.length<=1000/\flats (xs.map (·.1))=true/\Q (.lst (xs.map (·.1))) .fr
theorem gP.length {K:PySem.W.Frag}{H0:Hp}{W:Addr->Prop}{Hs H:Hp}:∀ {vs:List V}{xs:List (PV × Tg)},gP K H0 W Hs H vs xs->vs.length=xs.length
 | _,_,.nil=>rfl
 | _,_,.cons _ t=>congrArg (· + 1) t.length
theorem tM {n:Nat} (h:n<=1000):n<=sizeLine:=bc6 (ak2 h)
theorem ao0 (h:LE X (e8 tr) σ H Q'):xE (LA X tr) σ H Q':=by
 obtain ⟨W,ρ,Q,px,q,k⟩:=h
 refine⟨W,ρ,_,px,q,?_⟩
 rintro vs H1 xs s1 r ⟨hl,n,q⟩
 refine⟨by rw [r.length]; exact tM hl,fun p hp=>k _ _ _ .fr (s1.trans (bZ hp _)) (.tup cC ?_) q⟩
 exact (r.any.flat n).same (bZ hp _) fun _ z=>z
theorem ao1 (h:LE X (iS tr) σ H Q'):xF (LA X tr) σ H Q':=by
 obtain ⟨W,ρ,Q,px,q,k⟩:=h
 refine⟨W,ρ,_,px,q,?_⟩
 rintro vs H1 xs s1 r ⟨hl,n,q⟩
 refine⟨by rw [r.length]; exact tM hl,fun p hp=>k _ _ _ .fr (s1.trans (bZ hp _)) (.lst (s1.free hp) cC ?_) q⟩
 exact (r.any.flat n).same (bZ hp _) fun _ z=>z
def eI (X:Cx) (R:List PV->(PV->Prop)->Prop) (r:List V->Hp->VK->Prop):Prop:=∀ (H:Hp) (vs:List V) (xs:List PV) (Q:PV->Prop) (Q':VK),Reps X.K (fun _=>True) H vs xs->R xs Q->
 (∀ w H' z,aC H H'->aA X.K (fun a=>H a=none) H' w z->Q z->Q' w H')->r vs H Q'
def aG (R:List PV->(PV->Prop)->Prop) (t:cL):aB:=fun ρ Q=>t ρ fun xs=>R (xs.map (·.1)) fun z=>Q z .fr
theorem zL {R:List PV->(PV->Prop)->Prop}{r:List V->Hp->VK->Prop} (c:eI X R r) (h:LE X (aG R tr) σ H Q'):sO r (LA X tr) σ H Q':=by
 obtain ⟨W,ρ,Q,px,q,k⟩:=h
 refine⟨W,ρ,_,px,q,fun vs H1 xs s1 r1 q1=>c H1 vs _ _ Q' r1.any q1 fun w H' z s2 r2 q2=>k w H' z .fr (s1.trans s2) (r2.same (aC.refl _) fun _ z=>s1.free z) q2⟩
end
structure p5 where
 nx:bE->Prop
 rt:PV->Prop
 bk:bE->Prop:=fun _=>False
 ct:bE->Prop:=fun _=>False
abbrev aS:=p5->bE->Prop
def Ev (W:Addr->Prop) (H:Hp) (W':Addr->Prop) (H':Hp):Prop:=∀ b o,H b=some o->¬ W b->H' b=some o/\¬ W' b
theorem Ev.trans {W W1 W2:Addr->Prop}{H H1 H2:Hp} (a:Ev W H W1 H1) (b:Ev W1 H1 W2 H2):Ev W H W2 H2:=fun c o h n=>let ⟨h1,n1⟩:=a c o h n; b c o h1 n1
theorem Ev.same {W:Addr->Prop}{H H':Hp} (s:aC H H'):Ev W H W H':=fun c o h n=>⟨s _ _ h,n⟩
theorem Ev.refl (W:Addr->Prop) (H:Hp):Ev W H W H:=Ev.same (aC.refl _)
structure p6 (X:Cx) (W:Addr->Prop) (H:Hp) (D':p5) (D:dM):Prop where
 nx:∀ W' σ' H' ρ',Ev W H W' H'->PX X.K X.H₀ W' σ' ρ' H'->D'.nx ρ'->D.nx σ' H'
 rt:∀ v H' x,aC X.H₀ H'->aA X.K (fun a=>X.H₀ a=none) H' v x->D'.rt x->D.rt v H'
 bk:∀ W' σ' H' ρ',Ev W H W' H'->PX X.K X.H₀ W' σ' ρ' H'->D'.bk ρ'->D.bk σ' H'
 ct:∀ W' σ' H' ρ',Ev W H W' H'->PX X.K X.H₀ W' σ' ρ' H'->D'.ct ρ'->D.ct σ' H'
theorem p6.step {X:Cx}{W W1:Addr->Prop}{H H1:Hp}{D':p5}{D:dM} (k:p6 X W H D' D) (e:Ev W H W1 H1):p6 X W1 H1 D' D:=
 ⟨fun W' σ' H' ρ' e'=>k.nx W' σ' H' ρ' (e.trans e'),k.rt,fun W' σ' H' ρ' e'=>k.bk W' σ' H' ρ' (e.trans e'),fun W' σ' H' ρ' e'=>k.ct W' σ' H' ρ' (e.trans e')⟩
def LS (X:Cx) (t:aS):TS:=fun D σ H=>∃ (W:Addr->Prop) (ρ:bE) (D':p5),PX X.K X.H₀ W σ ρ H/\t D' ρ/\p6 X W H D' D
theorem i9 {α:Type}{l:List α}{i j:Nat}{a b:α} (h:(l.set i a)[j]? = some b):(j=i/\i < l.length/\b=a) ∨ (j ≠ i/\l[j]? = some b):=by
 by_cases e:j=i
 ·subst e
  have hl:j < (l.set j a).length:=(aS2.mp h).1
  rw [bc1] at hl
  rw [bb2 hl] at h
  exact .inl ⟨rfl,hl,(aT5 h).symm⟩
 ·rw [aT8 (Ne.symm e)] at h
  exact .inr ⟨e,h⟩
section
variable {K : PySem.W.Frag} {H0 : Hp} {W W' : Addr → Prop} {σ : St} {ρ : bE} {H H' Hs : Hp}
theorem PX.setSh {i:Nat}{v:V}{g:Bool}{x:PV} (p:PX K H0 W σ ρ H) (r:aA K (Ms H0 W g) H v x):PX K H0 W (σ.set i (some v)) (ρ.set i (some (.sh g x))) H:=by
 refine⟨by rw [bc1,bc1]; exact p.len,p.same,p.wm,fun j m h=>?_,fun j k y z a h1 h2 h3 h4=>?_⟩
 ·rcases i9 h with ⟨rfl,hl,e⟩ | ⟨hne,h⟩
  ·cases e
   rw [p.len] at hl
   exact⟨v,bb2 hl,r⟩
  ·obtain ⟨u,e,q⟩:=p.sl j m h
   exact⟨u,by rw [aT8 (Ne.symm hne)]; exact e,q⟩
 ·rcases i9 h1 with ⟨_,_,e⟩ | ⟨n1,h1⟩
  ·cases e
  ·rcases i9 h2 with ⟨_,_,e⟩ | ⟨n2,h2⟩
   ·cases e
   ·rw [aT8 (Ne.symm n1)] at h3
    rw [aT8 (Ne.symm n2)] at h4
    exact p.dis j k y z a h1 h2 h3 h4
def lD (W:Addr->Prop) (a:Addr):Addr->Prop:=fun b=>W b ∨ b=a
theorem tN {g:Bool}{a b:Addr} (n:b ≠ a) (h:Ms H0 W g b):Ms H0 (lD W a) g b:=by
 cases g with
 | true=>exact⟨fun z=>z.elim h.1 n,h.2⟩
 | false=>exact fun z=>z.elim h n
theorem PX.setOwn {i:Nat}{a:Addr}{x:PV} (p:PX K H0 W σ ρ Hs) (s:aC Hs H) (ha:Hs a=none) (r:gO K (Ms H0 (lD W a) true) H a x):PX K H0 (lD W a) (σ.set i (some (.ref a))) (ρ.set i (some (.own x))) H:=by
 have old:∀ b o,Hs b=some o->b ≠ a:=fun b o e z=>by rw [z,ha] at e; cases e
 have kp:∀ g,i8 (Ms H0 W g) (Ms H0 (lD W a) g) Hs H:=fun g=>⟨fun b _ m e=>⟨tN (old _ _ e) m,s _ _ e⟩,fun b _ m e=>⟨tN (old _ _ e) m,s _ _ e⟩,fun b _ m e=>⟨tN (old _ _ e) m,s _ _ e⟩,fun _ _ e=>s _ _ e,fun _ _ _ e=>s _ _ e⟩
 have wa : ¬ W a:=(p.new ha).1
 refine⟨by rw [bc1,bc1]; exact p.len,p.same.trans s,fun b z=>?_,fun j m h=>?_,fun j k y z b h1 h2 h3 h4=>?_⟩
 ·rcases z with z | rfl
  ·obtain ⟨h1,o,h2,h3⟩:=p.wm b z
   exact⟨h1,o,s _ _ h2,h3⟩
  ·exact⟨(p.new ha).2,r.at⟩
 ·rcases i9 h with ⟨rfl,hl,e⟩ | ⟨hne,h⟩
  ·cases e
   rw [p.len] at hl
   exact⟨_,bb2 hl,a,rfl,.inr rfl,r⟩
  ·obtain ⟨u,e,q⟩:=p.sl j m h
   refine⟨u,by rw [aT8 (Ne.symm hne)]; exact e,?_⟩
   cases m with
   | sh g y=>exact aA.keep (kp g) q
   | own y=>
    obtain ⟨b,e1,e2,q⟩:=q
    exact⟨b,e1,.inl e2,q.keep (kp true) fun o z=>s _ _ z⟩
 ·have ne:∀ {j:Nat}{y:PV},ρ[j]? = some (some (.own y))->σ[j]? ≠ some (some (.ref a)):=fun {j y} h1 h2=>by
   obtain ⟨u,e,c,e1,e2,_⟩:=p.sl j _ h1
   rw [h2] at e
   cases e
   cases e1
   exact wa e2
  rcases i9 h1 with ⟨e1,l1,_⟩ | ⟨n1,h1⟩
  ·rcases i9 h2 with ⟨e2,_,_⟩ | ⟨n2,h2⟩
   ·rw [e1,e2]
   ·rw [e1,bb2 (by rw [<- p.len]; exact l1)] at h3
    rw [aT8 (Ne.symm n2)] at h4
    cases h3
    exact absurd h4 (ne h2)
  ·rw [aT8 (Ne.symm n1)] at h3
   rcases i9 h2 with ⟨e2,l2,_⟩ | ⟨n2,h2⟩
   ·rw [e2,bb2 (by rw [<- p.len]; exact l2)] at h4
    cases h4
    exact absurd h3 (ne h1)
   ·rw [aT8 (Ne.symm n2)] at h4
    exact p.dis j k y z b h1 h2 h3 h4
theorem Ev.own {a:Addr} (s:aC Hs H) (ha:Hs a=none):Ev W Hs (lD W a) H:=fun b o e n=>⟨s _ _ e,fun z=>z.elim n fun z=>by rw [z,ha] at e; cases e⟩
theorem mT {g:Bool}{a b:Addr} (wa:W a) (h:Ms H0 W g b):b ≠ a:=by
 cases g with
 | true=>exact fun z=>h.1 (by rw [z]; exact wa)
 | false=>exact fun z=>h (by rw [z]; exact wa)
theorem PX.updOwn {i:Nat}{a:Addr}{x y:PV}{o:HO} (p:PX K H0 W σ ρ H) (hi:ρ[i]? = some (some (.own x))) (ha:σ[i]? = some (some (.ref a))) (wa:W a) (mu:eQ o=true) (r:gO K (Ms H0 W true) (upd H a o) a y) :
  PX K H0 W σ (ρ.set i (some (.own y))) (upd H a o):=by
 obtain ⟨w0,o',e',mu'⟩:=p.wm a wa
 have kp:∀ g,i8 (Ms H0 W g) (Ms H0 W g) H (upd H a o):=fun g=>.upd e' mu' fun b m=>⟨mT wa m,m⟩
 refine⟨by rw [bc1]; exact p.len,fun b u e=>by rw [aZ (fun z=>by rw [z,w0] at e; cases e)]; exact p.same _ _ e,fun b z=>?_,fun j m h=>?_,fun j k y' z b h1 h2 h3 h4=>?_⟩
 ·by_cases e:b=a
  ·subst e; exact⟨w0,o,cC,mu⟩
  ·obtain ⟨h1,o2,h2,h3⟩:=p.wm b z
   exact⟨h1,o2,by rw [aZ e]; exact h2,h3⟩
 ·rcases i9 h with ⟨rfl,hl,e⟩ | ⟨hne,h⟩
  ·cases e
   exact⟨_,ha,a,rfl,wa,r⟩
  ·obtain ⟨u,e,q⟩:=p.sl j m h
   refine⟨u,e,?_⟩
   cases m with
   | sh g y=>exact aA.keep (kp g) q
   | own y=>
    obtain ⟨b,e1,e2,q⟩:=q
    have hb:b ≠ a:=fun z=>by
     subst e1
     rw [z] at e
     exact hne (p.dis j i _ _ a h hi e ha)
    exact⟨b,e1,e2,q.keep (kp true) fun o z=>by rw [aZ hb]; exact z⟩
 ·have g1:∃ y,ρ[j]? = some (some (.own y)):=by
   rcases i9 h1 with ⟨e,_,_⟩ | ⟨_,h⟩
   ·exact⟨x,by rw [e]; exact hi⟩
   ·exact⟨_,h⟩
  have g2:∃ y,ρ[k]? = some (some (.own y)):=by
   rcases i9 h2 with ⟨e,_,_⟩ | ⟨_,h⟩
   ·exact⟨x,by rw [e]; exact hi⟩
   ·exact⟨_,h⟩
  obtain ⟨y1,g1⟩:=g1
  obtain ⟨y2,g2⟩:=g2
  exact p.dis j k y1 y2 b g1 g2 h3 h4
theorem Ev.upd {a:Addr}{o:HO} (wa:W a):Ev W H W (upd H a o):=fun b u e n=>⟨by rw [aZ (fun z=>n (by rw [z]; exact wa))]; exact e,n⟩
end
section
variable {X : Cx} {σ : St} {H : Hp} {D : dM} {te : aB} {t u : aS}
def cI:aS:=fun D ρ=>D.nx ρ
def aL (t u:aS):aS:=fun D ρ=>t { D with nx:=u D } ρ
theorem ao2 (h:LS X cI D σ H):wN D σ H:=by
 obtain ⟨W,ρ,D',px,q,k⟩:=h
 exact k.nx W σ H ρ (Ev.refl _ _) px q
theorem ao3 (h:LS X (aL t u) D σ H):wO (LS X t) (LS X u) D σ H:=by
 obtain ⟨W,ρ,D',px,q,k⟩:=h
 exact⟨W,ρ,_,px,q,fun W' σ' H' ρ' e px' q'=>⟨W',ρ',D',px',q',k.step e⟩,k.rt,k.bk,k.ct⟩
def tO:Tg->PV->Bool
 | .fr,_=>true
 | .nw,_=>true
 | _,x=>flat x
def tP:Tg->PV->Prop
 | .rd,x=>flat x=true
 | _,_=>True
theorem zM {K:PySem.W.Frag}{H0 Hs H:Hp}{W:Addr->Prop}{σ:St}{ρ:bE}{g:Tg}{x:PV}{v:V} (px:PX K H0 W σ ρ Hs) (n:tP g x) (r:aA K (Mg H0 W Hs g) H v x):aA K (Ms H0 W (tO g x)) H v x:=by
 cases g with
 | fr=>exact Nw.rep (g:=.fr) px trivial r
 | nw=>exact Nw.rep (g:=.nw) px trivial r
 | sh=>
  show aA K (Ms H0 W (flat x)) H v x
  cases e:flat x with
  | true=>exact r.flat e
  | false=>exact r.same (aC.refl _) fun _ z=>z
 | rd=>exact r.flat n
def bH (i:Nat) (te:aB):aS:=fun D ρ=>te ρ fun x g=>tP g x/\D.nx (ρ.set i (some (.sh (tO g x) x)))
theorem ao4 {i:Nat} (h:LS X (bH i te) D σ H):mF (LE X te) (dD i) D σ H:=by
 obtain ⟨W,ρ,D',px,q,k⟩:=h
 refine⟨W,ρ,_,px,q,?_⟩
 rintro v H1 x g s r ⟨n,q⟩
 exact k.nx W _ H1 _ (Ev.same s) ((px.mono s).setSh (zM px n r)) q
def zN:PV->Bool
 | .lst xs=>flats xs
 | .dK ps=>flats (ps.map (·.2))
 | .dT ps=>flats (ps.map (·.2))
 | _=>false
theorem ao5 {K:PySem.W.Frag}{M:Addr->Prop}{H:Hp}{v:V}{x:PV} (r:aA K M H v x) (o:zN x=true):∃ a,v = .ref a/\M a/\∀ M',gO K M' H a x:=by
 cases r with
 | lst m e r=>exact⟨_,rfl,m,fun _=>⟨_,e,r.flat o⟩⟩
 | dK m e q r=>exact⟨_,rfl,m,fun _=>⟨_,e,q,r.flat o⟩⟩
 | dT m e q r=>exact⟨_,rfl,m,fun _=>⟨_,e,q,r.flat o⟩⟩
 | _=>cases o
def gE (i:Nat) (te:aB):aS:=fun D ρ=>te ρ fun x g=>g = .fr/\zN x=true/\D.nx (ρ.set i (some (.own x)))
theorem ao6 {i:Nat} (h:LS X (gE i te) D σ H):mF (LE X te) (dD i) D σ H:=by
 obtain ⟨W,ρ,D',px,q,k⟩:=h
 refine⟨W,ρ,_,px,q,?_⟩
 rintro v H1 x g s r ⟨rfl,o,q⟩
 obtain ⟨a,rfl,m,w⟩:=ao5 r o
 exact k.nx _ _ H1 _ (Ev.own s m) (px.setOwn s m (w _)) q
def tQ (te:aB):aS:=fun D ρ=>te ρ fun _ _=>D.nx ρ
theorem ao7 (h:LS X (tQ te) D σ H):l0 (LE X te) D σ H:=by
 obtain ⟨W,ρ,D',px,q,k⟩:=h
 exact⟨W,ρ,_,px,q,fun v H1 x g s r q=>k.nx W σ H1 ρ (Ev.same s) (px.mono s) q⟩
def bJ (te:aB):aS:=fun D ρ=>te ρ fun x g=>Nw g x/\D.rt x
theorem ao8 (h:LS X (bJ te) D σ H):sA (LE X te) D σ H:=by
 obtain ⟨W,ρ,D',px,q,k⟩:=h
 refine⟨W,ρ,_,px,q,?_⟩
 rintro v H1 x g s r ⟨n,q⟩
 exact k.rt v H1 x (px.same.trans s) ((Nw.rep px n r).same (aC.refl _) fun _ z=>z.2) q
def Slot.nw:Slot->Prop
 | .own _=>True
 | .sh true _=>True
 | .sh false x=>flat x=true
def kE (i:Nat):aS:=fun D ρ=>∃ m,ρ[i]? = some (some m)/\m.nw/\D.rt m.val
theorem ao9 {i:Nat} (h:LS X (kE i) D σ H):sA (jX i) D σ H:=by
 obtain ⟨W,ρ,D',px,⟨m,hi,n,q⟩,k⟩:=h
 obtain ⟨v,ev,r⟩:=px.sl i _ hi
 refine⟨v,ev,k.rt v H _ px.same ?_ q⟩
 cases m with
 | own x=>
  obtain ⟨a,rfl,wa,r⟩:=r
  exact r.rep (fun _ z=>z.2) (px.wm a wa).1
 | sh g x=>
  cases g with
  | true=>exact aA.same r (aC.refl _) fun _ z=>z.2
  | false=>exact aA.flat n r
def cE (c:cH) (t u:aS):aS:=fun D ρ=>c ρ fun b=>if b=true then t D ρ else u D ρ
theorem ap0 {c:cH} (h:LS X (cE c t u) D σ H):wQ (LT X c) (LS X t) (LS X u) D σ H:=by
 obtain ⟨W,ρ,D',px,q,k⟩:=h
 refine⟨W,ρ,_,px,q,fun b H1 s q1=>?_⟩
 cases b with
 | true=>exact bC ⟨W,ρ,D',px.mono s,by simpa using q1,k.step (Ev.same s)⟩
 | false=>exact aY ⟨W,ρ,D',px.mono s,by simpa using q1,k.step (Ev.same s)⟩
def p9 (c:cH) (tb:aS):aS:=fun D ρ=>∃ I:Nat->bE->Prop,(∃ m,I m ρ)/\∀ m ρ',I m ρ'->c ρ' fun b=>if b=true then tb { D with nx:=fun ρ2=>∃ m',m' < m/\I m' ρ2,ct:=fun ρ2=>∃ m',m' < m/\I m' ρ2,bk:=D.nx } ρ' else D.nx ρ'
theorem ap1 {c:cH}{tb:aS} (h:LS X (p9 c tb) D σ H):wT (LT X c) (LS X tb) D σ H:=by
 obtain ⟨W,ρ,D',px,⟨I,⟨m0,i0⟩,turn⟩,k⟩:=h
 refine⟨fun m σ2 H2=>∃ W2 ρ2,PX X.K X.H₀ W2 σ2 ρ2 H2/\Ev W H W2 H2/\I m ρ2,⟨m0,W,ρ,px,Ev.refl _ _,i0⟩,?_⟩
 rintro m σ2 H2 ⟨W2,ρ2,px2,e2,i2⟩
 refine⟨W2,ρ2,_,px2,turn m ρ2 i2,fun b H3 s3 q3=>?_⟩
 cases b with
 | true=>
  refine bC ⟨fun σ4 H4=>∃ W4 ρ4,PX X.K X.H₀ W4 σ4 ρ4 H4/\Ev W H W4 H4/\∃ m',m' < m/\I m' ρ4,fun σ4 H4 ⟨W4,ρ4,a,b,m',c,d⟩=>⟨m',c,W4,ρ4,a,b,d⟩,W2,ρ2,_,px2.mono s3,by simpa using q3,?_⟩
  have e3:Ev W H W2 H3:=e2.trans (Ev.same s3)
  exact⟨fun W' σ' H' ρ' e p q=>⟨W',ρ',p,e3.trans e,q⟩,k.rt,fun W' σ' H' ρ' e p q=>k.nx W' σ' H' ρ' (e3.trans e) p q,fun W' σ' H' ρ' e p q=>⟨W',ρ',p,e3.trans e,q⟩⟩
 | false=>exact aY (k.nx W2 σ2 H3 ρ2 (e2.trans (Ev.same s3)) (px2.mono s3) (by simpa using q3))
end
theorem lim {n:Nat} (h:n<=16000000):n<=sizeLine:=bc6 (oV h)
theorem aA.sqT {K:PySem.W.Frag}{M:Addr->Prop}{H:Hp}{v:V}{xs:List PV} (r:aA K M H v (.tup xs)):∃ a us,v = .ref a/\H a=some (.tup us)/\Reps K M H us xs:=by
 cases r with
 | tup e r=>exact⟨_,_,rfl,e,r⟩
theorem aA.sqL {K:PySem.W.Frag}{M:Addr->Prop}{H:Hp}{v:V}{xs:List PV} (r:aA K M H v (.lst xs)):∃ a us,v = .ref a/\M a/\H a=some (.lst us)/\Reps K M H us xs:=by
 cases r with
 | lst m e r=>exact⟨_,_,rfl,m,e,r⟩
theorem iR.sqL {K:PySem.W.Frag}{H:Hp}{a:Addr}{ns:List Int} (h:iR K H a ns):aP K H a (ns.map V.int):=h.elim (fun z=>.inl (.inr z)) .inr
def jM:PV->Option (List PV)
 | .tup xs=>some xs
 | .lst xs=>some xs
 | .scr ns=>some (intz ns)
 | .kt xs=>some xs
 | _=>none
theorem aA.seq {K:PySem.W.Frag}{M:Addr->Prop}{H:Hp}{v:V}{x:PV}{xs:List PV} (r:aA K M H v x) (e:jM x=some xs):∃ a us,v = .ref a/\(aP K H a us ∨ aN K H a us)/\Reps K M H us xs:=by
 cases r with
 | tup h r=>cases e; exact⟨_,_,rfl,.inr (aN.of h),r⟩
 | lst m h r=>cases e; exact⟨_,_,rfl,.inl (aP.of h),r⟩
 | scr h=>cases e; exact⟨_,_,rfl,.inl h.sqL,Reps.intz _⟩
 | kt h r=>cases e; exact⟨_,_,rfl,.inr (.inr h),r⟩
 | _=>cases e
section
variable {X : Cx} {σ : St} {H : Hp} {D : dM} {te ti to : aB} {t u : aS} {Q' : VK}
theorem _root_.PP.PX.updL {K:PySem.W.Frag}{H0:Hp}{W:Addr->Prop}{σ:St}{ρ:bE}{H:Hp}{i:Nat}{a:Addr}{x:PV}{us:List V}{ys:List PV} (p:PX K H0 W σ ρ H) (hi:ρ[i]? = some (some (.own x))) (ha:σ[i]? = some (some (.ref a))) (wa:W a) (r:Reps K (Ms H0 W true) (upd H a (.lst us)) us ys) :
  PX K H0 W σ (ρ.set i (some (.own (.lst ys)))) (upd H a (.lst us)):=p.updOwn hi ha wa rfl (y:=.lst ys) ⟨us,cC,r⟩
def iT (i:Nat) (te:aB):aS:=fun D ρ=>∃ xs,ρ[i]? = some (some (.own (.lst xs)))/\te ρ fun x g=>Nw g x/\xs.length < 16000000/\D.nx (ρ.set i (some (.own (.lst (xs ++ [x])))))
theorem ap2 {i:Nat} (h:LS X (iT i te) D σ H):l0 (sR X.K "list" yD (jX i) (i7 (LE X te) jH)) D σ H:=by
 obtain ⟨W,ρ,D',px,⟨xs,hi,q⟩,k⟩:=h
 obtain ⟨v,ev,a,rfl,wa,us,ea,r⟩:=px.sl i _ hi
 refine⟨_,ev,tE (aP.of ea),W,ρ,_,px,q,?_⟩
 rintro w H1 x g s rx ⟨n,hl,q⟩
 have ea1:=s _ _ ea
 refine⟨a,us,w,rfl,rfl,ea1,oV (by rw [r.length]; omega),?_⟩
 refine k.nx W σ _ _ ((Ev.same s).trans (Ev.upd wa)) ((px.mono s).updL hi ev wa ?_) q
 exact ((r.same s fun _ z=>z).append (.cons (Nw.rep px n rx) .nil)).keep (.upd ea1 rfl fun b m=>⟨mT wa m,m⟩)
end
theorem Reps.atI {K:PySem.W.Frag}{M:Addr->Prop}{H:Hp}{us:List V}{xs:List PV}{i:Int}{z:PV} (r:Reps K M H us xs) (h:L2.atI xs i=some z):∃ v,L2.atI us i=some v/\aA K M H v z:=by
 unfold L2.atI at h ⊢
 rw [r.length]
 cases e:k7 xs.length i with
 | none=>rw [e] at h; cases h
 | some j=>rw [e] at h; exact r.at h
section
variable {X : Cx} {σ : St} {H : Hp} {Q' : VK} {ta tb te : aB} {tr : cL}
def tR:PV->Tg->PV->Tg->PK->Prop:=fun x g y _ Q=>∃ xs i z,jM x=some xs/\y = .int i/\L2.atI xs i=some z/\Q z g
theorem ap3:dY X tR (y9 X.K):=by
 rintro W Hs H u v x y g g' Q Q' s n r1 r2 ⟨xs,i,z,e,rfl,hz,q⟩ k
 cases r2
 obtain ⟨a,us,rfl,hs,r⟩:=r1.seq e
 obtain ⟨v,hv,rv⟩:=r.atI hz
 rcases hs with hs | hs
 ·exact .inl ⟨a,us,i,v,rfl,rfl,hs,hv,k v H z g (aC.refl _) rv q⟩
 ·exact .inr (.inl ⟨a,us,i,v,rfl,rfl,hs,hv,k v H z g (aC.refl _) rv q⟩)
def zO:PV->Option Nat
 | .tup xs=>some xs.length
 | .lst xs=>some xs.length
 | .scr ns=>some ns.length
 | .dK ps=>some ps.length
 | .kt xs=>some xs.length
 | _=>none
def eR:List PV->(PV->Prop)->Prop:=fun xs Q=>∃ x n,xs = [x]/\zO x=some n/\Q (.int n)
theorem Reps.one {K:PySem.W.Frag}{M:Addr->Prop}{H:Hp}{vs:List V}{x:PV} (r:Reps K M H vs [x]):∃ v,vs = [v]/\aA K M H v x:=by
 cases r with
 | cons r t=>cases t; exact⟨_,rfl,r⟩
theorem Reps.two {K:PySem.W.Frag}{M:Addr->Prop}{H:Hp}{vs:List V}{x y:PV} (r:Reps K M H vs [x,y]):∃ v w,vs = [v,w]/\aA K M H v x/\aA K M H w y:=by
 cases r with
 | cons r t=>
  obtain ⟨w,rfl,q⟩:=t.one
  exact⟨_,_,rfl,r,q⟩
theorem ap4:eI X eR (fun xs H Q=>(∃ p ys,xs = [.ref p]/\(aP X.K H p ys ∨ aN X.K H p ys)/\Q (.int ys.length) H) ∨ ∃ a kvs,xs = [V.ref a]/\H a=some (.dK kvs)/\Q (.int kvs.length) H):=by
 rintro H vs xs Q Q' r ⟨x,n,rfl,e,q⟩ k
 obtain ⟨v,rfl,r1⟩:=r.one
 have fin:∀ {m:Nat},m=n->Q' (.int m) H:=fun {m} z=>by rw [z]; exact k _ _ _ (aC.refl _) (.int _) q
 cases r1 with
 | tup h r2=>cases e; exact .inl ⟨_,_,rfl,.inr (aN.of h),fin r2.length⟩
 | lst m h r2=>cases e; exact .inl ⟨_,_,rfl,.inl (aP.of h),fin r2.length⟩
 | scr h=>cases e; exact .inl ⟨_,_,rfl,.inl h.sqL,fin (by rw [aS0])⟩
 | kt h r2=>cases e; exact .inl ⟨_,_,rfl,.inr (.inr h),fin r2.length⟩
 | dK m h e' r=>
  cases e
  refine .inr ⟨_,_,rfl,h,fin ?_⟩
  have:=congrArg List.length e'
  rw [aS0,aS0] at this
  exact this
 | _=>cases e
def pA:PV->Option (List PV)
 | .kt _=>none
 | x=>jM x
def zP:List PV->(PV->Prop)->Prop:=fun xs Q=>∃ x ys,xs = [x]/\pA x=some ys/\flats ys=true/\Q (.tup ys)
def pB:List PV->(PV->Prop)->Prop:=fun xs Q=>∃ x ys,xs = [x]/\jM x=some ys/\flats ys=true/\Q (.lst ys)
theorem ap5:eI X (fun xs Q=>zP xs Q/\∀ ns,xs ≠ [.scr ns]) (fun xs H Q=>∃ p ys,xs = [.ref p]/\((aP X.K H p ys/\∀ l,H l=none->Q (.ref l) (upd H l (.tup ys))) ∨ (aN X.K H p ys/\Q (.ref p) H))):=by
 rintro H vs xs Q Q' r ⟨⟨x,ys,rfl,e,f,q⟩,nsc⟩ k
 obtain ⟨v,rfl,r1⟩:=r.one
 cases r1 with
 | tup h r2=>cases e; exact⟨_,_,rfl,.inr ⟨aN.of h,k _ _ _ (aC.refl _) (.tup h (r2.flat f)) q⟩⟩
 | lst m h r2=>cases e; exact⟨_,_,rfl,.inl ⟨aP.of h,fun l hl=>k _ _ _ (bZ hl _) (.tup cC ((r2.flat f).same (bZ hl _) fun _ z=>z)) q⟩⟩
 | scr h=>exact absurd rfl (nsc _)
 | _=>cases e
theorem ap6:eI X pB (fun xs H Q=>∃ p ys,xs = [.ref p]/\(aP X.K H p ys ∨ aN X.K H p ys)/\∀ l,H l=none->Q (.ref l) (upd H l (.lst ys))):=by
 rintro H vs xs Q Q' r ⟨x,ys,rfl,e,f,q⟩ k
 obtain ⟨v,rfl,r1⟩:=r.one
 obtain ⟨a,us,rfl,hs,r2⟩:=r1.seq e
 exact⟨_,_,rfl,hs,fun l hl=>k _ _ _ (bZ hl _) (.lst hl cC ((r2.flat f).same (bZ hl _) fun _ z=>z)) q⟩
def pD:List PV->(PV->Prop)->Prop:=fun xs Q=>∃ bs:List Bool,xs = [.lst (bs.map PV.bl)]/\Q (.bl (bs.all id))
theorem Reps.ofBls {K:PySem.W.Frag}{M:Addr->Prop}{H:Hp}:∀ {ns:List Bool}{us:List V},Reps K M H us (ns.map PV.bl)->us=ns.map V.bl
 | [],_,.nil=>rfl
 | n :: r,_,.cons q t=>by
  cases q
  rw [Reps.ofBls t]; rfl
theorem ap7:eI X pD (fun xs H Q=>∃ (a:Addr) (bs:List Bool),xs = [.ref a]/\aP X.K H a (bs.map V.bl)/\Q (.bl (bs.all id)) H):=by
 rintro H vs xs Q Q' r ⟨bs,rfl,q⟩ k
 obtain ⟨v,rfl,r1⟩:=r.one
 obtain ⟨a,us,rfl,_,h,r2⟩:=r1.sqL
 obtain rfl:=r2.ofBls
 exact⟨a,bs,rfl,aP.of h,k _ _ _ (aC.refl _) (.bl _) q⟩
def mU:List PV->(PV->Prop)->Prop:=fun xs Q=>∃ i j,xs = [.int i,.int j]/\Q (.int (if j < i then j else i))
def lE:List PV->(PV->Prop)->Prop:=fun xs Q=>∃ i j,xs = [.int i,.int j]/\Q (.int (if j > i then j else i))
theorem ap8:eI X mU (fun xs H Q=>∃ i j,xs = [.int i,.int j]/\Q (.int (if j < i then j else i)) H):=by
 rintro H vs xs Q Q' r ⟨i,j,rfl,q⟩ k
 obtain ⟨v,w,rfl,r1,r2⟩:=r.two
 cases r1; cases r2
 exact⟨i,j,rfl,k _ _ _ (aC.refl _) (.int _) q⟩
theorem ap9:eI X lE (fun xs H Q=>∃ i j,xs = [.int i,.int j]/\Q (.int (if j > i then j else i)) H):=by
 rintro H vs xs Q Q' r ⟨i,j,rfl,q⟩ k
 obtain ⟨v,w,rfl,r1,r2⟩:=r.two
 cases r1; cases r2
 exact⟨i,j,rfl,k _ _ _ (aC.refl _) (.int _) q⟩
abbrev bO:=List PV->(PV->Prop)->Prop
def mV (K:PySem.W.Frag) (p:bO):Sp:=fun vs H Q _=>∃ xs Qp,Reps K (fun _=>True) H vs xs/\p xs Qp/\∀ v H' x,aC H H'->aA K (fun a=>H a=none) H' v x->Qp x->Q v H'
theorem aq0 {p:bO}{E:XK} (h:LE X (aG p tr) σ H Q'):sM (mV X.K p) [] E (LA X tr) σ H Q':=by
 obtain ⟨W,ρ,Q,px,q,k⟩:=h
 refine⟨W,ρ,_,px,q,fun vs H1 xs s1 r1 q1=>⟨_,_,by rw [aX8]; exact r1.any,q1,fun v H' x s2 r2 q2=>k v H' x .fr (s1.trans s2) (r2.same (aC.refl _) fun _ z=>s1.free z) q2⟩⟩
def tS:PV->Bool
 | .non=>true
 | _=>false
def tT (neg:Bool):PV->Tg->PV->Tg->PK->Prop:=fun x _ y _ Q=>y = .non/\Q (.bl (if neg=true then !tS x else tS x)) .fr
theorem aq1 {K:PySem.W.Frag}{M:Addr->Prop}{H:Hp}{v:V}{x:PV} (r:aA K M H v x):decide (v = .non)=tS x:=by
 cases r <;> rfl
theorem aq2:dY X (tT true) (fun x y H Q=>y = .non/\Q (.bl (!decide (x = .non))) H):=by
 rintro W Hs H u v x y g g' Q Q' s n r1 r2 ⟨rfl,q⟩ k
 cases r2
 exact⟨rfl,by rw [aq1 r1]; exact k _ _ _ _ (aC.refl _) (.bl _) q⟩
end
structure jN (K:PySem.W.Frag) (H0:Hp) (W:Addr->Prop) (g:Bool) (H1:Hp) (J:It) (xs:List PV):Prop where
 go:∀ W' H' i,Ev W H1 W' H'->i < xs.length->J.go i H'
 yld:∀ W' H' i v H2,Ev W H1 W' H'->J.yld i H' v H2->i < xs.length->aC H' H2/\∃ x,xs[i]? = some x/\aA K (Ms H0 W' g) H2 v x
 stop:∀ W' H',Ev W H1 W' H'->J.stop xs.length H'
abbrev e9:=bE->(List PV->Bool->Prop)->Prop
def LI (X:Cx) (t:e9):TI:=fun σ H R=>∃ (W:Addr->Prop) (ρ:bE) (Q:List PV->Bool->Prop),PX X.K X.H₀ W σ ρ H/\t ρ Q/\∀ J H1 xs g,aC H H1->jN X.K X.H₀ W g H1 J xs->Q xs g->R J H1
theorem Ev.keep {H0:Hp}{W W':Addr->Prop}{H H':Hp}{g:Bool} (e:Ev W H W' H') (tw:∀ a,W a->∃ o,H a=some o/\eQ o=true):i8 (Ms H0 W g) (Ms H0 W' g) H H':=by
 have m:∀ {a:Addr}{o:HO},Ms H0 W g a->H a=some o->Ms H0 W' g a/\H' a=some o:=fun {a o} z h=>by
  cases g with
  | true=>
   obtain ⟨h1,h2⟩:=e a _ h z.1
   exact⟨⟨h2,z.2⟩,h1⟩
  | false=>
   obtain ⟨h1,h2⟩:=e a _ h z
   exact⟨h2,h1⟩
 refine⟨fun a _ z h=>m z h,fun a _ z h=>m z h,fun a _ z h=>m z h,fun a _ h=>(e a _ h fun z=>?_).1,fun a _ _ h=>(e a _ h fun z=>?_).1⟩
 ·obtain ⟨o,h',mu⟩:=tw a z; rw [h] at h'; cases h'; cases mu
 ·obtain ⟨o,h',mu⟩:=tw a z; rw [h] at h'; cases h'; cases mu
section
variable {X : Cx} {σ : St} {H : Hp} {te : aB} {tr : cL} {R : It → Hp → Prop}
def zQ (K:PySem.W.Frag) (tl:TE):TI:=fun σ H R=>tl σ H fun x H1=>∃ a,x = .ref a/\((∃ xs,aP K H1 a xs/\R (sD K a) H1) ∨ (∃ xs,aN K H1 a xs/\R (sE K a) H1))
def pE:Tg->List PV->Bool
 | .fr,_=>true
 | .nw,_=>true
 | _,xs=>flats xs
def fM (te:aB):e9:=fun ρ Q=>te ρ fun x g=>∃ xs,jM x=some xs/\(g = .rd->flat x=true)/\Q xs (pE g xs)
theorem zR {K:PySem.W.Frag}{H0:Hp}{W:Addr->Prop}{g:Bool}{H1:Hp}{a:Addr}{us:List V}{xs:List PV} (tw:∀ a,W a->∃ o,H1 a=some o/\eQ o=true) (ha:∀ W' H',Ev W H1 W' H'->aP K H' a us) (r:Reps K (Ms H0 W g) H1 us xs):jN K H0 W g H1 (sD K a) xs:=by
 have lr:=r.length
 refine⟨fun W' H' i e hi=>⟨us,us[i]'(by omega),ha W' H' e,by simp⟩,fun W' H' i v H2 e y hi=>?_,fun W' H' e=>⟨us,ha W' H' e,by omega⟩⟩
 obtain ⟨rfl,y⟩:=y
 obtain ⟨x,hx,rx⟩:=r.get (y us (ha W' _ e))
 exact⟨aC.refl _,x,hx,rx.keep (e.keep tw)⟩
theorem zS {K:PySem.W.Frag}{H0:Hp}{W:Addr->Prop}{g:Bool}{H1:Hp}{a:Addr}{us:List V}{xs:List PV} (tw:∀ a,W a->∃ o,H1 a=some o/\eQ o=true) (ha:∀ W' H',Ev W H1 W' H'->aN K H' a us) (r:Reps K (Ms H0 W g) H1 us xs):jN K H0 W g H1 (sE K a) xs:=by
 have lr:=r.length
 refine⟨fun W' H' i e hi=>⟨us,us[i]'(by omega),ha W' H' e,by simp⟩,fun W' H' i v H2 e y hi=>?_,fun W' H' e=>⟨us,ha W' H' e,by omega⟩⟩
 obtain ⟨rfl,y⟩:=y
 obtain ⟨x,hx,rx⟩:=r.get (y us (ha W' _ e))
 exact⟨aC.refl _,x,hx,rx.keep (e.keep tw)⟩
theorem lF {K:PySem.W.Frag}{H0 Hs H:Hp}{W:Addr->Prop}{σ:St}{ρ:bE}{g:Tg}{us:List V}{xs:List PV} (px:PX K H0 W σ ρ Hs) (hg:g = .rd->flats xs=true) (r:Reps K (Mg H0 W Hs g) H us xs):Reps K (Ms H0 W (pE g xs)) H us xs:=by
 cases g with
 | fr=>exact r.same (aC.refl _) fun _ z=>px.new z
 | nw=>exact r.same (aC.refl _) fun _ z=>z
 | sh=>
  show Reps K (Ms H0 W (flats xs)) H us xs
  cases e:flats xs with
  | true=>exact r.flat e
  | false=>exact r.same (aC.refl _) fun _ z=>z
 | rd=>exact r.flat (hg rfl)
theorem aq3 (h:LI X (fM te) σ H R):zQ X.K (LE X te) σ H R:=by
 obtain ⟨W,ρ,Q,px,q,k⟩:=h
 refine⟨W,ρ,_,px,q,?_⟩
 rintro v H1 x g s r ⟨xs,e,hg,q⟩
 have px1:=px.mono s
 have tw:∀ a,W a->∃ o,H1 a=some o/\eQ o=true:=fun a z=>(px1.wm a z).2
 cases r with
 | tup h r=>
  cases e
  refine⟨_,rfl,.inr ⟨_,aN.of h,k _ _ _ _ s (zS tw (fun W' H' e=>aN.of (e _ _ h fun z=>?_).1) (lF px (fun z=>by have:=hg z; unfold flat at this; exact this) r)) q⟩⟩
  obtain ⟨o,h',mu⟩:=tw _ z; rw [h] at h'; cases h'; cases mu
 | @lst a us xs' m h r=>
  cases e
  have wa : ¬ W a:=by
   cases g with
   | fr=>exact (px.new m).1
   | nw=>exact m.1
   | sh=>exact m
   | rd=>have:=hg rfl; unfold flat at this; cases this
  exact⟨_,rfl,.inl ⟨_,aP.of h,k _ _ _ _ s (zR tw (fun W' H' e=>aP.of (e _ _ h wa).1) (lF px (fun z=>by have:=hg z; unfold flat at this; cases this) r)) q⟩⟩
 | scr h=>
  cases e
  refine⟨_,rfl,.inl ⟨_,h.sqL,k _ _ _ _ s (zR tw (fun W' H' e=>(iR.keep (fun a o u hz=>(e _ _ hz fun z=>?_).1) h).sqL) (lF (g:=g) px (fun z=>tJ _) (Reps.intz _))) q⟩⟩
  obtain ⟨o,h',mu⟩:=tw _ z; rw [hz] at h'; cases h'; cases mu
 | kt h r=>
  cases e
  exact⟨_,rfl,.inr ⟨_,.inr h,k _ _ _ _ s (zS tw (fun W' H' e=>.inr h) (lF px (fun z=>by have:=hg z; unfold flat at this; exact this) r)) q⟩⟩
 | _=>cases e
def iU (lo:Int) (n:Nat):List PV:=(List.range n).map fun (i:Nat)=>PV.int (lo+(i:Int))
theorem iV (lo:Int) (n:Nat):(iU lo n).length=n:=by unfold iU; rw [aS0,List.length_range]
theorem zT {lo:Int}{n i:Nat} (h:i < n):(iU lo n)[i]? = some (.int (lo+i)):=by unfold iU; rw [aS8,List.getElem?_range h]; rfl
def lG (te:aB):e9:=fun ρ Q=>te ρ fun x _=>∃ j:Int,x = .int j/\-1000000<=j/\j<=1000000/\Q (iU 0 j.toNat) true
def pF (ta tb:aB):e9:=fun ρ Q=>ta ρ fun x _=>tb ρ fun y _=>∃ i j:Int,x = .int i/\y = .int j/\(-1000000<=i/\i<=1000000/\-1000000<=j/\j<=1000000)/\Q (iU i (j - i).toNat) true
theorem zU {K:PySem.W.Frag}{H0:Hp}{W:Addr->Prop}{H1:Hp} (lo:Int) (n:Nat):jN K H0 W true H1 (mG lo n) (iU lo n):=by
 refine⟨fun W' H' i e hi=>by rw [iV] at hi; exact hi,fun W' H' i v H2 e y hi=>?_,fun W' H' e=>by show n<=(iU lo n).length; rw [iV]; exact aR8 _⟩
 rw [iV] at hi
 obtain ⟨rfl,rfl⟩:=y
 exact⟨aC.refl _,_,zT hi,.int _⟩
theorem aq4 (h:LI X (lG te) σ H R):wW (i7 (LE X te) jH) σ H R:=by
 obtain ⟨W,ρ,Q,px,q,k⟩:=h
 refine⟨W,ρ,_,px,q,?_⟩
 rintro v H1 x g s r ⟨j,rfl,h1,h2,q⟩
 cases r
 exact⟨j,rfl,by omega,by omega,k _ _ _ _ s (zU 0 j.toNat) q⟩
theorem aq5 {ta tb:aB} (h:LI X (pF ta tb) σ H R):wX (i7 (LE X ta) (i7 (LE X tb) jH)) σ H R:=by
 obtain ⟨W,ρ,Q,px,q,k⟩:=h
 refine⟨W,ρ,_,px,q,fun v H1 x g s r q=>⟨W,ρ,_,px.mono s,q,?_⟩⟩
 rintro w H2 y g' s2 r2 ⟨i,j,rfl,rfl,h,q⟩
 cases r; cases r2
 exact⟨i,j,rfl,by omega,k _ _ _ _ (s.trans s2) (zU i (j - i).toNat) q⟩
end
abbrev gS:=PV->Bool->bE->(bE->Prop)->Prop
def kF (K:PySem.W.Frag) (own:Nat->Prop) (p:gS) (t:TG):Prop:=∀ (H0:Hp) (W:Addr->Prop) (σ:St) (ρ:bE) (H:Hp) (v:V) (x:PV) (g:Bool) (Q:bE->Prop) (Q':St->Hp->Prop),
 PX K H0 W σ ρ H->aA K (Ms H0 W g) H v x->p x g ρ Q->(∀ σ' ρ',PX K H0 W σ' ρ' H->(∀ i,¬ own i->σ'[i]? = σ[i]?)->σ'.length=σ.length->Q ρ'->Q' σ' H)->t v σ H Q'
def cO (i:Nat):gS:=fun x g ρ Q=>Q (ρ.set i (some (.sh (g || flat x) x)))
theorem jO {K:PySem.W.Frag}{H0 H:Hp}{W:Addr->Prop}{v:V}{x:PV}{g:Bool} (r:aA K (Ms H0 W g) H v x):aA K (Ms H0 W (g || flat x)) H v x:=by
 cases g with
 | true=>exact r
 | false=>
  show aA K (Ms H0 W (flat x)) H v x
  cases e:flat x with
  | true=>exact r.flat e
  | false=>exact r
theorem tU (K:PySem.W.Frag) (i:Nat):kF K (· = i) (cO i) (dD i):=by
 intro H0 W σ ρ H v x g Q Q' px r q k
 exact k _ _ (px.setSh (jO r)) (fun j hj=>by rw [aT8 (Ne.symm hj)]) (bc1 ..) q
def iW (i j:Nat):gS:=fun x g ρ Q=>∃ y z,x = .tup [y,z]/\Q ((ρ.set i (some (.sh (g || flat y) y))).set j (some (.sh (g || flat z) z)))
theorem tV (K:PySem.W.Frag) (i j:Nat):kF K (fun k=>k=i ∨ k=j) (iW i j) (l5 K 2 (fB (dD i) (fB (dD j) l4))):=by
 intro H0 W σ ρ H v x g Q Q' px r q k
 obtain ⟨y,z,rfl,q⟩:=q
 obtain ⟨a,us,rfl,h,r⟩:=r.sqT
 obtain ⟨u1,u2,rfl,r1,r2⟩:=r.two
 refine⟨a,_,rfl,aN.of h,rfl,u1,_,rfl,u2,_,rfl,rfl,k _ _ ((px.setSh (jO r1)).setSh (jO r2)) (fun k hk=>?_) (by rw [bc1,bc1]) q⟩
 rw [aT8 (fun e=>hk (.inr e.symm)),aT8 (fun e=>hk (.inl e.symm))]
section
variable {X : Cx} {σ : St} {H : Hp} {D : dM}
def dI (ti:e9) (p:gS) (tb:aS):aS:=fun D ρ=>ti ρ fun xs g=>∃ I:Nat->bE->Prop,I 0 ρ/\(∀ i x ρ',xs[i]? = some x->I i ρ'->p x g ρ' fun ρ2=>tb { D with nx:=I (i+1),ct:=I (i+1),bk:=D.nx } ρ2)/\∀ ρ',I xs.length ρ'->D.nx ρ'
theorem aq6 {ti:e9}{p:gS}{g:TG}{tb:aS}{own:Nat->Prop} (hg:kF X.K own p g) (h:LS X (dI ti p tb) D σ H):wY (LI X ti) g (LS X tb) D σ H:=by
 obtain ⟨W,ρ,D',px,q,k⟩:=h
 refine⟨W,ρ,_,px,q,?_⟩
 rintro J H1 xs gb s it ⟨I,i0,turn,fin⟩
 refine⟨fun i m σ2 H2=>m=xs.length - i/\i<=xs.length/\∃ W2 ρ2,PX X.K X.H₀ W2 σ2 ρ2 H2/\Ev W H1 W2 H2/\I i ρ2,⟨xs.length,by omega,aZ6 _,W,ρ,px.mono s,Ev.refl _ _,i0⟩,?_⟩
 rintro i m σ2 H2 ⟨rfl,hi,W2,ρ2,px2,e2,i2⟩
 have e0:Ev W H W2 H2:=(Ev.same s).trans e2
 by_cases hlt:i < xs.length
 ·refine .inr ⟨it.go W2 H2 i e2 hlt,fun σ3 H3=>∃ W3 ρ3,PX X.K X.H₀ W3 σ3 ρ3 H3/\Ev W H1 W3 H3/\I (i+1) ρ3,fun σ3 H3 ⟨W3,ρ3,a,b,c⟩=>⟨xs.length - (i+1),by omega,rfl,hlt,W3,ρ3,a,b,c⟩,fun v H3 y=>?_⟩
  obtain ⟨s3,x,hx,rx⟩:=it.yld W2 H2 i v H3 e2 y hlt
  refine hg X.H₀ W2 σ2 ρ2 H3 v x gb _ _ (px2.mono s3) rx (turn i x ρ2 hx i2) fun σ4 ρ4 px4 _ _ q4=>?_
  have e3:Ev W H1 W2 H3:=e2.trans (Ev.same s3)
  have e3':Ev W H W2 H3:=e0.trans (Ev.same s3)
  exact⟨W2,ρ4,_,px4,q4,fun W' σ' H' ρ' e p q=>⟨W',ρ',p,e3.trans e,q⟩,k.rt,fun W' σ' H' ρ' e p q=>k.nx W' σ' H' ρ' (e3'.trans e) p q,fun W' σ' H' ρ' e p q=>⟨W',ρ',p,e3.trans e,q⟩⟩
 ·have e:i=xs.length:=by omega
  subst e
  exact .inl ⟨it.stop W2 H2 e2,k.nx W2 σ2 H2 ρ2 e0 px2 (fin ρ2 i2)⟩
end
def lH (fr:List (Option Nat)) (ρ:bE):bE:=fr.map fun o=>o.bind fun j=>(ρ[j]?).join.map fun m=>Slot.sh false m.val
def kG (D:Addr):Addr->Prop:=fun a=>a=D
theorem aq7 {K:PySem.W.Frag}{H0:Hp}{W:Addr->Prop}{σ:St}{ρ:bE}{H1 H':Hp}{D:Addr}{acc:List V}{fr:List (Option Nat)} (px:PX K H0 W σ ρ H1) (hD:H1 D=none) (s:aC H1 H') (ha:H' D=some (.lst acc)) :
  PX K H1 (kG D) (fG fr σ) (lH fr ρ) H':=by
 have old:∀ {a:Addr}{o:HO},H1 a=some o->a ≠ D:=fun {a o} e z=>by rw [z,hD] at e; cases e
 refine⟨by unfold fG lH; rw [aS0,aS0],s,fun a z=>by cases z; exact⟨hD,_,ha,rfl⟩,fun i m h=>?_,fun i j x y a h1=>?_⟩
 ·unfold lH at h
  rw [aS8] at h
  cases ef:fr[i]? with
  | none=>rw [ef] at h; cases h
  | some o=>
   rw [ef] at h
   cases o with
   | none=>cases h
   | some j=>
    have h:some ((ρ[j]?).join.map fun m=>Slot.sh false m.val)=some (some m):=h
    cases er:ρ[j]? with
    | none=>rw [er] at h; cases h
    | some o=>
     rw [er] at h
     cases o with
     | none=>cases h
     | some m0=>
      cases h
      obtain ⟨v,ev,r⟩:=px.sl j m0 er
      refine⟨v,?_,?_⟩
      ·unfold fG
       rw [aS8,ef]
       show some ((σ[j]?).join)=_
       rw [ev]; rfl
      ·have r':aA K (fun _=>True) H1 v m0.val:=(zH (Hs:=H1) r).same (aC.refl _) fun _ _=>trivial
       exact r'.keep ⟨fun a _ _ e=>⟨old e,s _ _ e⟩,fun a _ _ e=>⟨old e,s _ _ e⟩,fun a _ _ e=>⟨old e,s _ _ e⟩,fun _ _ e=>s _ _ e,fun _ _ _ e=>s _ _ e⟩
 ·unfold lH at h1
  rw [aS8] at h1
  cases ef:fr[i]? with
  | none=>rw [ef] at h1; cases h1
  | some o=>
   rw [ef] at h1
   cases o with
   | none=>cases h1
   | some j=>
    have h1:some ((ρ[j]?).join.map fun m=>Slot.sh false m.val)=some (some (Slot.own x)):=h1
    cases er:ρ[j]? with
    | none=>rw [er] at h1; cases h1
    | some o=>
     rw [er] at h1
     cases o with
     | none=>cases h1
     | some m0=>cases h1
section
variable {X : Cx} {σ : St} {H : Hp} {Q' : VK}
abbrev _root_.L2.Cx.frm (X:Cx) (H1:Hp):Cx:={ X with H₀:=H1 }
def jP (ti:e9) (fr:List (Option Nat)) (p:gS) (tc:cH) (te:aB):aB:=fun ρ Q=>ti ρ fun xs g=>xs.length<=16000000/\∃ I:Nat->List PV->Prop,I 0 []/\
 (∀ i x acc,xs[i]? = some x->I i acc->p x false (lH fr ρ) fun ρ2=>tc ρ2 fun b=>if b=true then te ρ2 fun y gy=>Nw gy y/\I (i+1) (acc ++ [y]) else I (i+1) acc)/\∀ acc,I xs.length acc->Q (.lst acc) .fr
theorem tW {ti:e9}{fr:List (Option Nat)}{p:gS}{g:TG}{tc:cH}{te:aB}{own:Nat->Prop} (hg:kF X.K own p g) (ho:∀ i,own i->fr[i]? = some none) (h:LE X (jP ti fr p tc te) σ H Q') :
  yY (LI X ti) fr (fun _=>g) (fun H1=>LT (X.frm H1) tc) (fun H1=>LE (X.frm H1) te) σ H Q':=by
 obtain ⟨W,ρ,Q,px,q,k⟩:=h
 refine⟨W,ρ,_,px,q,?_⟩
 rintro J H1 xs gb s it ⟨hl,I,i0,turn,fin⟩ D hD
 have px1:=px.mono s
 refine⟨fun i m acc H'=>m=xs.length - i/\i<=xs.length/\aC H1 H'/\H' D=some (.lst acc)/\∃ ys,Reps X.K (Ms H1 (kG D) true) H' acc ys/\ys.length<=i/\I i ys,⟨xs.length,by omega,aZ6 _,bZ hD _,cC,[],.nil,aR8 _,i0⟩,?_⟩
 rintro i m acc H' ⟨rfl,hi,sm,ha,ys,ry,hy,iy⟩
 refine⟨ha,?_⟩
 have ev:Ev W H1 (lD W D) H':=Ev.own sm hD
 by_cases hlt:i < xs.length
 ·refine .inr ⟨it.go _ H' i ev hlt,fun v H2 y=>?_⟩
  obtain ⟨s2,x,hx,rx⟩:=it.yld _ H' i v H2 ev y hlt
  have ha2:=s2 _ _ ha
  have pxb:PX X.K H1 (kG D) (fG fr σ) (lH fr ρ) H2:=aq7 px1 hD (sm.trans s2) ha2
  have rx':aA X.K (Ms H1 (kG D) false) H2 v x:=rx.same (aC.refl _) fun a z=>by
   cases gb with
   | true=>exact fun e=>z.1 (.inr e)
   | false=>exact fun e=>z (.inr e)
  refine hg H1 (kG D) _ _ H2 v x false _ _ pxb rx' (turn i x ys hx iy) fun σ2 ρ2 px2 hown hlen q2=>⟨⟨hlen.symm,fun j w e=>?_⟩,?_⟩
  ·by_cases oj:own j
   ·have:=ho j oj
    unfold fG at e
    rw [aS8,this] at e
    cases e
   ·rw [hown j oj]; exact e
  ·refine⟨kG D,ρ2,_,px2,q2,fun b H4 s4 q4=>?_⟩
   have ha4:=s4 _ _ ha2
   have sm4:=(sm.trans s2).trans s4
   cases b with
   | false=>
    refine aY ⟨xs.length - (i+1),by omega,rfl,hlt,sm4,ha4,ys,ry.same (s2.trans s4) fun _ z=>z,by omega,by simpa using q4⟩
   | true=>
    refine bC ⟨kG D,ρ2,_,px2.mono s4,by simpa using q4,?_⟩
    rintro w H5 y gy s5 ryy ⟨nw,q5⟩
    have ha5:=s5 _ _ ha4
    have lr:=ry.length
    refine⟨ha5,oV (by omega),xs.length - (i+1),by omega,rfl,hlt,fun b o e=>?_,cC,ys ++ [y],?_,by rw [aU1,ba0]; omega,q5⟩
    ·rw [aZ (fun z=>by rw [z,hD] at e; cases e)]
     exact s5 _ _ (sm4 _ _ e)
    ·exact ((ry.same ((s2.trans s4).trans s5) fun _ z=>z).append (.cons (Nw.rep (px2.mono s4) nw ryy) .nil)).keep (.upd ha5 rfl fun b m=>⟨m.1,m⟩)
 ·have e:i=xs.length:=by omega
  subst e
  refine .inl ⟨it.stop _ H' ev,k _ H' _ .fr (s.trans sm) (.lst (s.free hD) ha (ry.same (aC.refl _) fun _ z=>s.free z.2)) (fin ys iy)⟩
def iA:cH:=fun _ Q=>Q true
theorem aq8 {Qb:Bool->Hp->Prop} (h:LT X iA σ H Qb):yW σ H Qb:=by
 obtain ⟨W,ρ,Q,px,q,k⟩:=h
 exact k _ _ (aC.refl _) q
end
section
variable {κ : Type} [DecidableEq κ]
def bP (ps:List (κ × PV)) (k:κ):Option PV:=(ps.find? fun p=>decide (p.1=k)).map (·.2)
def dJ (ps:List (κ × PV)) (k:κ) (x:PV):List (κ × PV):=if (ps.any fun p=>decide (p.1=k))=true then ps.map (fun p=>if p.1=k then (p.1,x) else p) else ps ++ [(k,x)]
variable {K : PySem.W.Frag} {M : Addr → Prop} {H : Hp}
theorem iX (k:κ):∀ {kvs:List (κ × V)}{ps:List (κ × PV)},kvs.map (·.1)=ps.map (·.1)->Reps K M H (kvs.map (·.2)) (ps.map (·.2))->(bP ps k=none->eF kvs k=none)/\∀ x,bP ps k=some x->∃ v,eF kvs k=some v/\aA K M H v x
 | [],[],_,_=>⟨fun _=>rfl,fun x h=>by cases h⟩
 | [],_ :: _,e,_=>by cases e
 | _ :: _,[],e,_=>by cases e
 | (k1,v) :: kvs,(k2,x) :: ps,e,r=>by
  injection e with e1 e2
  have e1:k1=k2:=e1
  subst e1
  cases r with
  | cons r t=>
   obtain ⟨h1,h2⟩:=iX k e2 t
   unfold bP eF at h1 h2 ⊢
   by_cases e:k1=k
   ·simp only [bc0,e,decide_true,Option.map_some]
    exact⟨fun z=>(by cases z),fun y z=>(by cases z; exact⟨v,rfl,r⟩)⟩
   ·simp only [bc0,e,decide_false]
    exact⟨h1,h2⟩
theorem aq9 (k:κ) {kvs:List (κ × V)}{ps:List (κ × PV)} (e:kvs.map (·.1)=ps.map (·.1)):(kvs.any fun p=>decide (p.1=k))=ps.any fun p=>decide (p.1=k):=by
 have h1:(kvs.any fun p=>decide (p.1=k))=(kvs.map (·.1)).any fun z=>decide (z=k):=by rw [List.any_map]; rfl
 have h2:(ps.any fun p=>decide (p.1=k))=(ps.map (·.1)).any fun z=>decide (z=k):=by rw [List.any_map]; rfl
 rw [h1,h2,e]
theorem zV (k:κ) {w:V}{y:PV} (q:aA K M H w y):∀ {kvs:List (κ × V)}{ps:List (κ × PV)},kvs.map (·.1)=ps.map (·.1)->Reps K M H (kvs.map (·.2)) (ps.map (·.2))->
  (kvs.map fun kv=>if kv.1=k then (kv.1,w) else kv).map (·.1)=(ps.map fun kv=>if kv.1=k then (kv.1,y) else kv).map (·.1)/\Reps K M H ((kvs.map fun kv=>if kv.1=k then (kv.1,w) else kv).map (·.2)) ((ps.map fun kv=>if kv.1=k then (kv.1,y) else kv).map (·.2))
 | [],[],_,_=>⟨rfl,.nil⟩
 | [],_ :: _,e,_=>by cases e
 | _ :: _,[],e,_=>by cases e
 | (k1,v) :: kvs,(k2,x) :: ps,e,r=>by
  injection e with e1 e2
  have e1:k1=k2:=e1
  subst e1
  cases r with
  | cons r t=>
   obtain ⟨h1,h2⟩:=zV k q e2 t
   by_cases e:k1=k
   ·simp only [aW3,e,if_true]
    exact⟨by rw [h1],.cons q h2⟩
   ·simp only [aW3,e,aY3]
    exact⟨by rw [h1],.cons r h2⟩
theorem ar0 (k:κ) {w:V}{y:PV} (q:aA K M H w y) {kvs:List (κ × V)}{ps:List (κ × PV)} (e:kvs.map (·.1)=ps.map (·.1)) (r:Reps K M H (kvs.map (·.2)) (ps.map (·.2))) :
  (eN kvs k w).map (·.1)=(dJ ps k y).map (·.1)/\Reps K M H ((eN kvs k w).map (·.2)) ((dJ ps k y).map (·.2)):=by
 unfold eN dJ
 rw [aq9 k e]
 split
 ·exact zV k q e r
 ·rw [aT7,aT7,aT7,aT7,e]
  exact⟨rfl,r.append (.cons q .nil)⟩
end
def kP:aH->PV
 | .inl i=>.int i
 | .inr x=>.str x
theorem zW {K:PySem.W.Frag}{M:Addr->Prop}{H:Hp}{v:V}{k:aH} (r:aA K M H v (kP k)):v=kV k:=by
 cases k with
 | inl i=>cases r; rfl
 | inr x=>cases r; rfl
theorem pG {K:PySem.W.Frag}{M:Addr->Prop}{H:Hp}:∀ {ks:List aH}{us:List V},Reps K M H us (ks.map kP)->us=ks.map kV
 | [],_,.nil=>rfl
 | k :: r,_,.cons q t=>by rw [zW q,pG t]; rfl
def zX:PV->PV
 | .fK ps=>.dK ps
 | .fT ps=>.dT ps
 | x=>x
def tX (x y:PV) (o:Option PV):Prop:=(∃ ps k,zX x = .dK ps/\y=kP k/\o=bP ps k) ∨ (∃ ps k,zX x = .dT ps/\y = .tup (k.map kP)/\o=bP ps k)
theorem tY {K:PySem.W.Frag}{M M2:Addr->Prop}{H:Hp}{v w:V}{x y:PV}{o:Option PV} (h:tX x y o) (rx:aA K M H v x) (ry:aA K M2 H w y):∃ a o',v = .ref a/\eO H a w o'/\(o=none->o'=none)/\∀ z,o=some z->∃ u,o'=some u/\aA K M H u z:=by
 rcases h with ⟨ps,k,ex,rfl,rfl⟩ | ⟨ps,k,ex,rfl,rfl⟩
 ·obtain rfl:=zW ry
  cases rx with
  | dK m h e r=>cases ex; exact⟨_,_,rfl,eO.k h,(iX k e r).1,(iX k e r).2⟩
  | fK h e r=>cases ex; exact⟨_,_,rfl,.inl ⟨_,k,.inr ⟨_,h⟩,rfl,rfl⟩,(iX k e r).1,(iX k e r).2⟩
  | _=>cases ex
 ·obtain ⟨b,us,rfl,hb,rb⟩:=ry.sqT
  obtain rfl:=pG rb
  cases rx with
  | dT m h e r=>cases ex; exact⟨_,_,rfl,eO.t h hb,(iX k e r).1,(iX k e r).2⟩
  | fT h e r=>cases ex; exact⟨_,_,rfl,.inr ⟨_,k,b,.inr ⟨_,h⟩,rfl,hb,rfl⟩,(iX k e r).1,(iX k e r).2⟩
  | _=>cases ex
section
variable {X : Cx} {σ : St} {H : Hp} {D : dM} {tk td te : aB} {Q' : VK}
def mW (neg:Bool) (tk td:aB):aB:=fun ρ Q=>tk ρ fun y _=>td ρ fun x _=>∃ o,tX x y o/\Q (.bl (if neg=true then !o.isSome else o.isSome)) .fr
theorem ar1 {α β:Type}{o:Option α}{o':Option β}{P:β->α->Prop} (h1:o=none->o'=none) (h2:∀ z,o=some z->∃ u,o'=some u/\P u z):o'.isSome=o.isSome:=by
 cases o with
 | none=>rw [h1 rfl]; rfl
 | some z=>obtain ⟨u,e,_⟩:=h2 z rfl; rw [e]; rfl
theorem ar2 (h:LE X (mW true tk td) σ H Q'):yN (LE X tk) (LE X td) σ H Q':=by
 obtain ⟨W,ρ,Q,px,q,k⟩:=h
 refine⟨W,ρ,_,px,q,fun w H1 y g s r q=>⟨W,ρ,_,px.mono s,q,?_⟩⟩
 rintro v H2 x g' s2 r2 ⟨o,ak,q⟩
 obtain ⟨a,o',rfl,dg,h1,h2⟩:=tY ak r2 (r.same s2 fun _ z=>z)
 refine⟨a,o',rfl,dg,?_⟩
 rw [ar1 h1 h2]
 exact k _ _ _ .fr (s.trans s2) (.bl _) q
def tZ (td tk:aB):aB:=fun ρ Q=>td ρ fun x g=>tk ρ fun y _=>∃ z,tX x y (some z)/\Q z g
theorem ar3 (h:LE X (tZ td tk) σ H Q'):yM (LE X td) (LE X tk) σ H Q':=by
 obtain ⟨W,ρ,Q,px,q,k⟩:=h
 refine⟨W,ρ,_,px,q,fun v H1 x g s r q=>⟨W,ρ,_,px.mono s,q,?_⟩⟩
 rintro w H2 y g' s2 r2 ⟨z,ak,q⟩
 obtain ⟨a,o',rfl,dg,h1,h2⟩:=tY ak (r.same s2 fun _ z=>z) r2
 obtain ⟨u,rfl,ru⟩:=h2 z rfl
 exact⟨a,u,rfl,dg,k _ _ _ g (s.trans s2) ru q⟩
theorem PX.updT {K:PySem.W.Frag}{H0:Hp}{W:Addr->Prop}{σ:St}{ρ:bE}{H:Hp}{i:Nat}{a:Addr}{x:PV}{kvs:List (List aH × V)}{ps:List (List aH × PV)} (p:PX K H0 W σ ρ H) (hi:ρ[i]? = some (some (.own x))) (ha:σ[i]? = some (some (.ref a))) (wa:W a)
  (r:kvs.map (·.1)=ps.map (·.1)/\Reps K (Ms H0 W true) (upd H a (.dT kvs)) (kvs.map (·.2)) (ps.map (·.2))):PX K H0 W σ (ρ.set i (some (.own (.dT ps)))) (upd H a (.dT kvs)):=p.updOwn hi ha wa rfl (y:=.dT ps) ⟨kvs,cC,r⟩
theorem ar4 {κ α β:Type}{l:List (κ × α)}{m:List (κ × β)} (e:l.map (·.1)=m.map (·.1)):l.length=m.length:=by
 have:=congrArg List.length e
 rw [aS0,aS0] at this
 exact this
def kH (i:Nat) (tk te:aB):aS:=fun D ρ=>te ρ fun z g=>∃ ps,ρ[i]? = some (some (.own (.dT ps)))/\tk ρ fun y _=>∃ k,y = .tup (k.map kP)/\Nw g z/\ps.length < 16000000/\D.nx (ρ.set i (some (.own (.dT (dJ ps k z)))))
theorem ar5 {i:Nat} (h:LS X (kH i tk te) D σ H):yO (jX i) (LE X tk) (LE X te) D σ H:=by
 obtain ⟨W,ρ,D',px,q,k⟩:=h
 refine⟨W,ρ,_,px,q,?_⟩
 rintro w H1 z g s rz ⟨ps,hi,q⟩
 obtain ⟨v,ev,a,rfl,wa,kvs,ea,e1,r⟩:=(px.mono s).sl i _ hi
 refine⟨_,ev,W,ρ,_,px.mono s,q,?_⟩
 rintro kv H2 y g' s2 ry ⟨kk,rfl,nw,hl,q⟩
 obtain ⟨b,us,rfl,hb,rb⟩:=ry.sqT
 obtain rfl:=pG rb
 have ea2:=s2 _ _ ea
 refine⟨a,_,rfl,mP.t ea2 hb (oV (by rw [ar4 e1]; omega)),?_⟩
 refine k.nx W σ _ _ ((Ev.same (s.trans s2)).trans (Ev.upd wa)) ((px.mono (s.trans s2)).updT hi ev wa ?_) q
 obtain ⟨h1,h2⟩:=ar0 kk ((Nw.rep px nw rz).same s2 fun _ z=>z) e1 (r.same s2 fun _ z=>z)
 exact⟨h1,h2.keep (.upd ea2 rfl fun b m=>⟨mT wa m,m⟩)⟩
theorem ar6 (h:LE X (qC (.dT [])) σ H Q'):yP σ H Q':=by
 obtain ⟨W,ρ,Q,px,q,k⟩:=h
 exact fun p hp=>k _ _ _ .fr (bZ hp _) (.dT hp cC rfl .nil) q
end
def bL:Nat->PV->PV->Bool
 | _,.non,.non=>true
 | _,.bl a,.bl b=>a == b
 | _,.int a,.int b=>a == b
 | _,.str a,.str b=>a == b
 | n+1,.tup xs,.tup ys=>(xs.zip ys).all (fun p=>bL n p.1 p.2) && xs.length == ys.length
 | n+1,.lst xs,.lst ys=>(xs.zip ys).all (fun p=>bL n p.1 p.2) && xs.length == ys.length
 | n+1,.kt xs,.kt ys=>(xs.zip ys).all (fun p=>bL n p.1 p.2) && xs.length == ys.length
 | _,_,_=>false
def cM:Nat->PV->PV->Bool
 | _,.non,.non=>true
 | _,.bl _,.bl _=>true
 | _,.int _,.int _=>true
 | _,.str _,.str _=>true
 | _,.non,.int _=>true
 | _,.int _,.non=>true
 | n+1,.tup xs,.tup ys=>(xs.zip ys).all (fun p=>cM n p.1 p.2)
 | n+1,.lst xs,.lst ys=>(xs.zip ys).all (fun p=>cM n p.1 p.2)
 | n+1,.kt xs,.kt ys=>(xs.zip ys).all (fun p=>cM n p.1 p.2)
 | _+1,.non,.tup _=>true
 | _+1,.tup _,.non=>true
 | _,_,_=>false
theorem ar7 (n:Nat) (a b:Int):bL n (.int a) (.int b)=(a == b):=by cases n <;> rfl
theorem zY (n:Nat):∀ (a b:List Int),((((intz a).zip (intz b)).all fun p=>bL n p.1 p.2) && (intz a).length == (intz b).length)=decide (a=b)
 | [],[]=>rfl
 | [],_ :: _=>by simp
 | _ :: _,[]=>by simp
 | x :: a,y :: b=>by
  have ih:=zY n a b
  simp only [aW3,aY4,bg0,aV5,ar7] at ih ⊢
  by_cases e:x=y
  ·subst e
   have:((intz a).length+1 == (intz b).length+1)=((intz a).length == (intz b).length):=by simp
   rw [this,aZ3,Bool.true_and,ih]
   simp
  ·have:(x == y)=false:=beq_eq_false_iff_ne.mpr e
   rw [this,bb8,bb8]
   simp [e]
theorem u5 (n:Nat) (a b:List Int):bL (n+1) (.tup (intz a)) (.tup (intz b))=decide (a=b):=zY n a b
theorem zZ (n:Nat):∀ (a b:List Int),(((intz a).zip (intz b)).all fun p=>cM n p.1 p.2)=true
 | [],_=>by simp
 | _ :: _,[]=>by simp
 | x :: a,y :: b=>by
  simp only [aW3,aY4,bg0,zZ n a b,Bool.and_true]
  cases n <;> rfl
theorem u6 (n:Nat) (a b:List Int):cM (n+1) (.tup (intz a)) (.tup (intz b))=true:=zZ n a b
def A0:PV->Option String
 | .non=>some "NoneType"
 | .bl _=>some "bool"
 | .int _=>some "int"
 | .str _=>some "str"
 | .tup _=>some "tuple"
 | .kt _=>some "tuple"
 | .lst _=>some "list"
 | _=>none
def gU (K:PySem.W.Frag) (n:String) (te:aB):aB:=fun ρ Q=>te ρ fun x _=>∃ T b,A0 x=some T/\PySem.W.kitOne K (.type T) (.type n)=some b/\Q (.bl b) .fr
def mX (n:Nat) (neg:Bool):PV->Tg->PV->Tg->PK->Prop:=fun x _ y _ Q=>((∃ xs ys,x = .tup xs/\y = .tup ys) ∨ (∃ xs ys,x = .lst xs/\y = .lst ys))/\cM (n+1) x y=true/\Q (.bl (if neg=true then !bL (n+1) x y else bL (n+1) x y)) .fr
abbrev lI:=bE->(Option Int->Prop)->Prop
def iB (xs:List PV) (lo hi:Option Int):List PV:=(xs.drop (HT.aT xs.length 0 lo)).take (HT.aT xs.length xs.length hi - HT.aT xs.length 0 lo)
def ar8:PV->List PV->PV
 | .tup _,ys=>.tup ys
 | .kt _,ys=>.tup ys
 | _,ys=>.lst ys
def pH:lI:=fun _ Q=>Q none
def pI (te:aB):lI:=fun ρ Q=>te ρ fun x _=>∃ i,x = .int i/\Q (some i)
def pJ (te:aB) (tl th:lI):aB:=fun ρ Q=>te ρ fun x _=>tl ρ fun lo=>th ρ fun hi=>∃ xs,pA x=some xs/\flats xs=true/\Q (ar8 x (iB xs lo hi)) .fr
def eB (N:List Str) (xs:List PV):bE:=xs.map (fun x=>some (.sh (flat x) x)) ++ List.replicate (N.length - xs.length) none
abbrev dR (ta tb:aB):aB:=q2 (dZ fun i j=>.int (i+j)) ta tb
abbrev gF (ta tb:aB):aB:=q2 (dZ fun i j=>.int (i - j)) ta tb
abbrev mY (ta tb:aB):aB:=q2 (RI mJ fun i j=>.int (i * j)) ta tb
abbrev fN (ta tb:aB):aB:=q2 (RI sH fun i j=>.int (i / j)) ta tb
abbrev cW (ta tb:aB):aB:=q2 (RI (fun _ j=>0 < j) fun i j=>.int (i % j)) ta tb
abbrev iC (ta tb:aB):aB:=q2 (dZ fun i j=>.bl (decide (i < j))) ta tb
abbrev qLe (ta tb:aB):aB:=q2 (dZ fun i j=>.bl (decide (i<=j))) ta tb
abbrev lJ (ta tb:aB):aB:=q2 (dZ fun i j=>.bl (decide (j < i))) ta tb
abbrev A1 (ta tb:aB):aB:=q2 (dZ fun i j=>.bl (decide (j<=i))) ta tb
abbrev pL (ta tb:aB):aB:=q2 (lC false) ta tb
abbrev u7 (ta tb:aB):aB:=q2 (lC true) ta tb
abbrev A2 (ta tb:aB):aB:=q2 (tT true) ta tb
abbrev aV (ta tb:aB):aB:=q2 tR ta tb
def lK:List PV->(PV->Prop)->Prop:=fun xs Q=>zP xs Q/\∀ ns,xs ≠ [.scr ns]
def QE (X:Cx) (e:Expr) (t:aB):Prop:=PE X e (LE X t)
def QT (X:Cx) (e:Expr) (t:cH):Prop:=PT X e (LT X t)
def QW (X:Cx) (e:Expr) (t:cH):Prop:=PW X e (LT X t)
def QA (X:Cx) (es:List Expr) (t:cL):Prop:=PA X es (LA X t)
def QS (X:Cx) (st:Stmt) (t:aS):Prop:=PS X st (LS X t)
def eJ (X:Cx) (st:List Stmt) (t:aS):Prop:=dP X st (LS X t)
def QI (X:Cx) (tg iter:Expr) (t:e9):Prop:=PI X tg iter (LI X t)
section
variable {X : Cx}
theorem cF {e:Expr}{t t':TE} (h:PE X e t) (m:∀ σ H Q,t' σ H Q->t σ H Q):PE X e t':=fun pins s σ H Q I q=>h pins s σ H Q I (m σ H Q q)
theorem mZ {e:Expr}{t t':TT} (h:PT X e t) (m:∀ σ H Q,t' σ H Q->t σ H Q):PT X e t':=fun pins s σ H Q I q=>h pins s σ H Q I (m σ H Q q)
theorem A3 {e:Expr}{t t':TT} (h:PW X e t) (m:∀ σ H Q,t' σ H Q->t σ H Q):PW X e t':=fun wh pins s σ H Q I q=>h wh pins s σ H Q I (m σ H Q q)
theorem A4 {e:List Expr}{t t':TA} (h:PA X e t) (m:∀ σ H Q,t' σ H Q->t σ H Q):PA X e t':=fun pos pins s σ H Q I q=>h pos pins s σ H Q I (m σ H Q q)
theorem eC {e:Stmt}{t t':TS} (h:PS X e t) (m:∀ D σ H,t' D σ H->t D σ H):PS X e t':=fun pins s σ H D I q=>h pins s σ H D I (m D σ H q)
theorem A5 {e:List Stmt}{t t':TS} (h:dP X e t) (m:∀ D σ H,t' D σ H->t D σ H):dP X e t':=fun pins s σ H D I q=>h pins s σ H D I (m D σ H q)
theorem nA {tg e:Expr}{t t':TI} (h:PI X tg e t) (m:∀ σ H R,t' σ H R->t σ H R):PI X tg e t':=fun pins s σ H R I q=>h pins s σ H R I (m σ H R q)
variable {a b c e o : Expr} {es cG : List Expr} {ta tb te to tk : aB} {tr : cL} {tA tB' tc : cH} {pos p2 px : Pos} {st : Stmt} {sts : List Stmt} {t u : aS}
theorem qv (i:Nat) {x:Str}{pos:Pos} (hN:X.N[i]? = some x:=by rfl) (hv:iL X.env.scope x:=by first | exact Or.inl rfl | exact Or.inr (Or.inl rfl) | exact Or.inr (Or.inr rfl)) (hd:(x == ("__debug__" : Str))=false:=by decide)
  (hcd:(x == ("__classdict__" : Str))=false:=by decide):QE X (.Name x pos) (a5 i):=cF (kZ hN hv hd hcd) fun _ _ _=>an0
theorem a9 {i j}:QE X (.Constant (.int i) j pos) (qC (.int i)):=cF Z3 fun _ _ _=>mS fun _=>.int i
theorem fO {i j}:QE X (.Constant (.bool i) j pos) (qC (.bl i)):=cF Z4 fun _ _ _=>mS fun _=>.bl i
theorem u8 {j}:QE X (.Constant .none j pos) (qC .non):=cF Z5 fun _ _ _=>mS fun _=>.non
theorem pM {i j}:QE X (.Constant (.str i) j pos) (qC (.str i)):=cF Z6 fun _ _ _=>mS fun _=>.str i
theorem lL {op:Operator}{R:PV->Tg->PV->Tg->PK->Prop}{r:R2} (ho:bX X (binaryOp op) r) (cv:dY X R r) (ha:QE X a ta) (hb:QE X b tb):QE X (.BinOp a op b pos) (q2 R ta tb):=cF (ac2 ho ha hb) fun _ _ _=>oY cv
theorem dS (ha:QE X a ta) (hb:QE X b tb):QE X (.BinOp a .Add b pos) (q2 (dZ fun i j=>.int (i+j)) ta tb):=lL ac3 zI ha hb
theorem gV (ha:QE X a ta) (hb:QE X b tb):QE X (.BinOp a .Sub b pos) (q2 (dZ fun i j=>.int (i - j)) ta tb):=lL ac4 zI ha hb
theorem nB (ha:QE X a ta) (hb:QE X b tb):QE X (.BinOp a .Mult b pos) (q2 (RI mJ fun i j=>.int (i * j)) ta tb):=lL ac5 tK ha hb
theorem gG (ha:QE X a ta) (hb:QE X b tb):QE X (.BinOp a .FloorDiv b pos) (q2 (RI sH fun i j=>.int (i / j)) ta tb):=lL ac6 tK ha hb
theorem dE (ha:QE X a ta) (hb:QE X b tb):QE X (.BinOp a .Mod b pos) (q2 (RI (fun _ j=>0 < j) fun i j=>.int (i % j)) ta tb):=lL ac7 tK ha hb
theorem lM {op:CmpOp}{R:PV->Tg->PV->Tg->PK->Prop}{r:R2} (ho:bX X (compareOp op) r) (cv:dY X R r) (ha:QE X a ta) (hb:QE X b tb) (hm:behindInMarks op b=false):QE X (.Compare a [op] [b] pos) (q2 R ta tb):=cF (ad3 ho ha hb hm) fun _ _ _=>oY cv
theorem kI {op:CmpOp}{R:PV->Tg->PV->Tg->PK->Prop}{r:R2} (ho:bX X (compareOp op) r) (cv:dY X R r) (ha:QE X a ta) (hb:QE X b tb) (hm:behindInMarks op b=false):QT X (.Compare a [op] [b] pos) (b6 (q2 R ta tb)):=mZ (ad4 ho ha hb hm) fun _ _ _ h=>oY cv (oZ h)
theorem u9 (ha:QE X a ta) (hb:QE X b tb):QE X (.Compare a [.Lt] [b] pos) (q2 (dZ fun i j=>.bl (decide (i < j))) ta tb):=lM oH lA ha hb (fZ _)
theorem ar9 (ha:QE X a ta) (hb:QE X b tb):QE X (.Compare a [.LtE] [b] pos) (q2 (dZ fun i j=>.bl (decide (i<=j))) ta tb):=lM xB lA ha hb (fZ _)
theorem A6 (ha:QE X a ta) (hb:QE X b tb):QE X (.Compare a [.GtE] [b] pos) (q2 (dZ fun i j=>.bl (decide (j<=i))) ta tb):=lM ad1 lA ha hb (fZ _)
theorem lN (ha:QE X a ta) (hb:QE X b tb):QT X (.Compare a [.Lt] [b] pos) (b6 (q2 (dZ fun i j=>.bl (decide (i < j))) ta tb)):=kI oH lA ha hb (fZ _)
theorem nC (ha:QE X a ta) (hb:QE X b tb):QT X (.Compare a [.Gt] [b] pos) (b6 (q2 (dZ fun i j=>.bl (decide (j < i))) ta tb)):=kI ad0 lA ha hb (fZ _)
theorem pN (ha:QE X a ta) (hb:QE X b tb):QT X (.Compare a [.Eq] [b] pos) (b6 (q2 (lC false) ta tb)):=kI ac8 an1 ha hb (fZ _)
theorem uA (ha:QE X a ta) (hb:QE X b tb):QT X (.Compare a [.NotEq] [b] pos) (b6 (q2 (lC true) ta tb)):=kI ac9 an2 ha hb (fZ _)
theorem A7 (ha:QE X a ta) (hb:QE X b tb):QT X (.Compare a [.IsNot] [b] pos) (b6 (q2 (tT true) ta tb)):=kI ad2 aq2 ha hb (fZ _)
theorem uB (hu:X.A.units+1 < cLine) (hk:QE X a tk) (hd:QE X b te) (hm:behindInMarks .NotIn b=false:=by rfl):QT X (.Compare a [.NotIn] [b] pos) (b6 (mW true tk te)):=mZ (Z9 (aj0 hu hk hd) hm) fun _ _ _ h=>ar2 (oZ h)
theorem gW (h:QE X e te) (he:∀ whole,isTrue e X.env whole=(do let v <- whole; standAt e.pos; holding [v] (truthy v)):=by intro _; rfl):QT X e (b6 te):=mZ (aa0 h he) fun _ _ _ h=>oZ h
theorem pO (ha:QT X a tA):QW X (.BoolOp .And [a] pos) tA:=aa1 ha
theorem jQ (ha:QT X a tA):QW X (.BoolOp .Or [a] pos) tA:=aa2 ha
theorem pP (ha:QT X a tA) (hb:QW X (.BoolOp .And (b :: cG) pos) tB'):QW X (.BoolOp .And (a :: b :: cG) pos) (kC tA tB'):=A3 (aa3 ha hb) fun _ _ _=>an3
theorem iY (ha:QT X a tA) (hb:QW X (.BoolOp .Or (b :: cG) pos) tB'):QW X (.BoolOp .Or (a :: b :: cG) pos) (gQ tA tB'):=A3 (aa4 ha hb) fun _ _ _=>an4
theorem gH (h:QW X e tA):QT X e tA:=PW.pt h
theorem iZ (ha:QT X a tA):QT X (.UnaryOp .Not a pos) (gR tA):=mZ (aa5 ha) fun _ _ _=>an5
theorem uC {op} (h:QE X a ta):QE X (.BoolOp op [a] pos) ta:=aa6 h
theorem nD (ha:QE X a ta) (hb:QE X (.BoolOp .And (b :: cG) pos) tb):QE X (.BoolOp .And (a :: b :: cG) pos) (kD ta tb):=cF (aa7 ha hb) fun _ _ _=>an6
theorem as0 (ha:QE X a ta):QE X (.UnaryOp .Not a pos) (tL ta):=cF (aa8 ha) fun _ _ _=>an7
theorem aE:QA X [] aD:=A4 jI fun _ _ _=>an8
theorem a8 (ha:QE X e te) (hr:QA X es tr) (hs:starEach (e :: es) X.env=(false,eval e X.env) :: starEach es X.env:=by rfl):QA X (e :: es) (a7 te tr):=A4 (gM ha hr hs) fun _ _ _=>an9
theorem gI {x1} (h:QA X es tr):QE X (.Tuple es x1 pos) (e8 tr):=cF (ae1 h) fun _ _ _=>ao0
theorem kJ (h:QA X es tr):QE X (.List es pos) (iS tr):=cF (ae2 h) fun _ _ _=>ao1
theorem aW (ha:QE X a ta) (hb:QE X b tb) (hs:xW b:=by exact fun _ _=>rfl):QE X (.Subscript a b pos) (q2 tR ta tb):=cF (ag2 ag6 ha hb hs) fun _ _ _=>oY ap3
theorem as1 (hu:X.A.units+1 < cLine) (ha:QE X a ta) (hb:QE X b tb) (hs:sW b:=by exact fun _ _=>rfl):QE X (.Subscript a b pos) (tZ ta tb):=cF (ai9 hu ha hb hs) fun _ _ _=>ar3
theorem uD:QE X (.Dict [] [] pos) (qC (.dT [])):=cF aj3 fun _ _ _=>ar6
theorem iD {x:Str}{id:String}{R:List PV->(PV->Prop)->Prop}{r:List V->Hp->VK->Prop} (hc:cN X (.builtin id) r) (cv:eI X R r) (hg:Gl X x) (hm:X.mg x=none) (hv:bootBuiltins x=some (.builtin id)) (ha:QA X (e :: es) tr) (hn:x ≠ "__name__":=by decide) (hdb:(x == ("__debug__" : Str))=false:=by decide)
  (he:starEach (e :: es) X.env=(false,eval e X.env) :: starEach es X.env:=by rfl) (hpl:(backTo pos (starEach es X.env)).any (·.1)=false:=by rfl):QE X (.Call (.Name x p2) (e :: es) [] pos) (aG R tr):=cF (xM hc hg hm hv ha hn hdb he hpl) fun _ _ _=>zL cv
theorem A8 {x:Str}{T:String}{R:List PV->(PV->Prop)->Prop}{r:List V->Hp->VK->Prop} (hc:cN X (.type T) r) (cv:eI X R r) (hg:Gl X x) (hm:X.mg x=none) (hv:bootBuiltins x=some (.type T)) (ha:QA X (e :: es) tr) (hn:x ≠ "__name__":=by decide) (hdb:(x == ("__debug__" : Str))=false:=by decide)
  (he:starEach (e :: es) X.env=(false,eval e X.env) :: starEach es X.env:=by rfl) (hpl:(backTo pos (starEach es X.env)).any (·.1)=false:=by rfl):QE X (.Call (.Name x p2) (e :: es) [] pos) (aG R tr):=cF (ae5 hc hg hm hv ha hn hdb he hpl) fun _ _ _=>zL cv
theorem cY:eJ X [] cI:=A5 ab0 fun _ _ _=>ao2
theorem aO (h1:QS X st t) (h2:eJ X sts u):eJ X (st :: sts) (aL t u):=A5 (ab1 h1 h2) fun _ _ _=>ao3
theorem aR (h1:QS X st t):eJ X [st] t:=ab2 h1
theorem bQ {i:Nat}{x:Str} (hN:X.N.Nodup) (he:QE X e te) (hi:X.N[i]? = some x:=by rfl) (hx:fX X.env.scope x:=by first | exact Or.inl rfl | exact Or.inr rfl) (hs:swapsWith e (some (.Name x p2)) pos.line X.env=pure false:=by rfl) (hf:X.fn x=true ∨ X.env.scope.names.lookup x=some .local:=by first | exact .inl rfl | exact .inr rfl) :
  QS X (.Assign [.Name x p2] e pos) (bH i te):=eC (wS hN hi hx he hs hf) fun _ _ _=>ao4
theorem iE {i:Nat}{x:Str} (hN:X.N.Nodup) (he:QE X e te) (hi:X.N[i]? = some x:=by rfl) (hx:fX X.env.scope x:=by first | exact Or.inl rfl | exact Or.inr rfl) (hs:swapsWith e (some (.Name x p2)) pos.line X.env=pure false:=by rfl) (hf:X.fn x=true ∨ X.env.scope.names.lookup x=some .local:=by first | exact .inl rfl | exact .inr rfl) :
  QS X (.Assign [.Name x p2] e pos) (gE i te):=eC (wS hN hi hx he hs hf) fun _ _ _=>ao6
theorem as2 (he:QE X e te) (hs:swapsWith e none pos.line X.env=pure false:=by rfl):QS X (.Expr e pos) (tQ te):=eC (mE he hs) fun _ _ _=>ao7
theorem bR (he:QE X e te):QS X (.Return (some e) pos) (bJ te):=eC (wP he) fun _ _ _=>ao8
theorem nE (i:Nat) {x:Str} (hN:X.N[i]? = some x:=by rfl) (hv:iL X.env.scope x:=by first | exact Or.inl rfl | exact Or.inr (Or.inl rfl) | exact Or.inr (Or.inr rfl)) (hd:(x == ("__debug__" : Str))=false:=by decide) (hcd:(x == ("__classdict__" : Str))=false:=by decide) :
  QS X (.Return (some (.Name x p2)) pos) (kE i):=eC (wP (kZ hN hv hd hcd)) fun _ _ _=>ao9
theorem cS {sa sb:List Stmt} (hc:QT X c tc) (ha:eJ X sa t) (hb:eJ X sb u):QS X (.If c sa sb pos) (cE tc t u):=eC (ab3 hc ha hb) fun _ _ _=>ap0
theorem A9 {body:List Stmt} (hp:PassesOwn (model X.prog X.w) X.A X.env X.xe) (hc:QT X c tc) (hb:eJ X body t):QS X (.While c body [] pos) (p9 tc t):=eC (ab4 hp hc hb) fun _ _ _=>ap1
theorem lO (i:Nat) {x:Str}{apos cpos xpos:Pos} (he:QE X e te) (hN:X.N[i]? = some x:=by rfl) (hv:iL X.env.scope x:=by first | exact Or.inl rfl | exact Or.inr (Or.inl rfl) | exact Or.inr (Or.inr rfl)) (hd:(x == ("__debug__" : Str))=false:=by decide) (hcd:(x == ("__classdict__" : Str))=false:=by decide)
  (hbase:attributeBase (.Name x xpos) "append" X.env (eval (.Name x xpos) X.env)=eval (.Name x xpos) X.env:=by rfl)
  (hfew:((backTo cpos (starEach [e] X.env)).all (fun x=>!x.1) && (backToKw cpos (keywordEach [] X.env)).all (fun x=>x.1.isSome) && decide (([e]:List Expr).length+([]:List Keyword).length+(if ([]:List Keyword).isEmpty then 0 else 1) < 30))=true:=by rfl)
  (hline:(apos.endLine == cpos.line)=true:=by rfl) (hs:starEach [e] X.env=(false,eval e X.env) :: starEach [] X.env:=by rfl) (hplain:(backTo cpos (starEach [] X.env)).any (·.1)=false:=by rfl)
  (hsw:swapsWith (.Call (.Attribute (.Name x xpos) "append" apos) [e] [] cpos) none pos.line X.env=pure false:=by rfl) :
  QS X (.Expr (.Call (.Attribute (.Name x xpos) "append" apos) [e] [] cpos) pos) (iT i te):=
 eC (mE (yC PySem.F.plainAttrs_list PySem.F.slot_list_append PySem.F.type_list_append yE (kZ hN hv hd hcd) (gM he jI hs) hbase hfew hline hs hplain) hsw) fun _ _ _=>ap2
theorem nF {i:Nat}{x:Str}{xpos tpos:Pos} (hu:X.A.units+1 < cLine) (hk:QE X a tk) (he:QE X e te) (hN:X.N[i]? = some x:=by rfl) (hv:iL X.env.scope x:=by first | exact Or.inl rfl | exact Or.inr (Or.inl rfl) | exact Or.inr (Or.inr rfl)) (hd:(x == ("__debug__" : Str))=false:=by decide) (hcd:(x == ("__classdict__" : Str))=false:=by decide)
  (hs:swapsWith e (some (.Subscript (.Name x xpos) a tpos)) pos.line X.env=pure false:=by rfl):QS X (.Assign [.Subscript (.Name x xpos) a tpos] e pos) (kH i tk te):=eC (aj1 hu (kZ hN hv hd hcd) hk he hs) fun _ _ _=>ar5
theorem as3 {tg l:Expr}{tl:TE} (hl:PE X l tl):PI X tg l (zQ X.K tl):=by
 intro pins s σ H R I h
 refine aM (hl pins s σ H _ I h) fun v s1 ⟨x,H1,I1,r1,q1⟩=>?_
 obtain ⟨a,e,q⟩:=q1
 subst e
 cases r1
 rcases q with ⟨xs,hq,q⟩ | ⟨xs,hq,q⟩
 ·obtain ⟨its,rv,p,hz⟩:=I1.list hq
  refine wpAny_pyIter_list p.isList ?_
  refine⟨s1.heap.objs.size,[s1.heap.objs.size],_,_,H1,rfl,I1.kept (t':=s1.toks) fun b o e=>aQ9 _ e,ab5 a _,⟨_,aS5 _ rfl,rfl,rfl⟩,fun b hb=>?_,q⟩
  have e:b=s1.heap.objs.size:=by simpa using hb
  subst e
  exact I1.fpOk (aR8 _) (I1.hok.fresh (aR8 _))
 ·obtain ⟨its,rv,p,hz⟩:=I1.tuple hq
  refine bd4 (show s1.heap.IsTuple a its.toArray from p) ?_
  refine⟨s1.heap.objs.size,[s1.heap.objs.size],_,_,H1,rfl,I1.kept (t':=s1.toks) fun b o e=>aQ9 _ e,ab6 a _,⟨_,aS5 _ rfl,rfl,rfl⟩,fun b hb=>?_,q⟩
  have e:b=s1.heap.objs.size:=by simpa using hb
  subst e
  exact I1.fpOk (aR8 _) (I1.hok.fresh (aR8 _))
theorem gX {tg l:Expr} (hl:QE X l te):QI X tg l (fM te):=nA (as3 hl) fun _ _ _=>aq3
theorem pQ {tg:Expr} (hg:Gl X "range") (hm:X.mg "range" = none) (ha:QE X a ta) (hs:starEach [a] X.env = [(false,eval a X.env)]:=by rfl):QI X tg (.Call (.Name "range" p2) [a] [] pos) (lG ta):=nA (ab8 hg hm (gM ha jI hs) hs) fun _ _ _=>aq4
theorem B0 {tg:Expr} (hg:Gl X "range") (hm:X.mg "range" = none) (ha:QE X a ta) (hb:QE X b tb) (hs:starEach [a,b] X.env = [(false,eval a X.env),(false,eval b X.env)]:=by rfl) (hs2:starEach [b] X.env = [(false,eval b X.env)]:=by rfl) :
  QI X tg (.Call (.Name "range" p2) [a,b] [] pos) (pF ta tb):=nA (ab9 hg hm (gM ha (gM hb jI hs2) (by rw [hs,hs2])) hs hs2) fun _ _ _=>aq5
theorem B1 {tg:Expr}{body:List Stmt}{ti:e9}{p:gS}{g:TG}{own:Nat->Prop} (hp:PassesOwn (model X.prog X.w) X.A X.env X.xe) (hc:X.calm=true) (hi:QI X tg e ti) (hg:PG X tg g) (ht:kF X.K own p g) (hb:eJ X body t)
  (hs:∀ x,foldedSetIterable e X.env x=pure x:=by intro _; rfl):QS X (.For tg e body [] pos) (dI ti p t):=eC (ac1 hp hc hi hg hb hs) fun _ _ _=>aq6 ht
end
section
variable {X : Cx} {pins : List (Addr × Obj)} {σ : St} {H : Hp} {s : Shared} {K : PySem.W.Frag} {M M' : Addr → Prop}
theorem l9.inj {a:Addr}{us ws:List V} (h:l9 K a us) (h':l9 K a ws):us=ws:=by
 obtain ⟨o,its,n,e1,_,e2,_,v⟩:=h
 obtain ⟨o',its',n',e1',_,e2',_,v'⟩:=h'
 rw [e1] at e1'; cases e1'
 rw [e2] at e2'; cases e2'
 exact v.inj v'
theorem Reps.self_of {n:Nat} (ih:∀ {v:V}{x y:PV},aA K M H v x->aA K M' H v y->cM n x y=true->bL n x y=true):∀ {vs:List V}{xs ys:List PV},Reps K M H vs xs->Reps K M' H vs ys->((xs.zip ys).all fun p=>cM n p.1 p.2)=true->(((xs.zip ys).all fun p=>bL n p.1 p.2) && xs.length == ys.length)=true
 | _,_,_,.nil,.nil,_=>rfl
 | _,_,_,.cons r t,.cons r' t',o=>by
  simp only [aY4,bg0,aZ2] at o
  have h1:=ih r r' o.1
  have h2:=Reps.self_of ih t t' o.2
  simp only [aY4,bg0,h1,Bool.true_and,aV5] at h2 ⊢
  rw [<- h2]
  congr 1
  simp
theorem aA.self:∀ (n:Nat) {v:V}{x y:PV},aA K M H v x->aA K M' H v y->cM n x y=true->bL n x y=true:=by
 intro n
 induction n with
 | zero=>
  intro v x y r r' o
  cases r with
  | non=>cases r'; rfl
  | bl b=>cases r'; exact aZ3 b
  | int i=>cases r'; exact aZ3 i
  | str z=>cases r'; exact aZ3 z
  | _=>cases o
 | succ n ih=>
  intro v x y r r' o
  cases r with
  | non=>cases r'; rfl
  | bl b=>cases r'; exact aZ3 b
  | int i=>cases r'; exact aZ3 i
  | str z=>cases r'; exact aZ3 z
  | tup h rr=>
   cases r' with
   | tup h' rr'=>rw [h] at h'; cases h'; exact Reps.self_of ih rr rr' o
   | _=>cases o
  | lst _ h rr=>
   cases r' with
   | lst _ h' rr'=>rw [h] at h'; cases h'; exact Reps.self_of ih rr rr' o
   | _=>cases o
  | kt h rr=>
   cases r' with
   | kt h' rr'=>cases l9.inj h h'; exact Reps.self_of ih rr rr' o
   | _=>cases o
  | _=>cases o
theorem Reps.self (n:Nat) {vs:List V}{xs ys:List PV} (r:Reps K M H vs xs) (r':Reps K M' H vs ys) (o:((xs.zip ys).all fun p=>cM n p.1 p.2)=true):(((xs.zip ys).all fun p=>bL n p.1 p.2) && xs.length == ys.length)=true:=Reps.self_of (aA.self n) r r' o
theorem j5 (n:Nat) (xs ys:List PV):(List.range (min xs.length ys.length)).all (fun j=>bL n (xs.getD j .non) (ys.getD j .non))=(xs.zip ys).all fun p=>bL n p.1 p.2:=by
 rw [aY8]
 simp only [bc3,List.mem_range]
 constructor
 ·intro h p hp
  obtain ⟨j,hj,e⟩:=aX5 hp
  have hj':j < min xs.length ys.length:=by simpa using hj
  have:=h j hj'
  rw [List.getElem_zip] at e
  subst e
  have h1:j < xs.length:=by omega
  have h2:j < ys.length:=by omega
  simpa [aT1,h1,h2] using this
 ·intro h j hj
  have h1:j < xs.length:=by omega
  have h2:j < ys.length:=by omega
  have hz:j < (xs.zip ys).length:=by simp; omega
  have:=h _ (aZ4 hz)
  rw [List.getElem_zip] at this
  simpa [aT1,h1,h2] using this
theorem B2 (I:a6 X pins σ H s):∀ (n:Nat) {A:Around}{v w:V}{x y:PV}{a b:Value},A.units+n < cLine->aA X.K M H v x->aA X.K M' H w y->aQ v a->aQ w b->cM n x y=true->SeqAt.EqAt A s a b (bL n x y):=by
 intro n
 induction n with
 | zero=>
  intro A v w x y a b hu rx ry ra rb o
  cases rx with
  | non=>
   cases ra
   cases ry with
   | non=>cases rb; exact SeqAt.EqAt.same _
   | int i=>obtain ⟨t',rfl⟩:=rb; exact SeqAt.EqAt.none_int _ _
   | _=>cases o
  | bl i=>
   cases ra
   cases ry with
   | bl j=>cases rb; exact SeqAt.EqAt.bool_bool _ _
   | _=>cases o
  | int i=>
   obtain ⟨t,rfl⟩:=ra
   cases ry with
   | int j=>obtain ⟨t',rfl⟩:=rb; exact SeqAt.EqAt.int_int _ _ _ _
   | non=>cases rb; exact SeqAt.EqAt.int_none _ _
   | _=>cases o
  | str i=>
   obtain ⟨t,rfl⟩:=ra
   cases ry with
   | str j=>obtain ⟨t',rfl⟩:=rb; exact SeqAt.EqAt.str_str _ _ _ _
   | _=>cases o
  | _=>cases o
 | succ n ih=>
  intro A v w x y a b hu rx ry ra rb o
  have items:∀ {us ws:List V}{xs ys:List PV}{its its2:List Value},Reps X.K M H us xs->Reps X.K M' H ws ys->aJ us its->aJ ws its2->((xs.zip ys).all fun p=>cM n p.1 p.2)=true->
    ∀ j (h1:j < its.toArray.size) (h2:j < its2.toArray.size),SeqAt.EqAt A.in1 s its.toArray[j] its2.toArray[j] (bL n (xs.getD j .non) (ys.getD j .non)):=fun {us ws xs ys its its2} r1 r2 v1 v2 ok j h1 h2=>by
   have l1:=v1.length
   have l2:=v2.length
   have m1:=r1.length
   have m2:=r2.length
   have k1:j < its.length:=by simpa using h1
   have k2:j < its2.length:=by simpa using h2
   have j1:j < us.length:=by omega
   have j2:j < ws.length:=by omega
   have i1:j < xs.length:=by omega
   have i2:j < ys.length:=by omega
   obtain ⟨u,hu',ru⟩:=v1.get (aR0 j1)
   obtain ⟨u2,hu2',ru2⟩:=v2.get (aR0 j2)
   obtain ⟨x,hx,rx⟩:=r1.get (aR0 j1)
   obtain ⟨y,hy,ry⟩:=r2.get (aR0 j2)
   have e1:its.toArray[j]=u:=by
    rw [aR0 k1] at hu'
    simpa using hu'
   have e2:its2.toArray[j]=u2:=by
    rw [aR0 k2] at hu2'
    simpa using hu2'
   have ok':cM n x y=true:=by
    rw [bc3] at ok
    have hz:j < (xs.zip ys).length:=by simp; omega
    have:=ok _ (aZ4 hz)
    rw [List.getElem_zip] at this
    rw [aR0 i1] at hx
    rw [aR0 i2] at hy
    cases hx; cases hy
    exact this
   rw [e1,e2]
   have g1:xs.getD j .non=x:=by rw [aT1,hx]; rfl
   have g2:ys.getD j .non=y:=by rw [aT1,hy]; rfl
   rw [g1,g2]
   exact ih (by show A.units+1+n < cLine; omega) rx ry ru ru2 ok'
  have huA:A.units < cLine:=by omega
  cases rx with
  | @kt p us xs h1 r1=>
   obtain ⟨its,v1,p1,_⟩:=I.tuple (.inr h1)
   cases (show a=Value.ref p from ra)
   cases ry with
   | @kt p2 ws ys h2 r2=>
    obtain ⟨its2,v2,p2',_⟩:=I.tuple (.inr h2)
    cases (show b=Value.ref p2 from rb)
    by_cases e:p=p2
    ·subst e
     have:=aA.self (K:=X.K) (M:=M) (M':=M') (n+1) (.kt h1 r1) (.kt h2 r2) o
     rw [this]
     exact SeqAt.EqAt.same _
    ·have:=SeqAt.RcAt.tuples p1 p2' huA (items r1 r2 v1 v2 o)
     refine .of_refs e ?_
     have l1:=v1.length
     have l2:=v2.length
     have m1:=r1.length
     have m2:=r2.length
     rw [aR1,aR1,<- l1,<- l2,m1,m2,j5] at this
     exact this
   | _=>cases o
  | @tup p us xs h1 r1=>
   obtain ⟨its,v1,p1,_⟩:=I.tuple (aN.of (K:=X.K) h1)
   cases (show a=Value.ref p from ra)
   cases ry with
   | @tup p2 ws ys h2 r2=>
    obtain ⟨its2,v2,p2',_⟩:=I.tuple (aN.of (K:=X.K) h2)
    cases (show b=Value.ref p2 from rb)
    by_cases e:p=p2
    ·subst e
     have:=aA.self (K:=X.K) (M:=M) (M':=M') (n+1) (.tup h1 r1) (.tup h2 r2) o
     rw [this]
     exact SeqAt.EqAt.same _
    ·have:=SeqAt.RcAt.tuples p1 p2' huA (items r1 r2 v1 v2 o)
     refine .of_refs e ?_
     have l1:=v1.length
     have l2:=v2.length
     have m1:=r1.length
     have m2:=r2.length
     rw [aR1,aR1,<- l1,<- l2,m1,m2,j5] at this
     exact this
   | non=>cases rb; exact SeqAt.EqAt.tuple_none p1 huA
   | _=>cases o
  | @lst p us xs _ h1 r1=>
   obtain ⟨its,v1,p1,_⟩:=I.list (aP.of (K:=X.K) h1)
   cases (show a=Value.ref p from ra)
   cases ry with
   | @lst p2 ws ys _ h2 r2=>
    obtain ⟨its2,v2,p2',_⟩:=I.list (aP.of (K:=X.K) h2)
    cases (show b=Value.ref p2 from rb)
    have l1:=v1.length
    have l2:=v2.length
    have m1:=r1.length
    have m2:=r2.length
    by_cases e:p=p2
    ·subst e
     rw [h1] at h2; cases h2
     have:=Reps.self n r1 r2 o
     show SeqAt.EqAt A s _ _ ((xs.zip ys).all (fun p=>bL n p.1 p.2) && xs.length == ys.length)
     rw [this]
     exact SeqAt.EqAt.same _
    ·refine .of_refs e ?_
     by_cases hl:xs.length=ys.length
     ·have:=SeqAt.RcAt.lists p1.isList p2'.isList (by rw [aR1,aR1]; omega) huA (items r1 r2 v1 v2 o)
      have hm:min xs.length ys.length=its.length:=by omega
      rw [aR1,<- hm,j5] at this
      show SeqAt.RcAt A s _ _ ((xs.zip ys).all (fun p=>bL n p.1 p.2) && xs.length == ys.length)
      rw [show (xs.length == ys.length)=true by simpa using hl,Bool.and_true]
      exact this
     ·have:=SeqAt.RcAt.lists_lengths (A:=A) p1.isList p2'.isList (by rw [aR1,aR1]; simp; omega) huA
      show SeqAt.RcAt A s _ _ ((xs.zip ys).all (fun p=>bL n p.1 p.2) && xs.length == ys.length)
      rw [show (xs.length == ys.length)=false by simpa using hl,ba9]
      exact this
   | _=>cases o
  | non=>
   cases ra
   cases ry with
   | non=>cases rb; exact SeqAt.EqAt.same _
   | int i=>obtain ⟨t',rfl⟩:=rb; exact SeqAt.EqAt.none_int _ _
   | @tup p2 ws ys h2 r2=>
    obtain ⟨its2,v2,p2',_⟩:=I.tuple (aN.of (K:=X.K) h2)
    cases (show b=Value.ref p2 from rb)
    exact SeqAt.EqAt.none_tuple p2' huA
   | _=>cases o
  | bl i=>
   cases ra
   cases ry with
   | bl j=>cases rb; exact SeqAt.EqAt.bool_bool _ _
   | _=>cases o
  | int i=>
   obtain ⟨t,rfl⟩:=ra
   cases ry with
   | int j=>obtain ⟨t',rfl⟩:=rb; exact SeqAt.EqAt.int_int _ _ _ _
   | non=>cases rb; exact SeqAt.EqAt.int_none _ _
   | _=>cases o
  | str i=>
   obtain ⟨t,rfl⟩:=ra
   cases ry with
   | str j=>obtain ⟨t',rfl⟩:=rb; exact SeqAt.EqAt.str_str _ _ _ _
   | _=>cases o
  | _=>cases o
end
structure Bt (mg:Str->Option Value):Prop where
 len:mg "len" = none
 range:mg "range" = none
 tuple:mg "tuple" = none
 list:mg "list" = none
 sorted:mg "sorted" = none
 all:mg "all" = none
 any:mg "any" = none
 zip:mg "zip" = none
 min:mg "min" = none
 max:mg "max" = none
 sum:mg "sum" = none
 isinst:mg "isinstance" = none
 int:mg "int" = none
 bool:mg "bool" = none
 enum:mg "enumerate" = none
section
variable {X : Cx} {a b c e o : Expr} {es cG : List Expr} {ta tb te to tk : aB} {tr : cL} {tA tB' tc : cH} {pos p2 px : Pos} {st : Stmt} {sts : List Stmt} {t u : aS}
theorem gY (B:Bt X.mg) (ha:QA X [e] tr) (hg:Gl X "len":=by rfl) (he:starEach [e] X.env=(false,eval e X.env) :: starEach [] X.env:=by rfl) (hpl:(backTo pos (starEach [] X.env)).any (·.1)=false:=by rfl):QE X (.Call (.Name "len" p2) [e] [] pos) (aG eR tr):=
 iD (ah1.or ak3) ap4 hg B.len PySem.boot_len ha (he:=he) (hpl:=hpl)
theorem nG (B:Bt X.mg) (ha:QA X [e] tr) (hg:Gl X "tuple":=by rfl) (he:starEach [e] X.env=(false,eval e X.env) :: starEach [] X.env:=by rfl) (hpl:(backTo pos (starEach [] X.env)).any (·.1)=false:=by rfl):QE X (.Call (.Name "tuple" p2) [e] [] pos) (aG lK tr):=
 A8 ah3 ap5 hg B.tuple PyProof.Rows.boot_tuple ha (he:=he) (hpl:=hpl)
theorem B3 (B:Bt X.mg) (ha:QA X [e] tr) (hg:Gl X "list":=by rfl) (he:starEach [e] X.env=(false,eval e X.env) :: starEach [] X.env:=by rfl) (hpl:(backTo pos (starEach [] X.env)).any (·.1)=false:=by rfl):QE X (.Call (.Name "list" p2) [e] [] pos) (aG pB tr):=
 A8 ah2 ap6 hg B.list PyProof.Rows.boot_list ha (he:=he) (hpl:=hpl)
theorem B4 (B:Bt X.mg) (hc:X.calm=true) (ha:QA X [e] tr) (hg:Gl X "all":=by rfl) (he:starEach [e] X.env=(false,eval e X.env) :: starEach [] X.env:=by rfl) (hpl:(backTo pos (starEach [] X.env)).any (·.1)=false:=by rfl):QE X (.Call (.Name "all" p2) [e] [] pos) (aG pD tr):=
 iD (am4 hc) ap7 hg B.all PyProof.Rows.boot_all ha (he:=he) (hpl:=hpl)
theorem uE (B:Bt X.mg) (hc:X.calm=true) (ha:QA X [a,b] tr) (hg:Gl X "min":=by rfl) (he:starEach [a,b] X.env=(false,eval a X.env) :: starEach [b] X.env:=by rfl) (hpl:(backTo pos (starEach [b] X.env)).any (·.1)=false:=by rfl):QE X (.Call (.Name "min" p2) [a,b] [] pos) (aG mU tr):=
 iD (ad7 hc) ap8 hg B.min PyProof.Rows.boot_min ha (he:=he) (hpl:=hpl)
theorem pS (B:Bt X.mg) (hc:X.calm=true) (ha:QA X [a,b] tr) (hg:Gl X "max":=by rfl) (he:starEach [a,b] X.env=(false,eval a X.env) :: starEach [b] X.env:=by rfl) (hpl:(backTo pos (starEach [b] X.env)).any (·.1)=false:=by rfl):QE X (.Call (.Name "max" p2) [a,b] [] pos) (aG lE tr):=
 iD (ad6 hc) ap9 hg B.max PyProof.Rows.boot_max ha (he:=he) (hpl:=hpl)
theorem aA.kt_ {K:PySem.W.Frag}{M:Addr->Prop}{H:Hp}{v:V}{xs:List PV} (r:aA K M H v (.kt xs)):∃ a us,v = .ref a/\l9 K a us/\Reps K M H us xs:=by
 cases r with
 | kt h r=>exact⟨_,_,rfl,h,r⟩
def B5 (K:PySem.W.Frag) (H:Hp) (x:V) (t:Value):Prop:=eM K H x t ∨ ∃ a us,x = .ref a/\aN K H a us/\t = .type "tuple"
theorem as4:cN X (.builtin "isinstance") (fun xs H Q=>∃ x t n b,xs = [x,.ty n]/\B5 X.K H x t/\PySem.W.kitOne X.K t (.type n)=some b/\Q (.bl b) H):=by
 intro pins s σ H xs us Q I r h
 obtain ⟨x,t,n,b,rfl,ty,e,q⟩:=h
 rcases ty with ty | ⟨a,ws,rfl,hs,rfl⟩
 ·exact al6 pins s σ H _ us Q I r ⟨x,t,n,b,rfl,ty,e,q⟩
 obtain ⟨u,u',rfl,ru,ru'⟩:=k6 r
 cases ru'
 cases (show u=Value.ref a from ru)
 obtain ⟨its,_,⟨o,h1,h2,_⟩,_⟩:=I.tuple hs
 exact aY9 PySem.W.kitx_tuple I.kIn ⟨o,h1,h2⟩ e (fun z=>nomatch z) fun tk=>⟨.bl b,H,I.tok tk,rfl,q⟩
theorem as5 {K:PySem.W.Frag}{M:Addr->Prop}{H:Hp}{v:V}{x:PV}{T:String} (r:aA K M H v x) (e:A0 x=some T):B5 K H v (.type T):=by
 cases r with
 | non=>cases e; exact .inl .non
 | bl b=>cases e; exact .inl (.bl b)
 | int i=>cases e; exact .inl (.int i)
 | str i=>cases e; exact .inl (.str i)
 | tup h _=>cases e; exact .inl (.tup h)
 | lst _ h _=>cases e; exact .inl (.lst h)
 | kt h _=>cases e; exact .inr ⟨_,_,rfl,.inr h,rfl⟩
 | _=>cases e
theorem pT {x:Str}{n:String} (B:Bt X.mg) (hn:bootBuiltins x=some (.type n)) (hm:X.mg x=none) (ha:QE X a ta) (hg:Gl X "isinstance":=by rfl) (hgx:Gl X x:=by rfl) (hx:x ≠ "__name__":=by decide) (hdx:(x == ("__debug__" : Str))=false:=by decide)
  (he:starEach [a,.Name x px] X.env=(false,eval a X.env) :: starEach [.Name x px] X.env:=by rfl) (he2:starEach [.Name x px] X.env=(false,eval (.Name x px) X.env) :: starEach [] X.env:=by rfl) (hpl:(backTo pos (starEach [.Name x px] X.env)).any (·.1)=false:=by rfl):QE X (.Call (.Name "isinstance" p2) [a,.Name x px] [] pos) (gU X.K n ta):=
 cF (xM as4 hg B.isinst PyProof.Rows.boot_isinstance (gM ha (gM (Z8 (v:=.ty n) hgx hm hn rfl hx hdx) jI he2) he) (he:=he) (hpl:=hpl)) fun σ H Q' h=>by
  obtain ⟨W,ρ,Q,px,q,k⟩:=h
  refine⟨W,ρ,_,px,q,?_⟩
  rintro v H1 x g s r ⟨T,b,e,kt,q⟩
  exact⟨v,_,n,b,rfl,as5 r e,kt,k _ _ _ .fr s (.bl _) q⟩
theorem as6 (B:Bt X.mg) (ha:QE X a ta) (hg:Gl X "isinstance":=by rfl) (hgx:Gl X "int":=by rfl)
  (he:starEach [a,.Name "int" px] X.env=(false,eval a X.env) :: starEach [.Name "int" px] X.env:=by rfl) (he2:starEach [.Name "int" px] X.env=(false,eval (.Name "int" px) X.env) :: starEach [] X.env:=by rfl) (hpl:(backTo pos (starEach [.Name "int" px] X.env)).any (·.1)=false:=by rfl):QE X (.Call (.Name "isinstance" p2) [a,.Name "int" px] [] pos) (gU X.K "int" ta):=pT B PyProof.Rows.boot_int B.int ha (hg:=hg) (hgx:=hgx) (he:=he) (he2:=he2) (hpl:=hpl)
theorem as7 (B:Bt X.mg) (ha:QE X a ta) (hg:Gl X "isinstance":=by rfl) (hgx:Gl X "bool":=by rfl)
  (he:starEach [a,.Name "bool" px] X.env=(false,eval a X.env) :: starEach [.Name "bool" px] X.env:=by rfl) (he2:starEach [.Name "bool" px] X.env=(false,eval (.Name "bool" px) X.env) :: starEach [] X.env:=by rfl) (hpl:(backTo pos (starEach [.Name "bool" px] X.env)).any (·.1)=false:=by rfl):QE X (.Call (.Name "isinstance" p2) [a,.Name "bool" px] [] pos) (gU X.K "bool" ta):=pT B PyProof.Rows.boot_bool B.bool ha (hg:=hg) (hgx:=hgx) (he:=he) (he2:=he2) (hpl:=hpl)
theorem B6 (B:Bt X.mg) (ha:QE X a ta) (hg:Gl X "isinstance":=by rfl) (hgx:Gl X "tuple":=by rfl)
  (he:starEach [a,.Name "tuple" px] X.env=(false,eval a X.env) :: starEach [.Name "tuple" px] X.env:=by rfl) (he2:starEach [.Name "tuple" px] X.env=(false,eval (.Name "tuple" px) X.env) :: starEach [] X.env:=by rfl) (hpl:(backTo pos (starEach [.Name "tuple" px] X.env)).any (·.1)=false:=by rfl):QE X (.Call (.Name "isinstance" p2) [a,.Name "tuple" px] [] pos) (gU X.K "tuple" ta):=pT B PyProof.Rows.boot_tuple B.tuple ha (hg:=hg) (hgx:=hgx) (he:=he) (he2:=he2) (hpl:=hpl)
theorem B7 (B:Bt X.mg) (ha:QE X a ta) (hg:Gl X "isinstance":=by rfl) (hgx:Gl X "list":=by rfl)
  (he:starEach [a,.Name "list" px] X.env=(false,eval a X.env) :: starEach [.Name "list" px] X.env:=by rfl) (he2:starEach [.Name "list" px] X.env=(false,eval (.Name "list" px) X.env) :: starEach [] X.env:=by rfl) (hpl:(backTo pos (starEach [.Name "list" px] X.env)).any (·.1)=false:=by rfl):QE X (.Call (.Name "isinstance" p2) [a,.Name "list" px] [] pos) (gU X.K "list" ta):=pT B PyProof.Rows.boot_list B.list ha (hg:=hg) (hgx:=hgx) (he:=he) (he2:=he2) (hpl:=hpl)
def uF (K:PySem.W.Frag) (n:Nat) (neg:Bool):R2:=fun v w H Q=>∃ x y,aA K (fun _=>True) H v x/\aA K (fun _=>True) H w y/\((∃ xs ys,x = .tup xs/\y = .tup ys) ∨ (∃ xs ys,x = .lst xs/\y = .lst ys) ∨ (∃ xs ys,x = .kt xs/\y = .kt ys))/\cM (n+1) x y=true/\Q (.bl (if neg=true then !bL (n+1) x y else bL (n+1) x y)) H
theorem lP {pins:List (Addr × Obj)}{σ:St}{H:Hp}{s:Shared}{M M':Addr->Prop} (I:a6 X pins σ H s) {n:Nat}{A:Around} (hu:A.units+(n+1) < cLine) {us ws:List V}{xs ys:List PV}{its its2:List Value} (r1:Reps X.K M H us xs) (r2:Reps X.K M' H ws ys) (v1:aJ us its) (v2:aJ ws its2)
  (ok:((xs.zip ys).all fun p=>cM n p.1 p.2)=true):∀ j (h1:j < its.toArray.size) (h2:j < its2.toArray.size),SeqAt.EqAt A.in1 s its.toArray[j] its2.toArray[j] (bL n (xs.getD j .non) (ys.getD j .non)):=by
 intro j h1 h2
 have l1:=v1.length
 have l2:=v2.length
 have m1:=r1.length
 have m2:=r2.length
 have k1:j < its.length:=by simpa using h1
 have k2:j < its2.length:=by simpa using h2
 have j1:j < us.length:=by omega
 have j2:j < ws.length:=by omega
 have i1:j < xs.length:=by omega
 have i2:j < ys.length:=by omega
 obtain ⟨u,hu',ru⟩:=v1.get (aR0 j1)
 obtain ⟨u2,hu2',ru2⟩:=v2.get (aR0 j2)
 obtain ⟨x,hx,rx⟩:=r1.get (aR0 j1)
 obtain ⟨y,hy,ry⟩:=r2.get (aR0 j2)
 have e1:its.toArray[j]=u:=by
  rw [aR0 k1] at hu'
  simpa using hu'
 have e2:its2.toArray[j]=u2:=by
  rw [aR0 k2] at hu2'
  simpa using hu2'
 have ok':cM n x y=true:=by
  rw [bc3] at ok
  have hz:j < (xs.zip ys).length:=by simp; omega
  have:=ok _ (aZ4 hz)
  rw [List.getElem_zip] at this
  rw [aR0 i1] at hx
  rw [aR0 i2] at hy
  cases hx; cases hy
  exact this
 rw [e1,e2]
 have g1:xs.getD j .non=x:=by rw [aT1,hx]; rfl
 have g2:ys.getD j .non=y:=by rw [aT1,hy]; rfl
 rw [g1,g2]
 exact B2 I n (by show A.units+1+n < cLine; omega) rx ry ru ru2 ok'
theorem as8 (n:Nat) (hu:X.A.units+(n+1) < cLine):bX X (compareOp .Eq) (uF X.K n false):=by
 intro pins s σ H v w a b Q I ra rb h
 obtain ⟨x,y,rx,ry,kd,o,q⟩:=h
 have hu0:X.A.units < cLine:=by omega
 rcases kd with ⟨xs,ys,rfl,rfl⟩ | ⟨xs,ys,rfl,rfl⟩ | ⟨xs,ys,rfl,rfl⟩
 ·obtain ⟨p,us,rfl,h1,r1⟩:=rx.sqT
  obtain ⟨p2,ws,rfl,h2,r2⟩:=ry.sqT
  cases ra; cases rb
  obtain ⟨its,v1,p1,_⟩:=I.tuple (aN.of (K:=X.K) h1)
  obtain ⟨its2,v2,p2',_⟩:=I.tuple (aN.of (K:=X.K) h2)
  have l1:=v1.length
  have l2:=v2.length
  have m1:=r1.length
  have m2:=r2.length
  have:=SeqAt.RcAt.tuples p1 p2' hu0 (lP I hu r1 r2 v1 v2 o)
  rw [aR1,aR1,<- l1,<- l2,m1,m2,j5] at this
  exact this _ _ _ _ ⟨.bl _,H,I,rfl,q⟩
 ·obtain ⟨p,us,rfl,_,h1,r1⟩:=rx.sqL
  obtain ⟨p2,ws,rfl,_,h2,r2⟩:=ry.sqL
  cases ra; cases rb
  obtain ⟨its,v1,p1,_⟩:=I.list (aP.of (K:=X.K) h1)
  obtain ⟨its2,v2,p2',_⟩:=I.list (aP.of (K:=X.K) h2)
  have l1:=v1.length
  have l2:=v2.length
  have m1:=r1.length
  have m2:=r2.length
  have q:Q (.bl ((xs.zip ys).all (fun p=>bL n p.1 p.2) && xs.length == ys.length)) H:=q
  by_cases hl:xs.length=ys.length
  ·have:=SeqAt.RcAt.lists p1.isList p2'.isList (by rw [aR1,aR1]; omega) hu0 (lP I hu r1 r2 v1 v2 o)
   have hm:min xs.length ys.length=its.length:=by omega
   rw [aR1,<- hm,j5] at this
   rw [show (xs.length == ys.length)=true by simpa using hl,Bool.and_true] at q
   exact this _ _ _ _ ⟨.bl _,H,I,rfl,q⟩
  ·have:=SeqAt.RcAt.lists_lengths (A:=X.A) p1.isList p2'.isList (by rw [aR1,aR1]; simp; omega) hu0
   rw [show (xs.length == ys.length)=false by simpa using hl,ba9] at q
   exact this _ _ _ _ ⟨.bl _,H,I,rfl,q⟩
 ·obtain ⟨p,us,rfl,h1,r1⟩:=rx.kt_
  obtain ⟨p2,ws,rfl,h2,r2⟩:=ry.kt_
  cases ra; cases rb
  obtain ⟨its,v1,p1,_⟩:=I.tuple (.inr h1)
  obtain ⟨its2,v2,p2',_⟩:=I.tuple (.inr h2)
  have l1:=v1.length
  have l2:=v2.length
  have m1:=r1.length
  have m2:=r2.length
  have:=SeqAt.RcAt.tuples p1 p2' hu0 (lP I hu r1 r2 v1 v2 o)
  rw [aR1,aR1,<- l1,<- l2,m1,m2,j5] at this
  exact this _ _ _ _ ⟨.bl _,H,I,rfl,q⟩
theorem as9 (n:Nat) (hu:X.A.units+(n+1) < cLine):bX X (compareOp .NotEq) (uF X.K n true):=by
 intro pins s σ H v w a b Q I ra rb h
 obtain ⟨x,y,rx,ry,kd,o,q⟩:=h
 have hu0:X.A.units < cLine:=by omega
 rcases kd with ⟨xs,ys,rfl,rfl⟩ | ⟨xs,ys,rfl,rfl⟩ | ⟨xs,ys,rfl,rfl⟩
 ·obtain ⟨p,us,rfl,h1,r1⟩:=rx.sqT
  obtain ⟨p2,ws,rfl,h2,r2⟩:=ry.sqT
  cases ra; cases rb
  obtain ⟨its,v1,p1,_⟩:=I.tuple (aN.of (K:=X.K) h1)
  obtain ⟨its2,v2,p2',_⟩:=I.tuple (aN.of (K:=X.K) h2)
  have l1:=v1.length
  have l2:=v2.length
  have m1:=r1.length
  have m2:=r2.length
  have:=SeqAt.RcNeAt.tuples p1 p2' hu0 (lP I hu r1 r2 v1 v2 o)
  rw [aR1,aR1,<- l1,<- l2,m1,m2,j5] at this
  exact this _ _ _ _ ⟨.bl _,H,I,rfl,q⟩
 ·obtain ⟨p,us,rfl,_,h1,r1⟩:=rx.sqL
  obtain ⟨p2,ws,rfl,_,h2,r2⟩:=ry.sqL
  cases ra; cases rb
  obtain ⟨its,v1,p1,_⟩:=I.list (aP.of (K:=X.K) h1)
  obtain ⟨its2,v2,p2',_⟩:=I.list (aP.of (K:=X.K) h2)
  have l1:=v1.length
  have l2:=v2.length
  have m1:=r1.length
  have m2:=r2.length
  have q:Q (.bl (!((xs.zip ys).all (fun p=>bL n p.1 p.2) && xs.length == ys.length))) H:=q
  by_cases hl:xs.length=ys.length
  ·have:=SeqAt.RcNeAt.lists p1.isList p2'.isList (by rw [aR1,aR1]; omega) hu0 (lP I hu r1 r2 v1 v2 o)
   have hm:min xs.length ys.length=its.length:=by omega
   rw [aR1,<- hm,j5] at this
   rw [show (xs.length == ys.length)=true by simpa using hl,Bool.and_true] at q
   exact this _ _ _ _ ⟨.bl _,H,I,rfl,q⟩
  ·have:=SeqAt.RcNeAt.lists_lengths (A:=X.A) p1.isList p2'.isList (by rw [aR1,aR1]; simp; omega) hu0
   rw [show (xs.length == ys.length)=false by simpa using hl,ba9] at q
   exact this _ _ _ _ ⟨.bl _,H,I,rfl,q⟩
 ·obtain ⟨p,us,rfl,h1,r1⟩:=rx.kt_
  obtain ⟨p2,ws,rfl,h2,r2⟩:=ry.kt_
  cases ra; cases rb
  obtain ⟨its,v1,p1,_⟩:=I.tuple (.inr h1)
  obtain ⟨its2,v2,p2',_⟩:=I.tuple (.inr h2)
  have l1:=v1.length
  have l2:=v2.length
  have m1:=r1.length
  have m2:=r2.length
  have:=SeqAt.RcNeAt.tuples p1 p2' hu0 (lP I hu r1 r2 v1 v2 o)
  rw [aR1,aR1,<- l1,<- l2,m1,m2,j5] at this
  exact this _ _ _ _ ⟨.bl _,H,I,rfl,q⟩
theorem B8 {n:Nat}{neg:Bool}:dY X (mX n neg) (uF X.K n neg):=by
 rintro W Hs H u v x y g g' Q Q' s n r1 r2 ⟨kd,o,q⟩ k
 exact⟨x,y,r1.same (aC.refl _) fun _ _=>trivial,r2.same (aC.refl _) fun _ _=>trivial,kd.elim .inl fun z=>.inr (.inl z),o,k _ _ _ .fr (aC.refl _) (.bl _) q⟩
theorem at0 (hu:X.A.units+3 < cLine) (ha:QE X a ta) (hb:QE X b tb):QT X (.Compare a [.NotEq] [b] pos) (b6 (q2 (mX 2 true) ta tb)):=kI (as9 2 hu) B8 ha hb (fZ _)
theorem at2 (hu:X.A.units+3 < cLine) (ha:QE X a ta) (hb:QE X b tb):QE X (.Compare a [.Eq] [b] pos) (q2 (mX 2 false) ta tb):=lM (as8 2 hu) B8 ha hb (fZ _)
end
end PP
namespace PP
open PySem L2 PyProof.Rows
def LO (X:Cx) (t:lI):TO:=fun σ H Q'=>∃ (W:Addr->Prop) (ρ:bE) (Q:Option Int->Prop),PX X.K X.H₀ W σ ρ H/\t ρ Q/\∀ o H',aC H H'->Q o->Q' o H'
def QO (X:Cx) (e:Option Expr) (t:lI):Prop:=PO X e (LO X t)
theorem Reps.cut {K:PySem.W.Frag}{M:Addr->Prop}{H:Hp}{us:List V}{xs:List PV} (r:Reps K M H us xs) (lo hi:Option Int):Reps K M H (gN us lo hi) (iB xs lo hi):=by
 unfold gN iB
 rw [r.length]
 exact (r.drop _).take _
section
variable {X : Cx} {a b c e o : Expr} {es cG : List Expr} {ta tb te to tk : aB} {tr : cL} {tA tB' tc : cH} {pos p2 px : Pos} {st : Stmt} {sts : List Stmt} {t u : aS}
theorem uG:QO X none pH:=fun pins s σ H Q I h=>af6 pins s σ H Q I (by
 obtain ⟨W,ρ,Q1,px,q,k⟩:=h
 exact k _ _ (aC.refl _) q)
theorem uH (h:QE X e te):QO X (some e) (pI te):=fun pins s σ H Q I hq=>af7 h pins s σ H Q I (by
 obtain ⟨W,ρ,Q1,px,q,k⟩:=hq
 refine⟨W,ρ,_,px,q,?_⟩
 rintro v H1 x g s r ⟨i,rfl,q⟩
 cases r
 exact⟨i,rfl,k _ _ s q⟩)
theorem uI {lo hi:Option Expr}{tl th:lI}{sp:Pos} (he:QE X e te) (hl:QO X lo tl) (hh:QO X hi th):QE X (.Subscript e (.Slice lo hi none sp) pos) (pJ te tl th):=cF (af8 (ah0.or am7) he hl hh) fun σ H Q' h=>by
 obtain ⟨W,ρ,Q,px,q,k⟩:=h
 refine⟨W,ρ,_,px,q,fun v H1 x g s1 r1 q1=>⟨W,ρ,_,px.mono s1,q1,fun lo H2 s2 q2=>⟨W,ρ,_,px.mono (s1.trans s2),q2,?_⟩⟩⟩
 rintro hi H3 s3 ⟨xs,e,f,q3⟩
 have S:=(s1.trans s2).trans s3
 have r3:=r1.same (M':=Mg X.H₀ W H g) (s2.trans s3) fun _ z=>z
 cases r3 with
 | tup h r=>
  cases e
  refine .inr ⟨_,_,rfl,aN.of h,fun p hp=>k _ _ _ .fr (S.trans (bZ hp _)) (.tup cC (((r.flat f).cut lo hi).same (bZ hp _) fun _ z=>z)) q3,fun ec=>k _ _ _ .fr S (.tup h ?_) q3⟩
  have:=(r.flat (M':=Mg X.H₀ W H .fr) f).cut lo hi
  rw [ec] at this
  exact this
 | lst m h r=>
  cases e
  exact .inl ⟨_,_,rfl,aP.of h,fun p hp=>k _ _ _ .fr (S.trans (bZ hp _)) (.lst (S.free hp) cC (((r.flat f).cut lo hi).same (bZ hp _) fun _ z=>z)) q3⟩
 | scr h=>
  cases e
  exact .inl ⟨_,_,rfl,h.sqL,fun p hp=>k _ _ _ .fr (S.trans (bZ hp _)) (.lst (S.free hp) cC (((Reps.intz _).cut lo hi).same (bZ hp _) fun _ z=>z)) q3⟩
 | _=>cases e
structure Df (P:Program) (w:World) (K:PySem.W.Frag) (mg:Str->Option Value) (base:Heap) (k:Nat) (x:Str) (ps:List Str) (p:bO):Prop where
 ex:∃ f fd,dH P w K mg base eG k f fd ps (mV K p)/\jJ K fd ps []/\PySem.W.keepIn K (.ref f)=true/\mg x=some (.ref f)
theorem c8 {k j:Nat}{x:Str}{ps:List Str}{p:bO} (d:Df X.prog X.w X.K X.mg X.base k x ps p) (hr:bY j X.A) (ha:QA X (e :: es) tr) (hkj:k<=j:=by decide) (hg:Gl X x:=by rfl) (hdb:(x == ("__debug__" : Str))=false:=by decide)
  (he:starEach (e :: es) X.env=(false,eval e X.env) :: starEach es X.env:=by rfl) (hpl:(backTo pos (starEach es X.env)).any (·.1)=false:=by rfl):QE X (.Call (.Name x p2) (e :: es) [] pos) (aG p tr):=by
 obtain ⟨f,fd,F,b,kp,m⟩:=d.ex
 exact cF (sN F (hr.mono hkj) hg m kp b .nil ak0 ha hdb he hpl) fun _ _ _=>aq0
theorem uJ {K:PySem.W.Frag}{H:Hp}{N:List Str}{vs:List V}{xs:List PV} (r:Reps K (fun _=>True) H vs xs):PX K H (fun _=>False) (L2.gA N vs) (eB N xs) H:=by
 have lr:=r.length
 have own:∀ {i:Nat}{m:Slot},(eB N xs)[i]? = some (some m)->∃ x,xs[i]? = some x/\m = .sh (flat x) x:=fun {i m} h=>by
  unfold eB at h
  by_cases hi:i < xs.length
  ·rw [bd2 (by simpa using hi),aS8] at h
   rw [aR0 hi] at h ⊢
   cases h
   exact⟨_,rfl,rfl⟩
  ·rw [be5 (by simpa using hi),List.getElem?_replicate] at h
   split at h <;> cases h
 refine⟨by unfold L2.gA eB; simp [lr],aC.refl _,fun a z=>z.elim,fun i m h=>?_,fun i j x y a h1=>?_⟩
 ·obtain ⟨x,hx,rfl⟩:=own h
  obtain ⟨v,hv,rx⟩:=r.at hx
  refine⟨v,?_,jO (g:=false) (rx.same (aC.refl _) fun _ _ z=>z)⟩
  have hi:i < vs.length:=(aS2.mp hv).1
  unfold L2.gA
  rw [bd2 (by simpa using hi),aS8,hv]; rfl
 ·obtain ⟨x,_,e⟩:=own h1
  cases e
theorem Df.of {P:Program}{w:World}{K:PySem.W.Frag}{mg:Str->Option Value}{base:Heap}{k:Nat}{x:Str}{ps N:List Str}{p:bO}{st:Stmt}{f:Addr}{fd:FuncData} (F:fF K x x st f fd) (m:mg x=some (.ref f)) (S:FnScope N ps (aX st))
  (hb:∀ (kV doc pm:Value) (an:Option Addr) (cdv ct:Value) (us:List Value),us.length=ps.length->bindArgs (PySem.W.fnOf x x (iP st) (dX st) (aX st) .none kV doc pm an cdv ct) ⟨us,[]⟩=pure (ps.zip us))
  (len:∀ xs Q,p xs Q->xs.length=ps.length)
  (body:∀ (cdv:Value) (A:Around) (outer:List Env) (s:Shared) (H:Hp) (E:XK),bY k (A.deeper (envOfC x (aX st) s.heap.objs.size f cdv))->
   ∃ t,eJ (cV eG P w K mg base N x (aX st) f cdv A outer s H E).nox (dX st) t/\∀ xs Q,p xs Q->t { nx:=fun _=>Q .non,rt:=Q } (eB N xs)):Df P w K mg base (k+1) x ps p:=by
 refine⟨f,fd,F.ok S (fun vs H Q E h=>?_) (fun cdv A outer s H vs Q E hr h=>?_),F.binds hb,F.kp,m⟩
 ·obtain ⟨xs,Qp,r,q,_⟩:=h
  rw [r.length]; exact len xs Qp q
 ·obtain ⟨xs,Qp,r,q,k⟩:=h
  obtain ⟨t,ht,hq⟩:=body cdv A outer s H E hr
  refine⟨_,ht,fun _=>False,eB N xs,_,uJ r,hq xs Qp q,?_,?_,?_,?_⟩
  ·exact fun W' σ' H' ρ' e px q=>k _ _ _ px.same .non q
  ·exact fun v H' x s r q=>k _ _ _ s r q
  ·exact fun W' σ' H' ρ' e px q=>q
  ·exact fun W' σ' H' ρ' e px q=>q
theorem eU (i:Nat) {x:Str}{tp:Pos}{body:List Stmt}{ti:e9} (hN:X.N.Nodup) (hi:QI X (.Name x tp) e ti) (hb:eJ X body t) (hx:X.N[i]? = some x:=by rfl) (hl:fX X.env.scope x:=by first | exact Or.inl rfl | exact Or.inr rfl) (hf:X.fn x=true ∨ X.env.scope.names.lookup x=some .local:=by first | exact .inl rfl | exact .inr rfl)
  (hp:PassesOwn (model X.prog X.w) X.A X.env X.xe:=by exact PassesOwn.never) (hc:X.calm=true:=by rfl) (hs:∀ x,foldedSetIterable e X.env x=pure x:=by intro _; rfl):QS X (.For (.Name x tp) e body [] pos) (dI ti (cO i) t):=
 B1 hp hc hi (fY hN hx hl hf) (tU _ i) hb hs
theorem at3 (i j:Nat) {x y:Str}{tp xp yp:Pos}{kt:Nat}{body:List Stmt}{ti:e9} (hN:X.N.Nodup) (hi:QI X (.Tuple [.Name x xp,.Name y yp] kt tp) e ti) (hb:eJ X body t) (hx:X.N[i]? = some x:=by rfl) (hy:X.N[j]? = some y:=by rfl) (hlx:fX X.env.scope x:=by first | exact Or.inl rfl | exact Or.inr rfl) (hly:fX X.env.scope y:=by first | exact Or.inl rfl | exact Or.inr rfl)
  (hfx:X.fn x=true ∨ X.env.scope.names.lookup x=some .local:=by first | exact .inl rfl | exact .inr rfl) (hfy:X.fn y=true ∨ X.env.scope.names.lookup y=some .local:=by first | exact .inl rfl | exact .inr rfl)
  (hp:PassesOwn (model X.prog X.w) X.A X.env X.xe:=by exact PassesOwn.never) (hc:X.calm=true:=by rfl) (hs:∀ x,foldedSetIterable e X.env x=pure x:=by intro _; rfl):QS X (.For (.Tuple [.Name x xp,.Name y yp] kt tp) e body [] pos) (dI ti (iW i j) t):=
 B1 hp hc hi (oE hc (i5 (fY hN hx hlx hfx) (i5 (fY hN hy hly hfy) oD))) (tV _ i j) hb hs
abbrev dL:Value->Shared->Prop:=fun _ _=>False
section
variable {scope : Scope} {N : List Str} {fr : List (Option Nat)} {x y : Str} {tp xp yp : Pos} {kt : Nat} {iter elt : Expr} {ti : e9}
theorem B9 {ifs:List Expr}{tcs:cH} (he:∀ (s:Shared) (H:Hp) (C:Addr) (fp:List Addr),QE (cD X scope N s H C fp dL) elt te) (hi:∀ (s:Shared) (H:Hp) (C:Addr) (fp:List Addr),kA (cD X scope N s H C fp dL) ifs (LT (cD X scope N s H C fp dL) tcs))
  (hN:N.Nodup) (h0:N[0]? = some x) (hl:∀ (s:Shared) (H:Hp) (C:Addr) (fp:List Addr),(cD X scope N s H C fp dL).env.scope.names.lookup x=some .local) (s:Shared) (H:Hp) :
  oS X scope N (.Name x tp) ifs elt s H (dD 0) (LT (X.frm H) tcs) (LE (X.frm H) te):=
 ⟨fun C fp=>fY (X:=cD X scope N s H C fp dL) hN h0 (.inl (hl s H C fp)) (.inr (hl s H C fp)),fun C fp=>hi s H C fp,fun C fp=>he s H C fp⟩
theorem C0 {Y:Cx}:kA Y [] (LT Y iA):=fun pins s σ H Q I h=>ak7 pins s σ H Q I (aq8 h)
theorem at4 (hi:QI X (.Name x tp) iter ti) (he:∀ (s:Shared) (H:Hp) (C:Addr) (fp:List Addr),QE (cD X scope N s H C fp dL) elt te)
  (hc:X.calm=true:=by rfl) (S:fH X scope N fr:=by exact fH.of rfl rfl) (hN:N.Nodup:=by decide +kernel) (h0:N[0]? = some x:=by rfl) (hl:∀ (s:Shared) (H:Hp) (C:Addr) (fp:List Addr),(cD X scope N s H C fp dL).env.scope.names.lookup x=some .local:=by intro _ _ _ _; rfl) (hf:fr[0]? = some none:=by rfl)
  (hs:∀ x,foldedSetIterable iter X.env x=pure x:=by intro _; rfl):QE X (.ListComp elt [⟨.Name x tp,iter,[],0⟩] scope pos) (jP ti fr (cO 0) iA te):=
 cF (t7 (gh:=fun _=>dD 0) (tch:=fun H=>LT (X.frm H) iA) (teh:=fun H=>LE (X.frm H) te) hc S hi (B9 he (fun _ _ _ _=>C0) hN h0 hl) hs) fun _ _ _=>tW (tU _ 0) (fun i e=>by subst e; exact hf)
theorem at5 {c:Expr}{tcs:cH} (hi:QI X (.Name x tp) iter ti) (ht:∀ (s:Shared) (H:Hp) (C:Addr) (fp:List Addr),QT (cD X scope N s H C fp dL) c tcs) (he:∀ (s:Shared) (H:Hp) (C:Addr) (fp:List Addr),QE (cD X scope N s H C fp dL) elt te)
  (hc:X.calm=true:=by rfl) (S:fH X scope N fr:=by exact fH.of rfl rfl) (hN:N.Nodup:=by decide +kernel) (h0:N[0]? = some x:=by rfl) (hl:∀ (s:Shared) (H:Hp) (C:Addr) (fp:List Addr),(cD X scope N s H C fp dL).env.scope.names.lookup x=some .local:=by intro _ _ _ _; rfl) (hf:fr[0]? = some none:=by rfl)
  (hs:∀ x,foldedSetIterable iter X.env x=pure x:=by intro _; rfl):QE X (.ListComp elt [⟨.Name x tp,iter,[c],0⟩] scope pos) (jP ti fr (cO 0) tcs te):=
 cF (t7 (gh:=fun _=>dD 0) (tch:=fun H=>LT (X.frm H) tcs) (teh:=fun H=>LE (X.frm H) te) hc S hi (B9 he (fun s H C fp=>ak8 (ht s H C fp)) hN h0 hl) hs) fun _ _ _=>tW (tU _ 0) (fun i e=>by subst e; exact hf)
end
end
end PP
namespace SO
open PySem PyProof.Rows
section
variable (rk : Keyed → Int)
def Kr (xs:Array Keyed) (i:Nat):Int:=((xs[i]?).map rk).getD 0
def Up (xs:Array Keyed) (lo hi:Nat):Prop:=∀ i j,lo<=i->i<=j->j < hi->Kr rk xs i<=Kr rk xs j
def Dn (xs:Array Keyed) (lo hi:Nat):Prop:=∀ i j,lo<=i->i<=j->j < hi->Kr rk xs j<=Kr rk xs i
end
variable {rk : Keyed → Int}
theorem kK {xs ys:Array Keyed}{i j:Nat} (h:xs[i]? = ys[j]?):Kr rk xs i=Kr rk ys j:=by unfold Kr; rw [h]
theorem pU {xs:Array Keyed}{i j:Nat} (hj:j<=xs.size) (k:Nat):Kr rk (mirror xs i j ((j - i) / 2)) k=Kr rk xs (if i<=k/\k < j then i+j - 1 - k else k):=by
 refine kK ?_
 rw [getElem?_mirror_all hj]
 split <;> rfl
theorem uK {xs:Array Keyed}{i j:Nat} (hj:j<=xs.size) (e:∀ k,i<=k->k < j->Kr rk xs k=Kr rk xs (j - 1)) (k:Nat):Kr rk (mirror xs i j ((j - i) / 2)) k=Kr rk xs k:=by
 rw [pU hj]
 split
 ·rename_i h; rw [e k h.1 h.2,e _ (by omega) (by omega)]
 ·rfl
theorem at6 {xs:Array Keyed}{src d:Nat} (hs:src < xs.size) (hd:d<=src) (k:Nat):Kr rk (bubble xs src d) k=Kr rk xs (if k=src - d then src else if src - d < k/\k<=src then k - 1 else k):=by
 refine kK ?_
 rw [getElem?_bubble hs d hd]
 repeat' split
 all_goals rfl
structure SB (κ:SortKind) (a0:Array Keyed) (pd:Array (Nat × Nat × Nat)) (st:SortSt):Prop where
 pm:(arrOf st).Perm a0
 kd:kindOf st=κ
 ok:failedOf st=none
 pd:pendingOf st=pd
section
variable {κ : SortKind} {a0 : Array Keyed} {pd : Array (Nat × Nat × Nat)} {st : SortSt} {prog : Program} {w : World} {A : Around} {E : Value → Shared → Prop} {s : Shared} {Ok : Keyed → Prop}
theorem SB.sz (h:SB κ a0 pd st):(arrOf st).size=a0.size:=h.pm.size_eq
theorem SB.put (h:SB κ a0 pd st) {xs:Array Keyed} (hp:xs.Perm (arrOf st)):SB κ a0 pd (setArr st xs):=⟨hp.trans h.pm,h.kd,h.ok,h.pd⟩
def c6 (prog:Program) (w:World) (A:Around) (E:Value->Shared->Prop) (s:Shared) (κ:SortKind) (Ok:Keyed->Prop) (rk:Keyed->Int):Prop:=
 ∀ (x y:Keyed),Ok x->Ok y->∀ (st:SortSt) (Q:Option Bool->SortSt->Prop),kindOf st=κ->Q (some (decide (rk x < rk y))) st->wpS (model prog w) A E s (lt' x y) Q st
def bG (Ok:Keyed->Prop) (xs:Array Keyed):Prop:=∀ x ∈ xs,Ok x
theorem SB.all (h:SB κ a0 pd st) (o:bG Ok a0):bG Ok (arrOf st):=fun x hx=>o x (h.pm.mem_iff.mp hx)
theorem cP {xs:Array Keyed}{i:Nat}{Q:Keyed->SortSt->Prop} (hi:i < xs.size) (h:Q xs[i] st):wpS (model prog w) A E s (elem' xs i) Q st:=by
 rw [elem'_eq,getElem?_pos xs i hi]; exact aS7 h
theorem bV {xs:Array Keyed}{i:Nat} (hi:i < xs.size):Kr rk xs i=rk xs[i]:=by unfold Kr; rw [getElem?_pos xs i hi]; rfl
theorem nH (c:c6 prog w A E s κ Ok rk) (o:bG Ok a0) (b:SB κ a0 pd st) {i j:Nat}{Q:Option Bool->SortSt->Prop} (hi:i < a0.size) (hj:j < a0.size)
  (h:Q (some (decide (Kr rk (arrOf st) i < Kr rk (arrOf st) j))) st):wpS (model prog w) A E s (ltAt' i j) Q st:=by
 have hi':i < (arrOf st).size:=by rw [b.sz]; exact hi
 have hj':j < (arrOf st).size:=by rw [b.sz]; exact hj
 rw [ltAt'_eq]
 refine aR9 (wpS_get (aR9 (cP hi' (aR9 (cP hj' ?_)))))
 refine c _ _ (b.all o _ (aV1 hi')) (b.all o _ (aV1 hj')) st Q b.kd ?_
 rw [<- bV (rk:=rk) hi',<- bV (rk:=rk) hj']; exact h
theorem pV {i j:Nat}{Q:Unit->SortSt->Prop} (h:Q () (setArr st (mirror (arrOf st) i j ((j - i) / 2)))):wpS (model prog w) A E s (reverseSlice' i j) Q st:=by
 rw [reverseSlice'_eq]; exact wpS_modify h
abbrev CS:=Option (Option Nat) × Nat
abbrev DS:=Option (Option Nat) × Nat × Nat
def nI (lo b nrem:Nat):StateT SortSt Sem CS:=forIn [b:nrem] ((none,b):CS) fun _ r=>do
 match <- ltAt' (lo+r.2) (lo+r.2 - 1) with
 | some q=>if q=true then pure (ForInStep.done (none,r.2)) else pure (ForInStep.yield (none,r.2+1))
 | _=>pure (ForInStep.done (some none,r.2))
def uL (lo b nrem:Nat):StateT SortSt Sem DS:=forIn [b:nrem] ((none,b,0):DS) fun _ r=>do
 match <- ltAt' (lo+r.2.1) (lo+r.2.1 - 1) with
 | some q=>
  if q=true then (if r.2.2 > 0 then do reverseSlice' (lo+r.2.1 - (r.2.2+1)) (lo+r.2.1); pure (ForInStep.yield (none,r.2.1+1,0)) else pure (ForInStep.yield (none,r.2.1+1,0)))
  else do
   match <- ltAt' (lo+r.2.1 - 1) (lo+r.2.1) with
   | some q=>if q=true then pure (ForInStep.done (none,r.2.1,r.2.2)) else pure (ForInStep.yield (none,r.2.1+1,r.2.2+1))
   | _=>pure (ForInStep.done (some none,r.2.1,r.2.2))
 | _=>pure (ForInStep.done (some none,r.2.1,r.2.2))
theorem C1 (c:c6 prog w A E s κ Ok rk) (o:bG Ok a0) (b:SB κ a0 pd st) {lo n nrem:Nat}{Q:CS->SortSt->Prop} (hz:lo+nrem<=a0.size) (h1:1<=n) (hn:n<=nrem) (u:Up rk (arrOf st) lo (lo+n))
  (h:∀ m,n<=m->m<=nrem->Up rk (arrOf st) lo (lo+m)->(m=nrem ∨ Kr rk (arrOf st) (lo+m) < Kr rk (arrOf st) (lo+m - 1))->Q (none,m) st):wpS (model prog w) A E s (nI lo n nrem) Q st:=by
 unfold nI
 refine aY6 (I:=fun x r st'=>st'=st/\r=(none,x)/\Up rk (arrOf st) lo (lo+x)) ?_ ?_ ⟨rfl,rfl,u⟩
 ·rintro x r st' hx hx' ⟨rfl,rfl,u'⟩
  refine aR9 (nH c o b (by omega) (by omega) ?_)
  by_cases hq:Kr rk (arrOf st') (lo+x) < Kr rk (arrOf st') (lo+x - 1)
  ·rw [aR6 hq]
   exact aS7 (h x hx (by omega) u' (.inr hq))
  ·rw [aR2 hq]
   refine aS7 ⟨rfl,rfl,fun i j hi hij hj=>?_⟩
   rcases aV8 j (lo+x) with z | z
   ·exact u' i j hi hij z
   ·have ej:j=lo+x:=by omega
    subst ej
    rcases be8 hij with z | z
    ·rw [z]; exact aR4 _
    ·have:=u' i (lo+x - 1) hi (by omega) (by omega)
     omega
 ·rintro r st' ⟨rfl,rfl,u'⟩
  have em:max n nrem=nrem:=by omega
  rw [em] at u' ⊢
  exact h nrem hn (aR8 _) u' (.inl rfl)
structure nJ (rk:Keyed->Int) (xs ys:Array Keyed) (lo m q:Nat):Prop where
 dn:Dn rk ys lo (lo+m)
 le:q+1<=m
 eq:∀ i,lo+m - (q+1)<=i->i < lo+m->Kr rk ys i=Kr rk ys (lo+m - 1)
 low:∀ i,i < lo->Kr rk ys i=Kr rk xs i
theorem at7 (c:c6 prog w A E s κ Ok rk) (o:bG Ok a0) (b:SB κ a0 pd st) {lo n nrem:Nat}{xs:Array Keyed}{Q:DS->SortSt->Prop} (hz:lo+nrem<=a0.size) (h1:1<=n) (hn:n<=nrem) (u:nJ rk xs (arrOf st) lo n 0)
  (h:∀ m q st',SB κ a0 pd st'->n<=m->m<=nrem->nJ rk xs (arrOf st') lo m q->Q (none,m,q) st'):wpS (model prog w) A E s (uL lo n nrem) Q st:=by
 unfold uL
 refine aY6 (I:=fun x r st'=>∃ q,r=(none,x,q)/\SB κ a0 pd st'/\nJ rk xs (arrOf st') lo x q) ?_ ?_ ⟨0,rfl,b,u⟩
 ·rintro x r st' hx hx' ⟨q,rfl,b',f⟩
  have sz:=b'.sz
  dsimp only
  refine aR9 (nH c o b' (by omega) (by omega) ?_)
  by_cases hq:Kr rk (arrOf st') (lo+x) < Kr rk (arrOf st') (lo+x - 1)
  ·rw [aR6 hq]
   have nx:∀ ys:Array Keyed,(∀ k,Kr rk ys k=Kr rk (arrOf st') k)->nJ rk xs ys lo (x+1) 0:=fun ys e=>by
    refine⟨fun i j hi hij hj=>?_,by omega,fun i h1 h2=>by rw [show i=lo+(x+1) - 1 by omega],fun i hi=>(e i).trans (f.low i hi)⟩
    rw [e,e]
    rcases aV8 j (lo+x) with z | z
    ·exact f.dn i j hi hij z
    ·have ej:j=lo+x:=by omega
     subst ej
     rcases be8 hij with z | z
     ·rw [z]; exact aR4 _
     ·have:=f.dn i (lo+x - 1) hi (by omega) (by omega)
      omega
   dsimp only
   rw [if_pos rfl]
   by_cases hp:q > 0
   ·rw [if_pos hp]
    exact aR9 (pV (aS7 ⟨0,rfl,b'.put (mirror_perm _ _ _ _),nx _ (uK (by omega) f.eq)⟩))
   ·rw [if_neg hp]
    exact aS7 ⟨0,rfl,b',nx _ fun _=>rfl⟩
  ·rw [aR2 hq]
   dsimp only
   rw [if_neg aT3]
   refine aR9 (nH c o b' (by omega) (by omega) ?_)
   by_cases hl:Kr rk (arrOf st') (lo+x - 1) < Kr rk (arrOf st') (lo+x)
   ·rw [aR6 hl]
    exact aS7 (h x q st' b' hx (by omega) f)
   ·rw [aR2 hl]
    have ex:Kr rk (arrOf st') (lo+x)=Kr rk (arrOf st') (lo+x - 1):=by omega
    refine aS7 ⟨q+1,rfl,b',fun i j hi hij hj=>?_,by have:=f.le; omega,fun i h1 h2=>?_,f.low⟩
    ·rcases aV8 j (lo+x) with z | z
     ·exact f.dn i j hi hij z
     ·have ej:j=lo+x:=by omega
      subst ej
      rcases be8 hij with z | z
      ·rw [z]; exact aR4 _
      ·rw [ex]; exact f.dn i (lo+x - 1) hi (by omega) (by omega)
    ·rw [show lo+(x+1) - 1=lo+x by omega]
     rcases aV8 i (lo+x) with z | z
     ·rw [ex]; exact f.eq i (by omega) z
     ·rw [show i=lo+x by omega]
 ·rintro r st' ⟨q,rfl,b',f⟩
  have em:max n nrem=nrem:=by omega
  rw [em] at f ⊢
  exact h nrem q st' b' hn (aR8 _) f
theorem C2 (c:c6 prog w A E s κ Ok rk) (o:bG Ok a0) (b:SB κ a0 pd st) {lo nrem:Nat} (n:Nat) {xs:Array Keyed}{Q:Option Nat->SortSt->Prop}{K:DS->StateT SortSt Sem (Option Nat)}{k:CS->StateT SortSt Sem (Option Nat)} (hz:lo+nrem<=a0.size) (hn:n+1<=nrem)
  (hK:∀ m q,K (none,m,q)=if q > 0 then reverseSlice' (lo+m - (q+1)) (lo+m) >>= fun _=>reverseSlice' lo (lo+m) >>= fun _=>nI lo m nrem >>= k else reverseSlice' lo (lo+m) >>= fun _=>nI lo m nrem >>= k)
  (hk:∀ m,k (none,m)=pure (some m)) (u:nJ rk xs (arrOf st) lo (n+1) 0)
  (h:∀ m st',SB κ a0 pd st'->1<=m->m<=nrem->Up rk (arrOf st') lo (lo+m)->(∀ i,i < lo->Kr rk (arrOf st') i=Kr rk xs i)->Q (some m) st'):wpS (model prog w) A E s (liftM (rule "list.sort.descending-run") >>= fun _=>uL lo (n+1) nrem >>= K) Q st:=by
 refine aR9 (wpS_lift (be1 ⟨rfl,?_⟩))
 refine aR9 (at7 c o b hz (by omega) hn u fun m q st1 b1 m1 m2 f=>?_)
 have fin:∀ st2:SortSt,SB κ a0 pd st2->(∀ k,Kr rk (arrOf st2) k=Kr rk (arrOf st1) k)->
   wpS (model prog w) A E s (reverseSlice' lo (lo+m) >>= fun _=>nI lo m nrem >>= k) Q st2:=fun st2 b2 e=>by
  have sz:=b2.sz
  have low:∀ i,i < lo->Kr rk (mirror (arrOf st2) lo (lo+m) ((lo+m - lo) / 2)) i=Kr rk xs i:=fun i hi=>by
   rw [pU (by omega),if_neg (by omega),e]
   exact f.low i hi
  refine aR9 (pV (aR9 (C1 (κ:=κ) c o (b2.put (mirror_perm _ _ _ _)) hz (by omega) m2 ?_ fun m' h1 h2 up _=>by rw [hk]; exact aS7 (h m' _ (b2.put (mirror_perm _ _ _ _)) (by omega) h2 up low))))
  ·intro i j hi hij hj
   show Kr rk (mirror (arrOf st2) lo (lo+m) _) i<=Kr rk (mirror (arrOf st2) lo (lo+m) _) j
   rw [pU (by omega),pU (by omega),if_pos (by omega),if_pos (by omega),e,e]
   exact f.dn _ _ (by omega) (by omega) (by omega)
 rw [hK]
 by_cases hp:q > 0
 ·rw [if_pos hp]
  have sz:=b1.sz
  exact aR9 (pV (fin _ (b1.put (mirror_perm _ _ _ _)) (uK (by omega) f.eq)))
 ·rw [if_neg hp]
  exact fin st1 b1 fun _=>rfl
theorem at8 (c:c6 prog w A E s κ Ok rk) (o:bG Ok a0) (b:SB κ a0 pd st) {lo nrem:Nat}{Q:Option Nat->SortSt->Prop} (hz:lo+nrem<=a0.size) (h1:1<=nrem)
  (h:∀ m st',SB κ a0 pd st'->1<=m->m<=nrem->Up rk (arrOf st') lo (lo+m)->(∀ i,i < lo->Kr rk (arrOf st') i=Kr rk (arrOf st) i)->Q (some m) st'):wpS (model prog w) A E s (countRun' lo nrem) Q st:=by
 rw [countRun'_eq]
 refine aR9 (C1 (n:=1) c o b hz (aR8 _) h1 (fun i j hi hij hj=>by rw [show i=j by omega]; exact aR4 _) fun n n1 n2 un on=>?_)
 dsimp only
 by_cases en:(n == nrem)=true
 ·rw [if_pos en]
  exact aS7 (h n st b n1 n2 un fun _ _=>rfl)
 ·rw [if_neg en]
  have en':n ≠ nrem:=by simpa using en
  have lt:=on.resolve_left en'
  have sz:=b.sz
  by_cases g:n > 1
  ·rw [if_pos g]
   refine aR9 (nH c o b (by omega) (by omega) ?_)
   by_cases hq:Kr rk (arrOf st) lo < Kr rk (arrOf st) (lo+n - 1)
   ·rw [aR6 hq]
    exact aS7 (h n st b n1 n2 un fun _ _=>rfl)
   ·rw [aR2 hq]
    dsimp only
    rw [if_neg aT3]
    have all:∀ k,lo<=k->k < lo+n->Kr rk (arrOf st) k=Kr rk (arrOf st) (lo+n - 1):=fun k k1 k2=>by
     have a1:=un lo k (aR8 _) k1 k2
     have a2:=un k (lo+n - 1) k1 (by omega) (by omega)
     omega
    have sm:=uK (rk:=rk) (xs:=arrOf st) (i:=lo) (j:=lo+n) (by omega) all
    refine aR9 (pV (C2 (xs:=arrOf st) (κ:=κ) c o (b.put (mirror_perm _ _ _ _)) n hz (by omega) (fun _ _=>rfl) (fun _=>rfl) ⟨fun i j hi hij hj=>?_,by omega,fun i h1 h2=>by rw [show i=lo+(n+1) - 1 by omega],fun i _=>sm i⟩ h))
    show Kr rk (mirror (arrOf st) lo (lo+n) _) j<=Kr rk (mirror (arrOf st) lo (lo+n) _) i
    rw [sm,sm]
    rcases aV8 j (lo+n) with z | z
    ·rw [all i hi (by omega),all j (by omega) z]; exact aR4 _
    ·have ej:j=lo+n:=by omega
     subst ej
     rcases be8 hij with z | z
     ·rw [z]; exact aR4 _
     ·rw [all i hi (by omega)]; exact Int.le_of_lt lt
  ·rw [if_neg g]
   have e1:n=1:=by omega
   subst e1
   refine C2 (xs:=arrOf st) c o b 1 hz (by omega) (fun _ _=>rfl) (fun _=>rfl) ⟨fun i j hi hij hj=>?_,by omega,fun i h1 h2=>by rw [show i=lo+(1+1) - 1 by omega],fun i _=>rfl⟩ h
   rcases be8 hij with z | z
   ·rw [z]; exact aR4 _
   ·have ei:i=lo+1 - 1:=by omega
    have ej:j=lo+1:=by omega
    rw [ei,ej]; exact Int.le_of_lt lt
theorem at9 (c:c6 prog w A E s κ Ok rk) (o:bG Ok a0) (b:SB κ a0 pd st) {lo n q:Nat}{Q:Bool->SortSt->Prop} (hz:lo+n<=a0.size) (hq:q<=n) (u:Up rk (arrOf st) lo (lo+q))
  (h:∀ st',SB κ a0 pd st'->Up rk (arrOf st') lo (lo+n)->(∀ i,i < lo->Kr rk (arrOf st') i=Kr rk (arrOf st) i)->Q true st'):wpS (model prog w) A E s (binarySort' lo n q) Q st:=by
 rw [binarySort'_eq]
 refine aR9 (bf7 (aY6 (I:=fun k r st'=>r=(none,())/\SB κ a0 pd st'/\Up rk (arrOf st') lo (lo+min k n)/\∀ i,i < lo->Kr rk (arrOf st') i=Kr rk (arrOf st) i)
  (Q:=fun r st'=>r=(none,())/\SB κ a0 pd st'/\Up rk (arrOf st') lo (lo+n)/\∀ i,i < lo->Kr rk (arrOf st') i=Kr rk (arrOf st) i) ?_ ?_ ?_) ?_)
 ·rintro k r st1 hk hkn ⟨rfl,b1,u1,l1⟩
  rw [show min k n=k by omega] at u1
  have hk0:lo+k < a0.size:=by omega
  have sz:=b1.sz
  refine aR9 (bf7 (aY6 (I:=fun x r st'=>st'=st1/\∃ l g,r=(none,l,g)/\l<=g/\g<=k/\g - l<=k - x/\(∀ i,i < l->Kr rk (arrOf st1) (lo+i)<=Kr rk (arrOf st1) (lo+k))/\∀ i,g<=i->i < k->Kr rk (arrOf st1) (lo+k) < Kr rk (arrOf st1) (lo+i))
   (Q:=fun r st'=>st'=st1/\∃ l g,r=(none,l,g)/\l<=k/\(∀ i,i < l->Kr rk (arrOf st1) (lo+i)<=Kr rk (arrOf st1) (lo+k))/\∀ i,l<=i->i < k->Kr rk (arrOf st1) (lo+k) < Kr rk (arrOf st1) (lo+i)) ?_ ?_ ?_) ?_)
  ·rintro x r st2 _ hx ⟨rfl,l,g,rfl,d1,d2,d3,f1,f2⟩
   dsimp only
   by_cases hlg:l >= g
   ·rw [if_pos hlg]
    have e:g=l:=by omega
    subst e
    exact aS7 ⟨rfl,g,g,rfl,d2,f1,f2⟩
   ·rw [if_neg hlg]
    refine aR9 (nH c o b1 hk0 (by omega) ?_)
    by_cases hc:Kr rk (arrOf st2) (lo+k) < Kr rk (arrOf st2) (lo+(l+g) / 2)
    ·rw [aR6 hc]
     refine aS7 ⟨rfl,l,(l+g) / 2,rfl,by omega,by omega,by omega,f1,fun i i1 i2=>?_⟩
     have:=u1 (lo+(l+g) / 2) (lo+i) (by omega) (by omega) (by omega)
     omega
    ·rw [aR2 hc]
     refine aS7 ⟨rfl,(l+g) / 2+1,g,rfl,by omega,d2,by omega,fun i i1=>?_,f2⟩
     have:=u1 (lo+i) (lo+(l+g) / 2) (by omega) (by omega) (by omega)
     omega
  ·rintro r st2 ⟨rfl,l,g,rfl,d1,d2,d3,f1,f2⟩
   have e:g=l:=by omega
   subst e
   exact⟨rfl,g,g,rfl,d2,f1,f2⟩
  ·exact⟨rfl,0,k,rfl,by omega,by omega,by omega,fun i hi=>absurd hi (by omega),fun i i1 i2=>absurd i1 (by omega)⟩
  ·rintro r st2 ⟨rfl,l,g,rfl,d,f1,f2⟩
   dsimp only
   rw [moveDown'_eq]
   have kb:∀ i,Kr rk (bubble (arrOf st2) (lo+k) (lo+k - (lo+l))) i=Kr rk (arrOf st2) (if i=lo+l then lo+k else if lo+l < i/\i<=lo+k then i - 1 else i):=fun i=>by
    rw [at6 (by omega) (by omega),show lo+k - (lo+k - (lo+l))=lo+l by omega]
   refine aR9 (wpS_modify (aS7 ⟨rfl,b1.put (bubble_perm _ _ _),fun i j hi hij hj=>?_,fun i hi=>?_⟩))
   ·show Kr rk (bubble (arrOf st2) (lo+k) (lo+k - (lo+l))) i<=Kr rk (bubble (arrOf st2) (lo+k) (lo+k - (lo+l))) j
    rw [kb,kb]
    rw [show min (k+1) n=k+1 by omega] at hj
    have v1:∀ p,lo<=p->p < lo+l->Kr rk (arrOf st2) p<=Kr rk (arrOf st2) (lo+k):=fun p p1 p2=>by have:=f1 (p - lo) (by omega); rwa [show lo+(p - lo)=p by omega] at this
    have v2:∀ p,lo+l<=p->p < lo+k->Kr rk (arrOf st2) (lo+k) < Kr rk (arrOf st2) p:=fun p p1 p2=>by have:=f2 (p - lo) (by omega) (by omega); rwa [show lo+(p - lo)=p by omega] at this
    repeat' split
    all_goals first
     | (exfalso; omega)
     | exact aR4 _
     | exact v1 _ (by omega) (by omega)
     | exact Int.le_of_lt (v2 _ (by omega) (by omega))
     | exact u1 _ _ (by omega) (by omega) (by omega)
   ·show Kr rk (bubble (arrOf st2) (lo+k) (lo+k - (lo+l))) i=_
    rw [kb,if_neg (by omega),if_neg (by omega)]
    exact l1 i hi
 ·rintro r st1 ⟨rfl,b1,u1,l1⟩
  rw [show min (max (max q 1) n) n=n by omega] at u1
  exact⟨rfl,b1,u1,l1⟩
 ·refine⟨rfl,b,fun i j hi hij hj=>?_,fun _ _=>rfl⟩
  rcases aV8 j (lo+q) with z | z
  ·exact u i j hi hij z
  ·rw [show i=j by omega]; exact aR4 _
 ·rintro r st1 ⟨rfl,b1,u1,l1⟩
  exact aS7 (h st1 b1 u1 l1)
end
def jR:Bool->Keyed->Array Keyed->Nat->Nat->Nat->StateT SortSt Sem (Option Nat):=sortPriv% PySem.Builtin.gallop
def kL (lf:Bool) (key:Keyed) (xs:Array Keyed) (bs i:Nat):StateT SortSt Sem (Option Bool):=do
 let z <- elem' xs (bs+i)
 if lf then lt' z key else return (<- lt' key z).map (!·)
theorem au0 (lf:Bool) (key:Keyed) (xs:Array Keyed) (bs n h:Nat):jR lf key xs bs n h=(do
 let mut la:=0
 let mut of:=1
 let mut l:=0
 let mut g:=0
 let some rt <- kL lf key xs bs h | return none
 if rt then
  let mx:=n - h
  for _ in [0:n] do
   if of >= mx then break
   let some mr <- kL lf key xs bs (h+of) | return none
   if !mr then break
   la:=of
   of:=2 * of+1
  l:=h+la+1
  g:=h+min of mx
 else
  let mx:=h+1
  for _ in [0:n] do
   if of >= mx then break
   let some fd <- kL lf key xs bs (h - of) | return none
   if fd then break
   la:=of
   of:=2 * of+1
  l:=h+1 - min of mx
  g:=h - la
 for _ in [0:n] do
  if l >= g then break
  let m:=l+(g - l) / 2
  let some mr <- kL lf key xs bs m | return none
  if mr then l:=m+1 else g:=m
 return some g):=rfl
section
variable {rk : Keyed → Int} {κ : SortKind} {st : SortSt} {prog : Program} {w : World} {A : Around} {E : Value → Shared → Prop} {s : Shared} {Ok : Keyed → Prop}
def bS (rk:Keyed->Int) (lf:Bool) (key:Keyed) (xs:Array Keyed) (bs i:Nat):Bool:=if lf then decide (Kr rk xs (bs+i) < rk key) else decide (Kr rk xs (bs+i)<=rk key)
theorem pW (c:c6 prog w A E s κ Ok rk) (hk:kindOf st=κ) {lf:Bool}{key:Keyed}{xs:Array Keyed}{bs i:Nat}{Q:Option Bool->SortSt->Prop} (ok:Ok key) (o:bG Ok xs) (hi:bs+i < xs.size)
  (h:Q (some (bS rk lf key xs bs i)) st):wpS (model prog w) A E s (kL lf key xs bs i) Q st:=by
 unfold kL
 refine aR9 (cP hi ?_)
 unfold bS at h
 rw [bV hi] at h
 cases lf with
 | true=>
  simp only [if_true] at h ⊢
  exact c _ _ (o _ (aV1 hi)) ok st Q hk h
 | false=>
  simp only [aT6,aY3] at h ⊢
  refine aR9 (c _ _ ok (o _ (aV1 hi)) st _ hk (aS7 ?_))
  have e:(!decide (rk key < rk xs[bs+i]))=decide (rk xs[bs+i]<=rk key):=by
   by_cases z:rk xs[bs+i]<=rk key
   ·rw [aR6 z,aR2 (by omega)]; rfl
   ·rw [aR2 z,aR6 (by omega)]; rfl
  show Q (some (!decide (rk key < rk xs[bs+i]))) st
  rw [e]; exact h
abbrev GS:=Option (Option Nat) × Nat × Nat
def C3 (lf:Bool) (key:Keyed) (xs:Array Keyed) (bs n l g:Nat):StateT SortSt Sem GS:=forIn [0:n] ((none,l,g):GS) fun _ r=>
 if r.2.1 >= r.2.2 then pure (ForInStep.done (none,r.2.1,r.2.2)) else do
  match <- kL lf key xs bs (r.2.1+(r.2.2 - r.2.1) / 2) with
  | some q=>if q=true then pure (ForInStep.yield (none,r.2.1+(r.2.2 - r.2.1) / 2+1,r.2.2)) else pure (ForInStep.yield (none,r.2.1,r.2.1+(r.2.2 - r.2.1) / 2))
  | _=>pure (ForInStep.done (some none,r.2.1,r.2.2))
theorem C4 (c:c6 prog w A E s κ Ok rk) (hk:kindOf st=κ) {lf:Bool}{key:Keyed}{xs:Array Keyed}{bs n l g:Nat}{Q:GS->SortSt->Prop} (ok:Ok key) (o:bG Ok xs) (hz:bs+n<=xs.size)
  (mono:∀ i j,i<=j->j < n->bS rk lf key xs bs j=true->bS rk lf key xs bs i=true) (hlg:l<=g) (hg:g<=n) (h1:∀ i,i < l->bS rk lf key xs bs i=true) (h2:∀ i,g<=i->i < n->bS rk lf key xs bs i=false)
  (hq:∀ k,k<=n->(∀ i,i < k->bS rk lf key xs bs i=true)->(∀ i,k<=i->i < n->bS rk lf key xs bs i=false)->Q (none,k,k) st):wpS (model prog w) A E s (C3 lf key xs bs n l g) Q st:=by
 unfold C3
 refine aY6 (I:=fun x r st'=>st'=st/\∃ l g,r=(none,l,g)/\l<=g/\g<=n/\g - l<=n - x/\(∀ i,i < l->bS rk lf key xs bs i=true)/\∀ i,g<=i->i < n->bS rk lf key xs bs i=false) ?_ ?_ ⟨rfl,l,g,rfl,hlg,hg,by omega,h1,h2⟩
 ·rintro x r st' _ hx ⟨rfl,l,g,rfl,d1,d2,d3,f1,f2⟩
  dsimp only
  by_cases hc:l >= g
  ·rw [if_pos hc]
   have e:g=l:=by omega
   subst e
   exact aS7 (hq g d2 f1 f2)
  ·rw [if_neg hc]
   refine aR9 (pW c hk ok o (by omega) ?_)
   cases z:bS rk lf key xs bs (l+(g - l) / 2) with
   | true=>exact aS7 ⟨rfl,_,_,rfl,by omega,d2,by omega,fun i hi=>mono i (l+(g - l) / 2) (by omega) (by omega) z,f2⟩
   | false=>
    refine aS7 ⟨rfl,_,_,rfl,by omega,by omega,by omega,f1,fun i i1 i2=>?_⟩
    cases y:bS rk lf key xs bs i with
    | false=>rfl
    | true=>rw [mono _ i i1 i2 y] at z; cases z
 ·rintro r st' ⟨rfl,l,g,rfl,d1,d2,d3,f1,f2⟩
  have e:g=l:=by omega
  subst e
  exact hq g d2 f1 f2
theorem lQ (c:c6 prog w A E s κ Ok rk) (hk:kindOf st=κ) {lf:Bool}{key:Keyed}{xs:Array Keyed}{bs n h:Nat}{Q:Option Nat->SortSt->Prop} (ok:Ok key) (o:bG Ok xs) (hh:h < n) (hz:bs+n<=xs.size) (u:Up rk xs bs (bs+n))
  (hq:∀ k,k<=n->(∀ i,i < k->bS rk lf key xs bs i=true)->(∀ i,k<=i->i < n->bS rk lf key xs bs i=false)->Q (some k) st):wpS (model prog w) A E s (jR lf key xs bs n h) Q st:=by
 have mono:∀ i j,i<=j->j < n->bS rk lf key xs bs j=true->bS rk lf key xs bs i=true:=fun i j hij hj e=>by
  have:=u (bs+i) (bs+j) (by omega) (by omega) (by omega)
  unfold bS at e ⊢
  cases lf with
  | true=>simp only [if_true,aT4] at e ⊢; omega
  | false=>simp only [aT6,aY3,aT4] at e ⊢; omega
 have monf:∀ i j,i<=j->j < n->bS rk lf key xs bs i=false->bS rk lf key xs bs j=false:=fun i j hij hj e=>by
  cases z:bS rk lf key xs bs j with
  | false=>rfl
  | true=>rw [mono i j hij hj z] at e; cases e
 rw [au0]
 refine aR9 (pW c hk ok o (by omega) ?_)
 dsimp only
 cases z:bS rk lf key xs bs h with
 | true=>
  rw [if_pos rfl]
  refine aR9 (bf7 (aY6 (I:=fun x r st'=>st'=st/\∃ la of,r=(none,la,of)/\la < of/\x < of/\h+la < n/\bS rk lf key xs bs (h+la)=true)
   (Q:=fun r st'=>st'=st/\∃ la of,r=(none,la,of)/\la < of/\h+la < n/\bS rk lf key xs bs (h+la)=true/\(of < n - h->bS rk lf key xs bs (h+of)=false)) ?_ ?_ ⟨rfl,0,1,rfl,by omega,by omega,by omega,z⟩) ?_)
  ·rintro x r st' _ hx ⟨rfl,la,of,rfl,d1,d2,d3,f⟩
   dsimp only
   by_cases hc:of >= n - h
   ·rw [if_pos hc]
    exact aS7 ⟨rfl,la,of,rfl,d1,d3,f,fun y=>absurd y (by omega)⟩
   ·rw [if_neg hc]
    refine aR9 (pW c hk ok o (by omega) ?_)
    cases y:bS rk lf key xs bs (h+of) with
    | true=>exact aS7 ⟨rfl,of,2 * of+1,rfl,by omega,by omega,by omega,y⟩
    | false=>exact aS7 ⟨rfl,la,of,rfl,d1,d3,f,fun _=>y⟩
  ·rintro r st' ⟨rfl,la,of,rfl,d1,d2,d3,f⟩
   exact⟨rfl,la,of,rfl,d1,d3,f,fun y=>absurd y (by omega)⟩
  ·rintro r st' ⟨rfl,la,of,rfl,d1,d3,f,ft⟩
   dsimp only
   refine aR9 (C4 (l:=h+la+1) (g:=h+min of (n - h)) c hk ok o hz mono (by omega) (by omega) (fun i hi=>mono i (h+la) (by omega) d3 f) (fun i i1 i2=>?_) fun k k1 k2 k3=>aS7 (hq k k1 k2 k3))
   rcases aV8 of (n - h) with y | y
   ·exact monf (h+of) i (by omega) i2 (ft y)
   ·exact absurd i1 (by omega)
 | false=>
  rw [if_neg aT3]
  refine aR9 (bf7 (aY6 (I:=fun x r st'=>st'=st/\∃ la of,r=(none,la,of)/\la < of/\x < of/\la<=h/\bS rk lf key xs bs (h - la)=false)
   (Q:=fun r st'=>st'=st/\∃ la of,r=(none,la,of)/\la < of/\la<=h/\bS rk lf key xs bs (h - la)=false/\(of < h+1->bS rk lf key xs bs (h - of)=true)) ?_ ?_ ⟨rfl,0,1,rfl,by omega,by omega,by omega,z⟩) ?_)
  ·rintro x r st' _ hx ⟨rfl,la,of,rfl,d1,d2,d3,f⟩
   dsimp only
   by_cases hc:of >= h+1
   ·rw [if_pos hc]
    exact aS7 ⟨rfl,la,of,rfl,d1,d3,f,fun y=>absurd y (by omega)⟩
   ·rw [if_neg hc]
    refine aR9 (pW c hk ok o (by omega) ?_)
    cases y:bS rk lf key xs bs (h - of) with
    | false=>exact aS7 ⟨rfl,of,2 * of+1,rfl,by omega,by omega,by omega,y⟩
    | true=>exact aS7 ⟨rfl,la,of,rfl,d1,d3,f,fun _=>y⟩
  ·rintro r st' ⟨rfl,la,of,rfl,d1,d2,d3,f⟩
   exact⟨rfl,la,of,rfl,d1,d3,f,fun y=>absurd y (by omega)⟩
  ·rintro r st' ⟨rfl,la,of,rfl,d1,d3,f,ft⟩
   dsimp only
   refine aR9 (C4 (l:=h+1 - min of (h+1)) (g:=h - la) c hk ok o hz mono (by omega) (by omega) (fun i hi=>?_) (fun i i1 i2=>monf (h - la) i i1 i2 f) fun k k1 k2 k3=>aS7 (hq k k1 k2 k3))
   rcases aV8 of (h+1) with y | y
   ·exact mono i (h - of) (by omega) (by omega) (ft y)
   ·exact absurd hi (by omega)
end
def lR:Nat->StateT SortSt Sem Unit:=sortPriv% PySem.Builtin.setMinGallop
def uM:Array Keyed->Array Keyed->StateT SortSt Sem (Array Keyed):=sortPriv% PySem.Builtin.mergeLo
theorem au1 (g:Nat):lR g=modify (fun st=>SortSt.mk' (kindOf st) (arrOf st) (pendingOf st) g (failedOf st)):=rfl
abbrev LS:=Option (Array Keyed) × Array Keyed × Nat × Nat × Nat × Nat × Nat
abbrev uN:=Option (Array Keyed) × Array Keyed × Nat × Nat × Nat × Nat
abbrev LO:=Option (Array Keyed) × Array Keyed × Nat × Nat × Nat
def pX (x y o:Array Keyed) (i j mg p q:Nat):StateT SortSt Sem (ForInStep LS):=do
 let v <- elem' x i
 if (i+1+1 == x.size)=true then pure (.done (some (o.push v ++ y.extract j y.size ++ x.extract (i+1) x.size),o.push v,i+1,j,mg,p,q))
 else if (decide (p < 7) && decide (q < 7))=true then pure (.done (none,o.push v,i+1,j,mg,p,q)) else pure (.yield (none,o.push v,i+1,j,mg,p,q))
def pY (x y o:Array Keyed) (i j mg p q:Nat):StateT SortSt Sem (ForInStep LS):=do
 let v <- elem' y j
 if (j+1 == y.size)=true then pure (.done (some (o.push v ++ x.extract i x.size ++ y.extract (j+1) y.size),o.push v,i,j+1,mg,p,q)) else do
  let u <- elem' x i
  match <- jR true u y (j+1) (y.size - (j+1)) 0 with
  | some k=>
   if k > 0 then
    if (j+1+k == y.size)=true then pure (.done (some (o.push v ++ y.extract (j+1) (j+1+k) ++ x.extract i x.size ++ y.extract (j+1+k) y.size),o.push v ++ y.extract (j+1) (j+1+k),i,j+1+k,mg,p,k))
    else pX x y (o.push v ++ y.extract (j+1) (j+1+k)) i (j+1+k) mg p k
   else pX x y (o.push v) i (j+1) mg p k
  | _=>pure (.done (some (o.push v ++ x.extract i x.size ++ y.extract (j+1) y.size),o.push v,i,j+1,mg,p,q))
def pZ (x y o:Array Keyed) (i j mg p q:Nat):StateT SortSt Sem (ForInStep LS):=do
 lR mg
 let v <- elem' y j
 match <- jR false v x i (x.size - i) 0 with
 | some k=>
  if k > 0 then
   if (i+k+1 == x.size)=true then pure (.done (some (o ++ x.extract i (i+k) ++ y.extract j y.size ++ x.extract (i+k) x.size),o ++ x.extract i (i+k),i+k,j,mg,k,q))
   else if (i+k == x.size)=true then pure (.done (some (o ++ x.extract i (i+k) ++ x.extract (i+k) x.size ++ y.extract j y.size),o ++ x.extract i (i+k),i+k,j,mg,k,q))
   else pY x y (o ++ x.extract i (i+k)) (i+k) j mg k q
  else pY x y o i j mg k q
 | _=>pure (.done (some (o ++ x.extract i x.size ++ y.extract j y.size),o,i,j,mg,p,q))
def uO (x y o:Array Keyed) (i j mg p q:Nat):StateT SortSt Sem LS:=forIn [0:x.size+y.size] ((none,o,i,j,mg,p,q):LS) fun _ r=>
 if r.2.2.2.2.1 > 1 then pZ x y r.2.1 r.2.2.1 r.2.2.2.1 (r.2.2.2.2.1 - 1) r.2.2.2.2.2.1 r.2.2.2.2.2.2 else pZ x y r.2.1 r.2.2.1 r.2.2.2.1 r.2.2.2.2.1 r.2.2.2.2.2.1 r.2.2.2.2.2.2
def uP (x y o:Array Keyed) (i j mg:Nat):StateT SortSt Sem uN:=forIn [0:x.size+y.size] ((none,o,i,j,0,0):uN) fun _ r=>do
 let v <- elem' y r.2.2.2.1
 let u <- elem' x r.2.2.1
 match <- lt' v u with
 | some q=>
  if q=true then do
   let v <- elem' y r.2.2.2.1
   if (r.2.2.2.1+1 == y.size)=true then pure (.done (some (r.2.1.push v ++ x.extract r.2.2.1 x.size ++ y.extract (r.2.2.2.1+1) y.size),r.2.1.push v,r.2.2.1,r.2.2.2.1+1,0,r.2.2.2.2.2+1))
   else if r.2.2.2.2.2+1 >= mg then pure (.done (none,r.2.1.push v,r.2.2.1,r.2.2.2.1+1,0,r.2.2.2.2.2+1)) else pure (.yield (none,r.2.1.push v,r.2.2.1,r.2.2.2.1+1,0,r.2.2.2.2.2+1))
  else do
   let u <- elem' x r.2.2.1
   if (r.2.2.1+1+1 == x.size)=true then pure (.done (some (r.2.1.push u ++ y.extract r.2.2.2.1 y.size ++ x.extract (r.2.2.1+1) x.size),r.2.1.push u,r.2.2.1+1,r.2.2.2.1,r.2.2.2.2.1+1,0))
   else if r.2.2.2.2.1+1 >= mg then pure (.done (none,r.2.1.push u,r.2.2.1+1,r.2.2.2.1,r.2.2.2.2.1+1,0)) else pure (.yield (none,r.2.1.push u,r.2.2.1+1,r.2.2.2.1,r.2.2.2.2.1+1,0))
 | _=>pure (.done (some (r.2.1 ++ x.extract r.2.2.1 x.size ++ y.extract r.2.2.2.1 y.size),r.2.1,r.2.2.1,r.2.2.2.1,r.2.2.2.2.1,r.2.2.2.2.2))
def C5 (x y o:Array Keyed) (i j mg:Nat):StateT SortSt Sem LO:=forIn [0:x.size+y.size] ((none,o,i,j,mg):LO) fun _ r=>do
 let u <- uP x y r.2.1 r.2.2.1 r.2.2.2.1 r.2.2.2.2
 match u.1 with
 | some z=>pure (.done (some z,u.2.1,u.2.2.1,u.2.2.2.1,r.2.2.2.2))
 | none=>do
  liftM (rule "list.sort.gallop")
  let v <- uO x y u.2.1 u.2.2.1 u.2.2.2.1 (r.2.2.2.2+1) u.2.2.2.2.1 u.2.2.2.2.2
  match v.1 with
  | some z=>pure (.done (some z,v.2.1,v.2.2.1,v.2.2.2.1,v.2.2.2.2.1))
  | none=>do
   lR (v.2.2.2.2.1+1)
   pure (.yield (none,v.2.1,v.2.2.1,v.2.2.2.1,v.2.2.2.2.1+1))
theorem au2 (x y:Array Keyed):uM x y=(do
 liftM (rule "list.sort.merge-lo")
 let v <- elem' y 0
 if (1 == y.size)=true then pure (#[v] ++ x.extract 0 x.size ++ y.extract 1 y.size)
 else if (0+1 == x.size)=true then pure (#[v] ++ y.extract 1 y.size ++ x.extract 0 x.size)
 else do
  let z <- get
  let r <- C5 x y #[v] 0 1 (gallopOf z)
  match r.1 with
  | some z=>pure z
  | none=>unsupported "internal:list.sort.merge-bound"):=by kernel_rfl
section
variable (rk : Keyed → Int)
def Sd (l:List Keyed):Prop:=l.Pairwise fun a b=>rk a<=rk b
structure MI (xs ys o:List Keyed) (i j:Nat):Prop where
 pm:o.Perm (xs.take i ++ ys.take j)
 sx:Sd rk (o ++ xs.drop i)
 sy:Sd rk (o ++ ys.drop j)
end
variable {rk : Keyed → Int} {xs ys o : List Keyed} {i j : Nat}
theorem Sd.ins {o a b d:List Keyed} (h1:Sd rk (o ++ a)) (h2:Sd rk (o ++ (b ++ d))) (h:∀ u ∈ b,∀ t ∈ a,rk u<=rk t):Sd rk ((o ++ b) ++ a):=by
 unfold Sd at *
 rw [aS9]
 obtain ⟨p1,p2,p3⟩:=aT9.mp h1
 obtain ⟨q1,q2,q3⟩:=aT9.mp h2
 obtain ⟨r1,r2,r3⟩:=aT9.mp q2
 refine aT9.mpr ⟨p1,aT9.mpr ⟨r1,p2,h⟩,fun u hu t ht=>?_⟩
 rcases aU4.mp ht with z | z
 ·exact q3 u hu t (aU3 _ z)
 ·exact p3 u hu t z
theorem MI.ofy (m:MI rk xs ys o i j) (k:Nat) (h:∀ u ∈ (ys.drop j).take k,∀ t ∈ xs.drop i,rk u<=rk t):MI rk xs ys (o ++ (ys.drop j).take k) i (j+k):=by
 have e:(ys.drop j).take k ++ ys.drop (j+k)=ys.drop j:=by rw [<- List.drop_drop]; exact aU9 k _
 refine⟨?_,Sd.ins m.sx (d:=ys.drop (j+k)) (by rw [e]; exact m.sy) h,by rw [aS9,e]; exact m.sy⟩
 rw [List.take_add,<- aS9]
 exact m.pm.append_right _
theorem MI.ofx (m:MI rk xs ys o i j) (k:Nat) (h:∀ u ∈ (xs.drop i).take k,∀ t ∈ ys.drop j,rk u<=rk t):MI rk xs ys (o ++ (xs.drop i).take k) (i+k) j:=by
 have e:(xs.drop i).take k ++ xs.drop (i+k)=xs.drop i:=by rw [<- List.drop_drop]; exact aU9 k _
 refine⟨?_,by rw [aS9,e]; exact m.sx,Sd.ins m.sy (d:=xs.drop (i+k)) (by rw [e]; exact m.sx) h⟩
 rw [List.take_add]
 refine (m.pm.append_right _).trans ?_
 rw [aS9,aS9]
 exact (aX4).append_left _
theorem MI.fin (m:MI rk xs ys o i j) (h:xs.length<=i ∨ ys.length<=j):(o ++ xs.drop i ++ ys.drop j).Perm (xs ++ ys)/\Sd rk (o ++ xs.drop i ++ ys.drop j):=by
 refine⟨?_,?_⟩
 ·rw [aS9]
  refine (m.pm.append_right _).trans ?_
  have e1:xs=xs.take i ++ xs.drop i:=(aU9 i xs).symm
  have e2:ys=ys.take j ++ ys.drop j:=(aU9 j ys).symm
  conv=>rhs; rw [e1,e2]
  rw [aS9,aS9]
  refine bf1 _ ?_
  rw [<- aS9,<- aS9]
  exact (aX4).append_right _
 ·rcases h with h | h
  ·rw [List.drop_eq_nil_of_le h,aX8]; exact m.sy
  ·rw [List.drop_eq_nil_of_le h,aX8]; exact m.sx
theorem MI.lst (m:MI rk xs ys o i j) (h:∀ u ∈ ys,∀ t ∈ xs.drop i,rk u<=rk t):(o ++ ys.drop j ++ xs.drop i).Perm (xs ++ ys)/\Sd rk (o ++ ys.drop j ++ xs.drop i):=by
 have m2:=m.ofy ys.length fun u hu t ht=>h u (List.mem_of_mem_drop (bf8 hu)) t ht
 have e:(ys.drop j).take ys.length=ys.drop j:=aY7 (by simp)
 rw [e] at m2
 have f:=m2.fin (.inr (by omega))
 rw [List.drop_eq_nil_of_le (as:=ys) (i:=j+ys.length) (by omega),aX8] at f
 exact f
theorem C6 {x:Array Keyed}{i k:Nat}{u:Keyed} (h:u ∈ (x.toList.drop i).take k):∃ t,t < k/\i+t < x.size/\rk u=Kr rk x (i+t):=by
 obtain ⟨t,ht,e⟩:=aX5 h
 have h1:t < k/\i+t < x.size:=by simp at ht; omega
 refine⟨t,h1.1,h1.2,?_⟩
 rw [bV h1.2,<- e]
 simp
theorem nL {x:Array Keyed}{i:Nat}{u:Keyed} (h:u ∈ x.toList.drop i):∃ t,i+t < x.size/\rk u=Kr rk x (i+t):=by
 obtain ⟨t,ht,e⟩:=aX5 h
 have h1:i+t < x.size:=by simp at ht; omega
 refine⟨t,h1,?_⟩
 rw [bV h1,<- e]
 simp
theorem Sd.up {x:Array Keyed} (h:Sd rk x.toList) (lo hi:Nat) (hh:hi<=x.size):Up rk x lo hi:=fun i j _ hij hj=>by
 rw [bV (by omega:i < x.size),bV (by omega:j < x.size)]
 rcases be8 hij with z | z
 ·subst z; exact aR4 _
 ·have:=aV3.mp h i j (by simp; omega) (by simp; omega) z
  simpa using this
theorem C7 (x:Array Keyed) (i k:Nat):(x.extract i (i+k)).toList=(x.toList.drop i).take k:=by
 simp [List.extract]
theorem qA (x:Array Keyed) (i:Nat):(x.extract i x.size).toList=x.toList.drop i:=by
 simp [List.extract]
 exact aY7 (by simp)
theorem kN {x:Array Keyed}{i:Nat} (h:i < x.size) : [x[i]]=(x.toList.drop i).take 1:=by
 rw [bd3 (by simpa using h)]; simp
structure Gq (st st':SortSt):Prop where
 kd:kindOf st'=kindOf st
 ar:arrOf st'=arrOf st
 pd:pendingOf st'=pendingOf st
 ok:failedOf st'=failedOf st
theorem Gq.refl (st:SortSt):Gq st st:=⟨rfl,rfl,rfl,rfl⟩
section
variable {κ : SortKind} {st : SortSt} {prog : Program} {w : World} {A : Around} {E : Value → Shared → Prop} {s : Shared} {Ok : Keyed → Prop}
theorem qB {st0:SortSt}{g:Nat}{Q:Unit->SortSt->Prop} (q:Gq st0 st) (h:∀ st',Gq st0 st'->Q () st'):wpS (model prog w) A E s (lR g) Q st:=by
 rw [au1]; exact wpS_modify (h _ ⟨q.kd,q.ar,q.pd,q.ok⟩)
def dN (rk:Keyed->Int) (x y r:Array Keyed):Prop:=r.toList.Perm (x.toList ++ y.toList)/\Sd rk r.toList
theorem MI.y1 {x y o:Array Keyed} (m:MI rk x.toList y.toList o.toList i j) (hj:j < y.size) (h:∀ t,i+t < x.size->rk y[j]<=Kr rk x (i+t)):MI rk x.toList y.toList (o.push y[j]).toList i (j+1):=by
 have:=m.ofy 1 fun u hu t ht=>?_
 ·rw [<- kN hj] at this; simpa using this
 ·rw [<- kN hj,aS1] at hu
  subst hu
  obtain ⟨q,q1,q2⟩:=nL (rk:=rk) ht
  rw [q2]; exact h q q1
theorem MI.x1 {x y o:Array Keyed} (m:MI rk x.toList y.toList o.toList i j) (hi:i < x.size) (h:∀ t,j+t < y.size->rk x[i]<=Kr rk y (j+t)):MI rk x.toList y.toList (o.push x[i]).toList (i+1) j:=by
 have:=m.ofx 1 fun u hu t ht=>?_
 ·rw [<- kN hi] at this; simpa using this
 ·rw [<- kN hi,aS1] at hu
  subst hu
  obtain ⟨q,q1,q2⟩:=nL (rk:=rk) ht
  rw [q2]; exact h q q1
theorem MI.yk {x y o:Array Keyed} (m:MI rk x.toList y.toList o.toList i j) (k:Nat) (h:∀ p t,p < k->j+p < y.size->i+t < x.size->Kr rk y (j+p)<=Kr rk x (i+t)):MI rk x.toList y.toList (o ++ y.extract j (j+k)).toList i (j+k):=by
 have:=m.ofy k fun u hu t ht=>?_
 ·rw [<- C7] at this; rw [aX6]; exact this
 ·obtain ⟨p,p1,p2,p3⟩:=C6 (rk:=rk) hu
  obtain ⟨q,q1,q2⟩:=nL (rk:=rk) ht
  rw [q2,p3]; exact h p q p1 p2 q1
theorem MI.xk {x y o:Array Keyed} (m:MI rk x.toList y.toList o.toList i j) (k:Nat) (h:∀ p t,p < k->i+p < x.size->j+t < y.size->Kr rk x (i+p)<=Kr rk y (j+t)):MI rk x.toList y.toList (o ++ x.extract i (i+k)).toList (i+k) j:=by
 have:=m.ofx k fun u hu t ht=>?_
 ·rw [<- C7] at this; rw [aX6]; exact this
 ·obtain ⟨p,p1,p2,p3⟩:=C6 (rk:=rk) hu
  obtain ⟨q,q1,q2⟩:=nL (rk:=rk) ht
  rw [q2,p3]; exact h p q p1 p2 q1
theorem lS {key:Keyed}{xs:Array Keyed}{bs i:Nat}:bS rk false key xs bs i=decide (Kr rk xs (bs+i)<=rk key):=rfl
theorem lT {key:Keyed}{xs:Array Keyed}{bs i:Nat}:bS rk true key xs bs i=decide (Kr rk xs (bs+i) < rk key):=rfl
def GI (rk:Keyed->Int) (x y:Array Keyed) (lb:Nat) (st:SortSt) (c:LS) (st':SortSt):Prop:=Gq st st'/\∃ o i j mg p q,c=(none,o,i,j,mg,p,q)/\MI rk x.toList y.toList o.toList i j/\i+1 < x.size/\j < y.size/\lb<=i+j
def GQ (rk:Keyed->Int) (x y:Array Keyed) (lb:Nat) (st:SortSt) (c:LS) (st':SortSt):Prop:=Gq st st'/\((∃ r o i j mg p q,c=(some r,o,i,j,mg,p,q)/\dN rk x y r) ∨ ∃ o i j mg p q,c=(none,o,i,j,mg,p,q)/\MI rk x.toList y.toList o.toList i j/\i+1 < x.size/\j < y.size/\lb<=i+j)
def GR (rk:Keyed->Int) (x y:Array Keyed) (lb:Nat) (st:SortSt) (r:ForInStep LS) (st':SortSt):Prop:=match r with | .done c=>GQ rk x y lb st c st' | .yield c=>GI rk x y lb st c st'
theorem MI.done {x y o:Array Keyed} (m:MI rk x.toList y.toList o.toList i j) (hh:x.size<=i ∨ y.size<=j):dN rk x y (o ++ x.extract i x.size ++ y.extract j y.size):=by
 unfold dN
 rw [aX6,aX6,qA,qA]
 exact m.fin (by simpa using hh)
theorem MI.last {x y o:Array Keyed} (m:MI rk x.toList y.toList o.toList i j) (x0:0 < x.size) (hl:∀ u ∈ y.toList,rk u<=rk x[x.size - 1]) (hh:i+1=x.size):dN rk x y (o ++ y.extract j y.size ++ x.extract i x.size):=by
 unfold dN
 rw [aX6,aX6,qA,qA]
 refine m.lst fun u hu t ht=>?_
 obtain ⟨q,q1,q2⟩:=nL (rk:=rk) ht
 have e:i+q=x.size - 1:=by omega
 rw [q2,e,bV (by omega)]
 exact hl u hu
theorem C8 {st0:SortSt}{x y o:Array Keyed}{mg p q lb:Nat} (x0:0 < x.size) (hl:∀ u ∈ y.toList,rk u<=rk x[x.size - 1]) (g:Gq st0 st) (m:MI rk x.toList y.toList o.toList i j) (hi:i+1 < x.size) (hj:j < y.size) (hb:lb<=i+j)
  (hm:∀ t,j+t < y.size->rk x[i]<=Kr rk y (j+t)):wpS (model prog w) A E s (pX x y o i j mg p q) (GR rk x y lb st0) st:=by
 unfold pX
 have hi':i < x.size:=by omega
 have m':=m.x1 hi' hm
 refine aR9 (cP hi' ?_)
 by_cases he:(i+1+1 == x.size)=true
 ·rw [if_pos he]
  have he:i+1+1=x.size:=by simpa using he
  exact aS7 ⟨g,.inl ⟨_,_,_,_,_,_,_,rfl,m'.last x0 hl he⟩⟩
 ·rw [if_neg he]
  have he:i+1+1 ≠ x.size:=by simpa using he
  split
  ·exact aS7 ⟨g,.inr ⟨_,_,_,_,_,_,rfl,m',by omega,hj,by omega⟩⟩
  ·exact aS7 ⟨g,_,_,_,_,_,_,rfl,m',by omega,hj,by omega⟩
theorem C9 (c:c6 prog w A E s κ Ok rk) {st0:SortSt} (hk:kindOf st0=κ) {x y o:Array Keyed}{mg p q lb:Nat} (ox:bG Ok x) (oy:bG Ok y) (sx:Sd rk x.toList) (sy:Sd rk y.toList) (x0:0 < x.size) (hl:∀ u ∈ y.toList,rk u<=rk x[x.size - 1]) (g:Gq st0 st) (m:MI rk x.toList y.toList o.toList i j) (hi:i+1 < x.size) (hj:j < y.size) (hb:lb<=i+j)
  (hm:∀ t,i+t < x.size->rk y[j]<=Kr rk x (i+t)):wpS (model prog w) A E s (pY x y o i j mg p q) (GR rk x y lb st0) st:=by
 unfold pY
 have hi':i < x.size:=by omega
 have m':=m.y1 hj hm
 refine aR9 (cP hj ?_)
 by_cases he:(j+1 == y.size)=true
 ·rw [if_pos he]
  have he:j+1=y.size:=by simpa using he
  exact aS7 ⟨g,.inl ⟨_,_,_,_,_,_,_,rfl,m'.done (.inr (by omega))⟩⟩
 ·rw [if_neg he]
  have he:j+1 ≠ y.size:=by simpa using he
  refine aR9 (cP hi' (aR9 (lQ c (g.kd.trans hk) (ox _ (aV1 hi')) oy (by omega) (by omega) (sy.up _ _ (by omega)) fun k k1 k2 k3=>?_)))
  dsimp only
  have ux:=sx.up 0 _ (aR8 x.size)
  have mk:=m'.yk k fun p t hp _ ht=>by
   have a1:=k2 p hp
   rw [lT,aT4] at a1
   have a2:=ux i (i+t) (by omega) (by omega) ht
   rw [bV hi'] at a2
   omega
  have km:∀ t,j+1+k+t < y.size->rk x[i]<=Kr rk y (j+1+k+t):=fun t ht=>by
   have a1:=k3 (k+t) (by omega) (by omega)
   rw [lT,ba6,<- Nat.add_assoc] at a1
   omega
  by_cases hk0:k > 0
  ·rw [if_pos hk0]
   by_cases hf:(j+1+k == y.size)=true
   ·rw [if_pos hf]
    have hf:j+1+k=y.size:=by simpa using hf
    exact aS7 ⟨g,.inl ⟨_,_,_,_,_,_,_,rfl,mk.done (.inr (by omega))⟩⟩
   ·rw [if_neg hf]
    have hf:j+1+k ≠ y.size:=by simpa using hf
    exact C8 x0 hl g mk hi (by omega) (by omega) km
  ·rw [if_neg hk0]
   have e0:k=0:=by omega
   subst e0
   exact C8 x0 hl g m' hi (by omega) (by omega) km
theorem E1 (c:c6 prog w A E s κ Ok rk) {st0:SortSt} (hk:kindOf st0=κ) {x y o:Array Keyed}{mg p q lb:Nat} (ox:bG Ok x) (oy:bG Ok y) (sx:Sd rk x.toList) (sy:Sd rk y.toList) (x0:0 < x.size) (hl:∀ u ∈ y.toList,rk u<=rk x[x.size - 1]) (g:Gq st0 st) (m:MI rk x.toList y.toList o.toList i j) (hi:i+1 < x.size) (hj:j < y.size) (hb:lb<=i+j) :
  wpS (model prog w) A E s (pZ x y o i j mg p q) (GR rk x y lb st0) st:=by
 unfold pZ
 refine aR9 (qB g fun st4 q4=>aR9 (cP hj (aR9 (lQ c (q4.kd.trans hk) (oy _ (aV1 hj)) ox (by omega) (by omega) (sx.up _ _ (by omega)) fun k k1 k2 k3=>?_))))
 dsimp only
 have uy:=sy.up 0 _ (aR8 y.size)
 have mk:=m.xk k fun p t hp _ ht=>by
  have a1:=k2 p hp
  rw [lS,aT4] at a1
  have a2:=uy j (j+t) (by omega) (by omega) ht
  rw [bV hj] at a2
  omega
 have km:∀ t,i+k+t < x.size->rk y[j]<=Kr rk x (i+k+t):=fun t ht=>by
  have a1:=k3 (k+t) (by omega) (by omega)
  rw [lS,ba6,<- Nat.add_assoc] at a1
  omega
 by_cases hk0:k > 0
 ·rw [if_pos hk0]
  by_cases he:(i+k+1 == x.size)=true
  ·rw [if_pos he]
   exact aS7 ⟨q4,.inl ⟨_,_,_,_,_,_,_,rfl,mk.last x0 hl (by simpa using he)⟩⟩
  ·rw [if_neg he]
   have he:i+k+1 ≠ x.size:=by simpa using he
   by_cases hf:(i+k == x.size)=true
   ·rw [if_pos hf]
    have hf:i+k=x.size:=by simpa using hf
    exact aS7 ⟨q4,.inl ⟨_,_,_,_,_,_,_,rfl,mk.done (.inl (by omega))⟩⟩
   ·rw [if_neg hf]
    have hf:i+k ≠ x.size:=by simpa using hf
    exact C9 c hk ox oy sx sy x0 hl q4 mk (by omega) hj (by omega) km
 ·rw [if_neg hk0]
  have e0:k=0:=by omega
  subst e0
  exact C9 c hk ox oy sx sy x0 hl q4 m hi hj hb km
theorem au3 (c:c6 prog w A E s κ Ok rk) {st0:SortSt} (hk:kindOf st0=κ) {x y o:Array Keyed}{mg p q lb:Nat} (ox:bG Ok x) (oy:bG Ok y) (sx:Sd rk x.toList) (sy:Sd rk y.toList) (x0:0 < x.size) (hl:∀ u ∈ y.toList,rk u<=rk x[x.size - 1]) (g:Gq st0 st) (m:MI rk x.toList y.toList o.toList i j) (hi:i+1 < x.size) (hj:j < y.size) (hb:lb<=i+j) :
  wpS (model prog w) A E s (uO x y o i j mg p q) (GQ rk x y lb st0) st:=by
 unfold uO
 refine aY6 (I:=fun _=>GI rk x y lb st0) ?_ ?_ ⟨g,o,i,j,_,p,q,rfl,m,hi,hj,hb⟩
 ·rintro t c3 st3 _ _ ⟨q3,o,i,j,mg,p,q,rfl,m,hi,hj,pr3⟩
  dsimp only
  split
  ·exact bf7 (E1 c hk ox oy sx sy x0 hl q3 m hi hj pr3) fun r _ hr=>by cases r <;> exact hr
  ·exact bf7 (E1 c hk ox oy sx sy x0 hl q3 m hi hj pr3) fun r _ hr=>by cases r <;> exact hr
 ·rintro c3 st3 ⟨q3,o,i,j,mg,p,q,rfl,m,hi,hj,pr3⟩
  exact⟨q3,.inr ⟨_,_,_,_,_,_,rfl,m,hi,hj,pr3⟩⟩
theorem au4 (c:c6 prog w A E s κ Ok rk) {st0:SortSt} (hk:kindOf st0=κ) {x y o:Array Keyed}{mg:Nat}{Q:uN->SortSt->Prop} (ox:bG Ok x) (oy:bG Ok y) (sx:Sd rk x.toList) (sy:Sd rk y.toList) (x0:0 < x.size) (hl:∀ u ∈ y.toList,rk u<=rk x[x.size - 1]) (g:Gq st0 st) (m:MI rk x.toList y.toList o.toList i j) (hi:i+1 < x.size) (hj:j < y.size)
  (h1:∀ r o' i' j' p q st',Gq st0 st'->dN rk x y r->Q (some r,o',i',j',p,q) st')
  (h2:∀ o' i' j' p q st',Gq st0 st'->MI rk x.toList y.toList o'.toList i' j'->i'+1 < x.size->j' < y.size->i+j+1<=i'+j'->Q (none,o',i',j',p,q) st') :
  wpS (model prog w) A E s (uP x y o i j mg) Q st:=by
 have ux:Up rk x 0 x.size:=sx.up 0 _ (aR8 _)
 have uy:Up rk y 0 y.size:=sy.up 0 _ (aR8 _)
 unfold uP
 refine aY6 (I:=fun t c st'=>Gq st0 st'/\∃ o i' j' p q,c=(none,o,i',j',p,q)/\MI rk x.toList y.toList o.toList i' j'/\i'+1 < x.size/\j' < y.size/\i+j+t<=i'+j') ?_ ?_ ⟨g,o,i,j,0,0,rfl,m,hi,hj,by omega⟩
 ·rintro t c2 st2 _ ht ⟨q2,o,i',j',p,q,rfl,m,hi,hj,pr2⟩
  dsimp only
  have hi':i' < x.size:=by omega
  refine aR9 (cP hj (aR9 (cP hi' (aR9 (c _ _ (oy _ (aV1 hj)) (ox _ (aV1 hi')) st2 _ (q2.kd.trans hk) ?_)))))
  by_cases hc:rk y[j'] < rk x[i']
  ·rw [aR6 hc]
   dsimp only
   rw [if_pos rfl]
   have m':=m.y1 hj fun t ht=>by
    have:=ux i' (i'+t) (by omega) (by omega) ht
    rw [bV hi'] at this
    omega
   refine aR9 (cP hj ?_)
   by_cases he:(j'+1 == y.size)=true
   ·rw [if_pos he]
    have he:j'+1=y.size:=by simpa using he
    exact aS7 (h1 _ _ _ _ _ _ _ q2 (m'.done (.inr (by omega))))
   ·rw [if_neg he]
    have he:j'+1 ≠ y.size:=by simpa using he
    split
    ·exact aS7 (h2 _ _ _ _ _ _ q2 m' hi (by omega) (by omega))
    ·exact aS7 ⟨q2,_,_,_,_,_,rfl,m',hi,by omega,by omega⟩
  ·rw [aR2 hc]
   dsimp only
   rw [if_neg aT3]
   have m':=m.x1 hi' fun t ht=>by
    have:=uy j' (j'+t) (by omega) (by omega) ht
    rw [bV hj] at this
    omega
   refine aR9 (cP hi' ?_)
   by_cases he:(i'+1+1 == x.size)=true
   ·rw [if_pos he]
    exact aS7 (h1 _ _ _ _ _ _ _ q2 (m'.last x0 hl (by simpa using he)))
   ·rw [if_neg he]
    have he:i'+1+1 ≠ x.size:=by simpa using he
    split
    ·exact aS7 (h2 _ _ _ _ _ _ q2 m' (by omega) hj (by omega))
    ·exact aS7 ⟨q2,_,_,_,_,_,rfl,m',by omega,hj,by omega⟩
 ·rintro c2 st2 ⟨q2,o,i',j',p,q,rfl,m,hi,hj,pr2⟩
  exact h2 _ _ _ _ _ _ q2 m hi hj (by omega)
theorem au5 (c:c6 prog w A E s κ Ok rk) (hk:kindOf st=κ) {x y:Array Keyed}{Q:Array Keyed->SortSt->Prop} (ox:bG Ok x) (oy:bG Ok y) (sx:Sd rk x.toList) (sy:Sd rk y.toList) (x0:0 < x.size) (y0:0 < y.size)
  (hf:∀ t ∈ x.toList,rk y[0]<=rk t) (hl:∀ u ∈ y.toList,rk u<=rk x[x.size - 1])
  (h:∀ r st',Gq st st'->dN rk x y r->Q r st'):wpS (model prog w) A E s (uM x y) Q st:=by
 rw [au2]
 refine aR9 (wpS_lift (be1 ⟨rfl,aR9 (cP y0 ?_)⟩))
 have m0:MI rk x.toList y.toList (#[y[0]]:Array Keyed).toList 0 1:=by
  have mm:MI rk x.toList y.toList [] 0 0:=⟨by simp,sx,sy⟩
  have:=mm.ofy 1 fun u hu t ht=>?_
  ·rw [<- kN y0] at this; exact this
  ·rw [<- kN y0,aS1] at hu
   subst hu
   exact hf t ht
 by_cases e1:(1 == y.size)=true
 ·rw [if_pos e1]
  have e1:1=y.size:=by simpa using e1
  exact aS7 (h _ st (Gq.refl st) (m0.done (.inr (by omega))))
 ·rw [if_neg e1]
  have e1:1 ≠ y.size:=by simpa using e1
  by_cases e2:(0+1 == x.size)=true
  ·rw [if_pos e2]
   exact aS7 (h _ st (Gq.refl st) (m0.last x0 hl (by simpa using e2)))
  ·rw [if_neg e2]
   have e2:0+1 ≠ x.size:=by simpa using e2
   refine aR9 (wpS_get ?_)
   unfold C5
   refine aR9 (bf7 (aY6
    (I:=fun n c st'=>Gq st st'/\∃ o i j mg,c=(none,o,i,j,mg)/\MI rk x.toList y.toList o.toList i j/\i+1 < x.size/\j < y.size/\n+1<=i+j)
    (Q:=fun c st'=>Gq st st'/\∃ r o i j mg,c=(some r,o,i,j,mg)/\dN rk x y r) ?_ ?_ ⟨Gq.refl st,_,0,1,_,rfl,m0,by omega,by omega,by omega⟩) ?_)
   ·rintro n c1 st1 _ hn ⟨q1,o,i,j,mg,rfl,m,hi,hj,pr⟩
    dsimp only
    refine aR9 (au4 c hk ox oy sx sy x0 hl q1 m hi hj (fun r o' i' j' p q st' g md=>aS7 ⟨g,r,_,_,_,_,rfl,md⟩) fun o' i' j' p q st' g m' hi' hj' pr'=>?_)
    refine aR9 (wpS_lift (be1 ⟨rfl,?_⟩))
    refine aR9 (bf7 (au3 c hk ox oy sx sy x0 hl g m' hi' hj' pr') ?_)
    rintro c3 st3 ⟨q3,⟨r,o,i3,j3,mg,p,q,rfl,md⟩ | ⟨o,i3,j3,mg,p,q,rfl,m,hi,hj,pr3⟩⟩
    ·exact aS7 ⟨q3,r,_,_,_,_,rfl,md⟩
    ·exact aR9 (qB q3 fun st4 q4=>aS7 ⟨q4,o,i3,j3,_,rfl,m,hi,hj,by omega⟩)
   ·rintro c1 st1 ⟨q1,o,i,j,mg,rfl,m,hi,hj,pr⟩
    exact absurd pr (by omega)
   ·rintro c1 st1 ⟨q1,r,o,i,j,mg,rfl,md⟩
    exact aS7 (h r _ q1 md)
end
def uQ:Array Keyed->Array Keyed->StateT SortSt Sem (Array Keyed):=sortPriv% PySem.Builtin.mergeHi
abbrev LH:=Option (Array Keyed) × Nat × Nat × Array Keyed × Nat × Nat × Nat
abbrev uR:=Option (Array Keyed) × Nat × Nat × Array Keyed × Nat × Nat
abbrev LP:=Option (Array Keyed) × Nat × Nat × Array Keyed × Nat
def qD (x y o:Array Keyed) (i j mg p q:Nat):StateT SortSt Sem (ForInStep LH):=do
 let v <- elem' x (i - 1)
 if (i - 1 == 0)=true then pure (.done (some (x.extract 0 (i - 1) ++ y.extract 0 j ++ (o.push v).reverse),i - 1,j,o.push v,mg,p,q))
 else if (decide (p < 7) && decide (q < 7))=true then pure (.done (none,i - 1,j,o.push v,mg,p,q)) else pure (.yield (none,i - 1,j,o.push v,mg,p,q))
def qE (x y o:Array Keyed) (i j mg p q:Nat):StateT SortSt Sem (ForInStep LH):=do
 let v <- elem' y (j - 1)
 if (j - 1 == 1)=true then pure (.done (some (y.extract 0 (j - 1) ++ x.extract 0 i ++ (o.push v).reverse),i,j - 1,o.push v,mg,p,q)) else do
  let u <- elem' x (i - 1)
  match <- jR true u y 0 (j - 1) (j - 1 - 1) with
  | some z=>
   if j - 1 - z > 0 then
    if (z == 1)=true then pure (.done (some (y.extract 0 z ++ x.extract 0 i ++ (o.push v ++ (y.extract z (j - 1)).reverse).reverse),i,z,o.push v ++ (y.extract z (j - 1)).reverse,mg,p,j - 1 - z))
    else if (z == 0)=true then pure (.done (some (x.extract 0 i ++ y.extract 0 z ++ (o.push v ++ (y.extract z (j - 1)).reverse).reverse),i,z,o.push v ++ (y.extract z (j - 1)).reverse,mg,p,j - 1 - z))
    else qD x y (o.push v ++ (y.extract z (j - 1)).reverse) i z mg p (j - 1 - z)
   else qD x y (o.push v) i (j - 1) mg p (j - 1 - z)
  | _=>pure (.done (some (x.extract 0 i ++ y.extract 0 (j - 1) ++ (o.push v).reverse),i,j - 1,o.push v,mg,p,q))
def qF (x y o:Array Keyed) (i j mg p q:Nat):StateT SortSt Sem (ForInStep LH):=do
 lR mg
 let v <- elem' y (j - 1)
 match <- jR false v x 0 i (i - 1) with
 | some z=>
  if i - z > 0 then
   if (z == 0)=true then pure (.done (some (x.extract 0 z ++ y.extract 0 j ++ (o ++ (x.extract z i).reverse).reverse),z,j,o ++ (x.extract z i).reverse,mg,i - z,q))
   else qE x y (o ++ (x.extract z i).reverse) z j mg (i - z) q
  else qE x y o i j mg (i - z) q
 | _=>pure (.done (some (x.extract 0 i ++ y.extract 0 j ++ o.reverse),i,j,o,mg,p,q))
def uS (x y o:Array Keyed) (i j mg p q:Nat):StateT SortSt Sem LH:=forIn [0:x.size+y.size] ((none,i,j,o,mg,p,q):LH) fun _ r=>
 if r.2.2.2.2.1 > 1 then qF x y r.2.2.2.1 r.2.1 r.2.2.1 (r.2.2.2.2.1 - 1) r.2.2.2.2.2.1 r.2.2.2.2.2.2 else qF x y r.2.2.2.1 r.2.1 r.2.2.1 r.2.2.2.2.1 r.2.2.2.2.2.1 r.2.2.2.2.2.2
def uT (x y o:Array Keyed) (i j mg:Nat):StateT SortSt Sem uR:=forIn [0:x.size+y.size] ((none,i,j,o,0,0):uR) fun _ r=>do
 let v <- elem' y (r.2.2.1 - 1)
 let u <- elem' x (r.2.1 - 1)
 match <- lt' v u with
 | some q=>
  if q=true then do
   let u <- elem' x (r.2.1 - 1)
   if (r.2.1 - 1 == 0)=true then pure (.done (some (x.extract 0 (r.2.1 - 1) ++ y.extract 0 r.2.2.1 ++ (r.2.2.2.1.push u).reverse),r.2.1 - 1,r.2.2.1,r.2.2.2.1.push u,r.2.2.2.2.1+1,0))
   else if r.2.2.2.2.1+1 >= mg then pure (.done (none,r.2.1 - 1,r.2.2.1,r.2.2.2.1.push u,r.2.2.2.2.1+1,0)) else pure (.yield (none,r.2.1 - 1,r.2.2.1,r.2.2.2.1.push u,r.2.2.2.2.1+1,0))
  else do
   let v <- elem' y (r.2.2.1 - 1)
   if (r.2.2.1 - 1 == 1)=true then pure (.done (some (y.extract 0 (r.2.2.1 - 1) ++ x.extract 0 r.2.1 ++ (r.2.2.2.1.push v).reverse),r.2.1,r.2.2.1 - 1,r.2.2.2.1.push v,0,r.2.2.2.2.2+1))
   else if r.2.2.2.2.2+1 >= mg then pure (.done (none,r.2.1,r.2.2.1 - 1,r.2.2.2.1.push v,0,r.2.2.2.2.2+1)) else pure (.yield (none,r.2.1,r.2.2.1 - 1,r.2.2.2.1.push v,0,r.2.2.2.2.2+1))
 | _=>pure (.done (some (x.extract 0 r.2.1 ++ y.extract 0 r.2.2.1 ++ r.2.2.2.1.reverse),r.2.1,r.2.2.1,r.2.2.2.1,r.2.2.2.2.1,r.2.2.2.2.2))
def E2 (x y o:Array Keyed) (i j mg:Nat):StateT SortSt Sem LP:=forIn [0:x.size+y.size] ((none,i,j,o,mg):LP) fun _ r=>do
 let u <- uT x y r.2.2.2.1 r.2.1 r.2.2.1 r.2.2.2.2
 match u.1 with
 | some z=>pure (.done (some z,u.2.1,u.2.2.1,u.2.2.2.1,r.2.2.2.2))
 | none=>do
  liftM (rule "list.sort.gallop")
  let v <- uS x y u.2.2.2.1 u.2.1 u.2.2.1 (r.2.2.2.2+1) u.2.2.2.2.1 u.2.2.2.2.2
  match v.1 with
  | some z=>pure (.done (some z,v.2.1,v.2.2.1,v.2.2.2.1,v.2.2.2.2.1))
  | none=>do
   lR (v.2.2.2.2.1+1)
   pure (.yield (none,v.2.1,v.2.2.1,v.2.2.2.1,v.2.2.2.2.1+1))
theorem au6 (x y:Array Keyed):uQ x y=(do
 liftM (rule "list.sort.merge-hi")
 let v <- elem' x (x.size - 1)
 if (x.size - 1 == 0)=true then pure (x.extract 0 (x.size - 1) ++ y.extract 0 y.size ++ (#[v]:Array Keyed).reverse)
 else if (y.size == 1)=true then pure (y.extract 0 y.size ++ x.extract 0 (x.size - 1) ++ (#[v]:Array Keyed).reverse)
 else do
  let z <- get
  let r <- E2 x y #[v] (x.size - 1) y.size (gallopOf z)
  match r.1 with
  | some z=>pure z
  | none=>unsupported "internal:list.sort.merge-bound"):=by kernel_rfl
structure MH (rk:Keyed->Int) (xs ys o:List Keyed) (i j:Nat):Prop where
 pm:o.Perm (xs.drop i ++ ys.drop j)
 sx:Sd rk (xs.take i ++ o)
 sy:Sd rk (ys.take j ++ o)
variable {rk : Keyed → Int} {xs ys o : List Keyed} {i j : Nat}
theorem Sd.insR {o a b d:List Keyed} (h1:Sd rk (a ++ o)) (h2:Sd rk ((d ++ b) ++ o)) (h:∀ t ∈ a,∀ u ∈ b,rk t<=rk u):Sd rk (a ++ (b ++ o)):=by
 unfold Sd at *
 obtain ⟨p1,p2,p3⟩:=aT9.mp h1
 obtain ⟨q1,q2,q3⟩:=aT9.mp h2
 obtain ⟨r1,r2,r3⟩:=aT9.mp q1
 refine aT9.mpr ⟨p1,aT9.mpr ⟨r2,p2,fun u hu t ht=>q3 u (aU0 _ hu) t ht⟩,fun u hu t ht=>?_⟩
 rcases aU4.mp ht with z | z
 ·exact h u hu t z
 ·exact p3 u hu t z
theorem qG (l:List Keyed) {z j:Nat} (h:z<=j):l.take z ++ (l.take j).drop z=l.take j:=by
 have e:l.take z=(l.take j).take z:=by rw [List.take_take,Nat.min_eq_left h]
 rw [e]; exact aU9 z _
theorem uU (l:List Keyed) {z j:Nat} (h:z<=j):(l.take j).drop z ++ l.drop j=l.drop z:=by
 rw [bg3,show l.drop j=(l.drop z).drop (j - z) by rw [List.drop_drop,Nat.add_sub_cancel' h]]
 exact aU9 _ _
theorem MH.ofy (m:MH rk xs ys o i j) {z:Nat} (hz:z<=j) (h:∀ t ∈ xs.take i,∀ u ∈ (ys.take j).drop z,rk t<=rk u):MH rk xs ys ((ys.take j).drop z ++ o) i z:=by
 refine⟨?_,Sd.insR m.sx (d:=ys.take z) (by rw [qG _ hz]; exact m.sy) h,by rw [<- aS9,qG _ hz]; exact m.sy⟩
 rw [<- uU ys hz]
 refine (m.pm.append_left _).trans ?_
 rw [<- aS9,<- aS9]
 exact (aX4).append_right _
theorem MH.ofx (m:MH rk xs ys o i j) {z:Nat} (hz:z<=i) (h:∀ t ∈ ys.take j,∀ u ∈ (xs.take i).drop z,rk t<=rk u):MH rk xs ys ((xs.take i).drop z ++ o) z j:=by
 refine⟨?_,by rw [<- aS9,qG _ hz]; exact m.sx,Sd.insR m.sy (d:=xs.take z) (by rw [qG _ hz]; exact m.sx) h⟩
 rw [<- uU xs hz,aS9]
 exact m.pm.append_left _
theorem MH.fin (m:MH rk xs ys o i j) (h:i=0 ∨ j=0):(xs.take i ++ ys.take j ++ o).Perm (xs ++ ys)/\Sd rk (xs.take i ++ ys.take j ++ o):=by
 refine⟨?_,?_⟩
 ·have e1:xs=xs.take i ++ xs.drop i:=(aU9 i xs).symm
  have e2:ys=ys.take j ++ ys.drop j:=(aU9 j ys).symm
  conv=>rhs; rw [e1,e2]
  rw [aS9,aS9]
  refine bf1 _ ((m.pm.append_left _).trans ?_)
  rw [<- aS9,<- aS9]
  exact (aX4).append_right _
 ·rcases h with h | h
  ·subst h; simpa using m.sy
  ·subst h; simpa using m.sx
theorem MH.fst (m:MH rk xs ys o i j) (h:∀ t ∈ ys.take j,∀ u ∈ xs,rk t<=rk u):(ys.take j ++ xs.take i ++ o).Perm (xs ++ ys)/\Sd rk (ys.take j ++ xs.take i ++ o):=by
 have m2:=m.ofx (aZ6 i) fun t ht u hu=>h t ht u (bf8 (List.mem_of_mem_drop hu))
 have f:=m2.fin (.inl rfl)
 simpa using f
theorem nM {x:Array Keyed}{i:Nat}{u:Keyed} (h:u ∈ x.toList.take i):∃ t,t < i/\t < x.size/\rk u=Kr rk x t:=by
 obtain ⟨t,ht,e⟩:=aX5 h
 have h1:t < i/\t < x.size:=by simp at ht; omega
 refine⟨t,h1.1,h1.2,?_⟩
 rw [bV h1.2,<- e]
 simp
theorem nN {x:Array Keyed}{z i:Nat}{u:Keyed} (h:u ∈ (x.toList.take i).drop z):∃ t,z<=t/\t < i/\t < x.size/\rk u=Kr rk x t:=by
 obtain ⟨t,ht,e⟩:=aX5 h
 have h1:z+t < i/\z+t < x.size:=by simp at ht; omega
 refine⟨z+t,by omega,h1.1,h1.2,?_⟩
 rw [bV h1.2,<- e]
 simp
theorem kO (x:Array Keyed) (z i:Nat):(x.extract z i).toList=(x.toList.take i).drop z:=by
 rw [bg3]; simp [List.extract]
theorem qH (x:Array Keyed) (i:Nat):(x.extract 0 i).toList=x.toList.take i:=by
 simp [List.extract]
theorem nO {x:Array Keyed}{i:Nat} (h:i < x.size) : [x[i]]=(x.toList.take (i+1)).drop i:=by
 rw [bg3,kN h,show i+1 - i=1 by omega]
section
variable {κ : SortKind} {st : SortSt} {prog : Program} {w : World} {A : Around} {E : Value → Shared → Prop} {s : Shared} {Ok : Keyed → Prop}
theorem MH.y1 {x y o:Array Keyed} (m:MH rk x.toList y.toList o.toList.reverse i (j+1)) (hj:j < y.size) (h:∀ t,t < i->t < x.size->Kr rk x t<=rk y[j]):MH rk x.toList y.toList (o.push y[j]).toList.reverse i j:=by
 have:=m.ofy (Nat.le_succ j) fun t ht u hu=>?_
 ·rw [<- nO hj] at this; simpa using this
 ·rw [<- nO hj,aS1] at hu
  subst hu
  obtain ⟨q,q1,q2,q3⟩:=nM (rk:=rk) ht
  rw [q3]; exact h q q1 q2
theorem MH.x1 {x y o:Array Keyed} (m:MH rk x.toList y.toList o.toList.reverse (i+1) j) (hi:i < x.size) (h:∀ t,t < j->t < y.size->Kr rk y t<=rk x[i]):MH rk x.toList y.toList (o.push x[i]).toList.reverse i j:=by
 have:=m.ofx (Nat.le_succ i) fun t ht u hu=>?_
 ·rw [<- nO hi] at this; simpa using this
 ·rw [<- nO hi,aS1] at hu
  subst hu
  obtain ⟨q,q1,q2,q3⟩:=nM (rk:=rk) ht
  rw [q3]; exact h q q1 q2
theorem MH.yk {x y o:Array Keyed} (m:MH rk x.toList y.toList o.toList.reverse i j) {z:Nat} (hz:z<=j) (h:∀ t p,t < i->t < x.size->z<=p->p < j->p < y.size->Kr rk x t<=Kr rk y p):MH rk x.toList y.toList (o ++ (y.extract z j).reverse).toList.reverse i z:=by
 have:=m.ofy hz fun t ht u hu=>?_
 ·rw [<- kO] at this; simpa using this
 ·obtain ⟨q,q1,q2,q3⟩:=nM (rk:=rk) ht
  obtain ⟨p,p1,p2,p3,p4⟩:=nN (rk:=rk) hu
  rw [q3,p4]; exact h q p q1 q2 p1 p2 p3
theorem MH.xk {x y o:Array Keyed} (m:MH rk x.toList y.toList o.toList.reverse i j) {z:Nat} (hz:z<=i) (h:∀ t p,t < j->t < y.size->z<=p->p < i->p < x.size->Kr rk y t<=Kr rk x p):MH rk x.toList y.toList (o ++ (x.extract z i).reverse).toList.reverse z j:=by
 have:=m.ofx hz fun t ht u hu=>?_
 ·rw [<- kO] at this; simpa using this
 ·obtain ⟨q,q1,q2,q3⟩:=nM (rk:=rk) ht
  obtain ⟨p,p1,p2,p3,p4⟩:=nN (rk:=rk) hu
  rw [q3,p4]; exact h q p q1 q2 p1 p2 p3
theorem MH.done {x y o:Array Keyed} (m:MH rk x.toList y.toList o.toList.reverse i j) (hh:i=0 ∨ j=0):dN rk x y (x.extract 0 i ++ y.extract 0 j ++ o.reverse):=by
 unfold dN
 rw [aX6,aX6,qH,qH,Array.toList_reverse]
 exact m.fin hh
theorem MH.frst {x y o:Array Keyed} (m:MH rk x.toList y.toList o.toList.reverse i j) (y0:0 < y.size) (hf:∀ t ∈ x.toList,rk y[0]<=rk t) (hh:j=1):dN rk x y (y.extract 0 j ++ x.extract 0 i ++ o.reverse):=by
 unfold dN
 rw [aX6,aX6,qH,qH,Array.toList_reverse]
 refine m.fst fun t ht u hu=>?_
 subst hh
 obtain ⟨q,q1,q2,q3⟩:=nM (rk:=rk) ht
 have e:q=0:=by omega
 subst e
 rw [q3,bV y0]
 exact hf u hu
structure HB (rk:Keyed->Int) (x y:Array Keyed) (lb i j:Nat) (o:Array Keyed):Prop where
 m:MH rk x.toList y.toList o.toList.reverse i j
 i0:0 < i
 i1:i < x.size
 j0:1 < j
 j1:j<=y.size
 pr:i+j+lb<=x.size+y.size
def HI (rk:Keyed->Int) (x y:Array Keyed) (lb:Nat) (st:SortSt) (c:LH) (st':SortSt):Prop:=Gq st st'/\∃ i j o mg p q,c=(none,i,j,o,mg,p,q)/\HB rk x y lb i j o
def HQ (rk:Keyed->Int) (x y:Array Keyed) (lb:Nat) (st:SortSt) (c:LH) (st':SortSt):Prop:=Gq st st'/\((∃ r i j o mg p q,c=(some r,i,j,o,mg,p,q)/\dN rk x y r) ∨ ∃ i j o mg p q,c=(none,i,j,o,mg,p,q)/\HB rk x y lb i j o)
def HR (rk:Keyed->Int) (x y:Array Keyed) (lb:Nat) (st:SortSt) (r:ForInStep LH) (st':SortSt):Prop:=match r with | .done c=>HQ rk x y lb st c st' | .yield c=>HI rk x y lb st c st'
theorem E3 {st0:SortSt}{x y o:Array Keyed}{i j mg p q lb:Nat} (g:Gq st0 st) (b:HB rk x y lb (i+1) j o) (hm:∀ (hi:i < x.size) t,t < j->t < y.size->Kr rk y t<=rk x[i]):wpS (model prog w) A E s (qD x y o (i+1) j mg p q) (HR rk x y lb st0) st:=by
 unfold qD
 obtain ⟨m,i0,i1,j0,j1,pr⟩:=b
 have hi':i < x.size:=by omega
 have m':=m.x1 hi' (hm hi')
 simp only [Nat.add_sub_cancel]
 refine aR9 (cP hi' ?_)
 by_cases he:(i == 0)=true
 ·rw [if_pos he]
  have he:i=0:=by simpa using he
  exact aS7 ⟨g,.inl ⟨_,_,_,_,_,_,_,rfl,m'.done (.inl he)⟩⟩
 ·rw [if_neg he]
  have he:i ≠ 0:=by simpa using he
  split
  ·exact aS7 ⟨g,.inr ⟨_,_,_,_,_,_,rfl,m',by omega,by omega,j0,j1,by omega⟩⟩
  ·exact aS7 ⟨g,_,_,_,_,_,_,rfl,m',by omega,by omega,j0,j1,by omega⟩
theorem E4 (c:c6 prog w A E s κ Ok rk) {st0:SortSt} (hk:kindOf st0=κ) {x y o:Array Keyed}{i j mg p q lb:Nat} (ox:bG Ok x) (oy:bG Ok y) (sx:Sd rk x.toList) (sy:Sd rk y.toList) (y0:0 < y.size) (hf:∀ t ∈ x.toList,rk y[0]<=rk t) (g:Gq st0 st) (b:HB rk x y lb (i+1) (j+1) o)
  (hm:∀ (hj:j < y.size) t,t < i+1->t < x.size->Kr rk x t<=rk y[j]):wpS (model prog w) A E s (qE x y o (i+1) (j+1) mg p q) (HR rk x y lb st0) st:=by
 unfold qE
 obtain ⟨m,i0,i1,j0,j1,pr⟩:=b
 have hi':i < x.size:=by omega
 have hj:j < y.size:=by omega
 have m':=m.y1 hj (hm hj)
 simp only [Nat.add_sub_cancel]
 refine aR9 (cP hj ?_)
 by_cases he:(j == 1)=true
 ·rw [if_pos he]
  have he:j=1:=by simpa using he
  exact aS7 ⟨g,.inl ⟨_,_,_,_,_,_,_,rfl,m'.frst y0 hf he⟩⟩
 ·rw [if_neg he]
  have he:j ≠ 1:=by simpa using he
  refine aR9 (cP hi' (aR9 (lQ c (g.kd.trans hk) (ox _ (aV1 hi')) oy (by omega) (by omega) (sy.up _ _ (by omega)) fun z k1 k2 k3=>?_)))
  dsimp only
  have ux:=sx.up 0 _ (aR8 x.size)
  have mk:=m'.yk k1 fun t p ht ht' hp hp' _=>by
   have a1:=k3 p hp hp'
   rw [lT,ba6,Nat.zero_add] at a1
   have a2:=ux t i (by omega) (by omega) hi'
   rw [bV (i:=i) hi'] at a2
   omega
  have km:∀ (hi:i < x.size) t,t < z->t < y.size->Kr rk y t<=rk x[i]:=fun _ t ht _=>by
   have a1:=k2 t ht
   rw [lT,aT4,Nat.zero_add] at a1
   omega
  by_cases hk0:j - z > 0
  ·rw [if_pos hk0]
   by_cases h1:(z == 1)=true
   ·rw [if_pos h1]
    have h1:z=1:=by simpa using h1
    exact aS7 ⟨g,.inl ⟨_,_,_,_,_,_,_,rfl,mk.frst y0 hf h1⟩⟩
   ·rw [if_neg h1]
    have h1:z ≠ 1:=by simpa using h1
    by_cases h0:(z == 0)=true
    ·rw [if_pos h0]
     have h0:z=0:=by simpa using h0
     exact aS7 ⟨g,.inl ⟨_,_,_,_,_,_,_,rfl,mk.done (.inr h0)⟩⟩
    ·rw [if_neg h0]
     have h0:z ≠ 0:=by simpa using h0
     exact E3 g ⟨mk,by omega,i1,by omega,by omega,by omega⟩ km
  ·rw [if_neg hk0]
   have e0:z=j:=by omega
   subst e0
   exact E3 g ⟨m',by omega,i1,by omega,by omega,by omega⟩ km
theorem E5 (c:c6 prog w A E s κ Ok rk) {st0:SortSt} (hk:kindOf st0=κ) {x y o:Array Keyed}{i j mg p q lb:Nat} (ox:bG Ok x) (oy:bG Ok y) (sx:Sd rk x.toList) (sy:Sd rk y.toList) (y0:0 < y.size) (hf:∀ t ∈ x.toList,rk y[0]<=rk t) (g:Gq st0 st) (b:HB rk x y lb i (j+1) o) :
  wpS (model prog w) A E s (qF x y o i (j+1) mg p q) (HR rk x y lb st0) st:=by
 unfold qF
 obtain ⟨m,i0,i1,j0,j1,pr⟩:=b
 have hj:j < y.size:=by omega
 simp only [Nat.add_sub_cancel]
 refine aR9 (qB g fun st4 q4=>aR9 (cP hj (aR9 (lQ c (q4.kd.trans hk) (oy _ (aV1 hj)) ox (by omega) (by omega) (sx.up _ _ (by omega)) fun z k1 k2 k3=>?_))))
 dsimp only
 have uy:=sy.up 0 _ (aR8 y.size)
 have mk:=m.xk k1 fun t p ht ht' hp hp' _=>by
  have a1:=k3 p hp hp'
  rw [lS,ba6,Nat.zero_add] at a1
  have a2:=uy t j (by omega) (by omega) hj
  rw [bV (i:=j) hj] at a2
  omega
 have km:∀ (hj:j < y.size) t,t < z->t < x.size->Kr rk x t<=rk y[j]:=fun _ t ht _=>by
  have a1:=k2 t ht
  rw [lS,aT4,Nat.zero_add] at a1
  exact a1
 by_cases hk0:i - z > 0
 ·rw [if_pos hk0]
  by_cases he:(z == 0)=true
  ·rw [if_pos he]
   exact aS7 ⟨q4,.inl ⟨_,_,_,_,_,_,_,rfl,mk.done (.inl (by simpa using he))⟩⟩
  ·rw [if_neg he]
   have he:z ≠ 0:=by simpa using he
   obtain ⟨z2,rfl⟩:∃ z2,z=z2+1:=⟨z - 1,by omega⟩
   exact E4 c hk ox oy sx sy y0 hf q4 ⟨mk,by omega,by omega,j0,j1,by omega⟩ km
 ·rw [if_neg hk0]
  have e0:z=i:=by omega
  subst e0
  obtain ⟨z2,rfl⟩:∃ z2,z=z2+1:=⟨z - 1,by omega⟩
  exact E4 c hk ox oy sx sy y0 hf q4 ⟨m,i0,i1,j0,j1,pr⟩ km
theorem au7 (c:c6 prog w A E s κ Ok rk) {st0:SortSt} (hk:kindOf st0=κ) {x y o:Array Keyed}{i j mg p q lb:Nat} (ox:bG Ok x) (oy:bG Ok y) (sx:Sd rk x.toList) (sy:Sd rk y.toList) (y0:0 < y.size) (hf:∀ t ∈ x.toList,rk y[0]<=rk t) (g:Gq st0 st) (b:HB rk x y lb i j o) :
  wpS (model prog w) A E s (uS x y o i j mg p q) (HQ rk x y lb st0) st:=by
 unfold uS
 refine aY6 (I:=fun _=>HI rk x y lb st0) ?_ ?_ ⟨g,i,j,o,_,p,q,rfl,b⟩
 ·rintro t c3 st3 _ _ ⟨q3,i,j,o,mg,p,q,rfl,b3⟩
  obtain ⟨j3,rfl⟩:∃ j3,j=j3+1:=⟨j - 1,by have:=b3.j0; omega⟩
  dsimp only
  split
  ·exact bf7 (E5 c hk ox oy sx sy y0 hf q3 b3) fun r _ hr=>by cases r <;> exact hr
  ·exact bf7 (E5 c hk ox oy sx sy y0 hf q3 b3) fun r _ hr=>by cases r <;> exact hr
 ·rintro c3 st3 ⟨q3,i,j,o,mg,p,q,rfl,b3⟩
  exact⟨q3,.inr ⟨_,_,_,_,_,_,rfl,b3⟩⟩
theorem au8 (c:c6 prog w A E s κ Ok rk) {st0:SortSt} (hk:kindOf st0=κ) {x y o:Array Keyed}{i j mg n:Nat}{Q:uR->SortSt->Prop} (ox:bG Ok x) (oy:bG Ok y) (sx:Sd rk x.toList) (sy:Sd rk y.toList) (y0:0 < y.size) (hf:∀ t ∈ x.toList,rk y[0]<=rk t) (g:Gq st0 st) (b:HB rk x y n i j o)
  (h1:∀ r i' j' o' p q st',Gq st0 st'->dN rk x y r->Q (some r,i',j',o',p,q) st') (h2:∀ i' j' o' p q st',Gq st0 st'->HB rk x y (n+1) i' j' o'->Q (none,i',j',o',p,q) st') :
  wpS (model prog w) A E s (uT x y o i j mg) Q st:=by
 have ux:Up rk x 0 x.size:=sx.up 0 _ (aR8 _)
 have uy:Up rk y 0 y.size:=sy.up 0 _ (aR8 _)
 unfold uT
 refine aY6 (I:=fun t c st'=>Gq st0 st'/\∃ i j o p q,c=(none,i,j,o,p,q)/\HB rk x y (n+t) i j o) ?_ ?_ ⟨g,i,j,o,0,0,rfl,b⟩
 ·rintro t c2 st2 _ ht ⟨q2,i',j',o,p,q,rfl,m,i0,i1,j0,j1,pr⟩
  obtain ⟨i2,rfl⟩:∃ i2,i'=i2+1:=⟨i' - 1,by omega⟩
  obtain ⟨j2,rfl⟩:∃ j2,j'=j2+1:=⟨j' - 1,by omega⟩
  simp only [Nat.add_sub_cancel]
  have hi:i2 < x.size:=by omega
  have hj:j2 < y.size:=by omega
  refine aR9 (cP hj (aR9 (cP hi (aR9 (c _ _ (oy _ (aV1 hj)) (ox _ (aV1 hi)) st2 _ (q2.kd.trans hk) ?_)))))
  by_cases hc:rk y[j2] < rk x[i2]
  ·rw [aR6 hc]
   dsimp only
   rw [if_pos rfl]
   have m':=m.x1 hi fun t ht _=>by
    have:=uy t j2 (by omega) (by omega) hj
    rw [bV hj] at this
    omega
   refine aR9 (cP hi ?_)
   by_cases he:(i2 == 0)=true
   ·rw [if_pos he]
    exact aS7 (h1 _ _ _ _ _ _ _ q2 (m'.done (.inl (by simpa using he))))
   ·rw [if_neg he]
    have he:i2 ≠ 0:=by simpa using he
    split
    ·exact aS7 (h2 _ _ _ _ _ _ q2 ⟨m',by omega,by omega,j0,j1,by omega⟩)
    ·exact aS7 ⟨q2,_,_,_,_,_,rfl,m',by omega,by omega,j0,j1,by omega⟩
  ·rw [aR2 hc]
   dsimp only
   rw [if_neg aT3]
   have m':=m.y1 hj fun t ht _=>by
    have:=ux t i2 (by omega) (by omega) hi
    rw [bV hi] at this
    omega
   refine aR9 (cP hj ?_)
   by_cases he:(j2 == 1)=true
   ·rw [if_pos he]
    exact aS7 (h1 _ _ _ _ _ _ _ q2 (m'.frst y0 hf (by simpa using he)))
   ·rw [if_neg he]
    have he:j2 ≠ 1:=by simpa using he
    split
    ·exact aS7 (h2 _ _ _ _ _ _ q2 ⟨m',i0,i1,by omega,by omega,by omega⟩)
    ·exact aS7 ⟨q2,_,_,_,_,_,rfl,m',i0,i1,by omega,by omega,by omega⟩
 ·rintro c2 st2 ⟨q2,i',j',o,p,q,rfl,m,i0,i1,j0,j1,pr⟩
  exact h2 _ _ _ _ _ _ q2 ⟨m,i0,i1,j0,j1,by omega⟩
theorem au9 (c:c6 prog w A E s κ Ok rk) (hk:kindOf st=κ) {x y:Array Keyed}{Q:Array Keyed->SortSt->Prop} (ox:bG Ok x) (oy:bG Ok y) (sx:Sd rk x.toList) (sy:Sd rk y.toList) (x0:0 < x.size) (y0:0 < y.size)
  (hf:∀ t ∈ x.toList,rk y[0]<=rk t) (hl:∀ u ∈ y.toList,rk u<=rk x[x.size - 1])
  (h:∀ r st',Gq st st'->dN rk x y r->Q r st'):wpS (model prog w) A E s (uQ x y) Q st:=by
 rw [au6]
 refine aR9 (wpS_lift (be1 ⟨rfl,aR9 (cP (by omega:x.size - 1 < x.size) ?_)⟩))
 have m0:MH rk x.toList y.toList (#[x[x.size - 1]]:Array Keyed).toList.reverse (x.size - 1) y.size:=by
  have mm:MH rk x.toList y.toList [] x.size y.size:=⟨by simp,by rw [aY7 (by simp),aX8]; exact sx,by rw [aY7 (by simp),aX8]; exact sy⟩
  have e:=nO (x:=x) (i:=x.size - 1) (by omega)
  rw [show x.size - 1+1=x.size by omega] at e
  have:=mm.ofx (Nat.sub_le x.size 1) fun t ht u hu=>?_
  ·rw [<- e] at this; simpa using this
  ·rw [<- e,aS1] at hu
   subst hu
   exact hl t (bf8 ht)
 by_cases e1:(x.size - 1 == 0)=true
 ·rw [if_pos e1]
  exact aS7 (h _ st (Gq.refl st) (m0.done (.inl (by simpa using e1))))
 ·rw [if_neg e1]
  have e1:x.size - 1 ≠ 0:=by simpa using e1
  by_cases e2:(y.size == 1)=true
  ·rw [if_pos e2]
   exact aS7 (h _ st (Gq.refl st) (m0.frst y0 hf (by simpa using e2)))
  ·rw [if_neg e2]
   have e2:y.size ≠ 1:=by simpa using e2
   refine aR9 (wpS_get ?_)
   unfold E2
   refine aR9 (bf7 (aY6
    (I:=fun n c st'=>Gq st st'/\∃ i j o mg,c=(none,i,j,o,mg)/\HB rk x y (n+1) i j o)
    (Q:=fun c st'=>Gq st st'/\∃ r i j o mg,c=(some r,i,j,o,mg)/\dN rk x y r) ?_ ?_ ⟨Gq.refl st,_,_,_,_,rfl,m0,by omega,by omega,by omega,by omega,by omega⟩) ?_)
   ·rintro n c1 st1 _ hn ⟨q1,i,j,o,mg,rfl,b⟩
    dsimp only
    refine aR9 (au8 c hk ox oy sx sy y0 hf q1 b (fun r o' i' j' p q st' g md=>aS7 ⟨g,r,_,_,_,_,rfl,md⟩) fun i' j' o' p q st' g b'=>?_)
    refine aR9 (wpS_lift (be1 ⟨rfl,?_⟩))
    refine aR9 (bf7 (au7 c hk ox oy sx sy y0 hf g b') ?_)
    rintro c3 st3 ⟨q3,⟨r,i3,j3,o,mg,p,q,rfl,md⟩ | ⟨i3,j3,o,mg,p,q,rfl,b3⟩⟩
    ·exact aS7 ⟨q3,r,_,_,_,_,rfl,md⟩
    ·exact aR9 (qB q3 fun st4 q4=>aS7 ⟨q4,i3,j3,o,_,rfl,b3⟩)
   ·rintro c1 st1 ⟨q1,i,j,o,mg,rfl,b⟩
    have:=b.pr
    exact absurd this (by omega)
   ·rintro c1 st1 ⟨q1,r,i,j,o,mg,rfl,md⟩
    exact aS7 (h r _ q1 md)
end
theorem av0 (i:Nat):mergeAt' i=(do
 let z <- get
 let (some (sa,na,pw),some (sb,nb,_)):=((pendingOf z)[i]?,(pendingOf z)[i+1]?) | unsupported "internal:list.sort.pending"
 set (SortSt.mk' (kindOf z) (arrOf z) (((pendingOf z).setIfInBounds i (sa,na+nb,pw)).eraseIdxIfInBounds (i+1)) (gallopOf z) (failedOf z))
 let some k <- jR false (<- elem' (arrOf z) sb) (arrOf z) sa na 0 | return false
 let (sa,na):=(sa+k,na - k)
 if na == 0 then return true
 let some nb <- jR true (<- elem' (arrOf z) (sa+na - 1)) (arrOf z) sb nb (nb - 1) | return false
 if nb == 0 then return true
 let x:=(arrOf z).extract sa sb
 let y:=(arrOf z).extract sb (sb+nb)
 let m <- if na<=nb then uM x y else uQ x y
 modify fun z=>setArr z (m.toList.zipIdx.foldl (fun a (p,j)=>a.setIfInBounds (sa+j) p) (arrOf z))
 return (failedOf (<- get)).isNone):=rfl
variable {rk : Keyed → Int}
theorem av1 {σ:Type}{M:Model}{A:Around}{E:Value->Shared->Prop}{s:Shared}{a b:σ}{Q:PUnit->σ->Prop} (h:Q ⟨⟩ a):wpS M A E s (set a:StateT σ Sem PUnit) Q b:=by
 unfold wpS; rw [StateT.run_set]; exact aR3 ⟨rfl,h⟩
theorem E6 (o:Nat):∀ (m:List Keyed) (n:Nat) (a:Array Keyed) (t:Nat),o+n+m.length<=a.size->
  ((m.zipIdx n).foldl (fun a (p,j)=>a.setIfInBounds (o+j) p) a)[t]? = if o+n<=t/\t < o+n+m.length then m[t - (o+n)]? else a[t]?
 | [],n,a,t,_=>by
  show a[t]? = _
  rw [if_neg (fun z=>Nat.not_lt_of_ge z.1 z.2)]
 | p :: m,n,a,t,h=>by
  rw [List.zipIdx_cons,List.foldl_cons]
  have h':o+(n+1)+m.length<=(a.setIfInBounds (o+n) p).size:=by rw [Array.size_setIfInBounds]; simp at h; omega
  have ih:=E6 o m (n+1) (a.setIfInBounds (o+n) p) t h'
  refine ih.trans ?_
  have hs:o+n < a.size:=by simp at h; omega
  rw [Array.getElem?_setIfInBounds]
  by_cases e:o+n=t
  ·subst e
   rw [if_neg (by omega),if_pos rfl,if_pos hs,if_pos (by simp),Nat.sub_self]; rfl
  ·rw [if_neg e]
   by_cases c:o+n<=t/\t < o+n+(p :: m).length
   ·rw [if_pos c,if_pos (by simp at c; omega)]
    rw [show t - (o+n)=(t - (o+(n+1)))+1 by omega]; rfl
   ·rw [if_neg c,if_neg (by simp at c ⊢; omega)]
theorem E7 {a:Array Keyed}{lo hi:Nat} (u:Up rk a lo hi) (hh:hi<=a.size):Sd rk (a.extract lo hi).toList:=by
 unfold Sd
 rw [aV3]
 intro i j hi' hj hij
 have h2:lo+j < hi:=by simp at hj; omega
 have:=u (lo+i) (lo+j) (by omega) (by omega) h2
 rw [bV (by omega:lo+i < a.size),bV (by omega:lo+j < a.size)] at this
 simpa using this
theorem E8 {a:Array Keyed}{lo mid hi:Nat} (u:Up rk a lo mid) (v:Up rk a mid hi) (h0:lo < mid) (h1:mid < hi) (h:Kr rk a (mid - 1)<=Kr rk a mid):Up rk a lo hi:=fun i j hi' hij hj=>by
 rcases aV8 j mid with z | z
 ·exact u i j hi' hij z
 ·rcases aV8 i mid with y | y
  ·have a1:=u i (mid - 1) hi' (by omega) (by omega)
   have a2:=v mid j (aR8 _) z hj
   omega
  ·exact v i j y hij hj
theorem E9 {a:Array Keyed}{lo hi t:Nat} (h:t < hi - lo) (hh:hi<=a.size):Kr rk (a.extract lo hi) t=Kr rk a (lo+t):=by
 refine kK ?_
 rw [Array.getElem?_extract_of_lt (by omega)]
 exact (getElem?_pos a (lo+t) (by omega)).symm
section
variable {κ : SortKind} {a0 : Array Keyed} {pd : Array (Nat × Nat × Nat)} {st : SortSt} {prog : Program} {w : World} {A : Around} {E : Value → Shared → Prop} {s : Shared} {Ok : Keyed → Prop}
theorem av2 {a m:Array Keyed}{p x e:Nat} (hpx:p<=x) (hxe:x<=e) (he:e<=a.size) (md:dN rk (a.extract p x) (a.extract x e) m) :
  let r:=m.toList.zipIdx.foldl (fun a (q,j)=>a.setIfInBounds (p+j) q) a
  r.Perm a/\(∀ t,(t < p ∨ e<=t)->Kr rk r t=Kr rk a t)/\(∀ t t',p<=t->t<=t'->t' < e->Kr rk r t<=Kr rk r t')/\∀ t,p<=t->t < e->∃ t',p<=t'/\t' < e/\Kr rk r t=Kr rk a t':=by
 intro r
 have ml:m.toList.length=e - p:=by
  rw [md.1.length_eq]; simp; omega
 have g:∀ t,r[t]? = if p<=t/\t < e then m[t - p]? else a[t]?:=fun t=>by
  have:=E6 p m.toList 0 a t (by omega)
  rw [show r=(m.toList.zipIdx 0).foldl (fun a (q,j)=>a.setIfInBounds (p+j) q) a from rfl,this]
  simp only [Nat.add_zero,ml,show p+(e - p)=e by omega,ba1]
 have ex:(a.extract p x).toList ++ (a.extract x e).toList=(a.toList.take e).drop p:=by
  rw [kO,kO,bg3,bg3,bg3]
  rw [show x=p+(x - p) by omega,<- List.drop_drop,show p+(x - p) - p=x - p by omega,show e - (p+(x - p))=(e - p) - (x - p) by omega]
  have:=aU9 (x - p) ((a.toList.drop p).take (e - p))
  rw [List.take_take,bg3,Nat.min_eq_left (by omega)] at this
  exact this
 have rl:r.toList=a.toList.take p ++ (m.toList ++ a.toList.drop e):=by
  apply List.ext_getElem?
  intro t
  rw [ba1,g]
  rcases aV8 t p with z | z
  ·rw [if_neg (by omega),bd2 (by simp; omega),List.getElem?_take_of_lt z,ba1]
  ·rw [be5 (by simp; omega)]
   have lp:(a.toList.take p).length=p:=by simp; omega
   rw [lp]
   rcases aV8 t e with y | y
   ·rw [if_pos ⟨z,y⟩,bd2 (by omega),ba1]
   ·rw [if_neg (by omega),be5 (by omega),ml,List.getElem?_drop,ba1]
    congr 1; omega
 have mp:m.toList.Perm ((a.toList.take e).drop p):=ex ▸ md.1
 refine⟨?_,fun t ht=>kK (by rw [g,if_neg (by omega)]),fun t t' h1 h2 h3=>?_,fun t h1 h2=>?_⟩
 ·refine Array.perm_iff_toList_perm.mpr ?_
  rw [rl]
  have:a.toList=a.toList.take p ++ ((a.toList.take e).drop p ++ a.toList.drop e):=by
   rw [uU _ (by omega:p<=e)]; exact (aU9 p _).symm
  conv=>rhs; rw [this]
  exact (mp.append_right _).append_left _
 ·have e1:Kr rk r t=Kr rk m (t - p):=kK (by rw [g,if_pos (by omega)])
  have e2:Kr rk r t'=Kr rk m (t' - p):=kK (by rw [g,if_pos (by omega)])
  rw [e1,e2]
  have ms:m.size=e - p:=by rw [<- ml]; simp
  exact md.2.up 0 m.size (aR8 _) (t - p) (t' - p) (by omega) (by omega) (by omega)
 ·have e1:Kr rk r t=Kr rk m (t - p):=kK (by rw [g,if_pos (by omega)])
  have ms:m.size=e - p:=by rw [<- ml]; simp
  have hm:t - p < m.size:=by omega
  have mm:m[t - p] ∈ (a.toList.take e).drop p:=mp.mem_iff.mp (by simp)
  obtain ⟨t',q1,q2,q3,q4⟩:=nN (rk:=rk) mm
  exact⟨t',q1,q2,by rw [e1,bV hm]; exact q4⟩
theorem av3 (c:c6 prog w A E s κ Ok rk) (o:bG Ok a0) (b:SB κ a0 pd st) {i sa na pw sb nb pw':Nat}{Q:Bool->SortSt->Prop} (e1:pd[i]? = some (sa,na,pw)) (e2:pd[i+1]? = some (sb,nb,pw')) (hs:sb=sa+na) (n0:0 < na) (m0:0 < nb) (hz:sb+nb<=a0.size)
  (u:Up rk (arrOf st) sa sb) (v:Up rk (arrOf st) sb (sb+nb))
  (h:∀ st',SB κ a0 ((pd.setIfInBounds i (sa,na+nb,pw)).eraseIdxIfInBounds (i+1)) st'->Up rk (arrOf st') sa (sb+nb)->(∀ t,(t < sa ∨ sb+nb<=t)->Kr rk (arrOf st') t=Kr rk (arrOf st) t)->Q true st'):wpS (model prog w) A E s (mergeAt' i) Q st:=by
 have sz:=b.sz
 rw [av0]
 refine aR9 (wpS_get ?_)
 rw [b.pd,e1,e2]
 dsimp only
 refine aR9 (av1 ?_)
 generalize hst:SortSt.mk' (kindOf st) (arrOf st) ((pd.setIfInBounds i (sa,na+nb,pw)).eraseIdxIfInBounds (i+1)) (gallopOf st) (failedOf st)=st1
 have b1:SB κ a0 ((pd.setIfInBounds i (sa,na+nb,pw)).eraseIdxIfInBounds (i+1)) st1:=by rw [<- hst]; exact⟨b.pm,b.kd,b.ok,rfl⟩
 have ar:arrOf st1=arrOf st:=by rw [<- hst]
 have oa:=b.all o
 have hsb:sb < (arrOf st).size:=by omega
 refine aR9 (cP hsb (aR9 (lQ c b1.kd (oa _ (aV1 hsb)) oa n0 (by omega) (hs ▸ u) fun k k1 k2 k3=>?_)))
 dsimp only
 have k2':∀ t,sa<=t->t < sa+k->Kr rk (arrOf st) t<=Kr rk (arrOf st) sb:=fun t t1 t2=>by
  have:=k2 (t - sa) (by omega)
  rw [lS,aT4,show sa+(t - sa)=t by omega] at this
  rw [bV hsb]; exact this
 have k3':∀ t,sa+k<=t->t < sb->Kr rk (arrOf st) sb < Kr rk (arrOf st) t:=fun t t1 t2=>by
  have:=k3 (t - sa) (by omega) (by omega)
  rw [lS,ba6,show sa+(t - sa)=t by omega] at this
  rw [bV hsb]; omega
 by_cases ek:(na - k == 0)=true
 ·rw [if_pos ek]
  have ek:na - k=0:=by simpa using ek
  refine aS7 (h st1 b1 ?_ fun t _=>by rw [ar])
  rw [ar]
  exact E8 u v (by omega) (by omega) (k2' (sb - 1) (by omega) (by omega))
 ·rw [if_neg ek]
  have ek:na - k ≠ 0:=by simpa using ek
  have el:sa+k+(na - k) - 1=sb - 1:=by omega
  rw [el]
  have hsl:sb - 1 < (arrOf st).size:=by omega
  refine aR9 (cP hsl (aR9 (lQ c b1.kd (oa _ (aV1 hsl)) oa (by omega) (by omega) v fun l l1 l2 l3=>?_)))
  dsimp only
  have l2':∀ t,sb<=t->t < sb+l->Kr rk (arrOf st) t < Kr rk (arrOf st) (sb - 1):=fun t t1 t2=>by
   have:=l2 (t - sb) (by omega)
   rw [lT,aT4,show sb+(t - sb)=t by omega] at this
   rw [bV hsl]; exact this
  have l3':∀ t,sb+l<=t->t < sb+nb->Kr rk (arrOf st) (sb - 1)<=Kr rk (arrOf st) t:=fun t t1 t2=>by
   have:=l3 (t - sb) (by omega) (by omega)
   rw [lT,ba6,show sb+(t - sb)=t by omega] at this
   rw [bV hsl]; omega
  by_cases en:(l == 0)=true
  ·rw [if_pos en]
   have en:l=0:=by simpa using en
   subst en
   refine aS7 (h st1 b1 ?_ fun t _=>by rw [ar])
   rw [ar]
   exact E8 u v (by omega) (by omega) (l3' sb (by omega) (by omega))
  ·rw [if_neg en]
   have en:l ≠ 0:=by simpa using en
   have sub:∀ p e,bG Ok ((arrOf st).extract p e):=fun p e z hz=>oa z (by
    have:z ∈ ((arrOf st).extract p e).toList:=Array.mem_toList_iff.mpr hz
    rw [kO] at this
    exact Array.mem_toList_iff.mp (bf8 (List.mem_of_mem_drop this)))
   have sx:Sd rk ((arrOf st).extract (sa+k) sb).toList:=E7 (fun i j h1 h2 h3=>u i j (by omega) h2 h3) (by omega)
   have sy:Sd rk ((arrOf st).extract sb (sb+l)).toList:=E7 (fun i j h1 h2 h3=>v i j h1 h2 (by omega)) (by omega)
   have x0:0 < ((arrOf st).extract (sa+k) sb).size:=by simp; omega
   have y0:0 < ((arrOf st).extract sb (sb+l)).size:=by simp; omega
   have hf:∀ t ∈ ((arrOf st).extract (sa+k) sb).toList,rk ((arrOf st).extract sb (sb+l))[0]<=rk t:=fun t ht=>by
    rw [kO] at ht
    obtain ⟨t',q1,q2,q3,q4⟩:=nN (rk:=rk) ht
    rw [q4,<- bV (rk:=rk) y0,E9 (by omega) (by omega)]
    exact Int.le_of_lt (k3' t' q1 q2)
   have hl:∀ t ∈ ((arrOf st).extract sb (sb+l)).toList,rk t<=rk ((arrOf st).extract (sa+k) sb)[((arrOf st).extract (sa+k) sb).size - 1]:=fun t ht=>by
    rw [kO] at ht
    obtain ⟨t',q1,q2,q3,q4⟩:=nN (rk:=rk) ht
    have e:((arrOf st).extract (sa+k) sb).size=sb - (sa+k):=by simp; omega
    rw [q4,<- bV (rk:=rk) (by omega),E9 (by omega) (by omega),e,show sa+k+(sb - (sa+k) - 1)=sb - 1 by omega]
    exact Int.le_of_lt (l2' t' q1 q2)
   have fin:∀ (m:Array Keyed) (st2:SortSt),Gq st1 st2->dN rk ((arrOf st).extract (sa+k) sb) ((arrOf st).extract sb (sb+l)) m->
     wpS (model prog w) A E s (do modify (fun z=>setArr z (m.toList.zipIdx.foldl (fun a (p,j)=>a.setIfInBounds (sa+k+j) p) (arrOf z))); return (failedOf (<- get)).isNone) Q st2:=fun m st2 g md=>by
    have b2:SB κ a0 ((pd.setIfInBounds i (sa,na+nb,pw)).eraseIdxIfInBounds (i+1)) st2:=⟨by rw [g.ar]; exact b1.pm,g.kd.trans b1.kd,g.ok.trans b1.ok,g.pd.trans b1.pd⟩
    have a2:arrOf st2=arrOf st:=g.ar.trans ar
    obtain ⟨r1,r2,r3,r4⟩:=av2 (by omega) (by omega) (by omega) md
    generalize hr:m.toList.zipIdx.foldl (fun a (q,j)=>a.setIfInBounds (sa+k+j) q) (arrOf st)=r at r1 r2 r3 r4
    refine aR9 (wpS_modify (aR9 (wpS_get (aS7 ?_))))
    have b3:=b2.put (xs:=m.toList.zipIdx.foldl (fun a (q,j)=>a.setIfInBounds (sa+k+j) q) (arrOf st2)) (by rw [a2,hr]; exact r1)
    have er:arrOf (setArr st2 (m.toList.zipIdx.foldl (fun a (q,j)=>a.setIfInBounds (sa+k+j) q) (arrOf st2)))=r:=by rw [<- hr,a2]
    have tr:(failedOf (setArr st2 (m.toList.zipIdx.foldl (fun a (q,j)=>a.setIfInBounds (sa+k+j) q) (arrOf st2)))).isNone=true:=by rw [b3.ok]; rfl
    rw [tr]
    refine h _ b3 (fun i j hi hij hj=>?_) fun t ht=>?_
    ·rw [er]
     have bl:∀ t,sa<=t->t < sa+k->∀ t',sa+k<=t'->t' < sb+l->Kr rk (arrOf st) t<=Kr rk (arrOf st) t':=fun t t1 t2 t' t3 t4=>by
      rcases aV8 t' sb with z | z
      ·exact u t t' t1 (by omega) z
      ·have a1:=k2' t t1 t2
       have a2:=v sb t' (aR8 _) z (by omega)
       omega
     have br:∀ t,sb+l<=t->t < sb+nb->∀ t',sa+k<=t'->t' < sb+l->Kr rk (arrOf st) t'<=Kr rk (arrOf st) t:=fun t t1 t2 t' t3 t4=>by
      rcases aV8 t' sb with z | z
      ·have a1:=u t' (sb - 1) (by omega) (by omega) (by omega)
       have a2:=l3' t t1 t2
       omega
      ·exact v t' t z (by omega) t2
     have blr:∀ t,sa<=t->t < sa+k->∀ t',sb+l<=t'->t' < sb+nb->Kr rk (arrOf st) t<=Kr rk (arrOf st) t':=fun t t1 t2 t' t3 t4=>by
      have a1:=bl t t1 t2 (sb - 1) (by omega) (by omega)
      have a2:=l3' t' t3 t4
      omega
     rcases aV8 i (sa+k) with z | z
     ·rw [r2 i (.inl z)]
      rcases aV8 j (sa+k) with y | y
      ·rw [r2 j (.inl y)]; exact u i j hi hij (by omega)
      ·rcases aV8 j (sb+l) with x | x
       ·obtain ⟨t',q1,q2,q3⟩:=r4 j y x
        rw [q3]; exact bl i hi z t' q1 q2
       ·rw [r2 j (.inr x)]; exact blr i hi z j x hj
     ·rcases aV8 j (sb+l) with x | x
      ·exact r3 i j z hij x
      ·rw [r2 j (.inr x)]
       rcases aV8 i (sb+l) with y | y
       ·obtain ⟨t',q1,q2,q3⟩:=r4 i z y
        rw [q3]; exact br j x hj t' q1 q2
       ·rw [r2 i (.inr y)]; exact v i j (by omega) hij hj
    ·rw [er]; exact r2 t (by omega)
   by_cases hle:na - k<=l
   ·rw [if_pos hle]
    exact aR9 (au5 c b1.kd (sub _ _) (sub _ _) sx sy x0 y0 hf hl fun m st2 g md=>fin m st2 g md)
   ·rw [if_neg hle]
    exact aR9 (au9 c b1.kd (sub _ _) (sub _ _) sx sy x0 y0 hf hl fun m st2 g md=>fin m st2 g md)
end
def Ch:Nat->List (Nat × Nat)->Nat->Prop
 | a,[],b=>a=b
 | a,(p,n) :: r,b=>p=a/\0 < n/\Ch (a+n) r b
theorem Ch.split:∀ {l l':List (Nat × Nat)}{a b:Nat},Ch a (l ++ l') b->∃ m,Ch a l m/\Ch m l' b
 | [],_,a,_,h=>⟨a,rfl,h⟩
 | (p,n) :: l,l',a,b,h=>by
  obtain ⟨h1,h2,h3⟩:=h
  obtain ⟨m,q1,q2⟩:=Ch.split h3
  exact⟨m,⟨h1,h2,q1⟩,q2⟩
theorem Ch.join:∀ {l l':List (Nat × Nat)}{a m b:Nat},Ch a l m->Ch m l' b->Ch a (l ++ l') b
 | [],_,a,m,_,h,h'=>by cases (show a=m from h); exact h'
 | (p,n) :: l,l',a,m,b,h,h'=>⟨h.1,h.2.1,Ch.join h.2.2 h'⟩
theorem Ch.len:∀ {l:List (Nat × Nat)}{a b:Nat},Ch a l b->a+l.length<=b
 | [],a,b,h=>by cases (show a=b from h); simp
 | (p,n) :: l,a,b,h=>by
  have:=Ch.len h.2.2
  have:=h.2.1
  simp; omega
theorem Ch.mem:∀ {l:List (Nat × Nat)}{a b:Nat}{r:Nat × Nat},Ch a l b->r ∈ l->a<=r.1/\r.1+r.2<=b/\0 < r.2
 | (p,n) :: l,a,b,r,h,hr=>by
  obtain ⟨h1,h2,h3⟩:=h
  have hb:=Ch.len h3
  rcases aR5.mp hr with e | e
  ·subst e
   have h1:p=a:=h1
   refine⟨?_,?_,h2⟩
   ·show a<=p; omega
   ·show p+n<=b; omega
  ·have:=Ch.mem h3 e
   exact⟨by omega,this.2.1,this.2.2⟩
def sk (pd:Array (Nat × Nat × Nat)):List (Nat × Nat):=pd.toList.map fun r=>(r.1,r.2.1)
theorem qI (pd:Array (Nat × Nat × Nat)):(sk pd).length=pd.size:=by simp [sk]
structure Rn (rk:Keyed->Int) (a:Array Keyed) (l:List (Nat × Nat)) (lo:Nat):Prop where
 ch:Ch 0 l lo
 up:∀ r ∈ l,Up rk a r.1 (r.1+r.2)
variable {rk : Keyed → Int} {κ : SortKind} {a0 : Array Keyed} {pd : Array (Nat × Nat × Nat)} {st : SortSt} {prog : Program} {w : World} {A : Around} {E : Value → Shared → Prop} {s : Shared} {Ok : Keyed → Prop}
theorem Rn.same {a b:Array Keyed}{l:List (Nat × Nat)}{lo:Nat} (h:Rn rk a l lo) (e:∀ t,t < lo->Kr rk b t=Kr rk a t):Rn rk b l lo:=⟨h.ch,fun r hr i j hi hij hj=>by
 have:=(h.ch.mem hr).2.1
 rw [e i (by omega),e j (by omega)]
 exact h.up r hr i j hi hij hj⟩
theorem F0 (c:c6 prog w A E s κ Ok rk) (o:bG Ok a0) (b:SB κ a0 pd st) {i lo:Nat}{Q:Bool->SortSt->Prop} (hi:i+1 < pd.size) (hz:lo<=a0.size) (rn:Rn rk (arrOf st) (sk pd) lo)
  (h:∀ pd' st',SB κ a0 pd' st'->pd'.size+1=pd.size->Rn rk (arrOf st') (sk pd') lo->(∀ t,lo<=t->Kr rk (arrOf st') t=Kr rk (arrOf st) t)->Q true st'):wpS (model prog w) A E s (mergeAt' i) Q st:=by
 obtain ⟨⟨sa,na,pw⟩,e1⟩:∃ r,pd[i]? = some r:=⟨pd[i],getElem?_pos pd i (by omega)⟩
 obtain ⟨⟨sb,nb,pw'⟩,e2⟩:∃ r,pd[i+1]? = some r:=⟨pd[i+1],getElem?_pos pd (i+1) hi⟩
 have d1:pd.toList=pd.toList.take i ++ (sa,na,pw) :: (sb,nb,pw') :: pd.toList.drop (i+2):=by
  have hl:i < pd.toList.length:=by simp; omega
  have hl2:i+1 < pd.toList.length:=by simpa using hi
  have g1:pd.toList[i]=(sa,na,pw):=by rw [getElem?_pos pd i (by omega)] at e1; simpa using e1
  have g2:pd.toList[i+1]=(sb,nb,pw'):=by rw [getElem?_pos pd (i+1) hi] at e2; simpa using e2
  have:=aU9 i pd.toList
  rw [bd3 hl,bd3 hl2,g1,g2] at this
  exact this.symm
 have li:(pd.toList.take i).length=i:=by simp; omega
 have d2:((pd.setIfInBounds i (sa,na+nb,pw)).eraseIdxIfInBounds (i+1)).toList=pd.toList.take i ++ (sa,na+nb,pw) :: pd.toList.drop (i+2):=by
  have e:((pd.setIfInBounds i (sa,na+nb,pw)).eraseIdxIfInBounds (i+1)).toList=(pd.toList.set i (sa,na+nb,pw)).eraseIdx (i+1):=by
   unfold Array.eraseIdxIfInBounds
   rw [dif_pos (by rw [Array.size_setIfInBounds]; exact hi),Array.toList_eraseIdx,Array.toList_setIfInBounds]
  rw [e]
  conv=>lhs; rw [d1]
  rw [List.set_append_right _ _ (by omega),li,Nat.sub_self,List.set_cons_zero,List.eraseIdx_append_of_length_le (by omega),li,show i+1 - i=1 by omega]
  rfl
 have k1:sk pd=(pd.toList.take i).map (fun r=>(r.1,r.2.1)) ++ (sa,na) :: (sb,nb) :: (pd.toList.drop (i+2)).map (fun r=>(r.1,r.2.1)):=by
  unfold sk; conv=>lhs; rw [d1]
  simp
 have k2:sk ((pd.setIfInBounds i (sa,na+nb,pw)).eraseIdxIfInBounds (i+1))=(pd.toList.take i).map (fun r=>(r.1,r.2.1)) ++ (sa,na+nb) :: (pd.toList.drop (i+2)).map (fun r=>(r.1,r.2.1)):=by
  unfold sk; rw [d2]
  simp
 have ch:=rn.ch
 rw [k1] at ch
 obtain ⟨m,c1,c2⟩:=ch.split
 obtain ⟨f1,f2,f3,f4,f5⟩:=c2
 have f1:sa=m:=f1
 have f3:sb=m+na:=f3
 have up:=rn.up
 rw [k1] at up
 have lo2:=f5.len
 refine av3 c o b e1 e2 (by omega) f2 f4 (by omega) (by have:=up (sa,na) (by simp); rw [f3,<- f1]; exact this) (up (sb,nb) (by simp)) fun st' b' u' fr=>h _ st' b' ?_ ⟨?_,?_⟩ fun t ht=>fr t (by omega)
 ·rw [<- qI,<- qI,k1,k2]; simp; omega
 ·rw [k2]
  refine c1.join ⟨f1,by omega,?_⟩
  rw [<- Nat.add_assoc]; exact f5
 ·intro r hr
  rw [k2] at hr
  rcases aU4.mp hr with z | z
  ·intro p q h1 h2 h3
   have:=(c1.mem z).2.1
   rw [fr p (by omega),fr q (by omega)]
   exact up r (aU3 _ z) p q h1 h2 h3
  ·rcases aR5.mp z with z | z
   ·subst z
    show Up rk (arrOf st') sa (sa+(na+nb))
    rw [show sa+(na+nb)=sb+nb by omega]; exact u'
   ·intro p q h1 h2 h3
    have:=(f5.mem z).1
    rw [fr p (by omega),fr q (by omega)]
    exact up r (aU0 _ (aR7 _ (aR7 _ z))) p q h1 h2 h3
abbrev RS:=Option Unit × Nat
def F1 (sz pw:Nat):StateT SortSt Sem (Option Unit × Unit):=forIn [0:sz] ((none,()):Option Unit × Unit) fun _ _=>do
 let z <- get
 match (if (pendingOf z).size > 1 then (pendingOf z)[(pendingOf z).size - 2]? else none) with
 | some (_,_,o)=>if o<=pw then pure (.done (none,())) else do
   let q <- mergeAt' ((pendingOf z).size - 2)
   if (!q)=true then pure (.done (some (),())) else pure (.yield (none,()))
 | _=>pure (.done (none,()))
def jn (sz lo n:Nat):StateT SortSt Sem (ForInStep RS):=do
 let z <- get
 match (pendingOf z).back? with
 | some (s1,n1,_)=>do
  let r <- F1 sz (power' sz (2 * s1+n1) (2 * s1+n1+n1+n) sz)
  match r.1 with
  | some u=>pure (.done (some u,lo))
  | none=>do
   modify fun s=>setPending s ((pendingOf s).modify ((pendingOf s).size - 1) fun x=>(x.1,x.2.1,power' sz (2 * s1+n1) (2 * s1+n1+n1+n) sz))
   modify fun s=>setPending s ((pendingOf s).push (lo,n,0))
   pure (.yield (none,lo+n))
 | _=>do
  modify fun s=>setPending s ((pendingOf s).push (lo,n,0))
  pure (.yield (none,lo+n))
def F2 (sz mr lo:Nat):StateT SortSt Sem (ForInStep RS):=if lo >= sz then pure (.done (none,lo)) else do
 match <- countRun' lo (sz - lo) with
 | some n=>
  if n < mr then
   liftM (rule "list.sort.binary-insertion")
   let q <- binarySort' lo (min (sz - lo) mr) n
   if (!q)=true then pure (.done (some (),lo)) else jn sz lo (min (sz - lo) mr)
  else jn sz lo n
 | _=>pure (.done (some (),lo))
def F3 (sz:Nat):StateT SortSt Sem (Option Unit × Unit):=forIn [0:sz] ((none,()):Option Unit × Unit) fun _ _=>do
 let z <- get
 if (pendingOf z).size<=1 then pure (.done (none,())) else do
  let q <- mergeAt' (if ((if (pendingOf z).size - 2 > 0 then (pendingOf z)[(pendingOf z).size - 2 - 1]?.map (·.2.1) else none).any (· < ((pendingOf z)[(pendingOf z).size - 2+1]?.elim 0 (·.2.1))))=true then (pendingOf z).size - 2 - 1 else (pendingOf z).size - 2)
  if (!q)=true then pure (.done (some (),())) else pure (.yield (none,()))
theorem av4:sortRuns'=(do
 let z <- get
 let r <- (forIn [0:(arrOf z).size] ((none,0):RS) fun _ r=>F2 (arrOf z).size (minRun' (arrOf z).size (arrOf z).size 0) r.2)
 match r.1 with
 | some u=>pure u
 | none=>do
  let q <- F3 (arrOf z).size
  match q.1 with
  | some u=>pure u
  | none=>pure ()):=by kernel_rfl
theorem F4 {lo nn:Nat} (n1:0 < nn) {pd:Array (Nat × Nat × Nat)}{a:Array Keyed} (r:Rn rk a (sk pd) lo) (u:Up rk a lo (lo+nn)):Rn rk a (sk (pd.push (lo,nn,0))) (lo+nn):=by
 have e:sk (pd.push (lo,nn,0))=sk pd ++ [(lo,nn)]:=by simp [sk]
 refine⟨by rw [e]; exact r.ch.join ⟨rfl,n1,rfl⟩,fun q hq=>?_⟩
 rw [e] at hq
 rcases aU4.mp hq with z | z
 ·exact r.up q z
 ·rw [aS1] at z
  subst z
  exact u
theorem F5 (c:c6 prog w A E s κ Ok rk) (o:bG Ok a0) (b:SB κ a0 pd st) {lo n:Nat}{Q:ForInStep RS->SortSt->Prop} (n1:1<=n) (n2:lo+n<=a0.size) (rn:Rn rk (arrOf st) (sk pd) lo) (u:Up rk (arrOf st) lo (lo+n))
  (h:∀ pd' st',SB κ a0 pd' st'->Rn rk (arrOf st') (sk pd') (lo+n)->Q (.yield (none,lo+n)) st'):wpS (model prog w) A E s (jn a0.size lo n) Q st:=by
 unfold jn
 refine aR9 (wpS_get ?_)
 rw [b.pd]
 cases hb:pd.back? with
 | none=>exact aR9 (wpS_modify (aS7 (h (pd.push (lo,n,0)) _ ⟨b.pm,b.kd,b.ok,by show (pendingOf st).push _=_; rw [b.pd]⟩ (F4 n1 rn u))))
 | some q=>
  obtain ⟨s1,m1,q3⟩:=q
  dsimp only
  generalize power' a0.size (2 * s1+m1) (2 * s1+m1+m1+n) a0.size=pw
  unfold F1
  refine aR9 (bf7 (aY6
   (I:=fun _ r st'=>r=(none,())/\∃ pd,SB κ a0 pd st'/\Rn rk (arrOf st') (sk pd) lo/\Up rk (arrOf st') lo (lo+n))
   (Q:=fun r st'=>r=(none,())/\∃ pd,SB κ a0 pd st'/\Rn rk (arrOf st') (sk pd) lo/\Up rk (arrOf st') lo (lo+n)) ?_ (fun _ _ z=>z) ⟨rfl,pd,b,rn,u⟩) ?_)
  ·rintro t r st4 _ ht ⟨rfl,pd4,b4,r4,u4⟩
   refine aR9 (wpS_get ?_)
   rw [b4.pd]
   cases ho:(if pd4.size > 1 then pd4[pd4.size - 2]? else none) with
   | none=>exact aS7 ⟨rfl,pd4,b4,r4,u4⟩
   | some z=>
    obtain ⟨z1,z2,z3⟩:=z
    have h1:pd4.size > 1:=by
     by_cases y:pd4.size > 1
     ·exact y
     ·rw [if_neg y] at ho; cases ho
    dsimp only
    by_cases hp:z3<=pw
    ·rw [if_pos hp]
     exact aS7 ⟨rfl,pd4,b4,r4,u4⟩
    ·rw [if_neg hp]
     refine aR9 (F0 c o b4 (by omega) (by omega) r4 fun pd5 st5 b5 _ r5 f5=>?_)
     exact aS7 ⟨rfl,pd5,b5,r5,fun i j hi hij hj=>by rw [f5 i hi,f5 j (by omega)]; exact u4 i j hi hij hj⟩
  ·rintro r st4 ⟨rfl,pd4,b4,r4,u4⟩
   refine aR9 (wpS_modify (aR9 (wpS_modify (aS7 ?_))))
   have e:sk (pd4.modify (pd4.size - 1) fun x=>(x.1,x.2.1,pw))=sk pd4:=by
    unfold sk
    rw [Array.toList_modify]
    apply List.ext_getElem?
    intro t
    rw [aS8,aS8,List.getElem?_modify]
    cases pd4.toList[t]? with
    | none=>simp
    | some v=>by_cases y:pd4.size - 1=t <;> simp [y]
   refine h ((pd4.modify (pd4.size - 1) fun x=>(x.1,x.2.1,pw)).push (lo,n,0)) _ ⟨b4.pm,b4.kd,b4.ok,?_⟩ (F4 n1 (by rw [e]; exact r4) u4)
   show ((pendingOf st4).modify ((pendingOf st4).size - 1) fun x=>(x.1,x.2.1,pw)).push _=_
   rw [b4.pd]
theorem av5 (c:c6 prog w A E s κ Ok rk) (o:bG Ok a0) (b:SB κ a0 #[] st) {Q:Unit->SortSt->Prop} (h2:1<=a0.size)
  (h:∀ st',(arrOf st').Perm a0->failedOf st'=none->Up rk (arrOf st') 0 a0.size->Q () st'):wpS (model prog w) A E s sortRuns' Q st:=by
 rw [av4]
 refine aR9 (wpS_get ?_)
 rw [b.sz]
 generalize minRun' a0.size a0.size 0=mr
 refine aR9 (bf7 (aY6
  (I:=fun x r st'=>∃ lo pd,r=(none,lo)/\x<=lo/\lo<=a0.size/\SB κ a0 pd st'/\Rn rk (arrOf st') (sk pd) lo)
  (Q:=fun r st'=>∃ pd,r=(none,a0.size)/\SB κ a0 pd st'/\Rn rk (arrOf st') (sk pd) a0.size) ?_ ?_ ⟨0,#[],rfl,aR8 _,aZ6 _,b,⟨rfl,fun r hr=>absurd hr (by simp [sk])⟩⟩) ?_)
 ·rintro x r st1 _ hx ⟨lo,pd,rfl,xl,lz,b1,rn⟩
  unfold F2
  dsimp only
  by_cases hd:lo >= a0.size
  ·rw [if_pos hd]
   have e:lo=a0.size:=by omega
   subst e
   exact aS7 ⟨pd,rfl,b1,rn⟩
  ·rw [if_neg hd]
   refine aR9 (at8 c o b1 (by omega) (by omega) fun n st2 b2 n1 n2 u2 l2=>?_)
   have rn2:=rn.same l2
   dsimp only
   by_cases hmr:n < mr
   ·rw [if_pos hmr]
    refine aR9 (wpS_lift (be1 ⟨rfl,?_⟩))
    refine aR9 (at9 c o b2 (by omega) (by omega) u2 fun st3 b3 u3 l3=>?_)
    rw [if_neg (by decide)]
    exact F5 c o b3 (by omega) (by omega) (rn2.same l3) u3 fun pd' st' b' r'=>⟨_,pd',rfl,by omega,by omega,b',r'⟩
   ·rw [if_neg hmr]
    exact F5 c o b2 n1 (by omega) rn2 u2 fun pd' st' b' r'=>⟨lo+n,pd',rfl,by omega,by omega,b',r'⟩
 ·rintro r st1 ⟨lo,pd,rfl,xl,lz,b1,rn⟩
  have e:lo=a0.size:=by omega
  subst e
  exact⟨pd,rfl,b1,rn⟩
 ·rintro r st1 ⟨pd,rfl,b1,rn⟩
  dsimp only
  unfold F3
  refine aR9 (bf7 (aY6
   (I:=fun t r st'=>r=(none,())/\∃ pd,SB κ a0 pd st'/\Rn rk (arrOf st') (sk pd) a0.size/\(pd.size+t<=a0.size ∨ pd.size<=1))
   (Q:=fun r st'=>r=(none,())/\∃ pd,SB κ a0 pd st'/\Rn rk (arrOf st') (sk pd) a0.size/\pd.size<=1) ?_ ?_ ⟨rfl,pd,b1,rn,.inl (by have:=rn.ch.len; rw [qI] at this; omega)⟩) ?_)
  ·rintro t r st2 _ ht ⟨rfl,pd,b2,rn2,pr⟩
   refine aR9 (wpS_get ?_)
   rw [b2.pd]
   by_cases h1:pd.size<=1
   ·rw [if_pos h1]
    exact aS7 ⟨rfl,pd,b2,rn2,h1⟩
   ·rw [if_neg h1]
    refine aR9 (F0 c o b2 ?_ (aR8 _) rn2 fun pd' st3 b3 sz3 rn3 _=>?_)
    ·split <;> split <;> omega
    ·exact aS7 ⟨rfl,pd',b3,rn3,by omega⟩
  ·rintro r st2 ⟨rfl,pd,b2,rn2,pr⟩
   exact⟨rfl,pd,b2,rn2,by omega⟩
  ·rintro r st2 ⟨rfl,pd,b2,rn2,pr⟩
   refine aS7 (h st2 b2.pm b2.ok ?_)
   have ch:=rn2.ch
   have up:=rn2.up
   rw [<- qI] at pr
   cases e:sk pd with
   | nil=>rw [e] at ch; exact absurd (show 0=a0.size from ch) (by omega)
   | cons r l=>
    rw [e] at ch up pr
    have el:l = []:=List.eq_nil_of_length_eq_zero (by have:=pr; rw [aV5] at this; omega)
    subst el
    obtain ⟨p,n⟩:=r
    obtain ⟨q1,q2,q3⟩:=ch
    have q1:p=0:=q1
    have q3:0+n=a0.size:=q3
    subst q1
    have:=up (0,n) (by simp)
    rw [<- q3]; exact this
end SO
namespace L2
open PySem PySem.Spec PyProof.Rows SO
abbrev c9 (h:Heap) (a:Addr) (vs:List Value):Heap:=((h.update a (Obj.mapSeq fun _=>#[])).push (seqObj "tuple" vs.toArray 0)).push (seqObj "list" #[] 0)
abbrev dF (h:Heap) (vs:List Value):Heap:=((h.push (seqObj "list" #[] 0)).update h.objs.size (Obj.mapSeq (· ++ vs.toArray))).push (seqObj "list" vs.toArray 0)
theorem F6 {h:Heap}{vs:List Value}{b:Addr}{o:Obj} (e:h.get? b=some o):(dF h vs).get? b=some o:=by
 have l:=aS4 e
 refine aQ9 _ ?_
 rw [Heap.get?_update_ne _ _ _ _ (aU5 l)]
 exact aQ9 _ e
theorem uV {h:Heap}{vs:List Value}{a b:Addr}{o:Obj} (hb:b ≠ a) (e:h.get? b=some o):(c9 h a vs).get? b=some o:=by
 refine aQ9 _ (aQ9 _ ?_)
 rw [Heap.get?_update_ne _ _ _ _ hb]; exact e
theorem F7 {prog:Program}{w:World}{A:Around}{E:Value->Shared->Prop}{s:Shared}{a:Addr}{vs:List Value}{n:Nat}{P:PySem.Fin->Shared->Prop}{κ:SortKind}{Ok:Keyed->Prop}{rk:Keyed->Int}
  (e:s.heap.get? a=some (seqObj "list" vs.toArray n)) (h2:2<=vs.length) (big:vs.length<=sizeLine)
  (hk:∀ Q:SortKind->Shared->Prop,Q κ { s with heap:=c9 s.heap a vs }->wpAny (model prog w) A (keyKind' vs.toArray) Q E { s with heap:=c9 s.heap a vs })
  (c:c6 prog w A E { s with heap:=c9 s.heap a vs } κ Ok rk) (o:∀ v ∈ vs,Ok (v,v))
  (q:∀ out:List Value,out.Perm vs->out.Pairwise (fun u v=>rk (u,u)<=rk (v,v))->P (.done (.ret .none)) { s with heap:=sortedHeap s.heap a vs out.toArray }):wpAny (model prog w) A (Builtin.«list.sort» ⟨[.ref a],[]⟩) P E s:=by
 have la:=aS4 e
 have cc : ¬ vs.toArray.size < 2:=by simpa using h2
 obtain ⟨k,ek⟩:∃ k,(s.heap.update a (Obj.mapSeq fun _=>#[])).get? a=some (seqObj "list" #[] k):=⟨_,get?_update_seq e fun _=>#[]⟩
 have there:(c9 s.heap a vs).get? a=some (seqObj "list" #[] k):=aQ9 _ (aQ9 _ ek)
 rw [list_sort_plain]
 apply aQ7
 apply listItems_at e rfl
 apply aQ7
 refine listUpdate_at e rfl ?_ (by simpa using big) (aZ6 _)
 apply aQ7
 apply seqEpoch_at ek rfl
 apply aQ7
 refine wpAny_newTuple ?_ big
 apply aQ7
 refine wpAny_newList ?_ (aZ6 _)
 apply aZ1
 simp only [cc,aY3]
 apply aQ7
 refine hk _ ?_
 have zl:(vs.toArray.zip vs.toArray).toList=vs.zip vs:=by simp
 apply aQ7
 refine aZ8 (av5 (a0:=vs.toArray.zip vs.toArray) (Q:=fun _ st'=>(arrOf st').Perm (vs.toArray.zip vs.toArray)/\failedOf st'=none/\Up rk (arrOf st') 0 (vs.toArray.zip vs.toArray).size) c (fun x hx=>?_) ⟨Array.Perm.refl _,rfl,rfl,rfl⟩ (by simp; omega) fun st' a1 a2 a3=>⟨a1,a2,a3⟩) ?_ fun _ _ z=>z
 ·have hx':x ∈ vs.zip vs:=by rw [<- zl]; exact Array.mem_toList_iff.mpr hx
  obtain ⟨y1,y2⟩:=mem_zip_self hx'
  have:=o x.1 y2
  have ex:x=(x.1,x.1):=be6 rfl y1.symm
  rw [ex]; exact this
 ·rintro ⟨⟨⟩,st'⟩ s' ⟨rfl,pm,ok,up⟩
  have lp:(arrOf st').toList.Perm (vs.zip vs):=by rw [<- zl]; exact Array.perm_iff_toList_perm.mp pm
  have out:(arrOf st').map (·.2)=((arrOf st').toList.map (·.2)).toArray:=by apply Array.toList_inj.mp; rw [Array.toList_map]
  have op:((arrOf st').toList.map (·.2)).Perm vs:=by
   have:=lp.map (·.2)
   rw [oT] at this; exact this
  have sz:(arrOf st').size=vs.length:=by rw [pm.size_eq]; simp
  dsimp only
  apply aQ7
  apply seqEpoch_at there rfl
  apply aQ7
  refine listUpdate_at there rfl ?_ (aZ6 _) (by rw [Array.size_map,sz]; exact Nat.le_succ_of_le big)
  rw [ok]
  simp only [bne_self_eq_false,aT6,aY3]
  refine aR3 ?_
  have hq:=q _ op ?_
  ·rw [<- out] at hq; exact hq
  ·rw [ba5,aV3]
   intro i j hi hj hij
   have hi':i < (arrOf st').size:=by simpa using hi
   have hj':j < (arrOf st').size:=by simpa using hj
   have h1:=up i j (aZ6 _) (bc6 hij) (by simp; omega)
   rw [bV hi',bV hj'] at h1
   have dg:∀ x ∈ (arrOf st').toList,(x.2,x.2)=x:=fun x hx=>be6 (mem_zip_self (lp.mem_iff.mp hx)).1.symm rfl
   rw [dg _ (aZ4 hi),dg _ (aZ4 hj)]
   simpa using h1
theorem F8 {prog:Program}{w:World}{A:Around}{E:Value->Shared->Prop}{s:Shared}{l:Addr}{vs:List Value}{Q:Value->Shared->Prop}{κ:SortKind}{Ok:Keyed->Prop}{rk:Keyed->Int}
  (hl:s.heap.IsList l vs.toArray) (h2:2<=vs.length) (big:vs.length<=sizeLine)
  (hk:∀ (A:Around) (E:Value->Shared->Prop) (Q:SortKind->Shared->Prop),Q κ { s with heap:=c9 (dF s.heap vs) (s.heap.objs.size+1) vs }->wpAny (model prog w) A (keyKind' vs.toArray) Q E { s with heap:=c9 (dF s.heap vs) (s.heap.objs.size+1) vs })
  (c:∀ (A:Around) (E:Value->Shared->Prop),c6 prog w A E { s with heap:=c9 (dF s.heap vs) (s.heap.objs.size+1) vs } κ Ok rk) (o:∀ v ∈ vs,Ok (v,v))
  (q:∀ out:List Value,out.Perm vs->out.Pairwise (fun u v=>rk (u,u)<=rk (v,v))->Q (.ref (s.heap.objs.size+1)) { s with heap:=sortedAll s.heap vs out.toArray }):wpAny (model prog w) A (call (.builtin "sorted") [.ref l]) Q E s:=by
 apply Calls.call_function_entry kind_sorted plain_sorted entry_sorted (args_sorted1 _)
 simp only [Builtin.«sorted»]
 apply aQ7 (m:=checkCount "sorted" 1 1 _)
 apply aR3
 apply aQ7
 refine collect_list hl ?_ big
 apply aQ7
 refine wpAny_newList ?_ big
 have one:((s.heap.push (seqObj "list" #[] 0)).update s.heap.objs.size (Obj.mapSeq (· ++ vs.toArray))).objs.size=s.heap.objs.size+1:=(Heap.size_update _ _ _).trans (size_push' _ _)
 have at1:(dF s.heap vs).get? (s.heap.objs.size+1)=some (seqObj "list" vs.toArray 0):=one ▸ aS5 _ rfl
 change wpAny _ _ _ _ _ { s with heap:=dF s.heap vs }
 rw [one]
 apply aQ7
 apply aZ1
 refine aW9 slot_list_sort ⟨_,at1,rfl⟩ entry_list_sort ?_ (args_list_sort _)
 exact F7 (s:={ s with heap:=dF s.heap vs }) at1 h2 big (hk _ _) (c _ _) o fun out a1 a2=>⟨_,rfl,aR3 ⟨_,rfl,q out a1 a2⟩⟩
def qJ (h:Heap) (B:Int) (x:Keyed):Int:=match x.1 with
 | .ref b=>match h.get? b with
  | some ob=>match ob.data with
   | .seq us _=>numOf (us.getD 0 .none) * B+numOf (us.getD 1 .none)
   | _=>0
  | none=>0
 | _=>0
structure j6 (h:Heap) (M:Int) (v:Value) (p q:Int):Prop where
 at_:∃ b ob us n,v = .ref b/\h.get? b=some ob/\ob.cls = .type "tuple"/\ob.data = .seq (List.toArray us) n/\IntsAre us [p,q]
 lo : -M<=q
 hi:q<=M
theorem j6.rk {h:Heap}{M B:Int}{x:Keyed}{p q:Int} (z:j6 h M x.1 p q):qJ h B x=p * B+q:=by
 obtain ⟨b,ob,us,n,e1,e2,_,e4,e5⟩:=z.at_
 cases e5 with
 | cons _ t e6=>cases e6 with
  | cons _ u e7=>cases e7; unfold qJ; rw [e1]; dsimp only; rw [e2]; dsimp only; rw [e4]; rfl
theorem F9 {p q p' q' M:Int} (h1 : -M<=q) (h2:q<=M) (h3 : -M<=q') (h4:q'<=M):HT.aI [p,q] [p',q']=decide (p * (2 * M+1)+q < p' * (2 * M+1)+q'):=by
 rw [HT.gB]
 have mm:∀ {a b:Int},a < b->a * (2 * M+1)+(2 * M+1)<=b * (2 * M+1):=fun {a b} z=>by
  have:=Int.mul_le_mul_of_nonneg_right (show a+1<=b by omega) (show 0<=2 * M+1 by omega)
  rw [Int.add_mul,Int.one_mul] at this
  exact this
 by_cases e:p=p'
 ·subst e
  rw [if_pos rfl,HT.gB]
  by_cases e2:q=q'
  ·subst e2
   rw [if_pos rfl,HT.oK,aR2 (by omega)]
  ·rw [if_neg e2]
   by_cases l:q < q'
   ·rw [aR6 l,aR6 (by omega)]
   ·rw [aR2 l,aR2 (by omega)]
 ·rw [if_neg e]
  by_cases l:p < p'
  ·have:=mm l
   rw [aR6 l,aR6 (by omega)]
  ·have:=mm (show p' < p by omega)
   rw [aR2 l,aR2 (by omega)]
theorem av6 {prog:Program}{w:World}{A:Around}{E:Value->Shared->Prop}{s:Shared}{M:Int}:c6 prog w A E s (tuples' true) (fun x=>∃ p q,j6 s.heap M x.1 p q) (qJ s.heap (2 * M+1)):=by
 rintro x y ⟨p,q,z⟩ ⟨p',q',z'⟩ st Q hk hq
 rw [z.rk,z'.rk] at hq
 rw [<- F9 z.lo z.hi z'.lo z'.hi] at hq
 obtain ⟨b,ob,us,n,e1,e2,e3,e4,e5⟩:=z.at_
 obtain ⟨b',ob',us',n',e1',e2',e3',e4',e5'⟩:=z'.at_
 rw [lt'_eq]
 refine aR9 (wpS_get ?_)
 rw [hk,e1,e1']
 refine aR9 (wpS_lift (wpAny_attempt (PySem.W.kat_lt e2 e4 e2' e4' ?_)))
 have:=t9 (prog:=prog) (w:=w) (A:=A) (s:=s) (Q:=fun a s'=>s'=s/\wpS (model prog w) A E s (pure (some a)) Q st) 0 e5 e5' ⟨rfl,aS7 hq⟩
 simpa using this
theorem G0 {vs vs':List Value} (h:vs.Perm vs'):∀ {xs:List V},aJ xs vs->∃ xs',xs'.Perm xs/\aJ xs' vs':=by
 induction h with
 | nil=>intro xs r; exact⟨xs,bb9 _,r⟩
 | cons v _ ih=>
  intro xs r
  cases r with
  | cons r t=>
   obtain ⟨xs',p,r'⟩:=ih t
   exact⟨_ :: xs',p.cons _,.cons r r'⟩
 | swap u v l=>
  intro xs r
  cases r with
  | cons r t=>cases t with
   | cons r2 t2=>exact⟨_,bg4 _ _ _,.cons r2 (.cons r t2)⟩
 | trans _ _ ih1 ih2=>
  intro xs r
  obtain ⟨x1,p1,r1⟩:=ih1 r
  obtain ⟨x2,p2,r2⟩:=ih2 r1
  exact⟨x2,p2.trans p1,r2⟩
theorem G1 {α:Type} (f:α->Int):∀ l:List α,∃ M:Int,∀ y ∈ l,-M<=f y/\f y<=M
 | []=>⟨0,fun _ h=>nomatch h⟩
 | x :: l=>by
  obtain ⟨M,h⟩:=G1 f l
  refine⟨max M (max (f x) (- f x)),fun y hy=>?_⟩
  rcases aR5.mp hy with e | e
  ·subst e; omega
  ·have:=h y e; omega
def G2 (K:PySem.W.Frag):List V->Hp->VK->Prop:=fun xs H Q=>∃ (a:Addr) (ys:List V) (key:V->List Int),xs = [.ref a]/\aP K H a ys/\ys.length<=4096/\(∀ y ∈ ys,∃ b,y = .ref b/\aN K H b ((key y).map V.int)/\(key y).length=2)/\
 ∀ l (zs:List V),H l=none->zs.Perm ys->zs.Pairwise (fun u v=>HT.aI (key v) (key u)=false)->Q (.ref l) (upd H l (.lst zs))
theorem av7 {X:Cx}:cN X (.builtin "sorted") (G2 X.K):=by
 intro pins s σ H xs us Q I r h
 obtain ⟨a,ys,key,rfl,hs,hz4,hk,q⟩:=h
 obtain ⟨u,rfl,ru⟩:=iM r
 cases ru
 obtain ⟨its,rv,p,hz⟩:=I.list hs
 have hl:=rv.length
 have hn:s.heap.objs.size<=s.heap.objs.size+1:=Nat.le_succ _
 by_cases h2:its.length < 2
 ·refine z9 p.isList h2 ?_
  obtain ⟨e,he⟩:=sortedAll_at s.heap its its.toArray
  refine⟨.ref (s.heap.objs.size+1),upd H (s.heap.objs.size+1) (.lst ys),I.laid (t':=s.toks) (fun _ _=>sortedAll_old) hn ⟨hz,its,e,rv,he⟩,rfl,q _ ys (I.hok.fresh hn) (bb9 _) ?_⟩
  match ys,hl with
  | [],_=>exact ba4
  | [_],_=>exact aV2 _ _
  | _ :: _ :: _,hl=>simp at hl; omega
 ·obtain ⟨M,hM⟩:=G1 (fun y=>(key y).getD 1 0) ys
  have pv:∀ {y:V}{v:Value},aQ y v->y ∈ ys->∃ pp qq,key y = [pp,qq]/\j6 (c9 (dF s.heap its) (s.heap.objs.size+1) its) M v pp qq:=fun {y v} ry hy=>by
   obtain ⟨b,rfl,sq,l2⟩:=hk y hy
   cases ry
   obtain ⟨us,ru,⟨ob,e1,c1,n1,d1⟩,_⟩:=I.tuple sq
   have ia:=iN ru
   have mm:=hM _ hy
   match hkk:key (V.ref b),l2 with
   | [pp,qq],_=>
    rw [hkk] at ia mm
    exact⟨pp,qq,rfl,⟨b,ob,us,n1,rfl,uV (aU5 (Nat.lt_succ_of_lt (aS4 e1))) (F6 e1),c1,d1,ia⟩,mm.1,mm.2⟩
  have pvs:∀ {xs:List V}{vs:List Value},aJ xs vs->(∀ y ∈ xs,y ∈ ys)->∀ v ∈ vs,∃ pp qq,j6 (c9 (dF s.heap its) (s.heap.objs.size+1) its) M v pp qq:=by
   intro xs vs r
   induction r with
   | nil=>intro _ v hv; cases hv
   | cons rx rt ih=>
    intro hh v hv
    rcases aR5.mp hv with z | z
    ·subst z
     obtain ⟨pp,qq,_,z⟩:=pv rx (hh _ aS3)
     exact⟨pp,qq,z⟩
    ·exact ih (fun y hy=>hh y (aR7 _ hy)) v z
  have firsts:∀ {vs:List Value},(∀ v ∈ vs,∃ pp qq,j6 (c9 (dF s.heap its) (s.heap.objs.size+1) its) M v pp qq)->∃ fs:List Value,PySem.W.KatTups (c9 (dF s.heap its) (s.heap.objs.size+1) its) vs fs/\fs.length=vs.length/\∀ v ∈ fs,∃ i t,v=Value.int i t:=by
   intro vs
   induction vs with
   | nil=>intro _; exact⟨[],PySem.W.KatTups.nil,rfl,fun _ z=>nomatch z⟩
   | cons v vs ih=>
    intro hh
    obtain ⟨fs,t1,t2,t3⟩:=ih fun y hy=>hh y (aR7 _ hy)
    obtain ⟨pp,qq,z⟩:=hh v aS3
    obtain ⟨b,ob,us,n,rfl,e2,e3,e4,e5⟩:=z.at_
    cases e5 with
    | cons _ t e6=>exact⟨Value.int pp t :: fs,PySem.W.KatTups.cons e2 e3 e4 (by simp) t1,by simp [t2],fun v hv=>(aR5.mp hv).elim (fun z=>⟨pp,t,z⟩) (t3 v)⟩
  have allp:=pvs rv fun _ h=>h
  obtain ⟨fs,t1,t2,t3⟩:=firsts allp
  refine F8 (κ:=tuples' true) (Ok:=fun x=>∃ pp qq,j6 (c9 (dF s.heap its) (s.heap.objs.size+1) its) M x.1 pp qq) (rk:=qJ (c9 (dF s.heap its) (s.heap.objs.size+1) its) (2 * M+1)) p.isList (by omega) (by rw [<- hl]; exact hz)
   (fun A E Q hQ=>?_) (fun A E=>av6 (s:={ s with heap:=c9 (dF s.heap its) (s.heap.objs.size+1) its })) (fun v hv=>allp v hv) fun out pm so=>?_
  ·refine PySem.W.kat_kind (T:=.type "int") t1 (by omega) (fun v hv=>?_) (by decide) ?_
   ·obtain ⟨i,t,rfl⟩:=t3 v hv
    exact PySem.W.Looks.now
   ·have eT:(Value.type "int" != Value.type "tuple")=true:=by decide
    rw [eT]; exact hQ
  ·obtain ⟨zs,pz,rz⟩:=G0 pm.symm rv
   obtain ⟨e,he⟩:=sortedAll_at s.heap its out.toArray
   refine⟨.ref (s.heap.objs.size+1),upd H (s.heap.objs.size+1) (.lst zs),I.laid (t':=s.toks) (fun _ _=>sortedAll_old) hn ⟨by rw [pz.length_eq]; exact hz,out,e,rz,he⟩,rfl,q _ zs (I.hok.fresh hn) pz ?_⟩
   have lz:=rz.length
   rw [aV3]
   intro i j hi hj hij
   have s1:=aV3.mp so i j (by omega) (by omega) hij
   have gi:=mR i hi rz
   have gj:=mR j hj rz
   simp only [aT1,aR0 hi,aR0 hj,aR0 (show i < out.length by omega),aR0 (show j < out.length by omega),Option.getD_some] at gi gj
   obtain ⟨pi,qi,ki,vi⟩:=pv gi (pz.mem_iff.mp (aZ4 hi))
   obtain ⟨pj,qj,kj,vj⟩:=pv gj (pz.mem_iff.mp (aZ4 hj))
   rw [j6.rk (x:=(out[i],out[i])) vi,j6.rk (x:=(out[j],out[j])) vj] at s1
   rw [ki,kj,F9 vj.lo vj.hi vi.lo vi.hi]
   exact aR2 (by omega)
end L2
namespace L2
open PySem PySem.Spec PyProof.Rows
theorem bT.at {P:Program}{w:World}{H:Hp}{h:Heap}{a:Addr}{o:HO} (x:bT P w H h a o):∃ ob,h.get? a=some ob:=by
 cases o with
 | lst xs=>obtain ⟨_,_,_,_,e⟩:=x; exact⟨_,e⟩
 | tup xs=>obtain ⟨_,_,_,⟨_,e,_⟩,_⟩:=x; exact⟨_,e⟩
 | dK kvs=>obtain ⟨_,_,_,_,_,_,_,e,_⟩:=x; exact⟨_,e⟩
 | dT kvs=>obtain ⟨_,_,_,_,_,_,_,e,_⟩:=x; exact⟨_,e⟩
 | set S n=>obtain ⟨_,_,_,_,e,_⟩:=x; exact⟨_,e⟩
 | ins C dx fs=>obtain ⟨_,_,_,e,_⟩:=x; exact⟨_,e⟩
 | own y=>exact x
 | xd fs=>obtain ⟨_,⟨_,_,_,e,_⟩,_⟩:=x; exact⟨_,e⟩
 | rng lo hi=>obtain ⟨_,_,_,e⟩:=x; exact⟨_,e⟩
 | frz ob u=>obtain ⟨e,_⟩:=x; exact⟨_,e⟩
 | tbl ps=>exact⟨_,x⟩
 | met f y=>exact⟨_,x⟩
 | ext φ=>exact x.2.1
structure uW (P:Program) (w:World) (outer:List Env) (H:Hp) (s:Shared) (H':Hp) (B:Heap) (a C:Addr) (s':Shared):Prop where
 os:s'.os=s.os
 bare:AllBare s'.gens
 un:Un (bU outer) [] H H' s.heap s'.heap
 hok:bK P w H' s'.heap
 fly:∃ a0,Heap.FlyingW B outer a (.ref C) a0 s'.heap
 b0:∀ b o,s.heap.get? b=some o->b ∉ bU outer->∃ o',B.get? b=some o'
 b1:∀ b o,s.heap.get? b=some o->H b=none->b ∉ bU outer->B.get? b=some o
 b2:∀ b u o,H' b=some u->s'.heap.get? b=some o->B.get? b=some o
def eD (P:Program) (w:World):g9:=fun outer H s E e s'=>∃ (H':Hp) (B:Heap) (a C:Addr),e = .ref a/\uW P w outer H s H' B a C s'/\E (.ref C) none H'
section
variable {P : Program} {w : World} {outer : List Env} {H H' : Hp} {s s' : Shared} {B h2 : Heap} {a C : Addr}
theorem uW.hok2 (f:uW P w outer H s H' B a C s') (k:B.StaysIn h2):bK P w H' h2:=fun b u e=>
 (f.hok b u e).stay (fun c v hc q=>by
  rcases hc with z | z
  ·subst z; exact k _ _ (f.b2 _ _ _ e q)
  ·exact k _ _ (f.b2 _ _ _ z q)) (fun _ q=>q) fun _ _ q=>q
end
section
variable {P : Program} {w : World} {K : PySem.W.Frag} {mg : Str → Option Value} {base : Heap} {N : List Str} {qual : Str} {scope : Scope} {f : Addr} {cd : Value} {A : Around} {outer : List Env} {s₀ : Shared} {H₀ : Hp} {E₀ E₁ : XK}
theorem qL {pins:List (Addr × Obj)}{σ:St}{H:Hp}{s:Shared} (I:a6 (cV (eD P w) P w K mg base N qual scope f cd A outer s₀ H₀ E₀) pins σ H s) {b:Addr}{o:Obj} (e:s₀.heap.get? b=some o) (n:b ∉ bU outer) :
  b ∉ bU (envOfC qual scope s₀.heap.objs.size f cd :: outer):=fun z=>by
 rcases aR5.mp (I.stkSub b z) with y | y
 ·have l:=aS4 e
  have y:b=s₀.heap.objs.size:=y
  exact absurd l (by rw [y]; exact aZ0 _)
 ·exact n y
theorem av8 (hE:∀ c d H',E₁ c d H'->E₀ c d H'):mK (eD P w) (cV (eD P w) P w K mg base N qual scope f cd A outer s₀ H₀ E₀) E₁:=by
 intro pins σ H s e s' I hx
 obtain ⟨H',B,a,C,e1,fl,q⟩:=hx
 subst e1
 have I':=I.call' fl.os fl.un fl.hok fl.bare (ch:=[]) (fun b z=>absurd z (by simp))
 obtain ⟨a0,fly⟩:=fl.fly
 refine wpAny_leaves_onW I.ok.frames rfl fly fun h' fly' up=>?_
 have slot:∀ b o,s₀.heap.get? b=some o->b ∈ bU outer->∃ sl,h'.get? b=some { o with slots:=sl }:=fun b o e hb=>by
  obtain ⟨sl,e1⟩:=I'.base.slot b o e (I.ok.frf b hb) hb (fun z=>nomatch z)
  obtain ⟨_,o2,e2,nf⟩:=I.ok.funs.mem hb
  rw [show (cV (eD P w) P w K mg base N qual scope f cd A outer s₀ H₀ E₀).s₀=s₀ from rfl,e] at e2
  cases e2
  obtain ⟨sl',e3⟩:=up b _ e1 nf
  exact⟨sl',e3⟩
 have old:∀ b o,s₀.heap.get? b=some o->H₀ b=none->b ∉ bU outer->B.get? b=some o:=fun b o e n hb=>
  fl.b1 b o (I.base.keep b o e n hb (fun z=>nomatch z)) (I.base.free b o e n (fun z=>nomatch z)) (qL I e hb)
 have old0:∀ b o,s₀.heap.get? b=some o->b ∉ bU outer->∃ o',B.get? b=some o':=fun b o e hb=>by
  obtain ⟨o1,e1⟩:=I.base.there b o e (fun z=>nomatch z)
  exact fl.b0 b o1 e1 (qL I e hb)
 refine⟨H',B,a,C,rfl,⟨I'.os,I'.bare,⟨fun b o e n hb _=>fly'.1 _ _ (old b o e n hb),fun b o e n hb _=>slot b o e hb,fun b o e n hx=>I'.base.free b o e n hx,fun b o e _=>?_,I'.base.tups,I'.base.frzs,I'.base.tbls⟩,fl.hok2 fly'.1,⟨a0,fly'⟩,old0,old,fun b u o e h=>?_⟩,hE _ _ _ q⟩
 ·by_cases hb:b ∈ bU outer
  ·obtain ⟨sl,e1⟩:=slot b o e hb
   exact⟨_,e1⟩
  ·obtain ⟨o',e1⟩:=old0 b o e hb
   exact⟨o',fly'.1 _ _ e1⟩
 ·obtain ⟨ob,e1⟩:=(fl.hok b u e).at
  have e2:=fl.b2 b u ob e e1
  have e3:=fly'.1 _ _ e2
  have h:h'.get? b=some o:=h
  rw [h] at e3; cases e3; exact e2
theorem av9 {pins:List (Addr × Obj)}{σ:St}{H:Hp}{s:Shared}{h':Heap}{e C:Addr}{args:List Value} (I:a6 (cV (eD P w) P w K mg base N qual scope f cd A outer s₀ H₀ E₀) pins σ H s) (mx:Heap.MadeExcOf s.heap h' e (.ref C) args) (q:E₀ (.ref C) none H) :
  (cV (eD P w) P w K mg base N qual scope f cd A outer s₀ H₀ E₀).xe (.ref e) { s with heap:=h' }:=by
 have tr:∀ b u,H b=some u->b ∉ bU (envOfC qual scope s₀.heap.objs.size f cd :: outer):=fun b u z n=>by
  rw [I.stkFree b n] at z; cases z
 have inB:∀ b o,s.heap.get? b=some o->b ∉ bU (envOfC qual scope s₀.heap.objs.size f cd :: outer)->(PySem.W.hideAll s.heap (bU (envOfC qual scope s₀.heap.objs.size f cd :: outer))).get? b=some o:=fun b o z n=>PySem.W.hideAll_get _ z n
 refine wpAny_leaves_madeW (base:=PySem.W.hideAll s.heap (bU (envOfC qual scope s₀.heap.objs.size f cd :: outer))) I.ok.frames rfl (fun b o z=>PySem.W.of_hideAll _ z) (PySem.W.funFrames_hide I.stack fun env he b hb=>List.mem_filterMap.mpr ⟨env,he,hb⟩) mx fun h'' t fly _ _ up=>?_
 have slot:∀ b o,s₀.heap.get? b=some o->b ∈ bU outer->∃ sl,h''.get? b=some { o with slots:=sl }:=fun b o e hb=>by
  obtain ⟨sl,e1⟩:=I.base.slot b o e (I.ok.frf b hb) hb (fun z=>nomatch z)
  obtain ⟨_,o2,e2,nf⟩:=I.ok.funs.mem hb
  rw [show (cV (eD P w) P w K mg base N qual scope f cd A outer s₀ H₀ E₀).s₀=s₀ from rfl,e] at e2
  cases e2
  obtain ⟨sl',e3⟩:=up b _ (mx.keeps _ _ e1) nf
  exact⟨sl',e3⟩
 have old:∀ b o,s₀.heap.get? b=some o->H₀ b=none->b ∉ bU outer->(PySem.W.hideAll s.heap (bU (envOfC qual scope s₀.heap.objs.size f cd :: outer))).get? b=some o:=fun b o e n hb=>
  inB b o (I.base.keep b o e n hb (fun z=>nomatch z)) (qL I e hb)
 have old0:∀ b o,s₀.heap.get? b=some o->b ∉ bU outer->∃ o',(PySem.W.hideAll s.heap (bU (envOfC qual scope s₀.heap.objs.size f cd :: outer))).get? b=some o':=fun b o e hb=>by
  obtain ⟨o1,e1⟩:=I.base.there b o e (fun z=>nomatch z)
  exact⟨o1,inB b o1 e1 (qL I e hb)⟩
 refine⟨H,_,e,C,rfl,⟨I.os,I.bare,⟨fun b o e n hb _=>fly.1 _ _ (old b o e n hb),fun b o e n hb _=>slot b o e hb,fun b o e n hx=>I.base.free b o e n hx,fun b o e _=>?_,I.base.tups,I.base.frzs,I.base.tbls⟩,fun b u z=>?_,⟨_,fly⟩,old0,old,fun b u o z h=>?_⟩,q⟩
 ·by_cases hb:b ∈ bU outer
  ·obtain ⟨sl,e1⟩:=slot b o e hb
   exact⟨_,e1⟩
  ·obtain ⟨o',e1⟩:=old0 b o e hb
   exact⟨o',fly.1 _ _ e1⟩
 ·refine (I.hok b u z).stay (fun c v hc y=>?_) (fun _ y=>y) fun _ _ y=>y
  rcases hc with z' | z'
  ·subst z'; exact fly.1 _ _ (inB _ _ y (tr _ _ z))
  ·exact fly.1 _ _ (inB _ _ y (tr _ _ z'))
 ·obtain ⟨ob,e1⟩:=(I.hok b u z).at
  have e2:=inB b ob e1 (tr b u z)
  have e3:=fly.1 _ _ e2
  have h:h''.get? b=some o:=h
  rw [h] at e3; cases e3; exact e2
end
structure lU (X:Cx) (E:XK):Prop where
 pass:mK (eD X.prog X.w) X E
 made:∀ (pins:List (Addr × Obj)) (σ:St) (H:Hp) (s:Shared) (h':Heap) (e C:Addr) (args:List Value),a6 X pins σ H s->Heap.MadeExcOf s.heap h' e (.ref C) args->E (.ref C) none H->X.xe (.ref e) { s with heap:=h' }
 own:PassesOwn (model X.prog X.w) X.A X.env X.xe
theorem aw0 {P:Program}{w:World}{K:PySem.W.Frag}{mg:Str->Option Value}{base:Heap}{N:List Str}{qual:Str}{scope:Scope}{f:Addr}{cd:Value}{A:Around}{outer:List Env}{s₀:Shared}{H₀:Hp}{E₀ E₁:XK} (hE:∀ c d H',E₁ c d H'->E₀ c d H') :
  lU (cV (eD P w) P w K mg base N qual scope f cd A outer s₀ H₀ E₀) E₁:=
 ⟨av8 hE,fun _ _ _ _ _ _ _ _ I mx q=>av9 I mx (hE _ _ _ q),PassesOwn.leaving⟩
def G3 (E:XK) (C:Addr) (t:TA):TS:=fun _ σ H=>t σ H fun vs H1=>vs.length<=sizeLine/\E (.ref C) none H1
theorem aw1 {X:Cx}{E:XK}{x:Str}{C:Addr}{bm:List Value}{B newId initId:String}{np cpos pos:Pos}{e:Expr}{es:List Expr}{t:TA} (hX:lU X E) (hc:X.calm=true) (O:OwnCls x C bm newId X.mg X.base) (FB:ExcBaseFacts B newId initId bm) (ha:PA X (e :: es) t) (hg:Gl X x)
  (hd:(x == ("__debug__" : Str))=false:=by decide) (he:starEach (e :: es) X.env=(false,eval e X.env) :: starEach es X.env:=by rfl) (hpl:(backTo cpos (starEach es X.env)).any (·.1)=false:=by rfl) :
  PS X (.Raise (some (.Call (.Name x np) (e :: es) [] cpos)) none pos) (G3 E C t):=by
 intro pins s σ H D I h
 obtain ⟨tl,Na,nm,qn,bs,hx,sn,sub,ab,col,dd,k0,k1,k2,k3,k5,mN,hC,hN,hni,T⟩:=O.obj
 refine wpAny_Raise_call_subT (nm:=nm) (q:=qn) (N:=Na) (bs:=bs) (bm:=tl) (hdct:=hx) (sn:=sn) (sub:=sub) (ab:=ab) (col:=col) (dd:=dd) (k0:=k0) (k1:=k1) (k2:=k2) (k3:=k3) (k5:=k5) FB (C:=C) (mN:=mN) (T.hasType FB.hasBase) (I.ok.hd hc) (by rw [he]; show (false || (backTo cpos (starEach es X.env)).any (·.1))=false; rw [hpl]; rfl) hni (rZ I hg O.bound ⟨rfl,?_⟩ hd)
 have h1:=ha cpos pins s σ H _ I h
 rw [he] at h1 ⊢
 refine Calls.evalArgs_plain (aZ8 h1 (fun us s2 h2=>?_) fun _ _ y=>y)
 obtain ⟨vs,H2,I2,r,hl,q⟩:=h2
 have r:aJ vs us:=r
 exact⟨rfl,by show us.length<=sizeLine; rw [<- r.length]; exact hl,I2.bk _ _ hC,hN.keeps I2.bk,T.keeps I2.bk,fun h' e' mx=>hX.made pins σ H2 s2 h' e' C _ I2 mx q⟩
theorem fF.okX {P:Program}{w:World}{K:PySem.W.Frag}{mg:Str->Option Value}{base:Heap}{x qual:Str}{st:Stmt}{f:Addr}{fd:FuncData}{N ps:List Str}{k:Nat}{sp:Sp} (F:fF K x qual st f fd) (S:FnScope N ps (aX st)) (len:∀ vs H Q E,sp vs H Q E->vs.length=ps.length)
  (hbody:∀ (cdv:Value) (A:Around) (outer:List Env) (s:Shared) (H:Hp) (vs:List V) (Q:VK) (E:XK),bY k (A.deeper (envOfC qual (aX st) s.heap.objs.size f cdv))->sp vs H Q E->
   ∃ t,dP (cV (eD P w) P w K mg base N qual (aX st) f cdv A outer s H E) (dX st) t/\t { nx:=fun _ H'=>Q .non H',rt:=Q } (gA N vs) H):dH P w K mg base (eD P w) (k+1) f fd ps sp:=by
 obtain ⟨oc,od,kV,doc,pm,an,cdv,ct,osl,rfl,lk,hcd⟩:=F.ex
 exact xL lk hcd S len fun A outer s H vs Q E hr hsp=>hbody cdv A outer s H vs Q E hr hsp
section
variable {X : Cx} {pins : List (Addr × Obj)} {σ : St} {H H1 H' : Hp} {s s1 s' : Shared} {B h2 : Heap} {a C : Addr}
abbrev Cx.suite (X:Cx) (a:Addr):Cx:={ X with A:=X.A.mark (some (.ref a)),calm:=false,xe:=fun _ _=>False }
end
abbrev TB:=dM->XK->St->Hp->Prop
end L2
namespace Raw
open PySem PySem.W PySem.Calls PyProof.Rows
theorem j7 {α β:Type} (f:α->β):∀ (j:Nat) (l:List α),(l.eraseIdx j).map f=(l.map f).eraseIdx j
 | _,[]=>rfl
 | 0,_ :: _=>rfl
 | j+1,x :: r=>by
  show f x :: (r.eraseIdx j).map f=f x :: (r.map f).eraseIdx j
  rw [j7 f j r]
section
variable {prog : Program} {w : World} {K : Type} [DecidableEq K] {knd : HeapKind prog w K} {A : Around} {E : Value → Shared → Prop} {s : Shared} {d a : Addr} {k : K} {xs : List (K × Addr × Value)}
def G4 (knd:HeapKind prog w K) (h:Heap) (d:Addr) (xs:List (K × Addr × Value)) (j:Nat):Prop:=∃ o es ep,h.get? d=some o/\o.ExactDict/\o.data = .dict es ep/\es.toList=(xs.eraseIdx j).map (entryOfKey knd)
theorem aw2 {Q:Option DictEntry->Shared->Prop} (hu:knd.room A) (hkey:knd.is s.heap k a) (hm:s.heap.DictOfH knd d xs) (hz:xs.length<=sizeLine) (is:∃ (j:Nat) (p:Addr × Value),xs[j]? = some (k,p))
  (q:∀ (j:Nat) (p:Addr × Value) h',xs[j]? = some (k,p)->G4 knd h' d xs j->Heap.SameBut d s.heap h'->Q (some (entryOfKey knd (k,p))) { s with heap:=h',toks:=s.toks+knd.draws k }):wpAny (model prog w) A (Builtin.Dict.takeOut d (.ref a)) Q E s:=by
 obtain ⟨o,es,ep,e1,e2,e3,e4,e5,e6⟩:=hm
 obtain ⟨j0,p0,h0⟩:=is
 unfold Builtin.Dict.takeOut
 try with_reducible refine aZ1 ?_
 apply aQ7
 apply knd.pyHash hu hkey
 apply aQ7
 refine wpAny_dictFind_heap (s:={ s with toks:=s.toks+knd.draws k }) hu hkey e1 e3 e4 e5 e6 (fun no=>absurd h0 (no j0 p0)) fun j p hj=>?_
 apply aQ7
 apply wpAny_dictEntries (s:={ s with toks:=s.toks+knd.draws k }) e1 e3
 rw [entry_at e4 j,hj]
 have sz:=size_of_entries e4
 apply aQ7
 refine wpAny_updateDictKeys (hz:=by omega) (s:={ s with toks:=s.toks+knd.draws k }) e1 e3 (aR3 (q j p _ hj ⟨_,_,ep+1,ba2 _ e1 (Obj.isFreed_of_dict (Obj.data_mapDictKeys e3 _)),e2.mapDictKeys _,Obj.data_mapDictKeys e3 _,?_⟩ (bc9 ..)))
 rw [j7,<- e4]
 obtain ⟨l⟩:=es
 simp
end
section
variable {prog : Program} {w : World} {K : Type} [DecidableEq K] (knd : HeapKind prog w K) (d a : Addr)
theorem aw3:MeetsIn prog w (Builtin.«dict.pop» ⟨[.ref d,.ref a],[]⟩) (fun A R s=>knd.room A.in1/\∃ k xs,knd.is s.heap k a/\s.heap.DictOfH knd d xs/\xs.length<=sizeLine/\(∃ (j:Nat) (p:Addr × Value),xs[j]? = some (k,p))/\
  ∀ (j:Nat) (p:Addr × Value) h',xs[j]? = some (k,p)->G4 knd h' d xs j->Heap.SameBut d s.heap h'->R (.ok (.ret p.2)) { s with heap:=h',toks:=s.toks+knd.draws k }):=
 .of_wp fun A R s h=>by
  obtain ⟨hu,k,xs,hk,hm,hz,is,q⟩:=h
  obtain ⟨o,es,ep,e1,e2,e3,e4,e5,e6⟩:=id hm
  have ne:es.isEmpty=false:=by
   obtain ⟨j,p,hj⟩:=is
   have sz:=size_of_entries e4
   have:=(aS2.mp hj).1
   rw [Array.isEmpty_eq_false_iff,ne_eq,<- Array.size_eq_zero_iff]
   omega
  unfold Builtin.«dict.pop»
  apply aQ7
  unfold Builtin.Dict.keyAndDefault
  apply aQ7
  apply wpAny_notOrdered_dict hm.typeIs
  change wpAny _ _ (pure (d,Value.ref a,none)) _ _ s
  apply aR3
  have kp:(keyPart (Value.ref a)).isSome=false:=rfl
  simp only [kp,aT6,aY3]
  refine aQ7 (wpAny_dictEntries e1 e3 (aQ7 (aR3 ?_)))
  simp only [ne,aT6,aY3]
  apply aQ7
  refine aw2 hu hk hm hz is fun j p h' hj c sb=>?_
  simp only [Option.isNone_some,aT6,aY3]
  exact aQ7 (bd0 (aR3 ⟨p.2,rfl,q j p h' hj c sb⟩))
end
end Raw
namespace L2
open PySem PySem.Spec PyProof.Rows
theorem Paired.erase {α β:Type}{F:α->β->Prop}:∀ (j:Nat) {l:List α}{m:List β},Paired F l m->Paired F (l.eraseIdx j) (m.eraseIdx j)
 | _,_,_,.nil=>.nil
 | 0,_,_,.cons _ t=>t
 | j+1,_,_,.cons r t=>.cons r (Paired.erase j t)
theorem G5 {α β:Type}{F:α->β->Prop}:∀ {l:List α}{m:List β}{i:Nat}{y:β},Paired F l m->m[i]? = some y->∃ x,l[i]? = some x/\F x y
 | _,_,_,_,.nil,e=>by simp at e
 | _,_,0,_,.cons r _,e=>by simp at e; subst e; exact⟨_,rfl,r⟩
 | _,_,i+1,y,.cons _ t,e=>by
  rw [aV7] at e
  obtain ⟨x,h1,h2⟩:=G5 t e
  exact⟨x,by rw [aV7]; exact h1,h2⟩
theorem G6 {α β:Type}{F:α->β->Prop}:∀ {l:List α}{m:List β}{i:Nat}{x:α},Paired F l m->l[i]? = some x->∃ y,m[i]? = some y/\F x y
 | _,_,_,_,.nil,e=>by simp at e
 | _,_,0,_,.cons r _,e=>by simp at e; subst e; exact⟨_,rfl,r⟩
 | _,_,i+1,x,.cons _ t,e=>by
  rw [aV7] at e
  obtain ⟨y,h1,h2⟩:=G6 t e
  exact⟨y,by rw [aV7]; exact h1,h2⟩
section
variable {X : Cx} {pins : List (Addr × Obj)} {σ : St} {H : Hp} {s : Shared} {a b : Addr} {kvs : List (List aH × V)} {k : List aH} {A : Around} {E : Value → Shared → Prop}
theorem aw4 {Q:Value->Shared->Prop} (hu:A.units+1 < cLine) (I:a6 X pins σ H s) (e:H a=some (.dT kvs)) (eb:H b=some (.tup (k.map kV))) (is:∃ j:Nat,(kvs.map (·.1))[j]? = some k)
  (h:∀ (j:Nat) v w' s',(kvs.map (·.1))[j]? = some k->a6 X pins σ (upd H a (.dT (kvs.eraseIdx j))) s'->aQ v w'->Q w' s'):wpAny (model X.prog X.w) A (call (.builtin "dict.pop") [.ref a,.ref b]) Q E s:=by
 obtain ⟨z,hd,xs,rel,dd⟩:=yL I.hok e
 have hz:xs.length<=sizeLine:=by rw [<- Paired.length rel]; exact z
 refine call_meetsIn PySem.F.slot_dict_pop dd.typeIs PySem.F.entry_dict_pop (PySem.F.args_dict_pop_2 _ _) (Raw.aw3 (tupleKind (dW X.prog X.w)) a b) ⟨tupleKind_room_in1 hu,k,xs,l6 I.hok eb,dd,hz,?_,fun j p h' hj c sb=>?_⟩
 ·obtain ⟨j,hj⟩:=is
  rw [aS8] at hj
  cases ej:kvs[j]? with
  | none=>rw [ej] at hj; cases hj
  | some kv=>
   rw [ej] at hj
   cases hj
   obtain ⟨y,hy,r⟩:=G6 rel ej
   exact⟨j,y.2,by rw [hy]; exact congrArg some (be6 r.1.symm rfl)⟩
 ·obtain ⟨kv,hkv,r⟩:=G5 rel hj
  obtain ⟨o,es,ep,h1,h2,h3,h4⟩:=c
  have nd:((xs.eraseIdx j).map (·.1)).Nodup:=by
   obtain ⟨_,_,_,_,_,_,_,_,nd⟩:=dd
   exact nd.sublist ((List.eraseIdx_sublist xs j).map _)
  refine h j kv.2 p.2 _ (by rw [aS8,hkv]; exact congrArg some r.1) ?_ r.2.2
  refine sV I (by rw [e]; exact bg8) sb ⟨o,h1⟩ ⟨aU8 (List.length_eraseIdx_le kvs j) z,hd,_,KT.keeps (Paired.erase j rel) fun c ys ec=>?_,o,es,ep,h1,h2,h3,h4,nd⟩
  rw [aZ (wF ec e (fun z=>nomatch z))]
  exact ec
end
section
variable {X : Cx} {o e : Expr} {apos cpos : Pos} {td ty : TE}
def G7 (td ty:TE):TE:=fun σ H Q=>td σ H fun x H1=>∃ a,x = .ref a/\sX H1 a/\ty σ H1 fun y H2=>∃ kvs k b,H2 a=some (.dT kvs)/\y = .ref b/\H2 b=some (.tup (k.map kV))/\(∃ j:Nat,(kvs.map (·.1))[j]? = some k)/\∀ (j:Nat) v,(kvs.map (·.1))[j]? = some k->Q v (upd H2 a (.dT (kvs.eraseIdx j)))
theorem aw5 (hu:X.A.units+1 < cLine) (ho:PE X o td) (he:PE X e ty) (m:M1 X o "pop" apos e cpos):PE X (.Call (.Attribute o "pop" apos) [e] [] cpos) (G7 td ty):=by
 intro pins s σ H Q I h
 refine wpAny_Call_method m.base m.few m.line PySem.F.plainAttrs_dict PySem.F.slot_dict_pop PySem.F.type_dict_pop (aM (ho pins s σ H _ I h) fun u s1 h1=>?_)
 obtain ⟨x,H1,I1,rx,a,ex,d,q1⟩:=h1
 subst ex
 obtain rfl:u=Value.ref a:=rx
 obtain ⟨t1,t2,_⟩:=yQ I1 d
 refine⟨t1,t2,?_⟩
 rw [m.trees]
 refine Calls.callWith_builtin rfl (Calls.evalArgs_plain (Calls.spliced_cons (aM (he pins s1 σ H1 _ I1 q1) fun iv s2 h2=>Calls.spliced_nil ?_)))
 obtain ⟨y,H2,I2,ry,kvs,k,b,ea,ey,eb,is,q2⟩:=h2
 subst ey
 obtain rfl:iv=Value.ref b:=ry
 exact aw4 hu I2 ea eb is fun j v w' s3 hj I3 rw'=>⟨v,_,I3,rw',q2 j v hj⟩
end
end L2
namespace Core
open PySem L2 PP
def uX (ns:List Int):Bool:=((ns.zip (ns.drop 1)).map fun p=>decide (p.1 < p.2)).all id
def kin (ws:List Int) (ls:List (Int × Int)) (S:List Int) (h:Int):Bool:=!decide (h ∈ S) && decide (ws.getD h.toNat 0<=(((tD ls h).filter fun x=>decide (x ∈ S)).length:Int))
def nextOf (ws:List Int) (ls:List (Int × Int)) (S:List Int):List Int:=((List.range ws.length).map fun (i:Nat)=>(i:Int)).filter (kin ws ls S)
def nQ (ws:List Int) (ls:List (Int × Int)) (S:List Int):Nat->List Int
 | 0=>S
 | k+1=>nQ ws ls S k ++ nextOf ws ls (nQ ws ls S k)
def after (ws:List Int) (ls:List (Int × Int)) (S:List Int) (m:Nat):List (List Int):=(List.range m).map fun k=>nextOf ws ls (nQ ws ls S k)
def dM (ws:List Int) (ls:List (Int × Int)) (ns:List Int) (m:Nat):Prop:=(∀ k < m,nextOf ws ls (nQ ws ls ns k) ≠ [])/\nextOf ws ls (nQ ws ls ns m) = []
theorem aw6 {ns:List Int}{i:Nat}{x:PV} (h:(intz ns)[i]? = some x):∃ n,x = .int n/\ns[i]? = some n:=by
 rw [aS8] at h
 cases e:ns[i]? with
 | none=>rw [e] at h; cases h
 | some n=>rw [e] at h; exact⟨n,(aT5 h).symm,rfl⟩
theorem lV {lo:Int}{n i:Nat}{x:PV} (h:(iU lo n)[i]? = some x):x = .int (lo+i)/\i < n:=by
 have hi:i < n:=by
  have:=(aS2.mp h).1
  rwa [iV] at this
 rw [zT hi] at h
 exact⟨(aT5 h).symm,hi⟩
def rng (n:Nat):List Int:=(List.range n).map fun (i:Nat)=>(i:Int)
theorem G8 {α:Type}{l:List α}{p:α->Bool}{i:Nat}{x:α} (h:l[i]? = some x):(l.take (i+1)).filter p=(l.take i).filter p ++ (if p x=true then [x] else []):=by
 rw [aW5,h,List.filter_append]
 congr 1
 cases e:p x <;> simp [e]
theorem aw7 (a:List Int):(intz a).length=a.length:=aS0 _
def G9 (x:PV) (ns:List Int):Prop:=x = .tup (intz ns) ∨ x = .lst (intz ns)
theorem gJ:∀ (ls:List (Int × Int)),flats (ls.map fun l=>PV.tup [.int l.1,.int l.2])=true
 | []=>rfl
 | l :: r=>by
  show (flat (.tup [.int l.1,.int l.2]) && flats (r.map fun l=>PV.tup [.int l.1,.int l.2]))=true
  rw [gJ r]; rfl
theorem nR (ns:List Int):flat (.tup (intz ns))=true:=tJ ns
abbrev dG (t:aS) (N:List Str) (p:bO):Prop:=∀ xs Q,p xs Q->t { nx:=fun _=>Q .non,rt:=Q } (eB N xs)
def aw8:bO:=fun xs Q=>∃ x ns,xs = [x]/\G9 x ns/\ns.length<=1000/\Q (.bl (uX ns))
def inB (n:Nat) (x:Int):Bool:=decide (0<=x) && decide (x < (n:Int))
structure DS (ps:List (aH × PV)) (S:List Int):Prop where
 has:∀ i:Int,(bP ps (Sum.inl i:aH)).isSome=decide (i ∈ S)
 len:ps.length<=S.length
 fl:flats (ps.map (·.2))=true
section
variable {κ : Type} [DecidableEq κ]
theorem j8 {p:κ × PV}{r:List (κ × PV)}{k:κ} (e:p.1=k):bP (p :: r) k=some p.2:=by simp [bP,bc0,e]
theorem j9 {p:κ × PV}{r:List (κ × PV)}{k:κ} (e : ¬ p.1=k):bP (p :: r) k=bP r k:=by simp [bP,bc0,e]
theorem lW (k:κ):∀ kvs:List (κ × PV),(kvs.any fun kv=>decide (kv.1=k))=(bP kvs k).isSome
 | []=>rfl
 | p :: r=>by
  rw [List.any_cons]
  by_cases e:p.1=k
  ·simp only [j8 e,aR6 e,Bool.true_or,Option.isSome_some]
  ·rw [j9 e,aR2 e,Bool.false_or]; exact lW k r
theorem J0 (k j:κ) (y:PV):∀ kvs:List (κ × PV),bP (kvs.map fun kv=>if kv.1=k then (kv.1,y) else kv) j=(bP kvs j).map fun x=>if j=k then y else x
 | []=>rfl
 | p :: r=>by
  have ih:=J0 k j y r
  rw [aW3]
  by_cases h:p.1=k
  ·rw [if_pos h]
   by_cases e:p.1=j
   ·rw [j8 (p:=(p.1,y)) e,j8 e,Option.map_some,if_pos (e.symm.trans h)]
   ·rw [j9 (p:=(p.1,y)) e,j9 e,ih]
  ·rw [if_neg h]
   by_cases e:p.1=j
   ·rw [j8 (p:=p) e,j8 e,Option.map_some,if_neg (fun z=>h (e.trans z))]
   ·rw [j9 (p:=p) e,j9 e,ih]
theorem J1 (k j:κ) (y:PV):∀ kvs:List (κ × PV),bP kvs k=none->bP (kvs ++ [(k,y)]) j=if j=k then some y else bP kvs j
 | [],_=>by
  by_cases e:k=j
  ·rw [if_pos e.symm]; exact j8 (p:=(k,y)) e
  ·rw [if_neg (fun z=>e z.symm)]; exact j9 (p:=(k,y)) e
 | p :: r,hn=>by
  rw [List.cons_append]
  have hk : ¬ p.1=k:=fun z=>by rw [j8 z] at hn; cases hn
  rw [j9 hk] at hn
  have ih:=J1 k j y r hn
  by_cases e:p.1=j
  ·rw [j8 e,j8 e,if_neg (fun z=>hk (e.trans z))]
  ·rw [j9 e,j9 e,ih]
theorem J2 (kvs:List (κ × PV)) (k j:κ) (y:PV):bP (dJ kvs k y) j=if j=k then some y else bP kvs j:=by
 unfold dJ
 by_cases a:(kvs.any fun kv=>decide (kv.1=k))=true
 ·rw [if_pos a,J0]
  rw [lW] at a
  by_cases e:j=k
  ·obtain ⟨x,hx⟩:=Option.isSome_iff_exists.mp a
   rw [if_pos e,e,hx,Option.map_some,if_pos rfl]
  ·rw [if_neg e]
   cases bP kvs j with
   | none=>rfl
   | some x=>rw [Option.map_some,if_neg e]
 ·rw [if_neg a]
  refine J1 k j y kvs ?_
  rw [lW] at a
  cases q:bP kvs k with
  | none=>rfl
  | some x=>rw [q] at a; exact (a rfl).elim
theorem aw9 (kvs:List (κ × PV)) (k:κ) (v:PV):(dJ kvs k v).length<=kvs.length+1:=by
 unfold dJ
 split
 ·rw [aS0]; omega
 ·rw [aU1,aV5,bd9]; omega
end
theorem J3 {ws:List Int}{h:Int} (h0:0<=h) (h1:h < (ws.length:Int)):atI (intz ws) h=some (.int (ws.getD h.toNat 0)):=by
 refine al7 h0 ?_
 have:h.toNat < ws.length:=by omega
 rw [aS8,aT1,aR0 this]; rfl
def tups (rs:List (List Int)):List PV:=rs.map fun r=>PV.tup (intz r)
theorem J4:∀ (rs:List (List Int)),flats (tups rs)=true
 | []=>rfl
 | r :: t=>by
  show (flat (.tup (intz r)) && flats (tups t))=true
  rw [nR,J4 t]; rfl
theorem ax0 (g:Tg) (n:Int):Nw g (.int n):=by cases g <;> first | exact trivial | rfl
def nT (x:PV) (ns:List Int):Prop:=x = .scr ns ∨ x = .lst (intz ns)
theorem nT.seq {x:PV}{ns:List Int} (h:nT x ns):jM x=some (intz ns):=by rcases h with rfl | rfl <;> rfl
theorem nT.len {x:PV}{ns:List Int} (h:nT x ns):zO x=some ns.length:=by
 rcases h with rfl | rfl
 ·rfl
 ·show some (intz ns).length=_
  rw [aw7]
def jS:bO:=fun xs Q=>∃ x ns k,xs = [x,.int k]/\nT x ns/\0<=k/\Q (.int (ns.getD k.toNat 0))
def J5:aS:=(aL (cE (b6 (iC (a5 1) (aG eR (a7 (a5 0) aD)))) (bJ (aV (a5 0) (a5 1))) cI)
 (bJ (qC (.int 0))))
theorem ax1:dG J5 ["script","k"] jS:=by
 rintro xs Q ⟨x,ns,k,rfl,hx,h0,q⟩
 refine⟨_,rfl,_,rfl,_,_,rfl,hx.len,_,_,rfl,rfl,_,rfl,?_⟩
 by_cases h:k < (ns.length:Int)
 ·rw [aR6 h]
  exact bC ⟨_,rfl,_,rfl,_,_,_,hx.seq,rfl,J3 h0 h,ax0 _ _,q⟩
 ·rw [aR2 h]
  rw [aT1,List.getElem?_eq_none (by omega)] at q
  exact aY ⟨trivial,q⟩
def aF (ls:List (Int × Int)):List PV:=ls.map fun l=>PV.tup [.int l.1,.int l.2]
theorem fP (ls:List (Int × Int)):(aF ls).length=ls.length:=aS0 _
def cZ (l m:Int × Int):Prop:=l.1 < m.1 ∨ (l.1=m.1/\l.2 < m.2)
abbrev si (n:Int):Option Slot:=some (.sh true (.int n))
def qM:bO:=fun xs Q=>∃ i,xs = [.int i]/\Q (.bl true)
def J6 (K:PySem.W.Frag):aS:=(bJ (kD (gU K "int" (a5 0)) (tL (gU K "bool" (a5 0)))))
theorem ax2 {K:PySem.W.Frag} (k1:PySem.W.kitOne K (.type "int") (.type "int")=some true) (k2:PySem.W.kitOne K (.type "int") (.type "bool")=some false):dG (J6 K) ["found"] qM:=by
 rintro xs Q ⟨i,rfl,q⟩
 exact⟨_,rfl,_,_,rfl,k1,_,rfl,bC ⟨_,rfl,_,_,rfl,k2,_,rfl,trivial,q⟩⟩
theorem nU {ls:List (Int × Int)}{i:Nat}{x:PV} (h:(aF ls)[i]? = some x):∃ l,x = .tup [.int l.1,.int l.2]/\ls[i]? = some l:=by
 unfold aF at h
 rw [aS8] at h
 cases e:ls[i]? with
 | none=>rw [e] at h; cases h
 | some n=>rw [e] at h; exact⟨n,(aT5 h).symm,rfl⟩
end Core
namespace PP
open PySem L2 PyProof.Rows
section
variable {X : Cx} {a b e : Expr} {ta tb te : aB} {tr : cL} {pos p2 p3 pos2 : Pos}
def uY:V->Int
 | .int i=>i
 | _=>0
def jA (H:Hp):V->List Int
 | .ref a=>match H a with
  | some (.tup us)=>us.map uY
  | _=>[]
 | _=>[]
theorem ax3 {H:Hp}{a:Addr}{ns:List Int} (h:H a=some (.tup (ns.map V.int))):jA H (.ref a)=ns:=by
 show (match H a with | some (.tup us)=>us.map uY | _=>[])=ns
 rw [h]
 show (ns.map V.int).map uY=ns
 rw [aX1]
 exact List.map_id _
theorem uZ {K:PySem.W.Frag}{M:Addr->Prop}{H:Hp}:∀ {us:List V}{ys:List (List Int)},Reps K M H us (ys.map fun r=>PV.tup (intz r))->us.map (jA H)=ys/\∀ u ∈ us,∃ b,u = .ref b/\H b=some (.tup ((jA H u).map V.int))
 | _,[],.nil=>⟨rfl,fun u h=>nomatch h⟩
 | _,y :: ys,.cons r t=>by
  obtain ⟨a,us,rfl,h,r1⟩:=r.sqT
  obtain rfl:=r1.ofInts
  obtain ⟨h1,h2⟩:=uZ t
  have hk:=ax3 h
  refine⟨by rw [aW3,h1,hk],fun u hu=>?_⟩
  rcases aR5.mp hu with rfl | hu
  ·exact⟨a,rfl,by rw [hk]; exact h⟩
  ·exact h2 u hu
theorem v5 {K:PySem.W.Frag}{M:Addr->Prop}{H:Hp}:∀ {us:List V},(∀ u ∈ us,∃ b,u = .ref b/\H b=some (.tup ((jA H u).map V.int)))->Reps K M H us ((us.map (jA H)).map fun r=>PV.tup (intz r))
 | [],_=>.nil
 | u :: us,h=>by
  obtain ⟨b,rfl,hb⟩:=h u aS3
  exact .cons (.tup hb (Reps.intz _)) (v5 fun v hv=>h v (aR7 _ hv))
end
def ax4 (K:PySem.W.Frag):Sp:=fun vs H Q _=>∃ (a:Addr) (ns:List Int),vs = [.ref a]/\(aN K H a (ns.map V.int) ∨ aP K H a (ns.map V.int))/\ns.length<=1000/\∀ H',aC H H'->Q (.bl (Core.uX ns)) H'
section
variable {P : Program} {w : World} {K : PySem.W.Frag} {mg : Str → Option Value} {base : Heap} {f : Addr} {fd : FuncData} {k : Nat}
theorem J7 (F:dH P w K mg base eG k f fd ["things"] (ax4 K)) (b:jJ K fd ["things"] []) (kp:PySem.W.keepIn K (.ref f)=true) (m:mg "rises" = some (.ref f)):Df P w K mg base k "rises" ["things"] Core.aw8:=by
 refine⟨f,fd,F.imp fun vs H Q E h=>?_,b,kp,m⟩
 obtain ⟨xs,Qp,r,⟨x,ns,rfl,hx,hl,q⟩,k⟩:=h
 obtain ⟨v,rfl,r1⟩:=r.one
 rcases hx with rfl | rfl
 ·obtain ⟨a,us,rfl,h,r2⟩:=r1.sqT
  obtain rfl:=r2.ofInts
  exact⟨a,ns,rfl,.inl (aN.of h),hl,fun H' s=>k _ H' _ s (.bl _) q⟩
 ·obtain ⟨a,us,rfl,_,h,r2⟩:=r1.sqL
  obtain rfl:=r2.ofInts
  exact⟨a,ns,rfl,.inr (aP.of h),hl,fun H' s=>k _ H' _ s (.bl _) q⟩
end
end PP
namespace Core
open PySem L2 PP
def two (l:Int × Int):List Int:=[l.1,l.2]
def nV (r:List Int):Int × Int:=(r.getD 0 0,r.getD 1 0)
theorem jT (ls:List (Int × Int)):aF ls=(ls.map two).map fun r=>PV.tup (intz r):=by
 unfold aF
 rw [aX1]; rfl
theorem v6 {zs:List (List Int)}{ls:List (Int × Int)} (h:zs.Perm (ls.map two)):∃ ls':List (Int × Int),zs=ls'.map two/\ls'.Perm ls:=by
 refine⟨zs.map nV,?_,?_⟩
 ·rw [aX1]
  have:∀ z ∈ zs,(two ∘ nV) z=z:=fun z hz=>by
   obtain ⟨l,_,rfl⟩:=aU2.mp (h.mem_iff.mp hz)
   rfl
  rw [List.map_congr_left this,List.map_id']
 ·have:=h.map nV
  rw [aX1] at this
  have e:ls.map (nV ∘ two)=ls:=by
   have:∀ l ∈ ls,(nV ∘ two) l=id l:=fun l _=>rfl
   rw [List.map_congr_left this,List.map_id]
  rw [e] at this
  exact this
theorem v7 {ls:List (Int × Int)} (so:(ls.map two).Pairwise fun u v=>HT.aI v u=false) (nd:ls.Nodup):ls.Pairwise cZ:=by
 rw [ba5] at so
 refine (List.pairwise_and_iff.mpr ⟨so,nd⟩).imp fun {a b} h=>?_
 obtain ⟨h1,h2⟩:=h
 unfold two at h1
 rw [HT.gB] at h1
 unfold cZ
 by_cases e:b.1=a.1
 ·rw [if_pos e,HT.gB] at h1
  by_cases e2:b.2=a.2
  ·exact absurd (be6 e.symm e2.symm) h2
  ·rw [if_neg e2] at h1
   have:=be7 h1
   omega
 ·rw [if_neg e] at h1
  have:=be7 h1
  omega
def cJ (l:Int × Int):List aH:=[Sum.inl l.1,Sum.inl l.2]
def J8:bO:=fun xs Q=>∃ ns:List Int,xs = [.scr ns]/\ns.length<=63/\Q (.bl true)
structure ax5 (K:PySem.W.Frag):Prop where
 ii:PySem.W.kitOne K (.type "int") (.type "int")=some true
 ib:PySem.W.kitOne K (.type "int") (.type "bool")=some false
 tt:PySem.W.kitOne K (.type "tuple") (.type "tuple")=some true
 ll:PySem.W.kitOne K (.type "list") (.type "list")=some true
 bb:PySem.W.kitOne K (.type "bool") (.type "bool")=some true
theorem lX (K:PySem.W.Frag):ax5 K:=by
 have same:∀ n:String,PySem.W.kitMeta n=true->True:=fun _ _=>trivial
 refine⟨?_,?_,?_,?_,?_⟩
 ·unfold PySem.W.kitOne; rw [if_pos (by decide)]
 ·have e:(if PySem.W.kitMeta "bool" = true then (fastBuiltinMro "int").map (·.contains (Value.type "bool")) else none)=some false:=by decide +kernel
  unfold PySem.W.kitOne
  rw [if_neg (by decide)]
  exact e
 ·unfold PySem.W.kitOne; rw [if_pos (by decide)]
 ·unfold PySem.W.kitOne; rw [if_pos (by decide)]
 ·unfold PySem.W.kitOne; rw [if_pos (by decide)]
end Core
namespace PP
open PySem L2 PyProof.Rows
theorem ax6 {P:Program}{w:World}{K:PySem.W.Frag}{mg:Str->Option Value}{base:Heap}{k:Nat}{x:Str}{ps N:List Str}{p:bO}{st:Stmt}{f:Addr}{fd:FuncData} (F:fF K x x st f fd) (S:FnScope N ps (aX st))
  (len:∀ xs Q,p xs Q->xs.length=ps.length)
  (body:∀ (cdv:Value) (A:Around) (outer:List Env) (s:Shared) (H:Hp) (E:XK),bY k (A.deeper (envOfC x (aX st) s.heap.objs.size f cdv))->
   ∃ t,eJ (cV eG P w K mg base N x (aX st) f cdv A outer s H E).nox (dX st) t/\∀ xs Q,p xs Q->t { nx:=fun _=>Q .non,rt:=Q } (eB N xs)):dH P w K mg base eG (k+1) f fd ps (mV K p):=by
 refine F.ok S (fun vs H Q E h=>?_) (fun cdv A outer s H vs Q E hr h=>?_)
 ·obtain ⟨xs,Qp,r,q,_⟩:=h
  rw [r.length]; exact len xs Qp q
 ·obtain ⟨xs,Qp,r,q,k⟩:=h
  obtain ⟨t,ht,hq⟩:=body cdv A outer s H E hr
  refine⟨_,ht,fun _=>False,eB N xs,_,uJ r,hq xs Qp q,?_,?_,?_,?_⟩
  ·exact fun W' σ' H' ρ' e px q=>k _ _ _ px.same .non q
  ·exact fun v H' x s r q=>k _ _ _ s r q
  ·exact fun W' σ' H' ρ' e px q=>q
  ·exact fun W' σ' H' ρ' e px q=>q
def qN (K:PySem.W.Frag):Sp:=fun vs H Q _=>∃ (a:Addr) (ns:List Int),vs = [.ref a]/\iR K H a ns/\ns.length<=63/\∀ H',Q (.bl true) H'
theorem ax7 {P:Program}{w:World}{K:PySem.W.Frag}{mg:Str->Option Value}{base:Heap}{k:Nat}{f:Addr}{fd:FuncData} (F:dH P w K mg base eG k f fd ["script"] (mV K Core.J8)):dH P w K mg base eG k f fd ["script"] (qN K):=
 F.imp fun vs H Q E h=>by
  obtain ⟨a,ns,rfl,hs,hl,q⟩:=h
  refine⟨[.scr ns],fun z=>z = .bl true,.cons (.scr hs) .nil,⟨ns,rfl,hl,rfl⟩,?_⟩
  rintro v H' x _ r rfl
  cases r
  exact q H'
theorem ax8 {K:PySem.W.Frag}{H:Hp}{a:Addr}{ns:List Int} (hO:oN H) (h:aP K H a (ns.map V.int)):iR K H a ns:=by
 rcases h with (h | ⟨o,h⟩) | h
 ·rcases hO a with e | ⟨o,xs,e⟩ <;> (rw [h] at e; cases e)
 ·exact .inl ⟨o,h⟩
 ·exact .inr h
end PP
namespace PyProof.Rows
open PySem
end PyProof.Rows
namespace PP
open PySem L2 PyProof.Rows
section
variable {X : Cx} {a b e : Expr} {ta tb te : aB} {tr : cL} {pos p2 : Pos}
def J9:PV->Tg->PV->Tg->PK->Prop:=fun x _ y _ Q=>∃ xs ys,x = .lst xs/\y = .lst ys/\flats xs=true/\flats ys=true/\xs.length+ys.length<=16000000/\Q (.lst (xs ++ ys)) .fr
abbrev K0 (ta tb:aB):aB:=q2 J9 ta tb
theorem ax9:dY X J9 yG:=by
 rintro W Hs H u v x y g g' Q Q' s n r1 r2 ⟨xs,ys,rfl,rfl,f1,f2,hl,q⟩ k
 obtain ⟨a,us,rfl,_,h1,q1⟩:=r1.sqL
 obtain ⟨b,ws,rfl,_,h2,q2⟩:=r2.sqL
 have l1:=q1.length
 have l2:=q2.length
 refine⟨a,b,us,ws,rfl,rfl,h1,h2,lim (by omega),fun p hp=>k _ _ _ .fr (bZ hp _) (.lst (s.free hp) cC (((q1.flat f1).append (q2.flat f2)).same (bZ hp _) fun _ z=>z)) q⟩
theorem ay0 (ha:QE X a ta) (hb:QE X b tb):QE X (.BinOp a .Add b pos) (K0 ta tb):=lL ai0 ax9 ha hb
end
end PP
namespace L2
open PySem PySem.Spec PyProof.Rows
def v8 (K:PySem.W.Frag) (a:Addr):It:=
  ⟨fun i H=>∃ xs x,aP K H a xs/\xs[i]? = some x,
   fun i H v H'=>∃ T x,H T=none/\v = .ref T/\H'=upd H T (.tup [.int i,x])/\∀ xs,aP K H a xs->xs[i]? = some x,
   fun i H=>∃ xs,aP K H a xs/\xs.length<=i⟩
structure ay1 (e it a:Addr) (i:Nat) (h:Heap):Prop where
 ee:∃ old,IsEnum h e it i old
 s1:h.IsListIter it a i
theorem ay2 {P:Program}{w:World}{K:PySem.W.Frag}{elts:List Expr}{k:Nat}{pos:Pos} (a e it:Addr) (d:e ≠ it) :
  i6 P w K (.Tuple elts k pos) (v8 K a) [e,it] e (ay1 e it a):=by
 refine⟨by simp,fun i h st c hc=>?_,fun i h h' st kp=>?_,?_,?_,fun A i s Q E st q=>?_⟩
 ·simp only [aR5,aS6,aV6] at hc
  obtain ⟨old,ee⟩:=st.ee
  obtain ⟨o1,f1,g1,d1⟩:=st.s1
  rcases hc with rfl | rfl
  ·exact⟨_,ee,fun v q=>by cases q⟩
  ·exact⟨_,f1,fun v q=>by rw [d1] at q; cases q⟩
 ·obtain ⟨old,ee⟩:=st.ee
  exact⟨⟨old,kp e (by simp) _ ee⟩,st.s1.at fun o z=>kp it (by simp) o z⟩
 ·intro X hP hw hK hc i pins s σ H E I hf st hg
  subst hP hw hK
  obtain ⟨xs,x,ha,hx⟩:=hg
  obtain ⟨us,ru,pu,lu⟩:=I.list ha
  obtain ⟨ux,eux,rux⟩:=ru.get hx
  obtain ⟨old,ee⟩:=st.ee
  refine wpAny_pyNext_enum_item ee st.s1 pu.isList (by simpa using eux) d fun h' eo it' pr sz kp=>⟨_,rfl,?_⟩
  refine wpAny_letOwnedTupleGo_enum (s:={ s with heap:=h',toks:=s.toks+1 }) eo fun g zz sb=>?_
  have hzl:e < s.heap.objs.size:=aS4 ee
  have up:∀ c o,c ≠ e->c ≠ it->s.heap.get? c=some o->g.get? c=some o:=fun c o c1 c2 z=>sb.extBut c o c1 (kp c o c1 c2 z)
  have hT:H s.heap.objs.size=none:=I.hok.fresh (aR8 _)
  have prG:g.get? s.heap.objs.size=some { cls:=.type "tuple",data:=.seq #[.int i s.toks,ux] }:=sb.extBut _ _ (bb3 hzl) pr
  have fpn:∀ c u,H c=some u->c ∉ [e,it]:=fun c u z hm=>by rw [(hf c hm).1] at z; cases z
  have upH:∀ c o u,H c=some u->s.heap.get? c=some o->g.get? c=some o:=fun c o u q z=>by
   have:=fpn c u q
   simp only [aR5,aS6,aV6,not_or] at this
   exact up c o this.1 this.2 z
  have ns:∀ m,s.heap.Ns X.env.locals m->g.Ns X.env.locals m:=fun m hm=>by
   obtain ⟨o,es,ep,e1,e2⟩:=hm
   exact⟨o,es,ep,up _ o (Ne.symm (hf e (by simp)).2.1) (Ne.symm (hf it (by simp)).2.1) e1,e2⟩
  have I2:a6 X pins σ (upd H s.heap.objs.size (.tup [.int i,x])) { s with heap:=g,toks:=s.toks+1 }:=by
   refine I.step (g':=s.gens) (d':=s.drawn) (ch:=[e,it]) (fun c hc'=>?_) (fun c o _ _ hc' z _=>?_) (fun c o _ _ hc' z _=>⟨o.slots,?_⟩) (fun c o _ z n=>?_) (fun c o hc' z=>⟨o,?_⟩)
    (fun c zs z=>by rw [aZ (cU z hT)]; exact z) (fun c u zs z=>by rw [aZ (cU z hT)]; exact z) (fun c ps z=>⟨#[],by rw [aZ (cU z hT),z]; simp⟩) ns (fun c u z=>?_) I.bare
   ·exact⟨(hf c hc').2.2.2.1,(hf c hc').2.1,(hf c hc').2.2.2.2.1,(hf c hc').2.2.2.2.2⟩
   ·simp only [aR5,aS6,aV6,not_or] at hc'
    exact up c o hc'.1 hc'.2 z
   ·simp only [aR5,aS6,aV6,not_or] at hc'
    exact up c o hc'.1 hc'.2 z
   ·rw [aZ (aU5 (aS4 z))]; exact n
   ·simp only [aR5,aS6,aV6,not_or] at hc'
    exact up c o hc'.1 hc'.2 z
   ·by_cases hcT:c=s.heap.objs.size
    ·subst hcT
     rw [cC] at z; cases z
     exact⟨by show 2<=sizeLine; decide,[.int i s.toks,ux],.cons ⟨_,rfl⟩ (.cons rux .nil),⟨_,prG,rfl,_,rfl⟩,fun u e=>by rw [prG] at e; cases e; rfl⟩
    ·rw [aZ hcT] at z
     refine (I.hok c u z).stay (fun c' o' hc2 q'=>?_) (fun c' q'=>by rw [aZ (cU q' hT)]; exact q') fun c' zs q'=>by rw [aZ (cU q' hT)]; exact q'
     rcases hc2 with rfl | hc2
     ·exact upH _ _ _ z q'
     ·exact upH _ _ _ hc2 q'
  refine⟨.ref s.heap.objs.size,_,I2,rfl,⟨_,x,hT,rfl,rfl,fun xs' ha'=>?_⟩,⟨⟨ux,by push_cast; exact zz⟩,it'.at fun o z=>sb.extBut _ o (Ne.symm d) z⟩,fun c hc'=>?_⟩
  ·rw [I.list_inj ha' ha]; exact hx
  ·obtain ⟨o,z⟩:∃ o,s.heap.get? c=some o:=by
    simp only [aR5,aS6,aV6] at hc'
    obtain ⟨o1,f1,_⟩:=st.s1
    rcases hc' with rfl | rfl
    ·exact⟨_,ee⟩
    ·exact⟨_,f1⟩
   rw [aZ (aU5 (aS4 z))]; exact (hf c hc').1
 ·intro X hP hw hK hc i pins s σ H E I hf st hg
  subst hP hw hK
  obtain ⟨xs,ha,hi⟩:=hg
  obtain ⟨us,ru,pu,lu⟩:=I.list ha
  obtain ⟨old,ee⟩:=st.ee
  have hh:X.A.handled=none:=I.ok.hd hc
  have e1:=ru.length
  refine wpAny_pyNext_enum_end hh ee st.s1 pu.isList (by rw [Array.getElem?_eq_none]; simp only [aR1]; omega) fun g kp=>⟨rfl,?_⟩
  have fpn:∀ c u,H c=some u->c ∉ [e,it]:=fun c u z hm=>by rw [(hf c hm).1] at z; cases z
  have upH:∀ c o u,H c=some u->s.heap.get? c=some o->g.get? c=some o:=fun c o u q z=>by
   have:=fpn c u q
   simp only [aR5,aS6,aV6,not_or] at this
   exact kp c o this.2 z
  have ns:∀ m,s.heap.Ns X.env.locals m->g.Ns X.env.locals m:=fun m hm=>by
   obtain ⟨o,es,ep,e1,e2⟩:=hm
   exact⟨o,es,ep,kp _ o (Ne.symm (hf it (by simp)).2.1) e1,e2⟩
  refine I.step (g':=s.gens) (d':=s.drawn) (ch:=[it]) (fun c hc'=>?_) (fun c o _ _ hc' z _=>?_) (fun c o _ _ hc' z _=>⟨o.slots,?_⟩) (fun c o _ z n=>n) (fun c o hc' z=>⟨o,?_⟩)
   (fun c zs z=>z) (fun c u zs z=>z) (fun c ps z=>⟨#[],by rw [z]; simp⟩) ns (fun c u z=>?_) I.bare
  ·have hm:c ∈ [e,it]:=aR7 _ hc'
   exact⟨(hf c hm).2.2.2.1,(hf c hm).2.1,(hf c hm).2.2.2.2.1,(hf c hm).2.2.2.2.2⟩
  ·exact kp c o (fun y=>hc' (by rw [y]; simp)) z
  ·exact kp c o (fun y=>hc' (by rw [y]; simp)) z
  ·exact kp c o (fun y=>hc' (by rw [y]; simp)) z
  ·refine (I.hok c u z).stay (fun c' o' hc2 q'=>?_) (fun _ q'=>q') fun _ _ q'=>q'
   rcases hc2 with rfl | hc2
   ·exact upH _ _ _ z q'
   ·exact upH _ _ _ hc2 q'
 ·obtain ⟨old,ee⟩:=st.ee
  exact wpAny_pyIter_enum ee q
end L2
namespace Zp
open PySem PyProof.Rows
section
variable {prog : Program} {w : World} {A : Around} {E : Value → Shared → Prop} {s : Shared}
theorem ay3 {e it t:Addr}{i:Nat}{items:Array Value}{x old:Value}{Q:Option Value->Shared->Prop} (he:IsEnum s.heap e it i old) (hi:s.heap.IsTupleIter it t i) (ht:s.heap.IsTuple t items) (hx:items[i]? = some x) (ne:e ≠ it)
  (q:∀ h',IsEnumOut h' e it ((i:Int)+1) x s.heap.objs.size->h'.IsTupleIter it t (i+1)->h'.get? s.heap.objs.size=some { cls:=.type "tuple",data:=.seq #[.int i s.toks,x] }->h'.objs.size=s.heap.objs.size+1->
   (∀ b o,b ≠ e->b ≠ it->s.heap.get? b=some o->h'.get? b=some o)->Q (some (.ref s.heap.objs.size)) { s with heap:=h',toks:=s.toks+1 }):wpAny (model prog w) A (pyNext (.ref e)) Q E s:=by
 have T:s.TypeIs (.ref e) "enumerate":=⟨_,he,rfl⟩
 have slot:=PySem.F.slot_enumerate_next
 unfold pyNext
 apply aQ7
 apply wpAny_attempt
 apply aW7 (name:=Str.ofString "__next__") T slot
 apply aW9 slot T PySem.F.entry_enumerate_next _ (PySem.F.args_enumerate_next_1 _)
 change wpAny _ _ (field (.ref e) 2 >>= _) _ _ _
 apply aQ7
 refine aW6 he rfl (x:=.ref it) rfl ?_
 apply aQ7
 refine zC hi ht hx fun g1 it1 sb1=>?_
 have e1:IsEnum g1 e it i old:=sb1.extBut _ _ ne he
 change wpAny _ _ (field (.ref e) 3 >>= _) _ _ _
 apply aQ7
 refine aW6 e1 rfl (x:=rawInt i) rfl ?_
 change wpAny _ _ (field (.ref e) 4 >>= _) _ _ _
 apply aQ7
 refine aW6 e1 rfl (x:=.none) rfl ?_
 change wpAny _ _ (mkInt i >>= _) _ _ _
 apply aQ7
 refine wpAny_mkInt ?_
 change wpAny _ _ (setField (.ref e) 3 (rawInt ((i:Int)+1)) >>= _) _ _ _
 apply aQ7
 refine aX3 e1 (by simp) fun g2 e2 sb2=>?_
 apply aQ7
 refine aX3 e2 (by simp) fun g3 e3 sb3=>?_
 have e3:IsEnum g3 e it ((i:Int)+1) old:=e3
 apply aQ7
 refine wpAny_newTuple ?_ (by show 2<=sizeLine; decide)
 have e4:IsEnum (g3.push { cls:=.type "tuple",data:=.seq #[.int i s.toks,x] }) e it ((i:Int)+1) old:=aQ9 _ e3
 have size:g3.objs.size=s.heap.objs.size:=by rw [sb3.1,sb2.1,sb1.1]
 change wpAny _ _ (Builtin.SmallTypes.ownedTupleIsFree (.ref e) >>= _) _ _ _
 apply aQ7
 unfold Builtin.SmallTypes.ownedTupleIsFree
 apply aQ7
 refine aW6 e4 rfl (x:=.none) rfl (aR3 ?_)
 simp only [if_true]
 apply aQ7
 apply be1
 apply aQ7
 refine aW6 e4 rfl (x:=old) rfl ?_
 apply aQ7
 refine aX3 e4 (by simp) fun g5 e5 sb5=>?_
 apply aQ7
 unfold Builtin.SmallTypes.ownedTupleHandOut
 apply aQ7
 refine aX3 e5 (by simp) fun g6 e6 sb6=>?_
 refine aX3 e6 (by simp) fun g7 e7 sb7=>?_
 have e7:IsEnumOut g7 e it ((i:Int)+1) x g3.objs.size:=e7
 have elt:e < g3.objs.size:=aS4 e3
 have up:∀ c o,c ≠ e->(g3.push { cls:=.type "tuple",data:=.seq #[.int i s.toks,x] }).get? c=some o->g7.get? c=some o:=fun c o c1 z=>sb7.extBut c o c1 (sb6.extBut c o c1 (sb5.extBut c o c1 z))
 have up3:∀ c o,c ≠ e->g1.get? c=some o->g7.get? c=some o:=fun c o c1 z=>up c o c1 (aQ9 _ (sb3.extBut c o c1 (sb2.extBut c o c1 z)))
 have p7:g7.get? g3.objs.size=some { cls:=.type "tuple",data:=.seq #[.int i s.toks,x] }:=up _ _ (bb3 elt) (aS5 _ rfl)
 have s7:g7.objs.size=g3.objs.size+1:=by rw [sb7.1,sb6.1,sb5.1,aY1]
 apply aQ7
 apply bd0
 apply aR3
 rw [size] at e7 p7 s7
 refine⟨_,rfl,aR3 ?_⟩
 change Q (some (.ref g3.objs.size)) _
 rw [size]
 exact q g7 e7 (it1.at fun o z=>up3 it o (Ne.symm ne) z) p7 s7 fun b o b1 b2 z=>up3 b o b1 (sb1.extBut b o b2 z)
theorem ay4 {e it t:Addr}{i:Nat}{items:Array Value}{old:Value}{Q:Option Value->Shared->Prop} (hh:A.handled=none) (he:IsEnum s.heap e it i old) (hi:s.heap.IsTupleIter it t i) (ht:s.heap.IsTuple t items) (hx:items[i]? = none)
  (q:∀ h',Heap.ExtBut it s.heap h'->Q none { s with heap:=h' }):wpAny (model prog w) A (pyNext (.ref e)) Q E s:=by
 have T:s.TypeIs (.ref e) "enumerate":=⟨_,he,rfl⟩
 have slot:=PySem.F.slot_enumerate_next
 unfold pyNext
 apply aQ7
 apply wpAny_attempt
 apply aW7 (name:=Str.ofString "__next__") T slot
 apply aW9 slot T PySem.F.entry_enumerate_next _ (PySem.F.args_enumerate_next_1 _)
 change wpAny _ _ (field (.ref e) 2 >>= _) _ _ _
 apply aQ7
 refine aW6 he rfl (x:=.ref it) rfl ?_
 apply aQ7
 refine zD hh hi ht hx fun g2 ex eb exo=>?_
 obtain ⟨oe,eo,co⟩:=exo
 apply aQ7
 refine wpAny_isInstance (T:="StopIteration") (b:=true) ⟨oe,eo,co⟩ isSubtype_stop ?_
 exact aR3 (q g2 eb)
theorem ay5 {M:Model}{A:Around}{E:Value->Shared->Prop}{s:Shared}{α:Type}{c:Prop} [Decidable c] {m n:Sem α}{Q:α->Shared->Prop} (h1:wpAny M A m Q E s) (h2:wpAny M A n Q E s):wpAny M A (if c then m else n) Q E s:=by
 split
 ·exact h1
 ·exact h2
theorem ay6 (t:Addr) (xs:Array Value):Meets (Builtin.«enumerate.__new__» ⟨[.type "enumerate",.ref t],[]⟩) (fun _ R s=>s.heap.IsTuple t xs/\R (.ok (.ret (.ref (s.heap.objs.size+1)))) { s with heap:=(s.heap.push { cls:=.type "tuple_iterator",data:=.fields #[.ref t,.int 0 0] }).push { cls:=.type "enumerate",data:=.fields #[.none,.bool false,.ref s.heap.objs.size,rawInt 0,.none,.none] } }):=
 .of_wp fun prog w A R s h=>by
  obtain ⟨hp,g,d,tk,os⟩:=s
  obtain ⟨ht,h⟩:=h
  have sub:=sub_enumerate
  have a1:Heap.IsTuple (Shared.heap ⟨hp,g,d,tk,os⟩) t xs:=ht
  wp_walk using bd4 a1
  refine wpAny_stack_any fun st=>aR3 ?_
  refine ay5 ?_ ?_
  all_goals
   apply aQ7
   refine wpAny_of_eq (a:=(Value.ref t,none)) rfl ?_
   wp_walk using bd4 a1
   have e:∀ (o:Obj) (k:Heap),(k.push o).objs.size=k.objs.size+1:=fun o k=>aY1 ..
   refine⟨_,rfl,?_⟩
   simp only [e] at h ⊢
   exact h
theorem ay7 {t:Addr}{xs:Array Value}{Q:Value->Shared->Prop} (ht:s.heap.IsTuple t xs)
  (q:∀ h',IsEnum h' (s.heap.objs.size+1) s.heap.objs.size 0 .none->h'.IsTupleIter s.heap.objs.size t 0->h'.objs.size=s.heap.objs.size+2->(∀ c o,s.heap.get? c=some o->h'.get? c=some o)->Q (.ref (s.heap.objs.size+1)) { s with heap:=h' }) :
  wpAny (model prog w) A (call (.type "enumerate") [.ref t]) Q E s:=by
 refine callType_new PySem.F.called_enumerate (by decide) (PySem.F.typeCall_enumerate_1 _) (PySem.F.newCall_enumerate_1 _) (fun obj=>PySem.F.args_object_init_2 obj _) PySem.F.entry_enumerate_new (ay6 t xs) ⟨ht,?_⟩
 have e:∀ (o:Obj) (k:Heap),(k.push o).objs.size=k.objs.size+1:=fun o k=>aY1 ..
 have g0:((s.heap.push { cls:=.type "tuple_iterator",data:=.fields #[.ref t,.int 0 0] }).push { cls:=.type "enumerate",data:=.fields #[.none,.bool false,.ref s.heap.objs.size,rawInt 0,.none,.none] }).get? s.heap.objs.size=some { cls:=.type "tuple_iterator",data:=.fields #[.ref t,.int 0 0] }:=aQ9 _ (aS5 _ rfl)
 have g1:((s.heap.push { cls:=.type "tuple_iterator",data:=.fields #[.ref t,.int 0 0] }).push { cls:=.type "enumerate",data:=.fields #[.none,.bool false,.ref s.heap.objs.size,rawInt 0,.none,.none] }).get? (s.heap.objs.size+1)=some { cls:=.type "enumerate",data:=.fields #[.none,.bool false,.ref s.heap.objs.size,rawInt 0,.none,.none] }:=by
  have:=aS5 (h:=s.heap.push { cls:=.type "tuple_iterator",data:=.fields #[.ref t,.int 0 0] }) (o:={ cls:=.type "enumerate",data:=.fields #[.none,.bool false,.ref s.heap.objs.size,rawInt 0,.none,.none] }) rfl
  rw [e] at this; exact this
 exact⟨⟨_,g1,rfl⟩,q _ g1 ⟨_,g0,rfl,rfl⟩ (by rw [e,e]) fun c o z=>aQ9 _ (aQ9 _ z)⟩
end
end Zp
namespace L2
open PySem PySem.Spec PyProof.Rows
def v9 (K:PySem.W.Frag) (a:Addr):It:=
  ⟨fun i H=>∃ xs x,aN K H a xs/\xs[i]? = some x,
   fun i H v H'=>∃ T x,H T=none/\v = .ref T/\H'=upd H T (.tup [.int i,x])/\∀ xs,aN K H a xs->xs[i]? = some x,
   fun i H=>∃ xs,aN K H a xs/\xs.length<=i⟩
structure ay8 (e it a:Addr) (i:Nat) (h:Heap):Prop where
 ee:∃ old,IsEnum h e it i old
 s1:h.IsTupleIter it a i
theorem ay9 {P:Program}{w:World}{K:PySem.W.Frag}{elts:List Expr}{k:Nat}{pos:Pos} (a e it:Addr) (d:e ≠ it) :
  i6 P w K (.Tuple elts k pos) (v9 K a) [e,it] e (ay8 e it a):=by
 refine⟨by simp,fun i h st c hc=>?_,fun i h h' st kp=>?_,?_,?_,fun A i s Q E st q=>?_⟩
 ·simp only [aR5,aS6,aV6] at hc
  obtain ⟨old,ee⟩:=st.ee
  obtain ⟨o1,f1,g1,d1⟩:=st.s1
  rcases hc with rfl | rfl
  ·exact⟨_,ee,fun v q=>by cases q⟩
  ·exact⟨_,f1,fun v q=>by rw [d1] at q; cases q⟩
 ·obtain ⟨old,ee⟩:=st.ee
  exact⟨⟨old,kp e (by simp) _ ee⟩,st.s1.at fun o z=>kp it (by simp) o z⟩
 ·intro X hP hw hK hc i pins s σ H E I hf st hg
  subst hP hw hK
  obtain ⟨xs,x,ha,hx⟩:=hg
  obtain ⟨us,ru,pu,lu⟩:=I.tuple ha
  obtain ⟨ux,eux,rux⟩:=ru.get hx
  obtain ⟨old,ee⟩:=st.ee
  refine Zp.ay3 ee st.s1 pu (by simpa using eux) d fun h' eo it' pr sz kp=>⟨_,rfl,?_⟩
  refine wpAny_letOwnedTupleGo_enum (s:={ s with heap:=h',toks:=s.toks+1 }) eo fun g zz sb=>?_
  have hzl:e < s.heap.objs.size:=aS4 ee
  have up:∀ c o,c ≠ e->c ≠ it->s.heap.get? c=some o->g.get? c=some o:=fun c o c1 c2 z=>sb.extBut c o c1 (kp c o c1 c2 z)
  have hT:H s.heap.objs.size=none:=I.hok.fresh (aR8 _)
  have prG:g.get? s.heap.objs.size=some { cls:=.type "tuple",data:=.seq #[.int i s.toks,ux] }:=sb.extBut _ _ (bb3 hzl) pr
  have fpn:∀ c u,H c=some u->c ∉ [e,it]:=fun c u z hm=>by rw [(hf c hm).1] at z; cases z
  have upH:∀ c o u,H c=some u->s.heap.get? c=some o->g.get? c=some o:=fun c o u q z=>by
   have:=fpn c u q
   simp only [aR5,aS6,aV6,not_or] at this
   exact up c o this.1 this.2 z
  have ns:∀ m,s.heap.Ns X.env.locals m->g.Ns X.env.locals m:=fun m hm=>by
   obtain ⟨o,es,ep,e1,e2⟩:=hm
   exact⟨o,es,ep,up _ o (Ne.symm (hf e (by simp)).2.1) (Ne.symm (hf it (by simp)).2.1) e1,e2⟩
  have I2:a6 X pins σ (upd H s.heap.objs.size (.tup [.int i,x])) { s with heap:=g,toks:=s.toks+1 }:=by
   refine I.step (g':=s.gens) (d':=s.drawn) (ch:=[e,it]) (fun c hc'=>?_) (fun c o _ _ hc' z _=>?_) (fun c o _ _ hc' z _=>⟨o.slots,?_⟩) (fun c o _ z n=>?_) (fun c o hc' z=>⟨o,?_⟩)
    (fun c zs z=>by rw [aZ (cU z hT)]; exact z) (fun c u zs z=>by rw [aZ (cU z hT)]; exact z) (fun c ps z=>⟨#[],by rw [aZ (cU z hT),z]; simp⟩) ns (fun c u z=>?_) I.bare
   ·exact⟨(hf c hc').2.2.2.1,(hf c hc').2.1,(hf c hc').2.2.2.2.1,(hf c hc').2.2.2.2.2⟩
   ·simp only [aR5,aS6,aV6,not_or] at hc'
    exact up c o hc'.1 hc'.2 z
   ·simp only [aR5,aS6,aV6,not_or] at hc'
    exact up c o hc'.1 hc'.2 z
   ·rw [aZ (aU5 (aS4 z))]; exact n
   ·simp only [aR5,aS6,aV6,not_or] at hc'
    exact up c o hc'.1 hc'.2 z
   ·by_cases hcT:c=s.heap.objs.size
    ·subst hcT
     rw [cC] at z; cases z
     exact⟨by show 2<=sizeLine; decide,[.int i s.toks,ux],.cons ⟨_,rfl⟩ (.cons rux .nil),⟨_,prG,rfl,_,rfl⟩,fun u e=>by rw [prG] at e; cases e; rfl⟩
    ·rw [aZ hcT] at z
     refine (I.hok c u z).stay (fun c' o' hc2 q'=>?_) (fun c' q'=>by rw [aZ (cU q' hT)]; exact q') fun c' zs q'=>by rw [aZ (cU q' hT)]; exact q'
     rcases hc2 with rfl | hc2
     ·exact upH _ _ _ z q'
     ·exact upH _ _ _ hc2 q'
  refine⟨.ref s.heap.objs.size,_,I2,rfl,⟨_,x,hT,rfl,rfl,fun xs' ha'=>?_⟩,⟨⟨ux,by push_cast; exact zz⟩,it'.at fun o z=>sb.extBut _ o (Ne.symm d) z⟩,fun c hc'=>?_⟩
  ·rw [I.tuple_inj ha' ha]; exact hx
  ·obtain ⟨o,z⟩:∃ o,s.heap.get? c=some o:=by
    simp only [aR5,aS6,aV6] at hc'
    obtain ⟨o1,f1,_⟩:=st.s1
    rcases hc' with rfl | rfl
    ·exact⟨_,ee⟩
    ·exact⟨_,f1⟩
   rw [aZ (aU5 (aS4 z))]; exact (hf c hc').1
 ·intro X hP hw hK hc i pins s σ H E I hf st hg
  subst hP hw hK
  obtain ⟨xs,ha,hi⟩:=hg
  obtain ⟨us,ru,pu,lu⟩:=I.tuple ha
  obtain ⟨old,ee⟩:=st.ee
  have hh:X.A.handled=none:=I.ok.hd hc
  have e1:=ru.length
  refine Zp.ay4 hh ee st.s1 pu (by rw [Array.getElem?_eq_none]; simp only [aR1]; omega) fun g kp=>⟨rfl,?_⟩
  have fpn:∀ c u,H c=some u->c ∉ [e,it]:=fun c u z hm=>by rw [(hf c hm).1] at z; cases z
  have upH:∀ c o u,H c=some u->s.heap.get? c=some o->g.get? c=some o:=fun c o u q z=>by
   have:=fpn c u q
   simp only [aR5,aS6,aV6,not_or] at this
   exact kp c o this.2 z
  have ns:∀ m,s.heap.Ns X.env.locals m->g.Ns X.env.locals m:=fun m hm=>by
   obtain ⟨o,es,ep,e1,e2⟩:=hm
   exact⟨o,es,ep,kp _ o (Ne.symm (hf it (by simp)).2.1) e1,e2⟩
  refine I.step (g':=s.gens) (d':=s.drawn) (ch:=[it]) (fun c hc'=>?_) (fun c o _ _ hc' z _=>?_) (fun c o _ _ hc' z _=>⟨o.slots,?_⟩) (fun c o _ z n=>n) (fun c o hc' z=>⟨o,?_⟩)
   (fun c zs z=>z) (fun c u zs z=>z) (fun c ps z=>⟨#[],by rw [z]; simp⟩) ns (fun c u z=>?_) I.bare
  ·have hm:c ∈ [e,it]:=aR7 _ hc'
   exact⟨(hf c hm).2.2.2.1,(hf c hm).2.1,(hf c hm).2.2.2.2.1,(hf c hm).2.2.2.2.2⟩
  ·exact kp c o (fun y=>hc' (by rw [y]; simp)) z
  ·exact kp c o (fun y=>hc' (by rw [y]; simp)) z
  ·exact kp c o (fun y=>hc' (by rw [y]; simp)) z
  ·refine (I.hok c u z).stay (fun c' o' hc2 q'=>?_) (fun _ q'=>q') fun _ _ q'=>q'
   rcases hc2 with rfl | hc2
   ·exact upH _ _ _ z q'
   ·exact upH _ _ _ hc2 q'
 ·obtain ⟨old,ee⟩:=st.ee
  exact wpAny_pyIter_enum ee q
section
variable {X : Cx}
def K1 (K:PySem.W.Frag) (ta:TA):TI:=fun σ H R=>ta σ H fun vs H1=>∃ a,vs = [.ref a]/\((∃ xs,aP K H1 a xs/\R (v8 K a) H1) ∨ (∃ xs,aN K H1 a xs/\R (v9 K a) H1))
theorem az0 {elts:List Expr}{kt:Nat}{pt:Pos}{a:Expr}{ta:TA}{p pos:Pos} (hg:Gl X "enumerate") (hm:X.mg "enumerate" = none) (ha:PA X [a] ta) (hs:starEach [a] X.env = [(false,eval a X.env)]:=by rfl) :
  PI X (.Tuple elts kt pt) (.Call (.Name "enumerate" p) [a] [] pos) (K1 X.K ta):=by
 intro pins s σ H R I h
 refine Call_ (jY I hg hm PyProof.Rows.boot_enumerate (bc4 (aM (ha pos pins s σ H _ I h) fun us s1 ⟨vs,H1,I1,r1,q1⟩=>?_) (by rw [hs]; rfl) (by rfl)))
 obtain ⟨a',e,q⟩:=q1
 subst e
 have fresh:∀ k,H1 (s1.heap.objs.size+k)=none:=fun k=>I1.hok.fresh (bb4 _ _)
 cases r1 with
 | cons r rr=>
  cases rr
  cases r
  rcases q with ⟨xs,h1,q⟩ | ⟨xs,h1,q⟩
  ·obtain ⟨us,_,p1,_⟩:=I1.list h1
   refine call_enumerate_list p1.isList fun h' z s1' sz kp=>wpAny_pyIter_enum z ?_
   refine⟨s1.heap.objs.size+1,[s1.heap.objs.size+1,s1.heap.objs.size],_,_,H1,rfl,I1.kept (t':=s1.toks) kp,
    ay2 a' _ _ (Nat.succ_ne_self _),⟨⟨_,z⟩,s1'⟩,fun c hc=>?_,q⟩
   simp only [aR5,aS6,aV6] at hc
   rcases hc with rfl | rfl
   ·exact I1.fpOk (bb4 _ _) (fresh 1)
   ·exact I1.fpOk (aR8 _) (fresh 0)
  ·obtain ⟨us,_,p1,_⟩:=I1.tuple h1
   refine Zp.ay7 p1 fun h' z s1' sz kp=>wpAny_pyIter_enum z ?_
   refine⟨s1.heap.objs.size+1,[s1.heap.objs.size+1,s1.heap.objs.size],_,_,H1,rfl,I1.kept (t':=s1.toks) kp,
    ay9 a' _ _ (Nat.succ_ne_self _),⟨⟨_,z⟩,s1'⟩,fun c hc=>?_,q⟩
   simp only [aR5,aS6,aV6] at hc
   rcases hc with rfl | rfl
   ·exact I1.fpOk (bb4 _ _) (fresh 1)
   ·exact I1.fpOk (aR8 _) (fresh 0)
end
end L2
namespace PP
open PySem L2 PyProof.Rows
def jB (xs:List PV):List PV:=xs.mapIdx fun i x=>PV.tup [.int (i:Int),x]
theorem vA (xs:List PV):(jB xs).length=xs.length:=by unfold jB; rw [List.length_mapIdx]
theorem K2 {xs:List PV}{i:Nat}{x:PV} (h:xs[i]? = some x):(jB xs)[i]? = some (.tup [.int (i:Int),x]):=by
 unfold jB; rw [List.getElem?_mapIdx,h]; rfl
theorem az1 {xs:List PV}{i:Nat}{z:PV} (h:(jB xs)[i]? = some z):∃ x,xs[i]? = some x/\z = .tup [.int (i:Int),x]:=by
 unfold jB at h
 rw [List.getElem?_mapIdx] at h
 cases e:xs[i]? with
 | none=>rw [e] at h; cases h
 | some x=>rw [e] at h; exact⟨x,rfl,(aT5 h).symm⟩
def vB (te:aB):e9:=fun ρ Q=>te ρ fun x g=>∃ xs,(x = .lst xs ∨ x = .tup xs)/\(g = .rd->flat x=true)/\Q (jB xs) (pE g xs)
theorem az2 {K:PySem.W.Frag}{H0:Hp}{W:Addr->Prop}{g:Bool}{H1:Hp}{a:Addr}{us:List V}{xs:List PV} (tw:∀ a,W a->∃ o,H1 a=some o/\eQ o=true) (ha:∀ W' H',Ev W H1 W' H'->aP K H' a us) (r:Reps K (Ms H0 W g) H1 us xs):jN K H0 W g H1 (v8 K a) (jB xs):=by
 have lr:=r.length
 have ll:=vA xs
 refine⟨fun W' H' i e hi=>⟨us,us[i]'(by omega),ha W' H' e,by simp⟩,fun W' H' i v H2 e y hi=>?_,fun W' H' e=>⟨us,ha W' H' e,by omega⟩⟩
 obtain ⟨T,x,hT,rfl,rfl,y⟩:=y
 obtain ⟨z,hz,rz⟩:=r.get (y us (ha W' _ e))
 have sm:=bZ hT (HO.tup [.int (i:Int),x])
 exact⟨sm,_,K2 hz,.tup cC (.cons (.int _) (.cons ((rz.keep (e.keep tw)).same sm fun _ q=>q) .nil))⟩
theorem az3 {K:PySem.W.Frag}{H0:Hp}{W:Addr->Prop}{g:Bool}{H1:Hp}{a:Addr}{us:List V}{xs:List PV} (tw:∀ a,W a->∃ o,H1 a=some o/\eQ o=true) (ha:∀ W' H',Ev W H1 W' H'->aN K H' a us) (r:Reps K (Ms H0 W g) H1 us xs):jN K H0 W g H1 (v9 K a) (jB xs):=by
 have lr:=r.length
 have ll:=vA xs
 refine⟨fun W' H' i e hi=>⟨us,us[i]'(by omega),ha W' H' e,by simp⟩,fun W' H' i v H2 e y hi=>?_,fun W' H' e=>⟨us,ha W' H' e,by omega⟩⟩
 obtain ⟨T,x,hT,rfl,rfl,y⟩:=y
 obtain ⟨z,hz,rz⟩:=r.get (y us (ha W' _ e))
 have sm:=bZ hT (HO.tup [.int (i:Int),x])
 exact⟨sm,_,K2 hz,.tup cC (.cons (.int _) (.cons ((rz.keep (e.keep tw)).same sm fun _ q=>q) .nil))⟩
section
variable {X : Cx} {σ : L2.St} {H : Hp} {te : aB} {R : It → Hp → Prop}
theorem az4 (h:LI X (vB te) σ H R):K1 X.K (i7 (LE X te) jH) σ H R:=by
 obtain ⟨W,ρ,Q,px,q,k⟩:=h
 refine⟨W,ρ,_,px,q,?_⟩
 rintro v H1 x g s r ⟨xs,hx,hg,q⟩
 have px1:=px.mono s
 have tw:∀ a,W a->∃ o,H1 a=some o/\eQ o=true:=fun a z=>(px1.wm a z).2
 rcases hx with rfl | rfl
 ·obtain ⟨a,us,rfl,m,h,r⟩:=r.sqL
  have wa : ¬ W a:=by
   cases g with
   | fr=>exact (px.new m).1
   | nw=>exact m.1
   | sh=>exact m
   | rd=>have:=hg rfl; unfold flat at this; cases this
  exact⟨a,rfl,.inl ⟨us,aP.of h,k _ _ _ _ s (az2 tw (fun W' H' e=>aP.of (e _ _ h wa).1) (lF px (fun z=>by have:=hg z; unfold flat at this; cases this) r)) q⟩⟩
 ·obtain ⟨a,us,rfl,h,r⟩:=r.sqT
  refine⟨a,rfl,.inr ⟨us,aN.of h,k _ _ _ _ s (az3 tw (fun W' H' e=>aN.of (e _ _ h fun z=>?_).1) (lF px (fun z=>by have:=hg z; unfold flat at this; exact this) r)) q⟩⟩
  obtain ⟨o,h',mu⟩:=tw _ z; rw [h] at h'; cases h'; cases mu
theorem az5 {elts:List Expr}{kt:Nat}{pt p2 pos:Pos}{a:Expr}{ta:aB} (hg:Gl X "enumerate") (hm:X.mg "enumerate" = none) (ha:QE X a ta) (hs:starEach [a] X.env = [(false,eval a X.env)]:=by rfl):QI X (.Tuple elts kt pt) (.Call (.Name "enumerate" p2) [a] [] pos) (vB ta):=
 nA (az0 hg hm (gM ha jI hs) hs) fun _ _ _=>az4
end
section
variable {X : Cx} {e : Expr} {te : aB} {pos p2 : Pos} {scope : Scope} {N : List Str} {fr : List (Option Nat)} {x y : Str} {tp xp yp : Pos} {kt : Nat} {iter elt : Expr} {ti : e9}
abbrev vC (x y:Str) (xp yp:Pos) (kt:Nat) (tp:Pos):Expr:=.Tuple [.Name x xp,.Name y yp] kt tp
theorem az6 {ifs:List Expr}{tcs:cH} (hc:X.calm=true) (he:∀ (s:Shared) (H:Hp) (C:Addr) (fp:List Addr),QE (cD X scope N s H C fp dL) elt te) (hi:∀ (s:Shared) (H:Hp) (C:Addr) (fp:List Addr),kA (cD X scope N s H C fp dL) ifs (LT (cD X scope N s H C fp dL) tcs))
  (hN:N.Nodup) (h0:N[0]? = some x) (h1:N[1]? = some y) (hl:∀ (s:Shared) (H:Hp) (C:Addr) (fp:List Addr),(cD X scope N s H C fp dL).env.scope.names.lookup x=some .local) (hl2:∀ (s:Shared) (H:Hp) (C:Addr) (fp:List Addr),(cD X scope N s H C fp dL).env.scope.names.lookup y=some .local) (s:Shared) (H:Hp) :
  oS X scope N (vC x y xp yp kt tp) ifs elt s H (l5 X.K 2 (fB (dD 0) (fB (dD 1) l4))) (LT (X.frm H) tcs) (LE (X.frm H) te):=
 ⟨fun C fp=>oE (X:=cD X scope N s H C fp dL) hc (i5 (fY hN h0 (.inl (hl s H C fp)) (.inr (hl s H C fp))) (i5 (fY hN h1 (.inl (hl2 s H C fp)) (.inr (hl2 s H C fp))) oD)),fun C fp=>hi s H C fp,fun C fp=>he s H C fp⟩
theorem K3 (hi:QI X (vC x y xp yp kt tp) iter ti) (he:∀ (s:Shared) (H:Hp) (C:Addr) (fp:List Addr),QE (cD X scope N s H C fp dL) elt te)
  (hc:X.calm=true:=by rfl) (S:fH X scope N fr:=by exact fH.of rfl rfl) (hN:N.Nodup:=by decide +kernel) (h0:N[0]? = some x:=by rfl) (h1:N[1]? = some y:=by rfl) (hl:∀ (s:Shared) (H:Hp) (C:Addr) (fp:List Addr),(cD X scope N s H C fp dL).env.scope.names.lookup x=some .local:=by intro _ _ _ _; rfl) (hl2:∀ (s:Shared) (H:Hp) (C:Addr) (fp:List Addr),(cD X scope N s H C fp dL).env.scope.names.lookup y=some .local:=by intro _ _ _ _; rfl) (hf:fr[0]? = some none:=by rfl) (hf2:fr[1]? = some none:=by rfl)
  (hs:∀ x,foldedSetIterable iter X.env x=pure x:=by intro _; rfl):QE X (.ListComp elt [⟨vC x y xp yp kt tp,iter,[],0⟩] scope pos) (jP ti fr (iW 0 1) iA te):=
 cF (t7 (gh:=fun _=>l5 X.K 2 (fB (dD 0) (fB (dD 1) l4))) (tch:=fun H=>LT (X.frm H) iA) (teh:=fun H=>LE (X.frm H) te) hc S hi (az6 hc he (fun _ _ _ _=>C0) hN h0 h1 hl hl2) hs) fun _ _ _=>tW (tV _ 0 1) (fun i e=>by rcases e with e | e <;> (subst e; assumption))
end
section
variable {X : Cx} {a b e o f : Expr} {ta tb te td tk tx : aB} {pos p2 apos cpos : Pos} {σ : L2.St} {H : Hp} {Q' : VK}
theorem K4 {x:Str}{n:Int}{t:Nat} (hg:Gl X x) (hm:X.mg x=some (.int n t)) (hd:(x == ("__debug__" : Str))=false:=by decide):QE X (.Name x pos) (qC (.int n)):=
 cF (Z7 (v:=.int n) hg hm ⟨t,rfl⟩ hd) fun _ _ _=>mS fun _=>.int n
end
end PP
namespace Core
open PySem L2 PP
section
variable {ws : List Int} {ls : List (Int × Int)} {os ns : List Int}
def az7 (ws:List Int) (ls:List (Int × Int)) (T:List Int):Prop:=∀ h ∈ rng ws.length,kin ws ls T h=false
end
theorem qO {i:Nat}{h:Int}{g:Bool}{ρ:bE}{Q:bE->Prop} (q:Q (ρ.set i (some (.sh true (.int h))))):cO i (.int h) g ρ Q:=by
 show Q (ρ.set i (some (.sh (g || true) (.int h))))
 rw [Bool.or_true]; exact q
def az8 (ns S:List Int):Int:=(ns.length:Int) - (((ns.filter fun x=>decide (x ∈ S)).length:Nat):Int)
def az9 (ws:List Int) (ls:List (Int × Int)) (S:List Int) (h:Int):Bool:=decide (az8 (tD ls h) S < ws.getD h.toNat 0)
def stay (ws:List Int) (ls:List (Int × Int)) (S:List Int):List Int:=S.filter (az9 ws ls S)
end Core
namespace Raw
open PySem PySem.W PyProof.Rows
section
variable {prog : Program} {w : World} {A : Around} {E : Value → Shared → Prop} {s : Shared} {T : String} {r d : Addr} {n : Nat} {P : Nat → Value → Prop} {OK : Heap → Prop}
theorem aA0 {R:Result->Shared->Prop} (K:KdlSrc prog w T r d n P OK) (hh:A.handled=none) (hok:OK s.heap) (hn:n<=sizeLine)
  (hR:∀ h' tk acc c,(∀ b o,b ≠ s.heap.objs.size->(s.heap.push { cls:=.type "list",data:=.seq ([]:List Value).toArray }).get? b=some o->h'.get? b=some o)->h'.get? s.heap.objs.size=some { cls:=.type "list",dict:=none,data:=.seq acc c,slots:=#[] }->ItemsOf P acc n->R (.ok (.ret (.ref s.heap.objs.size))) { s with heap:=h',toks:=tk }) :
  codeAny (model prog w) A (.builtin "proto.collect" ⟨[.ref r],[]⟩) R s:=by
 have lt:=K.there _ hok
 refine bc2 PySem.F.entry_proto_collect ?_
 rw [aX2 PySem.F.plain_proto_collect _]
 show wpAny _ A.in1 (newList [] >>= fun l=>again (.builtin "list.__iadd__" ⟨[l,.ref r],[]⟩)) _ _ s
 refine aQ7 (aV4 ?_)
 refine aR3 ⟨bc5 PySem.F.plain_list_iadd _,bc2 PySem.F.entry_list_iadd ?_⟩
 rw [aX2 PySem.F.plain_list_iadd _]
 show wpAny _ A.in1 (Builtin.List.listExtendWith (.ref s.heap.objs.size) (.ref r) (.ref s.heap.objs.size)) _ _ _
 exact kdl_extend (s:={ s with heap:=s.heap.push { cls:=.type "list",data:=.seq ([]:List Value).toArray } }) (R:=R) K hh (K.keep _ _ hok fun b _ o e=>aQ9 _ e) s.heap.objs.size (bb3 lt.1) (bb3 lt.2) _ 0 (aS5 _ rfl) hR hn
theorem aA1 {Q:List Value->Shared->Prop} (K:KdlSrc prog w T r d n P OK) (hh:A.handled=none) (hok:OK s.heap) (hn:n<=sizeLine)
  (hQ:∀ h' tk acc,(∀ b o,s.heap.get? b=some o->h'.get? b=some o)->s.heap.objs.size<=h'.objs.size->ItemsOf P acc n->Q acc.toList { s with heap:=h',toks:=tk }) :
  wpAny (model prog w) A (collect (.ref r)) Q E s:=by
 unfold collect
 refine aQ7 (wpAny_runValue (aA0 (s:=s) K hh hok hn fun h' tk acc c kp at1 it=>?_))
 show wpAny _ A (load s.heap.objs.size >>= _) _ _ _
 refine aQ7 (wpAny_load at1 ?_)
 exact aR3 (hQ h' tk acc (fun b o e=>kp b o (aU5 (aS4 e)) (aQ9 _ e)) (bc6 (aS4 at1)) it)
end
end Raw
namespace Core
open PySem L2 PP
theorem K5 {xs:List PV}{w:Int} (h:0<=w):iB xs none (some w)=xs.take w.toNat:=by
 unfold iB
 rw [HT.ae8,List.drop_zero,Nat.sub_zero]
 have:HT.aT xs.length xs.length (some w)=min w.toNat xs.length:=by
  show (if w < 0 then (w+(xs.length:Int)).toNat else min w.toNat xs.length)=_
  rw [if_neg (by omega)]
 rw [this,<- List.take_take,aZ5]
end Core
namespace PP
open PySem L2 PyProof.Rows
def iF (xs ys:List PV):List PV:=List.zipWith (fun x y=>PV.tup [x,y]) xs ys
theorem vD (xs ys:List PV):(iF xs ys).length=min xs.length ys.length:=by unfold iF; rw [List.length_zipWith]
theorem K6 {xs ys:List PV}{i:Nat}{x y:PV} (h:xs[i]? = some x) (h':ys[i]? = some y):(iF xs ys)[i]? = some (.tup [x,y]):=by
 unfold iF; rw [List.getElem?_zipWith,h,h']
theorem aA2 {xs ys:List PV}{i:Nat}{z:PV} (h:(iF xs ys)[i]? = some z):∃ x y,xs[i]? = some x/\ys[i]? = some y/\z = .tup [x,y]:=by
 unfold iF at h
 rw [List.getElem?_zipWith] at h
 cases e:xs[i]? with
 | none=>rw [e] at h; cases h
 | some x=>
  cases e':ys[i]? with
  | none=>rw [e,e'] at h; cases h
  | some y=>rw [e,e'] at h; exact⟨x,y,rfl,rfl,(aT5 h).symm⟩
theorem aA3 {K:PySem.W.Frag}{H0:Hp}{W:Addr->Prop}{g:Bool}{H1:Hp}{a b:Addr}{us vs:List V}{xs ys:List PV} (tw:∀ a,W a->∃ o,H1 a=some o/\eQ o=true) (ha:∀ W' H',Ev W H1 W' H'->aN K H' a us) (hb:∀ W' H',Ev W H1 W' H'->aN K H' b vs)
  (r:Reps K (Ms H0 W g) H1 us xs) (r':Reps K (Ms H0 W g) H1 vs ys):jN K H0 W g H1 (tG K a b) (iF xs ys):=by
 have lr:=r.length
 have lr':=r'.length
 have ll:=vD xs ys
 refine⟨fun W' H' i e hi=>⟨us,vs,us[i]'(by omega),vs[i]'(by omega),ha W' H' e,hb W' H' e,by simp,by simp⟩,fun W' H' i v H2 e y hi=>?_,fun W' H' e=>⟨us,vs,ha W' H' e,hb W' H' e,by omega⟩⟩
 obtain ⟨T,x,y',hT,rfl,rfl,y⟩:=y
 obtain ⟨h1,h2⟩:=y us vs (ha W' _ e) (hb W' _ e)
 obtain ⟨z,hz,rz⟩:=r.get h1
 obtain ⟨z',hz',rz'⟩:=r'.get h2
 have sm:=bZ hT (HO.tup [x,y'])
 exact⟨sm,_,K6 hz hz',.tup cC (.cons ((rz.keep (e.keep tw)).same sm fun _ q=>q) (.cons ((rz'.keep (e.keep tw)).same sm fun _ q=>q) .nil))⟩
end PP
namespace Core
open PySem L2 PP
theorem oT {ls:List (Int × Int)}{wts:List Int} (e:wts.length=ls.length):(ls.zip wts).map (·.2)=wts:=by
 rw [List.map_snd_zip]; omega
section
variable {ws : List Int} {ls : List (Int × Int)} {ns wts : List Int} {m : Nat}
def loose (ls:List (Int × Int)) (wts ns:List Int):List ((Int × Int) × Int):=(ls.zip wts).filter fun z=>!(decide (z.1.1 ∈ ns) && decide (z.1.2 ∈ ns))
end
end Core
namespace PP
open PySem L2 PyProof.Rows
section
variable {X : Cx} {a b e : Expr} {ta tb te : aB} {D : dM} {σ : L2.St} {H : Hp} {pos p2 : Pos}
def lY (p:gS) (te:aB):aS:=fun D ρ=>te ρ fun x g=>tP g x/\p x (tO g x) ρ fun ρ2=>D.nx ρ2
theorem K7 {p:gS}{g:TG}{own:Nat->Prop} (hg:kF X.K own p g) (h:LS X (lY p te) D σ H):mF (LE X te) g D σ H:=by
 obtain ⟨W,ρ,D',px,q,k⟩:=h
 refine⟨W,ρ,_,px,q,?_⟩
 rintro v H1 x gt s r ⟨st,q⟩
 refine hg X.H₀ W σ ρ H1 v x _ _ _ (px.mono s) (zM px st r) q fun σ' ρ' px' _ _ q'=>?_
 exact k.nx W σ' H1 ρ' (Ev.same s) px' q'
theorem K8 (i j:Nat) {x y:Str}{tp xp yp:Pos}{kt:Nat} (hN:X.N.Nodup) (he:QE X e te) (hx:X.N[i]? = some x:=by rfl) (hy:X.N[j]? = some y:=by rfl) (hlx:fX X.env.scope x:=by first | exact Or.inl rfl | exact Or.inr rfl) (hly:fX X.env.scope y:=by first | exact Or.inl rfl | exact Or.inr rfl)
  (hfx:X.fn x=true ∨ X.env.scope.names.lookup x=some .local:=by first | exact .inl rfl | exact .inr rfl) (hfy:X.fn y=true ∨ X.env.scope.names.lookup y=some .local:=by first | exact .inl rfl | exact .inr rfl) (hc:X.calm=true:=by rfl)
  (hs:swapsWithSole [.Tuple [.Name x xp,.Name y yp] kt tp] e pos.line X.env=pure false:=by rfl) (hw:swappedStores [.Tuple [.Name x xp,.Name y yp] kt tp] e X.env=pure none:=by rfl):QS X (.Assign [.Tuple [.Name x xp,.Name y yp] kt tp] e pos) (lY (iW i j) te):=by
 have g:PG X (.Tuple [.Name x xp,.Name y yp] kt tp) (l5 X.K 2 (fB (dD i) (fB (dD j) l4))):=oE hc (i5 (fY hN hx hlx hfx) (i5 (fY hN hy hly hfy) oD))
 exact eC (wR he g hs hw) fun _ _ _=>K7 (tV _ i j)
end
end PP
set_option maxHeartbeats 1000000
set_option maxHeartbeats 1000000
set_option maxHeartbeats 1000000
set_option maxHeartbeats 1000000
namespace PP
open PySem L2 PyProof.Rows
abbrev eV:=(Str->Prop)->bO
def EX (K:PySem.W.Frag) (H0:Hp) (Ep:Str->Prop):XK:=fun c d H'=>d=none/\aC H0 H'/\∃ n C,c = .ref C/\PySem.W.nsIn K mainGlobals n=some (some (.ref C))/\Ep n
def K9 (K:PySem.W.Frag) (p:eV):Sp:=fun vs H Q E=>∃ xs Qp Ep,Reps K (fun _=>True) H vs xs/\p Ep xs Qp/\(∀ v H' x,aC H H'->aA K (fun a=>H a=none) H' v x->Qp x->Q v H')/\
 ∀ n C H',aC H H'->PySem.W.nsIn K mainGlobals n=some (some (.ref C))->Ep n->E (.ref C) none H'
structure cQ (P:Program) (w:World) (K:PySem.W.Frag) (mg:Str->Option Value) (base:Heap) (k:Nat) (x:Str) (ps:List Str) (p:eV):Prop where
 ex:∃ f fd,dH P w K mg base (eD P w) k f fd ps (K9 K p)/\jJ K fd ps []/\PySem.W.keepIn K (.ref f)=true/\mg x=some (.ref f)
section
variable {X : Cx} {σ : L2.St} {H : Hp} {D : dM} {tr : cL} {Q' : VK} {a b c e : Expr} {es : List Expr} {pos p2 cp np hp : Pos} {t : aS} {te : aB} {tc : cH}
def kQ (Ep:Str->Prop) (p:eV) (t:cL):aB:=aG (p Ep) t
theorem L0 {p:eV}{Ep:Str->Prop} (h:LE X (kQ Ep p tr) σ H Q'):sM (K9 X.K p) [] (EX X.K X.H₀ Ep) (LA X tr) σ H Q':=by
 obtain ⟨W,ρ,Q,px,q,k⟩:=h
 refine⟨W,ρ,_,px,q,fun vs H1 xs s1 r1 q1=>⟨_,_,Ep,by rw [aX8]; exact r1.any,q1,fun v H' x s2 r2 q2=>k v H' x .fr (s1.trans s2) (r2.same (aC.refl _) fun _ z=>s1.free z) q2,fun n C H' s2 z1 z2=>⟨rfl,(px.same.trans s1).trans s2,n,C,rfl,z1,z2⟩⟩⟩
theorem nW {Ep:Str->Prop}{k j:Nat}{x:Str}{ps:List Str}{p:eV} (hX:lU X (EX X.K X.H₀ Ep)) (d:cQ X.prog X.w X.K X.mg X.base k x ps p) (hr:bY j X.A) (ha:QA X (e :: es) tr) (hkj:k<=j:=by decide) (hg:Gl X x:=by rfl) (hdb:(x == ("__debug__" : Str))=false:=by decide)
  (he:starEach (e :: es) X.env=(false,eval e X.env) :: starEach es X.env:=by rfl) (hpl:(backTo pos (starEach es X.env)).any (·.1)=false:=by rfl):QE X (.Call (.Name x p2) (e :: es) [] pos) (kQ Ep p tr):=by
 obtain ⟨f,fd,F,b,kp,m⟩:=d.ex
 exact cF (sN F (hr.mono hkj) hg m kp b .nil hX.pass ha hdb he hpl) fun _ _ _=>L0
theorem L1 {k j:Nat}{x:Str}{ps:List Str}{p:eV} (d:cQ X.prog X.w X.K X.mg X.base k x ps p) (hr:bY j X.A) (ha:QA X (e :: es) tr) (hkj:k<=j:=by decide) (hg:Gl X x:=by rfl) (hdb:(x == ("__debug__" : Str))=false:=by decide)
  (he:starEach (e :: es) X.env=(false,eval e X.env) :: starEach es X.env:=by rfl) (hpl:(backTo pos (starEach es X.env)).any (·.1)=false:=by rfl):QE X (.Call (.Name x p2) (e :: es) [] pos) (aG (p fun _=>False) tr):=by
 obtain ⟨f,fd,F,b,kp,m⟩:=d.ex
 refine cF (sN F (E:=EX X.K X.H₀ fun _=>False) (hr.mono hkj) hg m kp b .nil (fun _ _ _ _ _ _ _ h=>?_) ha hdb he hpl) fun _ _ _ h=>L0 (Ep:=fun _=>False) h
 obtain ⟨_,_,_,_,_,_,_,_,_,_,_,_,z⟩:=h
 exact z.elim
def lZ (Ep:Str->Prop) (n:Str) (t:cL):aS:=fun _ ρ=>t ρ fun xs=>xs.length<=1000/\Ep n
theorem aA4 {Ep:Str->Prop}{n:Str}{C:Addr} (hn:PySem.W.nsIn X.K mainGlobals n=some (some (.ref C))) (h:LS X (lZ Ep n tr) D σ H):G3 (EX X.K X.H₀ Ep) C (LA X tr) D σ H:=by
 obtain ⟨W,ρ,D',px,q,k⟩:=h
 exact⟨W,ρ,_,px,q,fun vs H1 xs s1 r z=>⟨by rw [r.length]; exact tM z.1,rfl,px.same.trans s1,n,C,rfl,hn,z.2⟩⟩
structure Xc (K:PySem.W.Frag) (mg:Str->Option Value) (base:Heap) (n:Str):Prop where
 ex:∃ C B newId initId bm,OwnCls n C bm newId mg base/\ExcBaseFacts B newId initId bm/\PySem.W.nsIn K mainGlobals n=some (some (.ref C))
theorem qP {Ep:Str->Prop}{n:Str} (hX:lU X (EX X.K X.H₀ Ep)) (x:Xc X.K X.mg X.base n) (ha:QA X (e :: es) tr) (hc:X.calm=true:=by rfl) (hg:Gl X n:=by rfl) (hd:(n == ("__debug__" : Str))=false:=by decide)
  (he:starEach (e :: es) X.env=(false,eval e X.env) :: starEach es X.env:=by rfl) (hpl:(backTo cp (starEach es X.env)).any (·.1)=false:=by rfl):QS X (.Raise (some (.Call (.Name n np) (e :: es) [] cp)) none pos) (lZ Ep n tr):=by
 obtain ⟨C,B,newId,initId,bm,O,FB,hn⟩:=x.ex
 exact eC (aw1 hX hc O FB ha hg hd he hpl) fun _ _ _=>aA4 hn
def mL:V->Value
 | .ref a=>.ref a
 | .ty n=>.type n
 | _=>.none
end
structure qQ (K:PySem.W.Frag) (C:Addr):Prop where
 cls:PySem.W.isClsIn K C=true
 ty:PySem.W.typeIn K (.ref C)=some (.type "type")
 ga:PySem.W.findIn K (.ref C) "__getattribute__" = some (some (.builtin "BaseException.__getattribute__"))
 gt:PySem.W.findIn K (.ref C) "__getattr__" = some none
 fc:PySem.W.findIn K (.ref C) "__class__" = some (some (.builtin "object.__class__"))
 fg:PySem.W.specialIn K (.builtin "object.__class__") "__get__" = some (some (.builtin "getset_descriptor.__get__"))
 ft:PySem.W.takesIn K (.builtin "object.__class__")=some true
 ob:PySem.W.mroIn K C (.type "object")=some true
 be:PySem.W.mroIn K C (.type "BaseException")=some true
theorem vE {K:PySem.W.Frag}{h₀:Heap}{mg:Str->Option Value}{x:Str}{C:Addr}{bmB:List Value}{newId:String} (X:K.In h₀) (m:mg x=some (.ref C)) (q:PySem.W.excIn K C bmB newId=true):OwnCls x C bmB newId mg h₀:=by
 refine⟨m,?_⟩
 unfold PySem.W.excIn at q
 split at q
 case h_2=>cases q
 rename_i dd cd sl ho
 split at q
 case h_2=>cases q
 rename_i C' bm k0 k1 k2 k3 n k5 hm hs
 simp only [aZ2,beq_iff_eq,Bool.not_eq_true'] at q
 obtain ⟨⟨⟨⟨⟨rfl,rfl⟩,dl⟩,ht⟩,hok⟩,hni⟩:=q
 obtain ⟨nm,bs,mro,ns,qn,hd,sn,sub,ab,col,del⟩:=cd
 dsimp only at hm dl hok hni
 subst hm dl
 obtain rfl:sl = #[k0,k1,k2,k3,some (.builtin n),k5]:=by
  obtain ⟨l⟩:=sl
  exact congrArg Array.mk hs
 exact⟨bm,ns,nm,qn,bs,hd,sn,sub,ab,col,dd,k0,k1,k2,k3,k5,_,X _ _ ho,.of_isNs (PySem.W.isNs_of_in X hok),PySem.W.nsMap_none_of_in X hok hni,PySem.W.tail_of_in X ht⟩
theorem cQ.of {P:Program}{w:World}{K:PySem.W.Frag}{mg:Str->Option Value}{base:Heap}{k:Nat}{x:Str}{ps N:List Str}{p:eV}{st:Stmt}{f:Addr}{fd:FuncData} (F:fF K x x st f fd) (m:mg x=some (.ref f)) (S:FnScope N ps (aX st))
  (hb:∀ (kV doc pm:Value) (an:Option Addr) (cdv ct:Value) (us:List Value),us.length=ps.length->bindArgs (PySem.W.fnOf x x (iP st) (dX st) (aX st) .none kV doc pm an cdv ct) ⟨us,[]⟩=pure (ps.zip us))
  (t:(Str->Prop)->aS) (len:∀ Ep xs Q,p Ep xs Q->xs.length=ps.length) (rd:∀ Ep xs Q,p Ep xs Q->t Ep { nx:=fun _=>Q .non,rt:=Q } (eB N xs))
  (body:∀ (cdv:Value) (A:Around) (outer:List Env) (s:Shared) (H:Hp) (E:XK) (Ep:Str->Prop),bY k (A.deeper (envOfC x (aX st) s.heap.objs.size f cdv))->lU (cV (eD P w) P w K mg base N x (aX st) f cdv A outer s H E) (EX K H Ep)->
   eJ (cV (eD P w) P w K mg base N x (aX st) f cdv A outer s H E) (dX st) (t Ep)):cQ P w K mg base (k+1) x ps p:=by
 refine⟨f,fd,F.okX S (fun vs H Q E h=>?_) (fun cdv A outer s H vs Q E hr h=>?_),F.binds hb,F.kp,m⟩
 ·obtain ⟨xs,Qp,Ep,r,q,_⟩:=h
  rw [r.length]; exact len Ep xs Qp q
 ·obtain ⟨xs,Qp,Ep,r,q,k,ke⟩:=h
  have ht:=body cdv A outer s H E Ep hr (aw0 fun c d H' z=>?_)
  ·refine⟨_,ht,fun _=>False,eB N xs,_,uJ r,rd Ep xs Qp q,?_,?_,?_,?_⟩
   ·exact fun W' σ' H' ρ' e px q=>k _ _ _ px.same .non q
   ·exact fun v H' x s r q=>k _ _ _ s r q
   ·exact fun W' σ' H' ρ' e px q=>q
   ·exact fun W' σ' H' ρ' e px q=>q
  ·obtain ⟨rfl,s1,n,C,rfl,z1,z2⟩:=z
   exact ke n C H' s1 z1 z2
end PP
namespace Core
open PySem L2 PP
abbrev nX (t:(Str->Prop)->aS) (N:List Str) (p:eV):Prop:=∀ Ep xs Q,p Ep xs Q->t Ep { nx:=fun _=>Q .non,rt:=Q } (eB N xs)
end Core
namespace PP
open PySem L2
theorem vF {us:List Value} (h:us.length=1):∃ a,us = [a]:=List.length_eq_one_iff.mp h
theorem vG {us:List Value} (h:us.length=2):∃ a b,us = [a,b]:=by
 cases us with
 | nil=>cases h
 | cons a r=>
  obtain ⟨b,rfl⟩:=vF (us:=r) (by simpa using h)
  exact⟨a,b,rfl⟩
theorem vH {us:List Value} (h:us.length=3):∃ a b c,us = [a,b,c]:=by
 cases us with
 | nil=>cases h
 | cons a r=>
  obtain ⟨b,c,rfl⟩:=vG (us:=r) (by simpa using h)
  exact⟨a,b,c,rfl⟩
theorem L3 {us:List Value} (h:us.length=4):∃ a b c d,us = [a,b,c,d]:=by
 cases us with
 | nil=>cases h
 | cons a r=>
  obtain ⟨b,c,d,rfl⟩:=vH (us:=r) (by simpa using h)
  exact⟨a,b,c,d,rfl⟩
section
variable {X : Cx} {e : Expr} {tk : aB} {D : dM} {σ : St} {H : Hp} {pos : Pos}
def qR (i:Nat) (tk:aB):aS:=fun D ρ=>∃ ps,ρ[i]? = some (some (.own (.dT ps)))/\tk ρ fun y _=>∃ k,y = .tup (k.map kP)/\(∃ j:Nat,(ps.map (·.1))[j]? = some k)/\∀ j:Nat,(ps.map (·.1))[j]? = some k->D.nx (ρ.set i (some (.own (.dT (ps.eraseIdx j)))))
theorem aA5 {i:Nat} (h:LS X (qR i tk) D σ H):l0 (G7 (jX i) (LE X tk)) D σ H:=by
 obtain ⟨W,ρ,D',px,⟨ps,hi,q⟩,k⟩:=h
 obtain ⟨v,ev,a,rfl,wa,kvs,ea,e1,r⟩:=px.sl i _ hi
 refine⟨_,ev,a,rfl,.inr ⟨kvs,.inl ea⟩,W,ρ,_,px,q,?_⟩
 rintro kv H2 y g s ry ⟨kk,rfl,is,q⟩
 obtain ⟨b,us,rfl,hb,rb⟩:=ry.sqT
 obtain rfl:=pG rb
 have ea2:=s _ _ ea
 refine⟨kvs,kk,b,ea2,rfl,hb,by rw [e1]; exact is,fun j v hj=>?_⟩
 rw [e1] at hj
 refine k.nx W σ _ _ ((Ev.same s).trans (Ev.upd wa)) ((px.mono s).updT hi ev wa ⟨?_,?_⟩) (q j hj)
 ·rw [Raw.j7,Raw.j7,e1]
 ·rw [Raw.j7,Raw.j7]
  exact ((r.same s fun _ z=>z).eraseIdx j).keep (.upd ea2 rfl fun b m=>⟨mT wa m,m⟩)
theorem L4 (i:Nat) {x:Str}{apos cpos xpos:Pos} (hu:X.A.units+1 < cLine) (he:QE X e tk) (hm:M1 X (.Name x xpos) "pop" apos e cpos:=by exact⟨rfl,rfl,rfl,rfl⟩) (hN:X.N[i]? = some x:=by rfl) (hv:iL X.env.scope x:=by first | exact Or.inl rfl | exact Or.inr (Or.inl rfl) | exact Or.inr (Or.inr rfl)) (hd:(x == ("__debug__" : Str))=false:=by decide) (hcd:(x == ("__classdict__" : Str))=false:=by decide)
  (hsw:swapsWith (.Call (.Attribute (.Name x xpos) "pop" apos) [e] [] cpos) none pos.line X.env=pure false:=by rfl):QS X (.Expr (.Call (.Attribute (.Name x xpos) "pop" apos) [e] [] cpos) pos) (qR i tk):=
 eC (mE (aw5 hu (kZ hN hv hd hcd) he hm) hsw) fun _ _ _=>aA5
end
end PP
namespace Core
open PySem L2 PP
theorem vI:∀ (m:Nat) (l:List Nat),l.Nodup->(∀ x ∈ l,x < m)->l.length<=m
 | 0,[],_,_=>aR8 _
 | 0,x :: _,_,h=>absurd (h x aS3) (Nat.not_lt_zero _)
 | m+1,l,nd,h=>by
  by_cases hm:m ∈ l
  ·have h1:=vI m (l.erase m) (nd.erase m) fun x hx=>by
    obtain ⟨h2,h3⟩:=(nd.mem_erase_iff).mp hx
    have:=h x h3
    omega
   rw [List.length_erase_of_mem hm] at h1
   omega
  ·have h1:=vI m l nd fun x hx=>by
    have:=h x hx
    have:x ≠ m:=fun z=>hm (z ▸ hx)
    omega
   omega
end Core
namespace PP
open PySem L2
section
variable {X : Cx} {e : Expr} {tr : cL} {pos p2 : Pos}
def nY:List PV->(PV->Prop)->Prop:=fun xs Q=>∃ ys:List (List Int),xs = [.lst (ys.map fun r=>PV.tup (intz r))]/\ys.length<=4096/\(∀ y ∈ ys,y.length=2)/\∀ zs:List (List Int),zs.Perm ys->zs.Pairwise (fun u v=>HT.aI v u=false)->Q (.lst (zs.map fun r=>PV.tup (intz r)))
theorem aA6:eI X nY (G2 X.K):=by
 rintro H vs xs Q Q' r ⟨ys,rfl,hl,hne,q⟩ k
 obtain ⟨v,rfl,r1⟩:=r.one
 obtain ⟨a,us,rfl,_,h,r2⟩:=r1.sqL
 obtain ⟨h1,h2⟩:=uZ r2
 have lr:=r2.length
 rw [aS0] at lr
 refine⟨a,us,jA H,rfl,aP.of h,by omega,fun y hy=>?_,fun l zs hl' pm so=>?_⟩
 ·obtain ⟨b,rfl,hb⟩:=h2 y hy
  refine⟨b,rfl,aN.of hb,hne _ ?_⟩
  rw [<- h1]; exact aU2.mpr ⟨_,hy,rfl⟩
 ·have hz:∀ u ∈ zs,∃ b,u = .ref b/\H b=some (.tup ((jA H u).map V.int)):=fun u hu=>h2 u (pm.mem_iff.mp hu)
  refine k _ _ _ (bZ hl' _) (.lst hl' cC ((v5 hz).same (bZ hl' _) fun _ z=>z)) (q _ ?_ ?_)
  ·rw [<- h1]; exact pm.map _
  ·rw [ba5]; exact so
theorem vJ (B:Bt X.mg) (ha:QA X [e] tr) (hg:Gl X "sorted":=by rfl) (he:starEach [e] X.env=(false,eval e X.env) :: starEach [] X.env:=by rfl) (hpl:(backTo pos (starEach [] X.env)).any (·.1)=false:=by rfl):QE X (.Call (.Name "sorted" p2) [e] [] pos) (aG nY tr):=
 iD av7 aA6 hg B.sorted PyProof.Rows.boot_sorted ha (he:=he) (hpl:=hpl)
end
end PP
namespace Core
open PySem L2 PP
theorem L5 (n:Nat):∀ (a b:List (List Int)),((((tups a).zip (tups b)).all fun p=>bL (n+1) p.1 p.2) && (tups a).length == (tups b).length)=decide (a=b)
 | [],[]=>rfl
 | [],_ :: _=>by simp [tups]
 | _ :: _,[]=>by simp [tups]
 | x :: a,y :: b=>by
  have ih:=L5 n a b
  have e:∀ (z:List Int) (c:List (List Int)),tups (z :: c)=PV.tup (intz z) :: tups c:=fun _ _=>rfl
  rw [e,e]
  simp only [aY4,bg0,aV5,u5] at ih ⊢
  by_cases h:x=y
  ·subst h
   have:((tups a).length+1 == (tups b).length+1)=((tups a).length == (tups b).length):=by simp
   rw [this,aR6 rfl,Bool.true_and,ih]
   simp
  ·rw [aR2 h,bb8,bb8]
   simp [h]
theorem L6 (n:Nat) (a b:List (List Int)):bL (n+2) (.lst (tups a)) (.lst (tups b))=decide (a=b):=L5 n a b
theorem vK (n:Nat):∀ (a b:List (List Int)),cM (n+2) (.lst (tups a)) (.lst (tups b))=true
 | [],_=>by unfold cM tups; simp
 | _ :: _,[]=>by unfold cM tups; simp
 | x :: a,y :: b=>by
  have ih:=vK n a b
  show (((PV.tup (intz x) :: tups a).zip (PV.tup (intz y) :: tups b)).all fun p=>cM (n+1) p.1 p.2)=true
  rw [aY4,bg0,u6,Bool.true_and]
  exact ih
abbrev L7 (bs:List Bool):List PV:=bs.map PV.bl
section
variable {ws : List Int} {ls : List (Int × Int)}
def cne (ws:List Int) (ls:List (Int × Int)) (S:List Int):Bool:=!decide (S = []) && decide (stay ws ls S=S)
theorem aA7 {a b:List (List Int)} (h:a.Perm b) (ha:a.Pairwise fun u v=>HT.aI v u=false) (hb:b.Pairwise fun u v=>HT.aI v u=false):a=b:=
 h.eq_of_pairwise (fun x y _ _ h1 h2=>oU h2 h1) ha hb
end
end Core
namespace PP
open PySem L2
section
variable {X : Cx} {a b : Expr} {ta tb : aB} {pos : Pos}
theorem aA8 {K:PySem.W.Frag}{M M':Addr->Prop}{H:Hp}{v:V}{m n:List Int} (r1:aA K M H v (.tup (intz m))) (r2:aA K M' H v (.tup (intz n))):m=n:=by
 obtain ⟨p,us,rfl,h1,q1⟩:=r1.sqT
 obtain ⟨p2,ws,e,h2,q2⟩:=r2.sqT
 cases e
 rw [h1] at h2
 cases h2
 have:=(q1.ofInts).symm.trans q2.ofInts
 exact (List.map_inj_right fun _ _ e=>by cases e; rfl).mp this
end
end PP
namespace Core
open PySem L2 PP
def far (ns S:List Int):Bool:=decide (((S.filter fun x=>decide (x ∈ ns)).length:Int)=0)
def L8 (ws:List Int) (ls:List (Int × Int)):List Int->List Int->Bool
 | _,[]=>true
 | B,h :: R=>inB ws.length h && (kin ws ls B h && L8 ws ls (B ++ [h]) R)
end Core
namespace Raw
open PySem PySem.W PySem.Calls PyProof.Rows
theorem vL {xs:List Nat} (a:xs.Pairwise (· < ·)) {i k:Nat} (hk:k < xs.length) (h:i<=k):xs.getD i 0<=xs.getD k 0:=by
 rcases aV8 i k with z | z
 ·have:=aV3.mp a i k (by omega) hk z
  rw [aT1,aT1,aR0 (by omega),aR0 hk]
  exact bc6 this
 ·rw [Nat.le_antisymm h z]; exact aR8 _
theorem aA9 {xs:Array Nat}{i j:Nat} (h:i < xs.size):xs.getD i j=xs.toList.getD i 0:=by
 rw [aT1,ba1,Array.getD_eq_getD_getElem?,Array.getElem?_eq_getElem h]; rfl
theorem vM {xs:Array Nat}{j:Nat} (a:xs.toList.Pairwise (· < ·)):∀ (fuel lo hi:Nat),lo<=hi->hi<=xs.size->hi - lo<=fuel->(∀ i,i < lo->xs.toList.getD i 0 < j)->(∀ i,hi<=i->i < xs.size->j<=xs.toList.getD i 0)->
  SetTable.below.go xs j fuel lo hi<=xs.size/\(∀ i,i < SetTable.below.go xs j fuel lo hi->xs.toList.getD i 0 < j)/\∀ i,SetTable.below.go xs j fuel lo hi<=i->i < xs.size->j<=xs.toList.getD i 0
 | 0,lo,hi,h1,h2,h3,h4,h5=>by
  have e:lo=hi:=by omega
  subst e
  exact⟨h2,h4,h5⟩
 | fuel+1,lo,hi,h1,h2,h3,h4,h5=>by
  have sz:xs.toList.length=xs.size:=aW1
  unfold SetTable.below.go
  by_cases lt:lo < hi
  ·rw [if_pos lt]
   dsimp only
   have m1:lo<=(lo+hi) / 2:=by omega
   have m2:(lo+hi) / 2 < hi:=by omega
   rw [aA9 (by omega)]
   by_cases c:xs.toList.getD ((lo+hi) / 2) 0 < j
   ·rw [if_pos c]
    exact vM a fuel _ _ (by omega) h2 (by omega) (fun i hi'=>Nat.lt_of_le_of_lt (vL a (by omega) (by omega)) c) h5
   ·rw [if_neg c]
    exact vM a fuel _ _ (by omega) (by omega) (by omega) h4 fun i h6 h7=>aU8 (Nat.le_of_not_lt c) (vL a (by omega) h6)
  ·rw [if_neg lt]
   have e:lo=hi:=by omega
   subst e
   exact⟨h2,h4,h5⟩
theorem aB0 {xs:Array Nat}{j:Nat} (a:xs.toList.Pairwise (· < ·)):SetTable.below xs j<=xs.size/\(∀ i,i < SetTable.below xs j->xs.toList.getD i 0 < j)/\∀ i,SetTable.below xs j<=i->i < xs.size->j<=xs.toList.getD i 0:=
 vM a xs.size 0 xs.size (aZ6 _) (aR8 _) (by omega) (fun i h=>absurd h (Nat.not_lt_zero _)) fun i h1 h2=>absurd h2 (by omega)
theorem aB1 {α:Type} (xs:Array α) (p:Nat) (x:α):(SetTable.insertAt xs p x).toList=xs.toList.take p ++ x :: xs.toList.drop p:=by
 unfold SetTable.insertAt
 simp
 exact aY7 (by simp)
theorem aB2 {xs:Array Nat}{j:Nat} (a:xs.toList.Pairwise (· < ·)) (ne:xs[SetTable.below xs j]? ≠ some j):(SetTable.insertAt xs (SetTable.below xs j) j).toList.Pairwise (· < ·):=by
 obtain ⟨b1,b2,b3⟩:=aB0 (j:=j) a
 have sz:xs.toList.length=xs.size:=aW1
 rw [aB1]
 refine aT9.mpr ⟨a.sublist (List.take_sublist _ _),List.pairwise_cons.mpr ⟨fun x hx=>?_,a.sublist (List.drop_sublist _ _)⟩,fun x hx y hy=>?_⟩
 ·obtain ⟨i,hi,e⟩:=aX5 hx
  rw [be3] at hi
  rw [List.getElem_drop] at e
  have h1:=b3 (SetTable.below xs j) (aR8 _) (by omega)
  have h2:=vL a (i:=SetTable.below xs j) (k:=SetTable.below xs j+i) (by omega) (by omega)
  have h3:xs.toList.getD (SetTable.below xs j+i) 0=x:=by rw [aT1,aR0 (by omega),e]; rfl
  rcases aV8 j x with z | z
  ·exact z
  ·exfalso
   have h4:xs.toList.getD (SetTable.below xs j) 0=j:=by omega
   rw [aT1,aR0 (by omega)] at h4
   refine ne ?_
   rw [<- ba1,aR0 (by omega)]
   exact congrArg some h4
 ·have hx':x < j:=by
   obtain ⟨i,hi,e⟩:=aX5 hx
   rw [List.length_take] at hi
   rw [List.getElem_take] at e
   have:=b2 i (by omega)
   rw [aT1,aR0 (by omega),e] at this
   exact this
  rcases aR5.mp hy with e | hy
  ·rw [e]; exact hx'
  ·obtain ⟨i,hi,e⟩:=aX5 hy
   rw [be3] at hi
   rw [List.getElem_drop] at e
   have:=b3 (SetTable.below xs j+i) (by omega) (by omega)
   rw [aT1,aR0 (by omega),e] at this
   exact aT0 hx' this
structure gZ (b:Bool) (t:SetTable):Prop where
 asc:t.place.toList.Pairwise (· < ·)
 dm:t.dummies = #[]
 led:t.led=b
theorem L9 (j:Nat):SetTable.has #[] j=false:=by
 unfold SetTable.has
 simp
theorem M0 {t:SetTable} (dm:t.dummies = #[]) {h:Int}{j:Nat}{d:Option Nat}:∀ (fuel:Nat) (p:SetTable.Probe),p.dummy=none->SetTable.probe.go t (fun _=>h+1) h fuel p=some (.empty j d)->d=none/\t.slot j = .empty
 | 0,p,_,e=>by cases e
 | fuel+1,p,hp,e=>by
  unfold SetTable.probe.go at e
  have adv:∀ p:SetTable.Probe,p.dummy=none->(t.advance p).dummy=none:=fun p hp=>by
   unfold SetTable.advance
   split <;> exact hp
  cases hs:t.slot p.j with
  | empty=>
   rw [hs] at e
   cases e
   exact⟨hp,hs⟩
  | dummy=>
   exfalso
   unfold SetTable.slot at hs
   dsimp only at hs
   rw [dm,L9] at hs
   split at hs <;> cases hs
  | live i=>
   rw [hs] at e
   dsimp only at e
   rw [if_neg (by simp; omega)] at e
   exact M0 dm fuel _ (adv p hp) e
theorem aB3 {t:SetTable} (dm:t.dummies = #[]) {h:Int}{sl:Nat}{d:Bool} (e:t.freeSlot h=some (sl,d)):t.slot sl = .empty:=by
 unfold SetTable.freeSlot at e
 split at e
 ·rename_i j dummy hm
  obtain ⟨e1,e2⟩:=M0 dm _ _ rfl hm
  subst e1
  cases e
  exact e2
 ·cases e
theorem qS {b:Bool}{t:SetTable} (h:gZ b t) (n:Nat):gZ b (t.standIn n):=⟨by
 show (Array.range n).toList.Pairwise (· < ·)
 rw [Array.toList_range]; exact List.pairwise_lt_range,rfl,h.led⟩
theorem aB4 {b:Bool}{t:SetTable} (h:gZ b t) {j:Nat} (hs:t.slot j = .empty):gZ b (t.put j).1:=by
 refine⟨?_,?_,h.led⟩
 ·refine aB2 h.asc fun e=>?_
  unfold SetTable.slot at hs
  dsimp only at hs
  rw [if_pos (by rw [e]; exact aZ3 _)] at hs
  cases hs
 ·show (if SetTable.has t.dummies j then SetTable.eraseAt t.dummies (SetTable.below t.dummies j) else t.dummies) = #[]
  rw [h.dm,L9]; rfl
theorem aB5 {b:Bool}{t:SetTable} (h:gZ b t) (es:Array (Int × Value)) (k:Int) (x:Value):gZ b (layNew t es k x).2.1:=by
 unfold layNew
 split
 ·rename_i sl wd e
  have p:=aB4 h (aB3 h.dm e)
  show gZ b (SetTable.orStandIn _ _)
  unfold SetTable.orStandIn
  split
  ·exact p
  ·exact qS p _
 ·exact qS h _
theorem aB6 {b:Bool}{t:SetTable} (h:gZ b t) (es:Array (Int × Value)) (n:Nat):gZ b (relayAll t es n).2.1:=by
 unfold relayAll
 split
 ·rename_i t' order e
  dsimp only
  split
  ·show gZ b t'
   unfold SetTable.relaid SetTable.laid at e
   cases hc:SetTable.layClean (SetTable.sizeAbove n - 1) (es.map (·.1)) with
   | none=>rw [hc] at e; cases e
   | some owner=>
    rw [hc] at e
    cases e
    refine⟨?_,rfl,h.led⟩
    show (List.map _ _).Pairwise (· < ·)
    refine ba5.mpr (List.Pairwise.filterMap _ (R:=(· < ·)) ?_ List.pairwise_lt_range)
    intro i i' hlt x hx y hy
    cases ho:owner.getD i none with
    | none=>rw [ho] at hx; cases hx
    | some v=>
     rw [ho] at hx
     cases ho2:owner.getD i' none with
     | none=>rw [ho2] at hy; cases hy
     | some v2=>
      rw [ho2] at hy
      cases hx; cases hy
      exact hlt
  ·exact qS h _
 ·exact qS h _
theorem M3 {us vs:List Value} (p:us.Perm vs):∀ {ns:List Int},IntsAre vs ns->∃ ms,IntsAre us ms/\ms.Perm ns:=by
 induction p with
 | nil=>intro ns h; exact⟨ns,h,bb9 _⟩
 | cons x _ ih=>
  intro ns h
  cases h with
  | cons n t r=>
   obtain ⟨ms,h1,h2⟩:=ih r
   exact⟨n :: ms,.cons n t h1,h2.cons n⟩
 | swap x y l=>
  intro ns h
  cases h with
  | cons n t r=>
   cases r with
   | cons n' t' r=>
    exact⟨n' :: n :: _,.cons n' t' (.cons n t r),bg4 _ _ _⟩
 | trans _ _ ih1 ih2=>
  intro ns h
  obtain ⟨ms,h1,h2⟩:=ih2 h
  obtain ⟨ms',h3,h4⟩:=ih1 h1
  exact⟨ms',h3,h4.trans h2⟩
theorem M4:∀ {us:List Value}{ns:List Int},IntsAre us ns->∀ (k:Int) (t:Nat),IntsAre (us ++ [.int k t]) (ns ++ [k])
 | _,_,.nil,k,t=>.cons k t .nil
 | _,_,.cons n u r,k,t=>.cons n u (M4 r k t)
theorem qT:∀ {us:List Value}{ns:List Int},IntsAre us ns->∀ k:Int,k ∈ ns ↔ ∃ t,Value.int k t ∈ us
 | _,_,.nil,k=>⟨(fun h=>nomatch h),(fun ⟨_,h⟩=>nomatch h)⟩
 | _,_,.cons n u r,k=>by
  constructor
  ·intro h
   rcases aR5.mp h with e | h
   ·exact⟨u,by rw [e]; exact aS3⟩
   ·obtain ⟨t,ht⟩:=(qT r k).mp h
    exact⟨t,aR7 _ ht⟩
  ·rintro ⟨t,h⟩
   rcases aR5.mp h with e | h
   ·cases e; exact aS3
   ·exact aR7 _ ((qT r k).mpr ⟨t,h⟩)
abbrev nZ (es:Array (Int × Value)) (ep:Nat) (t:SetTable):Obj:={ cls:=.type "set",dict:=none,data:=.set es ep t,slots:=#[] }
section
variable {prog : Program} {w : World} {A : Around} {E : Value → Shared → Prop} {s : Shared}
def aB7 (prog:Program) (w:World) (es:Array (Int × Value)) (t:SetTable) (ms:List Int):Prop:=ElemsOf (intKind prog w) es.toList/\IntsAre (es.toList.map (·.2)) ms/\es.size < scanBound/\t.fits es.size=true/\gZ (!w.params.followText "set-order") t
def M5 (prog:Program) (w:World) (h:Heap) (a:Addr) (ms:List Int):Prop:=∃ es ep t,h.get? a=some (nZ es ep t)/\aB7 prog w es t ms
theorem M6 {h:Heap}{a:Addr}{es es':Array (Int × Value)}{ep:Nat}{t t':SetTable} (ho:h.get? a=some (nZ es ep t)):(h.update a (Obj.putSet es' t')).get? a=some (nZ es' (ep+1) t'):=by
 have:=ba2 (Obj.putSet es' t') ho (by rw [putSet_of es' t' (rfl:(nZ es ep t).data=_)]; rfl)
 rw [putSet_of es' t' (rfl:(nZ es ep t).data=_)] at this
 exact this
theorem add_int {a:Addr}{ms:List Int}{k:Int}{u:Nat}{Q:Bool->Shared->Prop} (hS:M5 prog w s.heap a ms) (room:ms.length+1 < scanBound)
  (h:∀ b h' ms',Heap.SameBut a s.heap h'->M5 prog w h' a ms'->(k ∈ ms->ms'.Perm ms)->(k ∉ ms->ms'.Perm (ms ++ [k]))->Q b { s with heap:=h' }) :
  wpAny (model prog w) A (setAddHashed a (.int k u) ((intKind prog w).hash k)) Q E s:=by
 obtain ⟨es,ep,t,ho,hel,hi,hb,hf,tk⟩:=hS
 have key:(intKind prog w).is k (.int k u)=true:=intKind_is _ _ _ _
 have ln:ms.length=es.size:=by
  have:=IntsAre.length hi
  rw [aS0,aW1] at this
  exact this.symm
 have isk:∀ v,(intKind prog w).is k v=true->∃ u,v = .int k u:=fun v hv=>Value.isInt_shape hv
 unfold setAddHashed setAddHashedIn
 refine aZ1 (aQ7 (wpAny_setState_of ho rfl hf ?_))
 dsimp only
 rw [byScan_of (knd:=intKind prog w) (x:=.int k u) rfl hb hel,if_pos rfl]
 unfold setAddByScan
 refine aQ7 (aQ7 (be1 ?_))
 refine aQ7 (wpAny_setScan_of key ho rfl hf hel ?_)
 cases hr:List.findIdx? (fun e=>(intKind prog w).is k e.2) es.toList with
 | some j=>
  dsimp only
  obtain ⟨hj,hp,_⟩:=List.findIdx?_eq_some_iff_getElem.mp hr
  have km:k ∈ ms:=by
   obtain ⟨u',e⟩:=isk _ hp
   exact (qT hi k).mpr ⟨u',by rw [<- e]; exact aU2.mpr ⟨_,aZ4 hj,rfl⟩⟩
  have e:s={ s with heap:=s.heap }:=by cases s; rfl
  rw [e]
  exact aR3 (aR3 (h _ s.heap ms (Heap.SameBut.refl a s.heap) ⟨es,ep,t,ho,hel,hi,hb,hf,tk⟩ (fun _=>bb9 _) fun n=>absurd km n))
 | none=>
  dsimp only
  have km:k ∉ ms:=fun z=>by
   obtain ⟨u',hm⟩:=(qT hi k).mp z
   obtain ⟨e,he,e2⟩:=aU2.mp hm
   have:=List.findIdx?_eq_none_iff.mp hr e he
   rw [e2,intKind_is _ _ _ _] at this; cases this
  have lp:=layNew_perm t es ((intKind prog w).hash k) (.int k u)
  have lf:=layNew_fits t es ((intKind prog w).hash k) (.int k u)
  have lk:=aB5 tk es ((intKind prog w).hash k) (.int k u)
  generalize hL:layNew t es ((intKind prog w).hash k) (.int k u)=L at lp lf lk ⊢
  obtain ⟨es1,t1,wd,gave⟩:=L
  dsimp only at lp lf lk ⊢
  rw [Array.toList_push] at lp
  have el1:ElemsOf (intKind prog w) es1.toList:=(hel.push key rfl).perm lp
  have sz1:es1.size=es.size+1:=by rw [<- aW1,lp.length_eq,aU1,aW1]; rfl
  obtain ⟨ms1,i1,p1⟩:∃ ms1,IntsAre (es1.toList.map (·.2)) ms1/\ms1.Perm (ms ++ [k]):=M3 (lp.map (·.2)) (by rw [aT7]; exact M4 hi k u)
  have hb1:es1.size < scanBound:=by omega
  have gw:∀ (b:Bool) (s₁:Shared) (Q':Unit->Shared->Prop),Q' () s₁->wpAny (model prog w) A (match b with | true=>rule "set.scan.the-table-gave-way" | false=>pure ()) Q' E s₁:=fun b s₁ Q' hq=>by
   cases b
   ·exact aR3 hq
   ·exact be1 hq
  refine aQ7 (gw _ _ _ ?_)
  split <;> (
   show wpAny _ _ (storeSet a es1 t1 >>= _) _ _ _
   simp only [↓reduceIte]
   refine aQ7 (wpAny_storeSet_of ho rfl ?_ (fits_of_scanBound hb1))
   have ho1:=M6 (es':=es1) (t':=t1) ho
   have sb1:=bc9 s.heap a (Obj.putSet es1 t1)
   split
   ·have rp:=relayAll_perm t1 es1 (SetTable.grown es1.size)
    have rf:=relayAll_fits t1 es1 (SetTable.grown es1.size)
    have rk:=aB6 lk es1 (SetTable.grown es1.size)
    generalize relayAll t1 es1 (SetTable.grown es1.size)=L at rp rf rk ⊢
    obtain ⟨es2,t2,gave2⟩:=L
    dsimp only at rp rf rk ⊢
    have sz2:es2.size=es1.size:=by rw [<- aW1,rp.length_eq,aW1]
    obtain ⟨ms2,i2,p2⟩:=M3 (rp.map (·.2)) i1
    refine aQ7 (gw _ _ _ ?_)
    refine aQ7 (wpAny_storeSet_of ho1 rfl ?_ (fits_of_scanBound (by omega)))
    exact aR3 (aR3 (h _ _ ms2 (sb1.trans (bc9 _ a _)) ⟨es2,_,t2,M6 ho1,el1.perm rp,i2,by omega,rf,rk⟩ (fun z=>absurd z km) fun _=>p2.trans p1))
   ·exact aR3 (aR3 (h _ _ ms1 sb1 ⟨es1,_,t1,ho1,el1,i1,hb1,lf,lk⟩ (fun z=>absurd z km) fun _=>p1)))
end
end Raw
namespace L2
open PySem PySem.Spec PyProof.Rows
theorem aB8 {a b c:List Int} (h1:HT.aI a b=true) (h2:HT.aI b c=true):HT.aI a c=true:=by
 cases e:HT.aI a c with
 | true=>rfl
 | false=>
  have ca:=t8 (kB h2) (kB h1)
  have:=oU e ca
  subst this
  have:=kB h1
  rw [h2] at this; cases this
theorem vN {α:Type}{p q:α->Bool}:∀ {l:List α},(∀ x ∈ l,p x=true->q x=true)->(l.filter p).length<=(l.filter q).length
 | [],_=>aR8 _
 | x :: l,h=>by
  have ih:=vN (l:=l) fun y hy=>h y (aR7 _ hy)
  have hx:=h x aS3
  rw [List.filter_cons,List.filter_cons]
  cases ep:p x with
  | false=>cases q x <;> simp <;> omega
  | true=>rw [hx ep]; simp; omega
theorem M7 {α:Type}{p q:α->Bool}:∀ {l:List α},(∀ x ∈ l,p x=true->q x=true)->(∃ x ∈ l,q x=true/\p x=false)->(l.filter p).length < (l.filter q).length
 | [],_,e=>by obtain ⟨_,z,_⟩:=e; cases z
 | x :: l,h,e=>by
  have hx:=h x aS3
  have h':∀ y ∈ l,p y=true->q y=true:=fun y hy=>h y (aR7 _ hy)
  have le:=vN h'
  rw [List.filter_cons,List.filter_cons]
  obtain ⟨y,hy,qy,py⟩:=e
  rcases aR5.mp hy with rfl | hy
  ·rw [qy,py]; simp; omega
  ·have ih:=M7 h' ⟨y,hy,qy,py⟩
   cases ep:p x with
   | false=>cases q x <;> simp <;> omega
   | true=>rw [hx ep]; simp; omega
def kR (ys:List (List Int)) (x:List Int):Nat:=(ys.filter fun y=>HT.aI y x).length
theorem M8 {ys:List (List Int)}{u v:List Int} (hu:u ∈ ys) (hv:v ∈ ys):HT.aI u v=decide ((kR ys u:Int) < (kR ys v:Int)):=by
 have irr:∀ a:List Int,HT.aI a a=false:=fun a=>by
  cases e:HT.aI a a with
  | false=>rfl
  | true=>have:=kB e; rw [e] at this; cases this
 cases e:HT.aI u v with
 | true=>
  have:kR ys u < kR ys v:=M7 (fun x _ h=>aB8 h e) ⟨u,hu,e,irr u⟩
  exact (aR6 (by omega)).symm
 | false=>
  have:kR ys v<=kR ys u:=vN fun x _ h=>by
   cases e2:HT.aI x u with
   | true=>rfl
   | false=>have:=t8 e2 e; rw [h] at this; cases this
  exact (aR2 (by omega)).symm
end L2
namespace L2
open PySem PySem.Spec PyProof.Rows SO
section
variable {prog : Program} {w : World} {A : Around} {E : Value → Shared → Prop} {s : Shared}
structure gK (h:Heap) (v:Value) (ns:List Int):Prop where
 at_:∃ b ob us n,v = .ref b/\h.get? b=some ob/\ob.cls = .type "tuple"/\ob.data = .seq (List.toArray us) n/\IntsAre us ns
def vO (h:Heap) (v:Value):List Int:=match v with
 | .ref b=>match h.get? b with
  | some ob=>match ob.data with
   | .seq us _=>us.toList.map numOf
   | _=>[]
  | none=>[]
 | _=>[]
theorem M9:∀ {us:List Value}{ns:List Int},IntsAre us ns->us.map numOf=ns
 | _,_,.nil=>rfl
 | _,_,.cons _ _ h=>by rw [aW3,M9 h]; rfl
theorem gK.ints {h:Heap}{v:Value}{ns:List Int} (z:gK h v ns):vO h v=ns:=by
 obtain ⟨b,ob,us,n,rfl,e2,_,e4,e5⟩:=z.at_
 unfold vO
 dsimp only
 rw [e2]; dsimp only
 rw [e4]; exact M9 e5
def kS (h:Heap) (ys:List (List Int)) (x:Keyed):Int:=(kR ys (vO h x.1):Int)
end
end L2
namespace PP
open PySem L2
section
variable {X : Cx} {a b e o : Expr} {ta tb te to : aB} {tr : cL} {pos p2 apos cpos : Pos} {σ : St} {H : Hp} {Q' : VK}
open Classical in
theorem N0 {A:Around} (hu:A.units+2 < cLine) {pins:List (Addr × Obj)}{s:Shared}{H:Hp}{us:List V}{its:List Value}{rs:List (List Int)}{ns:List Int}{x:V}{v:Value} (I:a6 X pins σ H s) (rx:aQ x v) (r:aJ us its)
  (rn:aA X.K (fun _=>True) H x (.tup (intz ns))) (rr:Reps X.K (fun _=>True) H us (rs.map fun r=>PV.tup (intz r))):∃ f:Value->Bool,∀ (j:Nat) (w:Value),its[j]? = some w->∃ m,rs[j]? = some m/\SeqAt.EqAt A s w v (f w)/\f w=decide (m=ns):=by
 have lr:=r.length
 have lp:=rr.length
 rw [aS0] at lp
 refine⟨fun w=>decide (∃ v',aQ v' w/\aA X.K (fun _=>True) H v' (.tup (intz ns))),fun j w hw=>?_⟩
 have hj:=(aS2.mp hw).1
 have h1:j < us.length:=by omega
 obtain ⟨w',hw',rw'⟩:=r.get (aR0 h1)
 rw [hw] at hw'
 cases hw'
 obtain ⟨m',hm',rm⟩:=rr.get (aR0 h1)
 rw [aS8] at hm'
 cases hm:rs[j]? with
 | none=>rw [hm] at hm'; cases hm'
 | some m=>
  rw [hm] at hm'
  cases hm'
  have e2:(decide (∃ v',aQ v' w/\aA X.K (fun _=>True) H v' (.tup (intz ns))))=decide (m=ns):=by
   have:(∃ v',aQ v' w/\aA X.K (fun _=>True) H v' (.tup (intz ns))) ↔ m=ns:=by
    refine⟨fun ⟨v',h1',h2'⟩=>?_,fun e=>⟨_,rw',by rw [<- e]; exact rm⟩⟩
    obtain ⟨p1,w1,e1,_,_⟩:=rm.sqT
    obtain ⟨p2,w2,e2,_,_⟩:=h2'.sqT
    rw [e1] at rw' rm
    rw [e2] at h1' h2'
    cases rw'
    cases h1'
    exact aA8 rm h2'
   exact decide_eq_decide.mpr this
  refine⟨m,rfl,?_,e2⟩
  show SeqAt.EqAt A s w v (decide _)
  rw [e2]
  have:=B2 I 2 (A:=A) hu rm rn rw' rx (by exact u6 1 m ns)
  rw [u5 1] at this
  exact this
def N1 (K:PySem.W.Frag):R2:=fun x y H Q=>∃ p us ns,∃ rs:List (List Int),y = .ref p/\H p=some (.lst us)/\aA K (fun _=>True) H x (.tup (intz ns))/\Reps K (fun _=>True) H us (rs.map fun r=>PV.tup (intz r))/\Q (.bl (!decide (ns ∈ rs))) H
theorem aB9 (hu:X.A.units+3 < cLine):bX X (compareOp .NotIn) (N1 X.K):=by
 intro pins s σ H x y v u Q I rx ry h
 obtain ⟨p,us,ns,rs,rfl,hp,rn,rr,q⟩:=h
 cases ry
 obtain ⟨its,r,pl,hz⟩:=I.list (aP.of (K:=X.K) hp)
 have lr:=r.length
 have lp:=rr.length
 rw [aS0] at lp
 obtain ⟨f,key⟩:=N0 (A:=X.A.in1) (by show X.A.units+1+2 < cLine; omega) I rx r rn rr
 refine SeqAt.notIn_listAt f pl.isList (fun w hw=>?_) ⟨.bl _,H,I,rfl,?_⟩
 ·have hw:w ∈ its:=by simpa using hw
  obtain ⟨j,hj⟩:=bd7 hw
  obtain ⟨m,_,h1,h2⟩:=key j w hj
  exact h1
 ·have:its.toArray.any f=decide (ns ∈ rs):=by
   rw [show its.toArray.any f=its.any f by simp,aY8,List.any_eq_true,aT4]
   refine⟨fun ⟨w,hw,e⟩=>?_,fun h=>?_⟩
   ·obtain ⟨j,hj⟩:=bd7 hw
    obtain ⟨m,hm,_,h2⟩:=key j w hj
    rw [h2,aT4] at e
    rw [<- e]; exact ba8 hm
   ·obtain ⟨j,hj⟩:=bd7 h
    have hl:=(aS2.mp hj).1
    obtain ⟨m,hm,_,h2⟩:=key j its[j] (aR0 (by omega))
    rw [hj] at hm
    cases hm
    exact⟨its[j]'(by omega),aZ4 _,by rw [h2]; exact aR6 rfl⟩
  rw [this]
  exact q
def qU:PV->Tg->PV->Tg->PK->Prop:=fun x _ y _ Q=>∃ ns,∃ rs:List (List Int),x = .tup (intz ns)/\y = .lst (rs.map fun r=>PV.tup (intz r))/\Q (.bl (!decide (ns ∈ rs))) .fr
theorem aC0:dY X qU (N1 X.K):=by
 rintro W Hs H u v x y g g' Q Q' s n r1 r2 ⟨ns,rs,rfl,rfl,q⟩ k
 obtain ⟨p,us,rfl,_,h,r⟩:=r2.sqL
 exact⟨p,us,ns,rs,rfl,h,r1.same (aC.refl _) (fun _ _=>trivial),r.same (aC.refl _) (fun _ _=>trivial),k _ _ _ .fr (aC.refl _) (.bl _) q⟩
theorem aC1 (hu:X.A.units+3 < cLine) (ha:QE X a ta) (hb:QE X b tb) (hm:behindInMarks .NotIn b=false:=by rfl):QT X (.Compare a [.NotIn] [b] pos) (b6 (q2 qU ta tb)):=kI (aB9 hu) aC0 ha hb hm
end
end PP
namespace Core
open PySem L2 PP
def yZ (ws:List Int) (ls:List (Int × Int)) (ns R:List Int):Prop:=L8 ws ls ns R=true/\az7 ws ls (ns ++ R)
end Core
namespace PP
open PySem L2
section
variable {X : Cx} {a b : Expr} {ta tb : aB} {pos : Pos}
def qV:PV->Tg->PV->Tg->PK->Prop:=fun x _ y _ Q=>∃ ns ms:List Int,x = .tup (intz ns)/\y = .tup (intz ms)/\Q (.bl (HT.aI ns ms)) .fr
theorem N2:dY X qV (sP X.K):=by
 rintro W Hs H u v x y g g' Q Q' s n r1 r2 ⟨ns,ms,rfl,rfl,q⟩ k
 obtain ⟨p1,us,rfl,h1,r1⟩:=r1.sqT
 obtain ⟨p2,vs,rfl,h2,r2⟩:=r2.sqT
 obtain rfl:=r1.ofInts
 obtain rfl:=r2.ofInts
 exact⟨p1,p2,ns,ms,rfl,rfl,aN.of h1,aN.of h2,k _ _ _ _ (aC.refl _) (.bl _) q⟩
theorem aC2 (hu:X.A.units+3 < cLine) (ha:QE X a ta) (hb:QE X b tb):QE X (.Compare a [.Lt] [b] pos) (q2 qV ta tb):=lM (xV (by omega)) N2 ha hb (fZ _)
end
end PP
namespace L2
open PySem PySem.Spec PyProof.Rows PP
section
variable {prog : Program} {w : World} {A : Around} {R : Result → Shared → Prop} {I S : Addr} {n : Nat} {l : Addr} {its : Array Value} {s0 : Shared} {bt : Nat → Nat → Bool}
abbrev at_ (s:Shared) (h:Heap) (k:Nat):Shared:={ s with heap:=h,toks:=k }
abbrev dA (g h:Heap):Prop:=∀ b o,g.get? b=some o->h.get? b=some o
def c6 (prog:Program) (w:World) (A:Around) (s0:Shared) (its:Array Value) (bt:Nat->Nat->Bool):Prop:=
 ∀ (i j:Nat) (v u:Value) (h:Heap) (k:Nat) (Q E:Value->Shared->Prop),its[i]? = some v->its[j]? = some u->dA s0.heap h->Q (.bool (bt i j)) (at_ s0 h k)->wpAny (model prog w) A (richCompare .Lt v u) Q E (at_ s0 h k)
end
section
variable {prog : Program} {w : World} {A : Around} {s0 : Shared} {l : Addr} {its : Array Value} {bt : Nat → Nat → Bool}
theorem qW {h:Heap}{a:Addr} (z:h.objs.size<=a):h.get? a=none:=by
 cases q:h.get? a with
 | none=>rfl
 | some o=>exact absurd (aS4 q) (Nat.not_lt.mpr z)
end
end L2
namespace Core
open PySem L2 PP
def FB (L:List (List Int)) (f:List Int->Int) (r:List Int):Prop:=∃ i,L[i]? = some r/\(∀ (j:Nat) (s:List Int),j < i->L[j]? = some s->f s < f r)/\∀ s ∈ L,f s<=f r
end Core
namespace PP
open PySem L2
section
variable {X : Cx} {a b e : Expr} {ta tb : aB} {tr : cL} {pos p2 : Pos}
def N3 (K:PySem.W.Frag):R2:=fun x y H Q=>fE (fun i j=>.bl (decide (i < j))) x y H Q ∨ sP K x y H Q
theorem aC3 (hu:X.A.units < cLine):bX X (compareOp .Lt) (N3 X.K):=by
 intro pins s σ H x y v u Q I rx ry h
 rcases h with h | h
 ·exact oH pins s σ H x y v u Q I rx ry h
 ·exact xV hu pins s σ H x y v u Q I rx ry h
def qX:PV->Tg->PV->Tg->PK->Prop:=fun x g y g' Q=>dZ (fun i j=>.bl (decide (i < j))) x g y g' Q ∨ qV x g y g' Q
theorem aC4:dY X qX (N3 X.K):=by
 intro W Hs H u v x y g g' Q Q' s n r1 r2 h k
 rcases h with h | h
 ·exact .inl (lA W Hs H u v x y g g' Q Q' s n r1 r2 h k)
 ·exact .inr (N2 W Hs H u v x y g g' Q Q' s n r1 r2 h k)
theorem aC5 (hu:X.A.units+1 < cLine) (ha:QE X a ta) (hb:QE X b tb):QE X (.Compare a [.Lt] [b] pos) (q2 qX ta tb):=lM (aC3 (by omega)) aC4 ha hb (fZ _)
end
end PP
namespace L2
open PySem PySem.Spec PyProof.Rows
section
variable {X : Cx}
def N4 (K:PySem.W.Frag) (ta:TA):TI:=fun σ H R=>ta σ H fun vs H1=>∃ a b,vs = [.ref a,.ref b]/\((∃ xs ys,aN K H1 a xs/\aN K H1 b ys/\R (tG K a b) H1) ∨ ∃ xs ys,aP K H1 a xs/\aP K H1 b ys/\R (tI K a b) H1)
theorem aC6 {elts:List Expr}{kt:Nat}{pt:Pos}{a b:Expr}{ta:TA}{p pos:Pos} (hg:Gl X "zip") (hm:X.mg "zip" = none) (ha:PA X [a,b] ta) (hs:starEach [a,b] X.env = [(false,eval a X.env),(false,eval b X.env)]:=by rfl) (hs2:starEach [b] X.env = [(false,eval b X.env)]:=by rfl) :
  PI X (.Tuple elts kt pt) (.Call (.Name "zip" p) [a,b] [] pos) (N4 X.K ta):=by
 intro pins s σ H R I h
 refine Call_ (jY I hg hm PyProof.Rows.boot_zip (bc4 (aM (ha pos pins s σ H _ I h) fun us s1 ⟨vs,H1,I1,r1,q1⟩=>?_) (by rw [hs,hs2]) (by rw [hs2]; rfl)))
 obtain ⟨a',b',e,q1⟩:=q1
 subst e
 obtain ⟨u1,u2,rfl,r,r'⟩:=aJ.two r1
 cases r
 cases r'
 have fresh:∀ k,H1 (s1.heap.objs.size+k)=none:=fun k=>I1.hok.fresh (bb4 _ _)
 have fp:∀ c ∈ [s1.heap.objs.size+4,s1.heap.objs.size+2,s1.heap.objs.size+3,s1.heap.objs.size,s1.heap.objs.size+1],fD X pins H1 c:=fun c hc=>by
  simp only [aR5,aS6,aV6] at hc
  rcases hc with rfl | rfl | rfl | rfl | rfl
  ·exact I1.fpOk (bb4 _ _) (fresh 4)
  ·exact I1.fpOk (bb4 _ _) (fresh 2)
  ·exact I1.fpOk (bb4 _ _) (fresh 3)
  ·exact I1.fpOk (aR8 _) (fresh 0)
  ·exact I1.fpOk (bb4 _ _) (fresh 1)
 rcases q1 with ⟨xs,ys,h1,h2,q⟩ | ⟨xs,ys,h1,h2,q⟩
 ·obtain ⟨us,_,p1,_⟩:=I1.tuple h1
  obtain ⟨ws,_,p2,_⟩:=I1.tuple h2
  refine Zp.am0 p1 p2 fun h' z ti to s1' s2' kp=>wpAny_pyIter_zip z ?_
  exact⟨s1.heap.objs.size+4,[s1.heap.objs.size+4,s1.heap.objs.size+2,s1.heap.objs.size+3,s1.heap.objs.size,s1.heap.objs.size+1],_,_,H1,rfl,I1.kept (t':=s1.toks) kp,am3 a' b' _ _ _ _ _ (by simp),⟨z,ti,⟨_,_,to⟩,s1',s2'⟩,fp,q⟩
 ·obtain ⟨us,_,p1,_⟩:=I1.list h1
  obtain ⟨ws,_,p2,_⟩:=I1.list h2
  refine call_zip_2 p1.isList p2.isList fun h' z ti to s1' s2' _ kp=>wpAny_pyIter_zip z ?_
  exact⟨s1.heap.objs.size+4,[s1.heap.objs.size+4,s1.heap.objs.size+2,s1.heap.objs.size+3,s1.heap.objs.size,s1.heap.objs.size+1],_,_,H1,rfl,I1.kept (t':=s1.toks) kp,am9 a' b' _ _ _ _ _ (by simp),⟨z,ti,⟨_,_,to⟩,s1',s2'⟩,fp,q⟩
end
end L2
namespace PP
open PySem L2
theorem aC7 {K:PySem.W.Frag}{H0:Hp}{W:Addr->Prop}{g:Bool}{H1:Hp}{a b:Addr}{us vs:List V}{xs ys:List PV} (tw:∀ a,W a->∃ o,H1 a=some o/\eQ o=true) (ha:∀ W' H',Ev W H1 W' H'->aP K H' a us) (hb:∀ W' H',Ev W H1 W' H'->aP K H' b vs)
  (r:Reps K (Ms H0 W g) H1 us xs) (r':Reps K (Ms H0 W g) H1 vs ys):jN K H0 W g H1 (tI K a b) (iF xs ys):=by
 have lr:=r.length
 have lr':=r'.length
 have ll:=vD xs ys
 refine⟨fun W' H' i e hi=>⟨us,vs,us[i]'(by omega),vs[i]'(by omega),ha W' H' e,hb W' H' e,by simp,by simp⟩,fun W' H' i v H2 e y hi=>?_,fun W' H' e=>⟨us,vs,ha W' H' e,hb W' H' e,by omega⟩⟩
 obtain ⟨T,x,y',hT,rfl,rfl,y⟩:=y
 obtain ⟨h1,h2⟩:=y us vs (ha W' _ e) (hb W' _ e)
 obtain ⟨z,hz,rz⟩:=r.get h1
 obtain ⟨z',hz',rz'⟩:=r'.get h2
 have sm:=bZ hT (HO.tup [x,y'])
 exact⟨sm,_,K6 hz hz',.tup cC (.cons ((rz.keep (e.keep tw)).same sm fun _ q=>q) (.cons ((rz'.keep (e.keep tw)).same sm fun _ q=>q) .nil))⟩
section
variable {X : Cx} {σ : L2.St} {H : Hp} {ta tb : aB} {R : It → Hp → Prop}
def vP (ta tb:aB):e9:=fun ρ Q=>ta ρ fun x g0=>tb ρ fun y g=>∃ xs ys,((x = .tup xs/\y = .tup ys) ∨ (x = .lst xs/\y = .lst ys/\g0 ≠ .rd/\g ≠ .rd))/\flats xs=true/\flats ys=true/\Q (iF xs ys) true
theorem N5 {K:PySem.W.Frag}{H0 Hs:Hp}{W:Addr->Prop}{σ:L2.St}{ρ:bE}{g:Tg}{b:Addr} (px:PX K H0 W σ ρ Hs) (ng:g ≠ .rd) (m:Mg H0 W Hs g b) : ¬ W b:=by
 cases g with
 | fr=>exact (px.new m).1
 | nw=>exact m.1
 | sh=>exact m
 | rd=>exact absurd rfl ng
theorem aC8 (h:LI X (vP ta tb) σ H R):N4 X.K (i7 (LE X ta) (i7 (LE X tb) jH)) σ H R:=by
 obtain ⟨W,ρ,Q,px,q,k⟩:=h
 refine⟨W,ρ,_,px,q,fun v0 H0 x0 g0 s0 r0 q0=>⟨W,ρ,_,px.mono s0,q0,?_⟩⟩
 rintro v H1 x g s r ⟨xs,ys,c,fx,fy,q⟩
 have S:=s0.trans s
 have px1:=px.mono S
 have tw:∀ a,W a->∃ o,H1 a=some o/\eQ o=true:=fun a z=>(px1.wm a z).2
 rcases c with ⟨rfl,rfl⟩ | ⟨rfl,rfl,n0,n1⟩
 ·obtain ⟨a,us,rfl,h1,ra⟩:=(r0.same (M':=fun _=>True) s fun _ _=>trivial).sqT
  obtain ⟨b,vs,rfl,h2,rb⟩:=r.sqT
  have sta:∀ {c us},H1 c=some (.tup us)->∀ W' H',Ev W H1 W' H'->aN X.K H' c us:=fun {c us} hc W' H' e=>aN.of (e _ _ hc fun z=>by obtain ⟨o,h',mu⟩:=tw _ z; rw [hc] at h'; cases h'; cases mu).1
  exact⟨a,b,rfl,.inl ⟨us,vs,aN.of h1,aN.of h2,k _ _ _ _ S (aA3 tw (sta h1) (sta h2) (ra.flat fx) (rb.flat fy)) q⟩⟩
 ·obtain ⟨a,us,rfl,m0,h1,ra⟩:=(r0.same s fun _ z=>z).sqL
  obtain ⟨b,vs,rfl,m1,h2,rb⟩:=r.sqL
  have w0:=N5 px n0 m0
  have w1:=N5 (px.mono s0) n1 m1
  exact⟨a,b,rfl,.inr ⟨us,vs,aP.of h1,aP.of h2,k _ _ _ _ S (aC7 tw (fun W' H' e=>aP.of (e _ _ h1 w0).1) (fun W' H' e=>aP.of (e _ _ h2 w1).1) (ra.flat fx) (rb.flat fy)) q⟩⟩
theorem aC9 {elts:List Expr}{kt:Nat}{pt p2 pos:Pos}{a b:Expr} (B:Bt X.mg) (ha:QE X a ta) (hb:QE X b tb) (hg:Gl X "zip":=by rfl) (hs:starEach [a,b] X.env = [(false,eval a X.env),(false,eval b X.env)]:=by rfl) (hs2:starEach [b] X.env = [(false,eval b X.env)]:=by rfl):QI X (.Tuple elts kt pt) (.Call (.Name "zip" p2) [a,b] [] pos) (vP ta tb):=
 nA (aC6 hg B.zip (gM ha (gM hb jI hs2) (by rw [hs,hs2])) hs hs2) fun _ _ _=>aC8
end
end PP
namespace Core
open PySem L2 PP
theorem aD0 (xs:List PV):iB xs (some 1) none=xs.drop 1:=by
 unfold iB
 have e1:HT.aT xs.length 0 (some 1)=min 1 xs.length:=by
  show (if (1:Int) < 0 then ((1:Int)+(xs.length:Int)).toNat else min (1:Int).toNat xs.length)=_
  rw [if_neg (by decide)]; rfl
 rw [e1]
 show (xs.drop (min 1 xs.length)).take (xs.length - min 1 xs.length)=_
 rw [aY7 (by rw [be3]; exact aR8 _)]
 cases xs with
 | nil=>rfl
 | cons x xs=>rw [show min 1 (x :: xs).length=1 by simp]
def qY {α:Type} (lt:α->α->Bool) (A:List α):Bool:=((A.zip (A.drop 1)).map fun p=>lt p.1 p.2).all id
def N6:aS:=(bJ (aG pD (a7 (jP (vP (a5 0) (pJ (a5 0) (pI (qC (.int 1))) pH)) [none,none] (iW 0 1) iA (q2 qX (a5 0) (a5 1))) aD)))
theorem N7 {α:Type} (f:α->PV) (lt:α->α->Bool) (fl:∀ a,flat (f a)=true) (hlt:∀ (a b:α) (g g':Tg) (K:PK),K (.bl (lt a b)) .fr->qX (f a) g (f b) g' K) (A:List α) (la:A.length<=10000) (x:PV) (hx:x = .tup (A.map f) ∨ x = .lst (A.map f)) {Q:PV->Prop} (q:Q (.bl (qY lt A))) :
  N6 { nx:=fun _=>Q .non,rt:=Q } [some (.sh (flat x) x)]:=by
 have fls:∀ B:List α,flats (B.map f)=true:=fun B=>by
  induction B with
  | nil=>rfl
  | cons b B ih=>show (flat (f b) && flats (B.map f))=true; rw [fl,ih]; rfl
 have sx:pA x=some (A.map f):=by rcases hx with rfl | rfl <;> rfl
 have cut:iB (A.map f) (some 1) none=(A.drop 1).map f:=by rw [aD0,List.map_drop]
 refine⟨_,rfl,_,rfl,_,rfl,_,sx,fls A,?_⟩
 rw [cut]
 refine⟨A.map f,(A.drop 1).map f,?_,fls A,fls _,?_⟩
 ·rcases hx with rfl | rfl
  ·exact .inl ⟨rfl,rfl⟩
  ·refine .inr ⟨rfl,rfl,?_,fun z=>by cases z⟩
   cases flat (.lst (A.map f)) <;> intro z <;> cases z
 have zl:(iF (A.map f) ((A.drop 1).map f)).length=A.length - 1:=by rw [vD,aS0,aS0,be3]; omega
 refine⟨by rw [zl]; omega,fun i acc=>acc=L7 (((A.zip (A.drop 1)).take i).map fun p=>lt p.1 p.2),rfl,?_,?_⟩
 ·rintro i y acc hy rfl
  obtain ⟨u,v,h1,h2,rfl⟩:=aA2 hy
  rw [aS8] at h1 h2
  cases ha:A[i]? with
  | none=>rw [ha] at h1; cases h1
  | some a=>
   cases hb:(A.drop 1)[i]? with
   | none=>rw [hb] at h2; cases h2
   | some b=>
    rw [ha] at h1
    rw [hb] at h2
    cases h1
    cases h2
    have hz:(A.zip (A.drop 1))[i]? = some (a,b):=List.getElem?_zip_eq_some.mpr ⟨ha,hb⟩
    refine⟨_,_,rfl,_,rfl,_,rfl,hlt a b _ _ _ ⟨trivial,?_⟩⟩
    dsimp only
    rw [aW5,hz,aT7]
    unfold L7
    rw [aT7]; rfl
 ·rintro acc rfl
  rw [aY7 (by rw [zl,List.length_zip,be3]; omega)]
  exact⟨_,rfl,trivial,q⟩
theorem aD1 (ls:List (Int × Int)):qY (fun a b=>HT.aI [a.1,a.2] [b.1,b.2]) ls=true ↔ ls.Pairwise cZ:=by
 have lt2:∀ a b:Int × Int,HT.aI [a.1,a.2] [b.1,b.2]=true ↔ cZ a b:=fun a b=>by
  unfold cZ
  rw [HT.gB,HT.gB,HT.oK]
  by_cases h1:a.1=b.1
  ·rw [if_pos h1]
   by_cases h2:a.2=b.2
   ·rw [if_pos h2]
    exact⟨fun z=>(by cases z),fun z=>(by omega)⟩
   ·rw [if_neg h2,aT4]; omega
  ·rw [if_neg h1,aT4]; omega
 induction ls with
 | nil=>exact⟨fun _=>.nil,fun _=>rfl⟩
 | cons a r ih=>
  cases r with
  | nil=>exact⟨fun _=>aV2 _ _,fun _=>rfl⟩
  | cons b r=>
   have e:qY (fun a b:Int × Int=>HT.aI [a.1,a.2] [b.1,b.2]) (a :: b :: r)=(HT.aI [a.1,a.2] [b.1,b.2] && qY (fun a b:Int × Int=>HT.aI [a.1,a.2] [b.1,b.2]) (b :: r)):=rfl
   rw [e,aZ2,lt2,List.pairwise_cons]
   refine⟨fun ⟨h1,h2⟩=>⟨fun c hc=>?_,ih.mp h2⟩,fun ⟨h1,h2⟩=>⟨h1 b aS3,ih.mpr h2⟩⟩
   rcases aR5.mp hc with rfl | hc
   ·exact h1
   ·have:=(List.pairwise_cons.mp (ih.mp h2)).1 c hc
    unfold cZ at *; omega
theorem jC {ls:List (Int × Int)} (h:ls.Pairwise cZ):ls.Nodup:=h.imp fun {a b} z e=>by subst e; unfold cZ at z; omega
theorem aD2 {a b:List (Int × Int)} (p:a.Perm b) (ha:a.Pairwise cZ) (hb:b.Pairwise cZ):a=b:=
 p.eq_of_pairwise (fun x y _ _ h1 h2=>by unfold cZ at h1 h2; omega) ha hb
def qZ:bO:=fun xs Q=>∃ x,xs = [x]/\((∃ ns,G9 x ns/\ns.length<=1000/\Q (.bl (uX ns))) ∨ ∃ ls:List (Int × Int),(x = .tup (aF ls) ∨ x = .lst (aF ls))/\ls.length<=4096/\∀ b:Bool,(b=true ↔ ls.Pairwise cZ)->Q (.bl b))
abbrev N8:aS:=N6
theorem aD3:dG N8 ["things"] qZ:=by
 rintro xs Q ⟨x,rfl,⟨ns,hx,hl,q⟩ | ⟨ls,hx,hl,q⟩⟩
 ·exact N7 PV.int (fun a b=>decide (a < b)) (fun _=>rfl) (fun a b g g' K h=>.inl ⟨_,_,rfl,rfl,h⟩) ns (by omega) x hx q
 ·exact N7 (fun l:Int × Int=>PV.tup [.int l.1,.int l.2]) (fun a b=>HT.aI [a.1,a.2] [b.1,b.2]) (fun _=>rfl) (fun a b g g' K h=>.inr ⟨_,_,rfl,rfl,h⟩) ls (by omega) x hx (q _ (aD1 ls))
def c7 (r c:Int):Prop:=1<=r/\r<=40/\1<=c/\c<=40
def r6:eV:=fun Ep xs Q=>∃ r c:Int,xs = [.int r,.int c]/\(c7 r c->Q .non)/\(¬ c7 r c->Ep "BadBoard")
def N9 (Ep:Str->Prop):aS:=(cE (gQ (b6 (iC (aG mU (a7 (a5 0) (a7 (a5 1) aD))) (qC (.int 1)))) (b6 (lJ (aG lE (a7 (a5 0) (a7 (a5 1) aD))) (qC (.int 40))))) (lZ Ep "BadBoard" (a7 (qC (.str "a board has from 1 to 40 rows and columns")) aD)) cI)
theorem aD4:nX N9 ["rows","columns"] r6:=by
 rintro Ep xs Q ⟨r,c,rfl,q,ex⟩
 refine⟨_,rfl,_,rfl,_,_,rfl,_,_,rfl,rfl,_,rfl,?_⟩
 show if decide ((if c < r then c else r) < 1)=true then _ else _
 by_cases h1:(if c < r then c else r) < 1
 ·rw [aR6 h1]
  exact bC (bC ⟨by decide,ex fun z=>by unfold c7 at z; split at h1 <;> omega⟩)
 rw [aR2 h1]
 refine aY ⟨_,rfl,_,rfl,_,_,rfl,_,_,rfl,rfl,_,rfl,?_⟩
 show if decide ((if c > r then c else r) > 40)=true then _ else _
 by_cases h2:(if c > r then c else r) > 40
 ·rw [aR6 h2]
  exact bC ⟨by decide,ex fun z=>by unfold c7 at z; split at h2 <;> omega⟩
 rw [aR2 h2]
 refine aY (q ?_)
 unfold c7
 split at h1 <;> split at h2 <;> omega
def bD (r c:Int) (l:Int × Int):Bool:=decide (0<=l.1) && (decide (l.1 < r) && (decide (0<=l.2) && decide (l.2 < c)))
theorem iG {r c:Int}{l:Int × Int}:bD r c l=true ↔ 0<=l.1/\l.1 < r/\0<=l.2/\l.2 < c:=by
 unfold bD
 simp only [aZ2,aT4]
def r9:bO:=fun xs Q=>∃ (r c:Int) (l:Int × Int),xs = [.int r,.int c,.tup [.int l.1,.int l.2]]/\Q (.bl (bD r c l))
def O0:aS:=(bJ (kD (A1 (aV (a5 2) (qC (.int 0))) (qC (.int 0))) (kD (iC (aV (a5 2) (qC (.int 0))) (a5 0)) (kD (A1 (aV (a5 2) (qC (.int 1))) (qC (.int 0))) (iC (aV (a5 2) (qC (.int 1))) (a5 1))))))
theorem aD5:dG O0 ["rows","columns","cell"] r9:=by
 rintro xs Q ⟨r,c,l,rfl,q⟩
 unfold bD at q
 refine⟨_,rfl,_,_,_,rfl,rfl,rfl,_,_,rfl,rfl,_,rfl,?_⟩
 show if decide (l.1 >= 0)=true then _ else _
 by_cases h1:0<=l.1
 ·rw [aR6 h1] at q
  rw [aR6 (show l.1 >= 0 from h1)]
  refine bC ⟨_,rfl,_,_,_,rfl,rfl,rfl,_,rfl,_,_,rfl,rfl,_,rfl,?_⟩
  show if decide (l.1 < r)=true then _ else _
  by_cases h2:l.1 < r
  ·rw [aR6 h2] at q ⊢
   refine bC ⟨_,rfl,_,_,_,rfl,rfl,rfl,_,_,rfl,rfl,_,rfl,?_⟩
   show if decide (l.2 >= 0)=true then _ else _
   by_cases h3:0<=l.2
   ·rw [aR6 h3] at q
    rw [aR6 (show l.2 >= 0 from h3)]
    exact bC ⟨_,rfl,_,_,_,rfl,rfl,rfl,_,rfl,_,_,rfl,rfl,trivial,q⟩
   ·rw [aR2 h3] at q
    rw [aR2 (show ¬ l.2 >= 0 from h3)]
    exact aY ⟨trivial,q⟩
  ·rw [aR2 h2] at q ⊢
   exact aY ⟨trivial,q⟩
 ·rw [aR2 h1] at q
  rw [aR2 (show ¬ l.1 >= 0 from h1)]
  exact aY ⟨trivial,q⟩
def fQ (r c:Int) (ls:List (Int × Int)):Prop:=ls.Pairwise cZ/\∀ l ∈ ls,bD r c l=true
def m5:eV:=fun Ep xs Q=>∃ (r c:Int) (x:PV) (ls:List (Int × Int)),xs = [.int r,.int c,x]/\(x = .tup (aF ls) ∨ x = .lst (aF ls))/\ls.length<=4096/\(¬ c7 r c->Ep "BadBoard")/\(c7 r c->¬ fQ r c ls->Ep "BadSet")/\(c7 r c->fQ r c ls->Q (.tup (aF ls)))
def O1 (Ep:Str->Prop):aS:=(aL (tQ (kQ Ep r6 (a7 (a5 0) (a7 (a5 1) aD))))
 (aL (cE (gQ (gR (b6 (aG qZ (a7 (a5 2) aD)))) (gR (b6 (aG pD (a7 (jP (fM (a5 2)) [none,some 0,some 1] (cO 0) iA (aG r9 (a7 (a5 1) (a7 (a5 2) (a7 (a5 0) aD))))) aD))))) (lZ Ep "BadSet" (a7 (qC (.str "a set is of rising cells of the board")) aD)) cI)
 (bJ (aG lK (a7 (a5 2) aD)))))
theorem aD6:nX O1 ["rows","columns","cells"] m5:=by
 rintro Ep xs Q ⟨r,c,x,ls,rfl,hx,hl,e1,e2,q⟩
 have sx:jM x=some (aF ls):=by rcases hx with rfl | rfl <;> rfl
 have pl:(aF ls).length=ls.length:=aS0 _
 have tg:(Slot.sh (flat x) x).tag = .rd->flat x=true:=by cases flat x <;> intro z <;> cases z
 refine⟨_,rfl,_,rfl,r,c,rfl,fun ok=>?_,e1⟩
 refine⟨_,rfl,_,rfl,.inr ⟨ls,hx,hl,fun b hb=>⟨_,rfl,?_⟩⟩⟩
 cases b with
 | false=>exact bC (bC ⟨by decide,e2 ok fun z=>by have:=hb.mpr z.1; cases this⟩)
 | true=>
  have ord:=hb.mp rfl
  refine aY ⟨_,rfl,aF ls,sx,tg,by rw [pl]; omega,fun i acc=>acc=(((ls.take i).map (bD r c)).map PV.bl),rfl,?_,?_⟩
  ·rintro i z acc hz rfl
   obtain ⟨l,rfl,hlm⟩:=nU hz
   refine⟨_,rfl,_,rfl,_,rfl,r,c,l,rfl,trivial,?_⟩
   dsimp only
   rw [aW5,hlm,aT7,aT7]; rfl
  rintro acc rfl
  rw [pl,aZ5]
  refine⟨ls.map (bD r c),rfl,_,rfl,?_⟩
  cases ha:(ls.map (bD r c)).all id with
  | false=>
   refine bC ⟨by decide,e2 ok fun z=>?_⟩
   have:(ls.map (bD r c)).all id=true:=by
    rw [List.all_map,bc3]
    exact fun l hlm=>z.2 l hlm
   rw [ha] at this; cases this
  | true=>
   refine aY ?_
   have st:fQ r c ls:=⟨ord,fun l hlm=>by
    rw [List.all_map,bc3] at ha
    exact ha l hlm⟩
   have sT:pA x=some (aF ls):=by rcases hx with rfl | rfl <;> rfl
   refine⟨_,rfl,⟨_,_,rfl,sT,gJ _,trivial,q ok st⟩,fun ns z=>?_⟩
   rcases hx with rfl | rfl <;> cases z
def fR (l:Int × Int):List (Int × Int):=[(l.1 - 1,l.2),(l.1,l.2 - 1),(l.1,l.2+1),(l.1+1,l.2)]
def bA (r c:Int) (l:Int × Int):List (Int × Int):=(fR l).filter (bD r c)
section
variable {ls : List (Int × Int)} {n : Nat} {B : List Int}
def ins (ls:List (Int × Int)) (S:List Int) (h:Int):Nat:=((tD ls h).filter fun x=>decide (x ∈ S)).length
end
end Core
namespace L2
open PySem PySem.Spec PyProof.Rows SO
abbrev kk (l:Int × Int):List aH:=[Sum.inl l.1,Sum.inl l.2]
theorem aD7 {α β:Type}{R:α->β->Prop}{xs ys:List α} (h:xs.Perm ys):∀ {ks:List β},Paired R xs ks->∃ ks',ks'.Perm ks/\Paired R ys ks':=by
 induction h with
 | nil=>intro ks r; exact⟨ks,bb9 _,r⟩
 | cons v _ ih=>
  intro ks r
  cases r with
  | cons r t=>
   obtain ⟨xs',p,r'⟩:=ih t
   exact⟨_ :: xs',p.cons _,.cons r r'⟩
 | swap u v l=>
  intro xs r
  cases r with
  | cons r t=>cases t with
   | cons r2 t2=>exact⟨_,bg4 _ _ _,.cons r2 (.cons r t2)⟩
 | trans _ _ ih1 ih2=>
  intro xs r
  obtain ⟨x1,p1,r1⟩:=ih1 r
  obtain ⟨x2,p2,r2⟩:=ih2 r1
  exact⟨x2,p2.trans p1,r2⟩
theorem O2 {α β:Type}{R:α->β->Prop}:∀ {xs:List α}{ys:List β},Paired R xs ys->∀ y ∈ ys,∃ x ∈ xs,R x y
 | _,_,.nil,y,h=>nomatch h
 | _,_,.cons r p,y,h=>by
  rcases aR5.mp h with rfl | h
  ·exact⟨_,aS3,r⟩
  ·obtain ⟨x,hx,rx⟩:=O2 p y h
   exact⟨x,aR7 _ hx,rx⟩
theorem O3 {α β:Type}{R:α->β->Prop}:∀ {xs:List α}{ys:List β},Paired R xs ys->∀ x ∈ xs,∃ y ∈ ys,R x y
 | _,_,.nil,y,h=>nomatch h
 | _,_,.cons r p,y,h=>by
  rcases aR5.mp h with rfl | h
  ·exact⟨_,aS3,r⟩
  ·obtain ⟨x,hx,rx⟩:=O3 p y h
   exact⟨x,aR7 _ hx,rx⟩
theorem O4 {α β:Type}{J:α->β->Prop}{R:α->α->Prop}{S:β->β->Prop}:∀ {xs:List α}{ys:List β},Paired J xs ys->xs.Pairwise R->(∀ u v a b,a ∈ ys->b ∈ ys->J u a->J v b->R u v->S a b)->ys.Pairwise S
 | _,_,.nil,_,_=>.nil
 | _,_,.cons (a:=x) (b:=y) r p,.cons h t,f=>by
  refine .cons (fun b hb=>?_) (O4 p t fun u v a b ha hb=>f u v a b (aR7 _ ha) (aR7 _ hb))
  obtain ⟨v,hv,jv⟩:=O2 p b hb
  exact f x v y b aS3 (aR7 _ hb) r jv (h v hv)
end L2
namespace PP
open PySem L2
section
variable {X : Cx} {o e f : Expr} {td tk tx : aB} {pos apos cpos : Pos} {σ : St} {H : Hp} {Q' : VK}
def vQ (td tk tx:aB):aB:=fun ρ Q=>td ρ fun x _=>∃ ps,x = .dT ps/\tk ρ fun y _=>tx ρ fun z _=>∃ k,y = .tup (k.map kP)/\flat ((bP ps k).getD z)=true/\Q ((bP ps k).getD z) .fr
theorem aD8 (h:LE X (vQ td tk tx) σ H Q'):yR (LE X td) (LE X tk) (LE X tx) σ H Q':=by
 obtain ⟨W,ρ,Q,px,q,k⟩:=h
 refine⟨W,ρ,_,px,q,?_⟩
 rintro v H1 x g s r ⟨ps,rfl,q⟩
 have r0:=r
 cases r with
 | @dT a kvs _ m h e rr=>
  refine⟨a,rfl,.inr ⟨kvs,.inl h⟩,W,ρ,_,px.mono s,q,fun w H2 y g' s2 r2 q2=>⟨W,ρ,_,(px.mono s).mono s2,q2,?_⟩⟩
  rintro w3 H3 z gz s3 r3 ⟨kk,rfl,fl,q⟩
  obtain ⟨a',o',ea,dg,h1,h2⟩:=tY (.inr ⟨ps,kk,rfl,rfl,rfl⟩) (r0.same (s2.trans s3) fun _ z=>z) (r2.same s3 fun _ z=>z)
  cases ea
  refine⟨o',dg,?_⟩
  cases hv:bP ps kk with
  | none=>
   rw [hv] at fl q
   rw [h1 hv]
   exact k _ _ _ .fr ((s.trans s2).trans s3) (r3.flat fl) q
  | some z'=>
   rw [hv] at fl q
   obtain ⟨u,rfl,ru⟩:=h2 z' hv
   exact k _ _ _ .fr ((s.trans s2).trans s3) (ru.flat fl) q
theorem aD9 (hu:X.A.units+1 < cLine) (ho:QE X o td) (he:QE X e tk) (hf:QE X f tx) (m:M2 X o "get" apos e f cpos:=by exact⟨rfl,rfl,rfl,rfl⟩):QE X (.Call (.Attribute o "get" apos) [e,f] [] cpos) (vQ td tk tx):=cF (aj5 hu ho he hf m) fun _ _ _=>aD8
def rA (p p':Int->Int->Bool) (ta tb tc:aB):aB:=fun ρ Q=>ta ρ fun x _=>tb ρ fun y _=>∃ i j,x = .int i/\y = .int j/\if p i j=true then tc ρ fun z _=>∃ k,z = .int k/\Q (.bl (p' j k)) .fr else Q (.bl false) .fr
theorem aE0 {p p':Int->Int->Bool}{ta tb tc:aB} (h:LE X (rA p p' ta tb tc) σ H Q'):xD (fE fun i j=>.bl (p i j)) (fE fun i j=>.bl (p' i j)) (LE X ta) (LE X tb) (LE X tc) σ H Q':=by
 obtain ⟨W,ρ,Q,px,q,k⟩:=h
 refine⟨W,ρ,_,px,q,?_⟩
 rintro v H1 x g s r q
 refine⟨W,ρ,_,px.mono s,q,?_⟩
 rintro u H2 y g' s2 r2 ⟨i,j,rfl,rfl,q⟩
 cases r; cases r2
 refine⟨i,j,rfl,rfl,p i j,rfl,?_⟩
 cases hp:p i j with
 | false=>
  rw [hp] at q
  rw [if_neg (by decide)] at q
  rw [if_neg (by decide)]
  exact k _ _ _ .fr (s.trans s2) (.bl false) q
 | true=>
  rw [hp,if_pos rfl] at q
  rw [if_pos rfl]
  refine⟨W,ρ,_,(px.mono s).mono s2,q,?_⟩
  rintro w H3 z gz s3 r3 ⟨m,rfl,q⟩
  cases r3
  exact⟨j,m,rfl,rfl,k _ _ _ .fr ((s.trans s2).trans s3) (.bl _) q⟩
section
variable {a b c : Expr} {ta tb tc : aB}
theorem O5 (ha:QE X a ta) (hb:QE X b tb) (hc:QE X c tc) (hm:lastMarks [.LtE,.Lt] [b,c]=false:=by with_unfolding_all rfl):QT X (.Compare a [.LtE,.Lt] [b,c] pos) (b6 (rA (fun i j=>decide (i<=j)) (fun i j=>decide (i < j)) ta tb tc)):=mZ (ad5 xB oH ha hb hc hm) fun _ _ _ h=>aE0 (oZ h)
end
end
end PP
namespace Core
open PySem L2 PP
def eW (K:List (Int × Int)):List (List aH × PV):=K.map fun l=>(cJ l,PV.bl true)
theorem O6 {a b:Int × Int} (h:cJ a=cJ b):a=b:=by
 unfold cJ at h
 injection h with h1 h2
 injection h2 with h2
 exact be6 (Sum.inl.inj h1) (Sum.inl.inj h2)
theorem O7 (K:List (Int × Int)):(eW K).length=K.length:=by unfold eW; rw [aS0]
theorem O8 (K:List (Int × Int)) (x:Int × Int):(bP (eW K) (cJ x)).isSome=decide (x ∈ K):=by
 rw [<- lW,aY8,List.any_eq_true,aT4]
 unfold eW
 refine⟨fun ⟨p,hp,e⟩=>?_,fun h=>⟨_,aU2.mpr ⟨x,h,rfl⟩,aR6 rfl⟩⟩
 obtain ⟨y,hy,rfl⟩:=aU2.mp hp
 rw [<- O6 (bf6 e:cJ y=cJ x)]; exact hy
theorem O9 {K:List (Int × Int)}{x:Int × Int} (h:x ∉ K):dJ (eW K) (cJ x) (.bl true)=eW (K ++ [x]):=by
 have:((eW K).any fun kv=>decide (kv.1=cJ x))=false:=by
  rw [lW,O8,aR2 h]
 unfold dJ
 rw [this]
 unfold eW
 rw [aT7]; rfl
def jU (ps:List (List aH × PV)) (f:Int × Int->Nat):Prop:=∀ x,(bP ps (cJ x)).getD (.int 0) = .int (f x)
theorem jU.nil:jU [] fun _=>0:=fun _=>rfl
theorem jU.put {ps:List (List aH × PV)}{f:Int × Int->Nat} (h:jU ps f) (s:Int × Int) (v:PV) (hv:v = .int ((f s+1:Nat):Int)):jU (dJ ps (cJ s) v) (fun x=>if x=s then f x+1 else f x):=fun x=>by
 rw [J2]
 dsimp only
 by_cases e:x=s
 ·subst e; rw [if_pos rfl,if_pos rfl,hv]; rfl
 ·rw [if_neg (fun z=>e (O6 z)),if_neg e]; exact h x
inductive hG (r c:Int) (S:List (Int × Int)):Int × Int->Prop
 | seed {x:Int × Int}:x ∈ S->hG r c S x
 | kin {x a b:Int × Int}:bD r c x=true->a ∈ bA r c x->b ∈ bA r c x->a ≠ b->hG r c S a->hG r c S b->hG r c S x
theorem rB {r c:Int}{x y:Int × Int} (hx:bD r c x=true) (h:y ∈ bA r c x):x ∈ bA r c y:=by
 unfold bA at h ⊢
 obtain ⟨h1,_⟩:=aX7.mp h
 refine aX7.mpr ⟨?_,hx⟩
 unfold fR at h1 ⊢
 simp only [aR5,aS6,aV6,Prod.ext_iff] at h1 ⊢
 omega
theorem P0 {r c:Int}{x y:Int × Int} (h:y ∈ bA r c x):bD r c y=true:=(aX7.mp h).2
theorem P3 (r c:Int) (x:Int × Int):(bA r c x).Nodup:=by
 unfold bA
 refine List.Pairwise.filter _ (?_:(fR x).Nodup)
 unfold fR
 simp only [bd8,aR5,aS6,aV6,Prod.ext_iff,not_false_eq_true,List.nodup_nil,and_true]
 omega
def cK (r c:Int) (P:List (Int × Int)) (x:Int × Int):Nat:=(P.filter fun p=>decide (x ∈ bA r c p)).length
theorem P4 (r c:Int) (P:List (Int × Int)) (p x:Int × Int):cK r c (P ++ [p]) x=cK r c P x+(if x ∈ bA r c p then 1 else 0):=by
 unfold cK
 rw [List.filter_append,aU1]
 by_cases h:x ∈ bA r c p <;> simp [h]
theorem aE1 {r c:Int}{P:List (Int × Int)}{x a b:Int × Int} (ha:a ∈ P) (hb:b ∈ P) (ne:a ≠ b) (xa:x ∈ bA r c a) (xb:x ∈ bA r c b):2<=cK r c P x:=by
 unfold cK
 have ma:a ∈ P.filter fun p=>decide (x ∈ bA r c p):=aX7.mpr ⟨ha,aR6 xa⟩
 have mb:b ∈ P.filter fun p=>decide (x ∈ bA r c p):=aX7.mpr ⟨hb,aR6 xb⟩
 generalize P.filter (fun p=>decide (x ∈ bA r c p))=l at ma mb
 match l with
 | []=>cases ma
 | [y]=>rw [aS1.mp ma,aS1.mp mb] at ne; exact absurd rfl ne
 | _ :: _ :: _=>simp
theorem aE2 {r c:Int}{P:List (Int × Int)}{x:Int × Int} (h:1<=cK r c P x):∃ q ∈ P,x ∈ bA r c q:=by
 unfold cK at h
 cases hl:P.filter fun p=>decide (x ∈ bA r c p) with
 | nil=>rw [hl] at h; cases h
 | cons q t=>
  have:q ∈ P.filter fun p=>decide (x ∈ bA r c p):=by rw [hl]; exact aS3
  exact⟨q,(aX7.mp this).1,bf6 (aX7.mp this).2⟩
structure Wk (r c:Int) (S K P:List (Int × Int)):Prop where
 nd:K.Nodup
 ndP:P.Nodup
 sub:∀ x ∈ P,x ∈ K
 brn:∀ x ∈ K,hG r c S x
 sd:∀ x ∈ S,x ∈ K
 bd:∀ x ∈ K,bD r c x=true
 low:∀ x,x ∉ K->cK r c P x < 2
def dB (r c:Int) (K P:List (Int × Int)) (s:Int × Int):Bool:=!decide (s ∈ K) && decide (cK r c P s=1)
theorem Wk.step {r c:Int}{S K P:List (Int × Int)}{p:Int × Int} (w:Wk r c S K P) (hp:p ∈ K) (np:p ∉ P):Wk r c S (K ++ (bA r c p).filter (dB r c K P)) (P ++ [p]):=by
 have new:∀ s ∈ (bA r c p).filter (dB r c K P),s ∈ bA r c p/\s ∉ K/\cK r c P s=1:=fun s hs=>by
  obtain ⟨h1,h2⟩:=aX7.mp hs
  unfold dB at h2
  rw [aZ2,Bool.not_eq_true',ba6,aT4] at h2
  exact⟨h1,h2.1,h2.2⟩
 refine⟨bc7.mpr ⟨w.nd,List.Pairwise.filter _ (P3 r c p),fun a ha b hb e=>(new b hb).2.1 (e ▸ ha)⟩,bc7.mpr ⟨w.ndP,aV2 _ _,fun a ha b hb e=>np (by rw [<- aS1.mp hb,<- e]; exact ha)⟩,fun x hx=>?_,fun x hx=>?_,fun x hx=>aU3 _ (w.sd x hx),fun x hx=>?_,fun x hx=>?_⟩
 ·rcases aU4.mp hx with h | h
  ·exact aU3 _ (w.sub x h)
  ·rw [aS1.mp h]; exact aU3 _ hp
 ·rcases aU4.mp hx with h | h
  ·exact w.brn x h
  ·obtain ⟨h1,h2,h3⟩:=new x h
   obtain ⟨q,hq,xq⟩:=aE2 (r:=r) (c:=c) (P:=P) (x:=x) (by omega)
   have qK:=w.sub q hq
   exact .kin (P0 h1) (rB (w.bd p hp) h1) (rB (w.bd q qK) xq) (fun e=>np (e ▸ hq)) (w.brn p hp) (w.brn q qK)
 ·rcases aU4.mp hx with h | h
  ·exact w.bd x h
  ·exact P0 (new x h).1
 ·have nK:x ∉ K:=fun h=>hx (aU3 _ h)
  have lo:=w.low x nK
  rw [P4]
  by_cases h:x ∈ bA r c p
  ·rw [if_pos h]
   have:cK r c P x ≠ 1:=fun e=>hx (aU0 _ (aX7.mpr ⟨h,by unfold dB; rw [aR2 nK,aR6 e]; rfl⟩))
   omega
  ·rw [if_neg h]; omega
theorem Wk.all {r c:Int}{S K P:List (Int × Int)} (w:Wk r c S K P) (h:∀ x ∈ K,x ∈ P) (x:Int × Int):x ∈ K ↔ hG r c S x:=by
 refine⟨w.brn x,fun b=>?_⟩
 induction b with
 | seed hs=>exact w.sd _ hs
 | @kin x a b bx sa sb ne _ _ ia ib=>
  refine Classical.byContradiction fun nx=>?_
  have:=aE1 (h a ia) (h b ib) ne (rB bx sa) (rB bx sb)
  have:=w.low x nx
  omega
theorem Wk.init {r c:Int}{S:List (Int × Int)} (nd:S.Nodup) (bd:∀ x ∈ S,bD r c x=true):Wk r c S S []:=⟨nd,.nil,(fun _ h=>nomatch h),fun x h=>.seed h,fun x h=>h,bd,fun x _=>(by decide:(0:Nat) < 2)⟩
theorem m6 {r c:Int} (ok:c7 r c) {K:List (Int × Int)} (nd:K.Nodup) (bd:∀ x ∈ K,bD r c x=true):K.length<=1600:=by
 have:=vI 1600 (K.map fun l=>(l.1 * 40+l.2).toNat) (by
  refine ba5.mpr (nd.imp_of_mem fun {a b} ha hb hab e=>hab ?_)
  have i1:=iG.mp (bd a ha)
  have i2:=iG.mp (bd b hb)
  have:=ok.2.2.2
  exact be6 (by omega) (by omega)) fun x hx=>by
   obtain ⟨l,hl,rfl⟩:=aU2.mp hx
   have i1:=iG.mp (bd l hl)
   have:=ok.2.1
   have:=ok.2.2.2
   omega
 rwa [aS0] at this
theorem o0 {α:Type}{l:List α}{i:Nat}{x:α} (nd:l.Nodup) (h:l[i]? = some x):x ∉ l.take i:=fun z=>by
 have:(l.take (i+1)).Nodup:=nd.sublist (List.take_sublist _ _)
 rw [aW5,h] at this
 exact (bc7.mp this).2.2 x z x (by simp) rfl
def hJ (r c:Int) (P:List (Int × Int)) (ss:List (Int × Int)) (x:Int × Int):Nat:=cK r c P x+(if x ∈ ss then 1 else 0)
theorem aE3 {r c:Int}{P ss:List (Int × Int)}{j:Nat}{s:Int × Int} (nd:ss.Nodup) (h:ss[j]? = some s):(fun x=>if x=s then hJ r c P (ss.take j) x+1 else hJ r c P (ss.take j) x)=hJ r c P (ss.take (j+1)):=by
 funext x
 unfold hJ
 have tk:ss.take (j+1)=ss.take j ++ [s]:=by rw [aW5,h]; rfl
 rw [tk]
 by_cases e:x=s
 ·subst e
  rw [if_pos rfl,if_neg (o0 nd h),if_pos (by simp)]
 ·rw [if_neg e]
  by_cases m:x ∈ ss.take j
  ·rw [if_pos m,if_pos (aU3 _ m)]
  ·rw [if_neg m,if_neg (fun z=>by rcases aU4.mp z with z | z; exact m z; exact e (aS1.mp z))]
def rC:bO:=fun xs Q=>∃ (r c:Int) (l:Int × Int),xs = [.int r,.int c,.tup [.int l.1,.int l.2]]/\Q (.lst (aF (bA r c l)))
def P5:aS:=(aL (lY (iW 3 4) (a5 2))
 (aL (bH 5 (iS (a7 (e8 (a7 (gF (a5 3) (qC (.int 1))) (a7 (a5 4) aD))) (a7 (e8 (a7 (a5 3) (a7 (gF (a5 4) (qC (.int 1))) aD))) (a7 (e8 (a7 (a5 3) (a7 (dR (a5 4) (qC (.int 1))) aD))) (a7 (e8 (a7 (dR (a5 3) (qC (.int 1))) (a7 (a5 4) aD))) aD))))))
 (bJ (jP (fM (a5 5)) [none,some 0,some 1] (cO 0) (kC (b6 (rA (fun i j=>decide (i<=j)) (fun i j=>decide (i < j)) (qC (.int 0)) (aV (a5 0) (qC (.int 0))) (a5 1))) (b6 (rA (fun i j=>decide (i<=j)) (fun i j=>decide (i < j)) (qC (.int 0)) (aV (a5 0) (qC (.int 1))) (a5 2)))) (a5 0)))))
theorem aE4:dG P5 ["rows","columns","cell","row","column","around"] rC:=by
 rintro xs Q ⟨r,c,l,rfl,q⟩
 refine⟨_,rfl,trivial,_,_,rfl,?_⟩
 refine⟨_,rfl,_,_,rfl,rfl,_,rfl,by show 2<=1000; decide,rfl,_,rfl,_,rfl,_,_,rfl,rfl,by show 2<=1000; decide,rfl,_,rfl,_,rfl,_,_,rfl,rfl,by show 2<=1000; decide,rfl,_,rfl,_,_,rfl,rfl,_,rfl,by show 2<=1000; decide,rfl,by show 4<=1000; decide,rfl,trivial,?_⟩
 refine⟨_,rfl,aF (fR l),rfl,(fun z=>by cases z),by show 4<=16000000; decide,fun i acc=>acc=aF (((fR l).take i).filter (bD r c)),rfl,?_,?_⟩
 ·rintro i z acc hz rfl
  obtain ⟨w,rfl,hw⟩:=nU hz
  have tk:=G8 (p:=bD r c) hw
  have no:bD r c w=false->aF (((fR l).take i).filter (bD r c))=aF (((fR l).take (i+1)).filter (bD r c)):=fun e=>by
   rw [e,if_neg (by decide),aX8] at tk
   rw [tk]
  refine⟨_,rfl,_,_,_,rfl,rfl,rfl,0,w.1,rfl,rfl,?_⟩
  show if decide ((0:Int)<=w.1)=true then _ else _
  by_cases a1:(0:Int)<=w.1
  ·rw [aR6 a1]
   refine bC ⟨_,rfl,r,rfl,_,rfl,?_⟩
   show if decide (w.1 < r)=true then _ else _
   by_cases a2:w.1 < r
   ·rw [aR6 a2]
    refine bC ⟨_,rfl,_,_,_,rfl,rfl,rfl,0,w.2,rfl,rfl,?_⟩
    show if decide ((0:Int)<=w.2)=true then _ else _
    by_cases a3:(0:Int)<=w.2
    ·rw [aR6 a3]
     refine bC ⟨_,rfl,c,rfl,_,rfl,?_⟩
     show if decide (w.2 < c)=true then _ else _
     by_cases a4:w.2 < c
     ·rw [aR6 a4]
      have b:bD r c w=true:=iG.mpr ⟨a1,a2,a3,a4⟩
      rw [b,if_pos rfl] at tk
      refine bC ⟨_,rfl,trivial,?_⟩
      dsimp only
      rw [tk]
      unfold aF
      rw [aT7]; rfl
     ·rw [aR2 a4]
      exact aY (no (by unfold bD; rw [aR2 a4,ba9,ba9,ba9]))
    ·rw [aR2 a3]
     exact aY ⟨_,rfl,aY (no (by unfold bD; rw [aR2 a3,bb8,ba9,ba9]))⟩
   ·rw [aR2 a2]
    exact aY (aY (no (by unfold bD; rw [aR2 a2,bb8,ba9])))
  ·rw [aR2 a1]
   exact aY ⟨_,rfl,aY (aY (no (by unfold bD; rw [aR2 a1,bb8])))⟩
 ·rintro acc rfl
  rw [show (aF (fR l)).length=4 from rfl,show (fR l).take 4=fR l from rfl]
  exact⟨trivial,q⟩
def rD:bO:=fun xs Q=>∃ (r c:Int) (ls:List (Int × Int)),xs = [.int r,.int c,.tup (aF ls)]/\c7 r c/\fQ r c ls/\∀ K:List (Int × Int),K.Pairwise cZ->(∀ y,y ∈ K ↔ hG r c ls y)->K.length<=1600->Q (.tup (aF K))
def P6:aS:=(aL (gE 3 (qC (.dT [])))
 (aL (gE 4 (qC (.dT [])))
 (aL (gE 5 (aG pB (a7 (a5 2) aD)))
 (aL (dI (fM (a5 2)) (cO 6)
  (kH 4 (a5 6) (qC (.bl true))))
 (aL (bH 7 (qC (.int 0)))
 (aL (p9 (b6 (iC (a5 7) (aG eR (a7 (a5 5) aD))))
  (aL (dI (fM (aG rC (a7 (a5 0) (a7 (a5 1) (a7 (aV (a5 5) (a5 7)) aD))))) (cO 8)
   (aL (kH 3 (a5 8) (dR (vQ (a5 3) (a5 8) (qC (.int 0))) (qC (.int 1))))
   (cE (kC (b6 (lJ (tZ (a5 3) (a5 8)) (qC (.int 1)))) (b6 (mW true (a5 8) (a5 4)))) (aL (kH 4 (a5 8) (qC (.bl true)))
    (iT 5 (a5 8))) cI)))
  (bH 7 (dR (a5 7) (qC (.int 1))))))
 (bJ (aG lK (a7 (aG nY (a7 (a5 5) aD)) aD)))))))))
theorem P7 (ls:List (Int × Int)):flat (.tup (aF ls))=true:=gJ ls
theorem aE5:dG P6 ["rows","columns","seeds","met","burning","line","seed","at","other"] rD:=by
 rintro xs Q ⟨r,c,ls,rfl,ok,st,q⟩
 have snd:ls.Nodup:=jC st.1
 have sf:=m6 ok snd st.2
 refine⟨rfl,rfl,rfl,rfl,?_⟩
 refine⟨_,rfl,_,_,rfl,rfl,gJ _,rfl,gJ _,?_⟩
 refine⟨_,rfl,aF ls,rfl,(fun z=>P7 ls),fun i ρ=>∃ y6:Option Slot,ρ = [si r,si c,some (.sh true (.tup (aF ls))),some (.own (.dT [])),some (.own (.dT (eW (ls.take i)))),some (.own (.lst (aF ls))),y6,none,none],⟨none,?_⟩,?_,?_⟩
 ·show [_,_,some (Slot.sh (flat (.tup (aF ls))) (.tup (aF ls))),_,_,_,_,_,_]=_
  rw [P7]; rfl
 ·rintro i y ρ hy ⟨y6,rfl⟩
  obtain ⟨l,rfl,h⟩:=nU hy
  have tk:dJ (eW (ls.take i)) (cJ l) (.bl true)=eW (ls.take (i+1)):=by rw [O9 (o0 snd h),aW5,h]; rfl
  refine⟨_,rfl,_,rfl,cJ l,rfl,trivial,by rw [O7,List.length_take]; omega,?_⟩
  rw [tk]
  exact⟨_,rfl⟩
 rintro ρ ⟨y6,rfl⟩
 rw [fP,aZ5]
 refine⟨trivial,?_⟩
 refine⟨fun n ρ=>∃ (K:List (Int × Int)) (at_:Nat) (ps:List (List aH × PV)) (y8:Option Slot),ρ = [si r,si c,some (.sh true (.tup (aF ls))),some (.own (.dT ps)),some (.own (.dT (eW K))),some (.own (.lst (aF K))),y6,si (at_:Nat),y8]/\
   n+at_=1600/\at_<=K.length/\Wk r c ls K (K.take at_)/\jU ps (cK r c (K.take at_))/\ps.length<=4 * at_,⟨1600,ls,0,[],none,rfl,rfl,aZ6 _,Wk.init snd st.2,jU.nil,aR8 _⟩,?_⟩
 rintro n ρ ⟨K,a,ps,y8,rfl,nP,aK,wk,me,pl⟩
 have kf:=m6 ok wk.nd wk.bd
 refine⟨_,rfl,_,rfl,_,_,rfl,rfl,_,_,rfl,rfl,_,rfl,?_⟩
 show if decide ((a:Int) < ((aF K).length:Int))=true then _ else _
 rw [fP]
 by_cases lt:(a:Int) < (K.length:Int)
 ·rw [aR6 lt]
  have al:a < K.length:=by omega
  obtain ⟨p,hp⟩:∃ p,K[a]? = some p:=⟨_,aR0 al⟩
  have pK:=ba8 hp
  have np:=o0 wk.nd hp
  have wk2:=wk.step pK np
  have t1:K.take (a+1)=K.take a ++ [p]:=by rw [aW5,hp]; rfl
  rw [<- t1] at wk2
  have hpP:L2.atI (aF K) (a:Int)=some (.tup [.int p.1,.int p.2]):=oM (by unfold aF; rw [aS8,hp]; rfl)
  have snd2:=P3 r c p
  have sl4:(bA r c p).length<=4:=by
   unfold bA
   exact List.length_filter_le _ (fR p)
  refine bC ?_
  refine⟨_,rfl,_,rfl,_,rfl,_,rfl,_,_,_,rfl,rfl,hpP,r,c,p,rfl,aF (bA r c p),rfl,(fun z=>by cases z),fun j ρ=>∃ (ps:List (List aH × PV)) (y8:Option Slot),ρ = [si r,si c,some (.sh true (.tup (aF ls))),some (.own (.dT ps)),some (.own (.dT (eW (K ++ ((bA r c p).take j).filter (dB r c K (K.take a)))))),some (.own (.lst (aF (K ++ ((bA r c p).take j).filter (dB r c K (K.take a)))))),y6,si (a:Nat),y8]/\
    jU ps (hJ r c (K.take a) ((bA r c p).take j))/\ps.length<=4 * a+j,⟨ps,y8,?_,?_,by omega⟩,?_,?_⟩
  ·rw [List.take_zero,List.filter_nil,aX8]
  ·have:hJ r c (K.take a) ((bA r c p).take 0)=cK r c (K.take a):=by funext y; unfold hJ; simp
   rw [this]; exact me
  ·rintro j y ρ hy ⟨ps2,y8,rfl,me2,pl2⟩
   obtain ⟨s,rfl,hs⟩:=nU hy
   have jl:=(aS2.mp hs).1
   have nj:=o0 snd2 hs
   have tk:=G8 (p:=dB r c K (K.take a)) hs
   have ms:=me2 s
   have me3:=me2.put s (.int ((hJ r c (K.take a) ((bA r c p).take j) s:Int)+1)) rfl
   rw [aE3 snd2 hs] at me3
   have fs:hJ r c (K.take a) ((bA r c p).take j) s=cK r c (K.take a) s:=by unfold hJ; rw [if_neg nj]; rfl
   rw [fs] at ms me3
   have vs:bP (dJ ps2 (cJ s) (.int ((cK r c (K.take a) s:Int)+1))) (cJ s)=some (.int ((cK r c (K.take a) s:Int)+1)):=by rw [J2,if_pos rfl]
   have lp:=aw9 ps2 (cJ s) (.int ((cK r c (K.take a) s:Int)+1))
   refine⟨_,rfl,ps2,rfl,_,rfl,cJ s,rfl,by rw [ms]; rfl,_,_,ms,rfl,ps2,rfl,_,rfl,cJ s,rfl,trivial,by omega,?_⟩
   refine⟨_,rfl,_,rfl,_,.inr ⟨_,cJ s,rfl,rfl,vs.symm⟩,_,_,rfl,rfl,_,rfl,?_⟩
   show if decide ((cK r c (K.take a) s:Int)+1 > 1)=true then _ else _
   have tl:=List.length_take_le j (bA r c p)
   have fl:=List.length_filter_le (dB r c K (K.take a)) ((bA r c p).take j)
   by_cases h1:(cK r c (K.take a) s:Int)+1 > 1
   ·rw [aR6 h1]
    refine bC ⟨_,rfl,_,rfl,_,.inr ⟨_,cJ s,rfl,rfl,rfl⟩,_,rfl,?_⟩
    show if (!(bP (eW (K ++ ((bA r c p).take j).filter (dB r c K (K.take a)))) (cJ s)).isSome)=true then _ else _
    rw [O8]
    by_cases h2:s ∈ K ++ ((bA r c p).take j).filter (dB r c K (K.take a))
    ·have sK:s ∈ K:=by
      rcases aU4.mp h2 with z | z
      ·exact z
      ·exact absurd (aX7.mp z).1 nj
     have nf:dB r c K (K.take a) s=false:=by unfold dB; rw [aR6 sK]; rfl
     rw [nf,if_neg (by decide),aX8] at tk
     rw [aR6 h2]
     refine aY ?_
     rw [<- tk]
     exact⟨dJ ps2 (cJ s) (.int ((cK r c (K.take a) s:Int)+1)),_,rfl,me3,by omega⟩
    ·have sK:s ∉ K:=fun z=>h2 (aU3 _ z)
     have lo:=wk.low s sK
     have nf:dB r c K (K.take a) s=true:=by unfold dB; rw [aR2 sK,aR6 (by omega)]; rfl
     rw [nf,if_pos rfl] at tk
     rw [aR2 h2]
     refine bC ⟨_,rfl,_,rfl,cJ s,rfl,trivial,by rw [O7,aU1]; omega,?_⟩
     rw [O9 h2,aS9,<- tk]
     refine⟨_,rfl,_,rfl,trivial,by rw [fP,aU1]; omega,?_⟩
     have ap:aF (K ++ ((bA r c p).take j).filter (dB r c K (K.take a))) ++ [.tup [.int s.1,.int s.2]]=aF (K ++ ((bA r c p).take (j+1)).filter (dB r c K (K.take a))):=by
      rw [tk,<- aS9]
      unfold aF
      rw [aT7 (l₂:=[s])]; rfl
     refine⟨dJ ps2 (cJ s) (.int ((cK r c (K.take a) s:Int)+1)),some (Slot.sh (pE Tg.fr (aF (bA r c p)) || flat (PV.tup [PV.int s.1,PV.int s.2])) (.tup [.int s.1,.int s.2])),?_,me3,by omega⟩
     show [_,_,_,_,_,some (Slot.own (PV.lst (aF (K ++ ((bA r c p).take j).filter (dB r c K (K.take a))) ++ [.tup [.int s.1,.int s.2]]))),_,_,_]=_
     rw [ap]
   ·rw [aR2 h1]
    have nf:dB r c K (K.take a) s=false:=by unfold dB; rw [aR2 (by omega : ¬ cK r c (K.take a) s=1),ba9]
    rw [nf,if_neg (by decide),aX8] at tk
    refine aY (aY ?_)
    rw [<- tk]
    exact⟨dJ ps2 (cJ s) (.int ((cK r c (K.take a) s:Int)+1)),_,rfl,me3,by omega⟩
  ·rintro ρ ⟨ps2,y8,rfl,me2,pl2⟩
   rw [fP,aZ5] at me2
   rw [fP] at pl2
   rw [fP,aZ5]
   have fe:hJ r c (K.take a) (bA r c p)=cK r c (K.take (a+1)):=by funext y; rw [t1,P4]; rfl
   rw [fe] at me2
   have k2:=m6 ok wk2.nd wk2.bd
   have t2:(K ++ (bA r c p).filter (dB r c K (K.take a))).take (a+1)=K.take (a+1):=List.take_append_of_le_length (by omega)
   refine⟨_,rfl,_,_,rfl,rfl,trivial,n - 1,by omega,K ++ (bA r c p).filter (dB r c K (K.take a)),a+1,ps2,y8,rfl,by omega,by rw [aU1]; omega,?_,?_,by omega⟩
   ·rw [t2]; exact wk2
   ·rw [t2]; exact me2
 ·rw [aR2 lt]
  have ea:K.take a=K:=aY7 (by omega)
  rw [ea] at wk
  refine aY ⟨_,rfl,K.map two,by rw [jT]; rfl,by rw [aS0]; omega,fun r hr=>by obtain ⟨l,_,rfl⟩:=aU2.mp hr; rfl,fun Z pz so=>?_⟩
  obtain ⟨l2,rfl,pp⟩:=v6 pz
  rw [show ((l2.map two).map fun r=>PV.tup (intz r))=aF l2 from (jT _).symm]
  exact⟨⟨_,_,rfl,rfl,gJ _,trivial,q l2 (v7 so (pp.nodup_iff.mpr wk.nd)) (fun y=>pp.mem_iff.trans (wk.all (fun x hx=>hx) y)) (by rw [pp.length_eq]; exact kf)⟩,fun ns z=>by cases z⟩
def rE:bO:=fun xs Q=>∃ c:Int,xs = [.int c]/\∀ a b:Int,c7 a b->Q (.tup [.int a,.int b])
def P8:aS:=(aL (bH 1 (dR (qC (.int 1)) (cW (a5 0) (qC (.int 9)))))
 (aL (bH 2 (dR (qC (.int 1)) (cW (fN (a5 0) (qC (.int 9))) (qC (.int 9)))))
 (aL (cE (b6 (pL (cW (fN (a5 0) (qC (.int 81))) (qC (.int 8))) (qC (.int 1)))) (aL (bH 1 (dR (qC (.int 1)) (cW (fN (a5 0) (qC (.int 648))) (qC (.int 40)))))
  (bH 2 (dR (qC (.int 1)) (cW (fN (a5 0) (qC (.int 25920))) (qC (.int 40)))))) cI)
 (bJ (e8 (a7 (a5 1) (a7 (a5 2) aD)))))))
theorem aE6:dG P8 ["cell","rows","columns"] rE:=by
 rintro xs Q ⟨c,rfl,q⟩
 refine⟨_,rfl,_,_,rfl,rfl,(by show (0:Int) < 9; decide),_,_,rfl,rfl,trivial,?_⟩
 refine⟨_,rfl,_,_,rfl,rfl,⟨by decide,by decide⟩,_,_,rfl,rfl,(by show (0:Int) < 9; decide),_,_,rfl,rfl,trivial,?_⟩
 refine⟨_,rfl,_,_,rfl,rfl,⟨by decide,by decide⟩,_,_,rfl,rfl,(by show (0:Int) < 8; decide),.inl ⟨_,_,rfl,rfl,_,rfl,?_⟩⟩
 show if decide (c / 81 % 8=1)=true then _ else _
 cases decide (c / 81 % 8=1) with
 | false=>exact aY ⟨_,rfl,_,rfl,by show 2<=1000; decide,rfl,trivial,q _ _ ⟨by omega,by omega,by omega,by omega⟩⟩
 | true=>
  refine bC ⟨_,rfl,_,_,rfl,rfl,⟨by decide,by decide⟩,_,_,rfl,rfl,(by show (0:Int) < 40; decide),_,_,rfl,rfl,trivial,?_⟩
  refine⟨_,rfl,_,_,rfl,rfl,⟨by decide,by decide⟩,_,_,rfl,rfl,(by show (0:Int) < 40; decide),_,_,rfl,rfl,trivial,?_⟩
  exact⟨_,rfl,_,rfl,by show 2<=1000; decide,rfl,trivial,q _ _ ⟨by omega,by omega,by omega,by omega⟩⟩
def rF:bO:=fun xs Q=>∃ (ns:List Int) (k:Int),xs = [.scr ns,.int k]/\ns.length<=63/\0<=k/\k<=1000/\∀ z:Int,Q (.int z)
def P9:aS:=(aL (cE (b6 (iC (a5 1) (aG eR (a7 (a5 0) aD)))) (bJ (aV (a5 0) (a5 1))) cI)
 (aL (bH 2 (cW (mY (dR (dR (cW (aG jS (a7 (a5 0) (a7 (cW (a5 1) (aG lE (a7 (qC (.int 1)) (a7 (aG eR (a7 (a5 0) aD)) aD)))) aD))) (qC (.int 1000000007))) (mY (qC (.int 977)) (a5 1))) (qC (.int 1))) (qC (.int 48271))) (qC (.int 2147483647))))
 (bJ (fN (cW (mY (a5 2) (a5 2)) (qC (.int 2147483647))) (qC (.int 8))))))
theorem aE7:dG P9 ["script","k","stir"] rF:=by
 rintro xs Q ⟨ns,k,rfl,hl,k0,k1,q⟩
 refine⟨_,rfl,_,rfl,_,_,rfl,rfl,_,_,rfl,rfl,_,rfl,?_⟩
 show if decide (k < (ns.length:Int))=true then _ else _
 by_cases h:k < (ns.length:Int)
 ·rw [aR6 h]
  have hk:L2.atI (intz ns) k=some (.int (ns.getD k.toNat 0)):=J3 k0 h
  exact bC ⟨_,rfl,_,rfl,_,_,_,rfl,rfl,hk,trivial,q _⟩
 ·rw [aR2 h]
  refine aY ?_
  have mx:(0:Int) < (if (ns.length:Int) > 1 then (ns.length:Int) else 1):=by split <;> omega
  refine⟨_,rfl,_,rfl,_,rfl,_,_,rfl,rfl,_,_,rfl,_,_,rfl,rfl,mx,_,ns,_,rfl,.inl rfl,Int.emod_nonneg _ (Int.ne_of_gt mx),?_⟩
  refine⟨_,_,rfl,rfl,(by show (0:Int) < 1000000007; decide),_,rfl,_,_,rfl,rfl,.inl ⟨by decide,by decide⟩,_,_,rfl,rfl,_,_,rfl,rfl,_,_,rfl,rfl,.inr ⟨by decide,by decide⟩,_,_,rfl,rfl,(by show (0:Int) < 2147483647; decide),trivial,?_⟩
  dsimp only
  generalize hv:(ns.getD (k % (if (ns.length:Int) > 1 then (ns.length:Int) else 1)).toNat 0 % 1000000007+977 * k+1) * 48271 % 2147483647=v
  have v0:0<=v:=by rw [<- hv]; exact Int.emod_nonneg _ (by decide)
  have v1:v < 2147483647:=by rw [<- hv]; exact Int.emod_lt_of_pos _ (by decide)
  exact⟨_,rfl,_,rfl,_,_,rfl,rfl,.inl ⟨by omega,by omega⟩,_,_,rfl,rfl,(by show (0:Int) < 2147483647; decide),_,_,rfl,rfl,⟨by decide,by decide⟩,trivial,q _⟩
def rG:bO:=fun xs Q=>∃ (ns:List Int) (a r c:Int),xs = [.scr ns,.int a,.int r,.int c]/\ns.length<=63/\0<=a/\a<=10/\c7 r c/\∀ ls,fQ r c ls->ls.length<=200->Q (.tup (aF ls))
def vR:aS:=(aL (gE 5 (iS aD))
 (aL (bH 8 (qC (.int 0)))
 (aL (bH 9 (qC (.int 0)))
 (aL (dI (lG (a5 7)) (cO 10)
  (aL (bH 4 (aG rF (a7 (a5 0) (a7 (dR (a5 1) (a5 10)) aD))))
  (aL (cE (b6 (pL (cW (a5 4) (qC (.int 4))) (qC (.int 0)))) (aL (bH 8 (cW (fN (a5 4) (qC (.int 4))) (a5 2)))
   (bH 9 (cW (fN (a5 4) (qC (.int 169))) (a5 3)))) (aL (bH 8 (cW (gF (dR (a5 8) (cW (fN (a5 4) (qC (.int 4))) (qC (.int 5)))) (qC (.int 2))) (a5 2)))
   (bH 9 (cW (gF (dR (a5 9) (cW (fN (a5 4) (qC (.int 23))) (qC (.int 5)))) (qC (.int 2))) (a5 3)))))
  (cE (kC (b6 (q2 qU (e8 (a7 (a5 8) (a7 (a5 9) aD))) (a5 5))) (b6 (lJ (cW (fN (a5 4) (qC (.int 127))) (qC (.int 3))) (qC (.int 0))))) (iT 5 (e8 (a7 (a5 8) (a7 (a5 9) aD)))) cI))))
 (bJ (aG lK (a7 (aG nY (a7 (a5 5) aD)) aD)))))))
def Q0:aS:=(aL (bH 4 (aG jS (a7 (a5 0) (a7 (a5 1) aD))))
 (aL (cE (kC (b6 (pL (cW (a5 4) (qC (.int 2))) (qC (.int 1)))) (b6 (iC (mY (a5 2) (a5 3)) (qC (.int 101))))) (aL (gE 5 (iS aD))
  (aL (dI (lG (mY (a5 2) (a5 3))) (cO 6)
   (aL (bH 4 (fN (a5 4) (qC (.int 2))))
   (cE (b6 (pL (cW (a5 4) (qC (.int 2))) (qC (.int 1)))) (iT 5 (e8 (a7 (fN (a5 6) (a5 3)) (a7 (cW (a5 6) (a5 3)) aD)))) cI)))
  (bJ (aG lK (a7 (a5 5) aD))))) cI)
 (aL (bH 7 (gF (aG eR (a7 (a5 0) aD)) (a5 1)))
 (aL (cE (b6 (iC (a5 7) (qC (.int 1)))) (bH 7 (qC (.int 1))) cI)
 vR))))
theorem aE8 {c:Int}{a b:Int × Int} (h:a.1 * c+a.2 < b.1 * c+b.2) (a0:0<=a.2) (b1:b.2 < c) (c1:1<=c):cZ a b:=by
 unfold cZ
 rcases Int.lt_trichotomy a.1 b.1 with z | z | z
 ·exact .inl z
 ·rw [z] at h; exact .inr ⟨z,by omega⟩
 ·have:=Int.mul_le_mul_of_nonneg_right (show b.1+1<=a.1 by omega) (show 0<=c by omega)
  rw [Int.add_mul,Int.one_mul] at this
  omega
theorem aE9 {x:Int × Int}{ls:List (Int × Int)}:decide (two x ∈ ls.map two)=decide (x ∈ ls):=by
 rw [aY8,aT4,aT4]
 refine⟨fun h=>?_,fun h=>aU2.mpr ⟨x,h,rfl⟩⟩
 obtain ⟨y,hy,e⟩:=aU2.mp h
 unfold two at e
 injection e with e1 e2
 injection e2 with e2
 rw [<- be6 e1 e2]; exact hy
section
variable {ns : List Int} {a r c m : Int} {y4 y5 y6 : Option Slot} {Q : PV → Prop}
theorem Q2 (hl:ns.length<=63) (a0:0<=a) (a1:a<=10) (ok:c7 r c) (m1:1<=m) (m2:m<=63) (q:∀ ls,fQ r c ls->ls.length<=200->Q (.tup (aF ls))) :
  vR { nx:=fun _=>Q .non,rt:=Q } [some (.sh true (.scr ns)),si a,si r,si c,y4,y5,y6,si m,none,none,none]:=by
 obtain ⟨r1,r2,c1,c2⟩:=id ok
 refine⟨by decide,rfl,rfl,rfl,trivial,trivial,?_⟩
 refine⟨_,rfl,m,rfl,by omega,by omega,fun i ρ=>∃ (y4 y10:Option Slot) (x y:Int) (ls:List (Int × Int)),ρ = [some (.sh true (.scr ns)),si a,si r,si c,y4,some (.own (.lst (aF ls))),y6,si m,si x,si y,y10]/\ls.Nodup/\(∀ l ∈ ls,bD r c l=true)/\ls.length<=i,
  ⟨y4,none,0,0,[],rfl,.nil,(fun _ h=>nomatch h),aR8 _⟩,?_,?_⟩
 ·rintro i y ρ hy ⟨y4,y10,x,y,ls,rfl,nd,bd,len⟩
  obtain ⟨rfl,hi⟩:=lV hy
  rw [show (0:Int)+(i:Int)=(i:Int) by omega]
  refine⟨_,rfl,_,rfl,_,rfl,_,_,rfl,rfl,ns,a+(i:Int),rfl,hl,by omega,by omega,fun z=>⟨trivial,?_⟩⟩
  have tail:∀ x y:Int,0<=x->x < r->0<=y->y < c->(cE (kC (b6 (q2 qU (e8 (a7 (a5 8) (a7 (a5 9) aD))) (a5 5))) (b6 (lJ (cW (fN (a5 4) (qC (.int 127))) (qC (.int 3))) (qC (.int 0))))) (iT 5 (e8 (a7 (a5 8) (a7 (a5 9) aD)))) cI) { nx:=fun ρ=>∃ (y4 y10:Option Slot) (x y:Int) (ls:List (Int × Int)),ρ = [some (.sh true (.scr ns)),si a,si r,si c,y4,some (.own (.lst (aF ls))),y6,si m,si x,si y,y10]/\ls.Nodup/\(∀ l ∈ ls,bD r c l=true)/\ls.length<=i+1,rt:=Q } [some (.sh true (.scr ns)),si a,si r,si c,si z,some (.own (.lst (aF ls))),y6,si m,si x,si y,si (i:Nat)]:=by
   intro x y x0 x1 y0 y1
   refine⟨_,rfl,_,rfl,by show 2<=1000; decide,rfl,_,rfl,[x,y],ls.map two,rfl,by rw [jT]; rfl,_,rfl,?_⟩
   rw [show decide ([x,y] ∈ ls.map two)=decide ((x,y) ∈ ls) from aE9 (x:=(x,y))]
   by_cases h1:(x,y) ∈ ls
   ·rw [aR6 h1]
    exact aY (aY ⟨si z,si (i:Nat),x,y,ls,rfl,nd,bd,by omega⟩)
   ·rw [aR2 h1]
    refine bC ⟨_,rfl,_,_,rfl,rfl,⟨by decide,by decide⟩,_,_,rfl,rfl,(by show (0:Int) < 3; decide),_,_,rfl,rfl,_,rfl,?_⟩
    show if decide (z / 127 % 3 > 0)=true then _ else _
    cases decide (z / 127 % 3 > 0) with
    | false=>exact aY ⟨si z,si (i:Nat),x,y,ls,rfl,nd,bd,by omega⟩
    | true=>
     refine bC ⟨_,rfl,_,rfl,_,rfl,by show 2<=1000; decide,rfl,trivial,by rw [fP]; omega,si z,si (i:Nat),x,y,ls ++ [(x,y)],?_,bc7.mpr ⟨nd,aV2 _ _,fun u hu v hv e=>h1 (by rw [aS1.mp hv] at e; rw [<- e]; exact hu)⟩,fun l hl=>?_,by rw [aU1,ba0]; omega⟩
     ·unfold aF
      rw [aT7]; rfl
     ·rcases aU4.mp hl with h | h
      ·exact bd l h
      ·rw [aS1.mp h]; exact iG.mpr ⟨x0,x1,y0,y1⟩
  refine⟨_,rfl,_,_,rfl,rfl,(by show (0:Int) < 4; decide),.inl ⟨_,_,rfl,rfl,_,rfl,?_⟩⟩
  show if decide (z % 4=0)=true then _ else _
  have em:=fun u:Int=>Int.emod_nonneg u (show r ≠ 0 by omega)
  have el:=fun u:Int=>Int.emod_lt_of_pos u (show 0 < r by omega)
  have fm:=fun u:Int=>Int.emod_nonneg u (show c ≠ 0 by omega)
  have fl:=fun u:Int=>Int.emod_lt_of_pos u (show 0 < c by omega)
  cases decide (z % 4=0) with
  | true=>
   refine bC ⟨_,rfl,_,_,rfl,rfl,⟨by decide,by decide⟩,_,rfl,_,_,rfl,rfl,by omega,trivial,_,rfl,_,_,rfl,rfl,⟨by decide,by decide⟩,_,rfl,_,_,rfl,rfl,by omega,trivial,?_⟩
   exact tail _ _ (em _) (el _) (fm _) (fl _)
  | false=>
   refine aY ⟨_,rfl,_,rfl,_,_,rfl,rfl,⟨by decide,by decide⟩,_,_,rfl,rfl,(by show (0:Int) < 5; decide),_,_,rfl,rfl,_,_,rfl,rfl,_,rfl,_,_,rfl,rfl,by omega,trivial,_,rfl,_,rfl,_,_,rfl,rfl,⟨by decide,by decide⟩,_,_,rfl,rfl,(by show (0:Int) < 5; decide),_,_,rfl,rfl,_,_,rfl,rfl,_,rfl,_,_,rfl,rfl,by omega,trivial,?_⟩
   exact tail _ _ (em _) (el _) (fm _) (fl _)
 ·rintro ρ ⟨y4,y10,x,y,ls,rfl,nd,bd,len⟩
  rw [iV] at len
  refine⟨_,rfl,ls.map two,by rw [jT]; rfl,by rw [aS0]; omega,fun r hr=>by obtain ⟨l,_,rfl⟩:=aU2.mp hr; rfl,fun Z pz so=>?_⟩
  obtain ⟨l2,rfl,pp⟩:=v6 pz
  rw [show ((l2.map two).map fun r=>PV.tup (intz r))=aF l2 from (jT _).symm]
  exact⟨⟨_,_,rfl,rfl,gJ _,trivial,q l2 ⟨v7 so (pp.nodup_iff.mpr nd),fun l hl=>bd l (pp.mem_iff.mp hl)⟩ (by rw [pp.length_eq]; omega)⟩,fun ns z=>by cases z⟩
end
theorem aF0:dG Q0 ["script","at","rows","columns","cell","seeds","place","many","row","column","k"] rG:=by
 rintro xs Q ⟨ns,a,r,c,rfl,hl,a0,a1,ok,q⟩
 obtain ⟨r1,r2,c1,c2⟩:=id ok
 refine⟨_,rfl,_,rfl,_,ns,a,rfl,.inl rfl,a0,trivial,?_⟩
 generalize ns.getD a.toNat 0=v
 have two:(aL (bH 7 (gF (aG eR (a7 (a5 0) aD)) (a5 1)))
  (aL (cE (b6 (iC (a5 7) (qC (.int 1)))) (bH 7 (qC (.int 1))) cI)
  vR)) { nx:=fun _=>Q .non,rt:=Q } [some (.sh true (.scr ns)),si a,si r,si c,si v,none,none,none,none,none,none]:=by
  refine⟨_,rfl,_,_,rfl,rfl,_,rfl,_,_,rfl,rfl,trivial,?_⟩
  refine⟨_,rfl,_,_,rfl,rfl,_,rfl,?_⟩
  show if decide ((ns.length:Int) - a < 1)=true then _ else _
  by_cases h:(ns.length:Int) - a < 1
  ·rw [aR6 h]
   exact bC ⟨trivial,Q2 hl a0 a1 ok (by decide) (by decide) q⟩
  ·rw [aR2 h]
   exact aY (Q2 (m:=(ns.length:Int) - a) hl a0 a1 ok (by omega) (by omega) q)
 have hp:0<=r * c:=Int.mul_nonneg (by omega) (by omega)
 refine⟨_,rfl,_,_,rfl,rfl,(by show (0:Int) < 2; decide),.inl ⟨_,_,rfl,rfl,_,rfl,?_⟩⟩
 show if decide (v % 2=1)=true then _ else _
 cases decide (v % 2=1) with
 | false=>exact aY (aY two)
 | true=>
  refine bC ⟨_,rfl,_,rfl,_,_,rfl,rfl,.inl ⟨by omega,by omega⟩,_,_,rfl,rfl,_,rfl,?_⟩
  show if decide (r * c < 101)=true then _ else _
  by_cases h:r * c < 101
  ·rw [aR6 h]
   refine bC ⟨by decide,rfl,rfl,rfl,?_⟩
   refine⟨_,rfl,_,rfl,_,_,rfl,rfl,.inl ⟨by omega,by omega⟩,r * c,rfl,by omega,by omega,fun i ρ=>∃ (v:Int) (y6:Option Slot) (ls:List (Int × Int)),ρ = [some (.sh true (.scr ns)),si a,si r,si c,si v,some (.own (.lst (aF ls))),y6,none,none,none,none]/\ls.Pairwise cZ/\(∀ l ∈ ls,bD r c l=true/\l.1 * c+l.2 < (i:Int))/\ls.length<=i,
    ⟨v,none,[],rfl,.nil,(fun _ h=>nomatch h),aR8 _⟩,?_,?_⟩
   ·rintro i y ρ hy ⟨v,y6,ls,rfl,ord,bd,len⟩
    obtain ⟨rfl,hi⟩:=lV hy
    rw [show (0:Int)+(i:Int)=(i:Int) by omega]
    have im:(i:Int) < r * c:=by omega
    have d1:=Int.mul_ediv_add_emod (i:Int) c
    have d2:=Int.emod_nonneg (i:Int) (show c ≠ 0 by omega)
    have d3:=Int.emod_lt_of_pos (i:Int) (show 0 < c by omega)
    have d4:(i:Int) / c < r:=Int.ediv_lt_of_lt_mul (by omega) im
    have d5:0<=(i:Int) / c:=Int.ediv_nonneg (by omega) (by omega)
    rw [Int.mul_comm] at d1
    refine⟨_,rfl,_,_,rfl,rfl,⟨by decide,by decide⟩,trivial,?_⟩
    refine⟨_,rfl,_,_,rfl,rfl,(by show (0:Int) < 2; decide),.inl ⟨_,_,rfl,rfl,_,rfl,?_⟩⟩
    show if decide (v / 2 % 2=1)=true then _ else _
    cases decide (v / 2 % 2=1) with
    | false=>exact aY ⟨v / 2,si (i:Nat),ls,rfl,ord,fun l hl=>⟨(bd l hl).1,by have:=(bd l hl).2; omega⟩,by omega⟩
    | true=>
     refine bC ⟨_,rfl,_,rfl,_,rfl,_,_,rfl,rfl,⟨by omega,by omega⟩,_,rfl,_,rfl,_,_,rfl,rfl,by omega,by show 2<=1000; decide,rfl,trivial,by rw [fP]; omega,v / 2,si (i:Nat),ls ++ [((i:Int) / c,(i:Int) % c)],?_,aT9.mpr ⟨ord,aV2 _ _,fun u hu w hw=>?_⟩,fun l hl=>?_,by rw [aU1,ba0]; omega⟩
     ·unfold aF
      rw [aT7]; rfl
     ·rw [aS1.mp hw]
      have bu:=bd u hu
      have iu:=iG.mp bu.1
      exact aE8 (by show u.1 * c+u.2 < (i:Int) / c * c+(i:Int) % c; omega) (by omega) d3 c1
     ·rcases aU4.mp hl with h | h
      ·exact⟨(bd l h).1,by have:=(bd l h).2; omega⟩
      ·rw [aS1.mp h]
       exact⟨iG.mpr ⟨d5,d4,d2,d3⟩,by show (i:Int) / c * c+(i:Int) % c < _; omega⟩
   ·rintro ρ ⟨v,y6,ls,rfl,ord,bd,len⟩
    rw [iV] at len
    exact⟨_,rfl,⟨_,_,rfl,rfl,gJ _,trivial,q ls ⟨ord,fun l hl=>(bd l hl).1⟩ (by omega)⟩,fun ns z=>by cases z⟩
  ·rw [aR2 h]
   exact aY two
theorem aF1 (K:List (Int × Int)):(cM 3 (.lst (aF K)) (.lst (aF K))=true/\bL 3 (.lst (aF K)) (.lst (aF K))=true)/\cM 3 (.tup (aF K)) (.tup (aF K))=true/\bL 3 (.tup (aF K)) (.tup (aF K))=true:=by
 have h1:cM 3 (.lst (tups (K.map two))) (.lst (tups (K.map two)))=true:=vK 1 (K.map two) (K.map two)
 have h2:bL 3 (.lst (tups (K.map two))) (.lst (tups (K.map two)))=decide (K.map two=K.map two):=L6 1 (K.map two) (K.map two)
 have h3:cM 3 (.tup (tups (K.map two))) (.tup (tups (K.map two)))=true:=vK 1 (K.map two) (K.map two)
 have h4:bL 3 (.tup (tups (K.map two))) (.tup (tups (K.map two)))=decide (K.map two=K.map two):=L6 1 (K.map two) (K.map two)
 rw [aR6 rfl] at h2 h4
 have ep:tups (K.map two)=aF K:=(jT K).symm
 rw [ep] at h1 h2 h3 h4
 exact⟨⟨h1,h2⟩,h3,h4⟩
end Core
namespace L2
open PySem PySem.Spec PyProof.Rows SO
abbrev kn (ns:List Int):List aH:=ns.map Sum.inl
def hU (h:Heap) (ys:List (List Int)) (v:Value):Prop:=∃ ns ∈ ys,ns ≠ []/\gK h v ns
theorem gK.keep {h h':Heap}{v:Value}{ns:List Int} (z:gK h v ns) (k:∀ b o,h.get? b=some o->h'.get? b=some o):gK h' v ns:=by
 obtain ⟨b,ob,us,n,e1,e2,e3,e4,e5⟩:=z.at_
 exact⟨⟨b,ob,us,n,e1,k _ _ e2,e3,e4,e5⟩⟩
theorem hU.keep {h h':Heap}{ys:List (List Int)}{v:Value} (z:hU h ys v) (k:∀ b o,h.get? b=some o->h'.get? b=some o):hU h' ys v:=by
 obtain ⟨ns,m,ne,z⟩:=z
 exact⟨ns,m,ne,z.keep k⟩
theorem Q3 {prog:Program}{w:World}{A:Around}{E:Value->Shared->Prop}{s:Shared} (ys:List (List Int)):SO.c6 prog w A E s (tuples' true) (fun x=>hU s.heap ys x.1) (kS s.heap ys):=by
 rintro x y ⟨ns,m1,_,z⟩ ⟨ms,m2,_,z'⟩ st Q hk hq
 unfold kS at hq
 rw [z.ints,z'.ints,<- M8 m1 m2] at hq
 obtain ⟨b,ob,us,n,e1,e2,e3,e4,e5⟩:=z.at_
 obtain ⟨b',ob',us',n',e1',e2',e3',e4',e5'⟩:=z'.at_
 rw [lt'_eq]
 refine aR9 (wpS_get ?_)
 rw [hk,e1,e1']
 refine aR9 (wpS_lift (wpAny_attempt (PySem.W.kat_lt e2 e4 e2' e4' ?_)))
 have:=t9 (prog:=prog) (w:=w) (A:=A) (s:=s) (Q:=fun a s'=>s'=s/\wpS (model prog w) A E s (pure (some a)) Q st) 0 e5 e5' ⟨rfl,aS7 hq⟩
 simpa using this
theorem aF2 {h:Heap}{ys:List (List Int)}:∀ {vs:List Value},(∀ v ∈ vs,hU h ys v)->∃ fs:List Value,PySem.W.KatTups h vs fs/\fs.length=vs.length/\∀ v ∈ fs,∃ i t,v=Value.int i t:=by
 intro vs
 induction vs with
 | nil=>intro _; exact⟨[],PySem.W.KatTups.nil,rfl,fun _ z=>nomatch z⟩
 | cons v vs ih=>
  intro hh
  obtain ⟨fs,t1,t2,t3⟩:=ih fun y hy=>hh y (aR7 _ hy)
  obtain ⟨ns,_,ne,z⟩:=hh v aS3
  obtain ⟨b,ob,us,n,rfl,e2,e3,e4,e5⟩:=z.at_
  cases e5 with
  | nil=>exact absurd rfl ne
  | cons p t e6=>exact⟨Value.int p t :: fs,PySem.W.KatTups.cons e2 e3 e4 (by simp) t1,by simp [t2],fun v hv=>(aR5.mp hv).elim (fun z=>⟨p,t,z⟩) (t3 v)⟩
theorem Q4 {M:Model}{A:Around}{E:Value->Shared->Prop}{s:Shared}{ys:List (List Int)}{vs:List Value}{Q:SortKind->Shared->Prop} (hh:∀ v ∈ vs,hU s.heap ys v) (h2:2<=vs.length) (hQ:Q (tuples' true) s):wpAny M A (keyKind' vs.toArray) Q E s:=by
 obtain ⟨fs,t1,t2,t3⟩:=aF2 hh
 refine PySem.W.kat_kind (T:=.type "int") t1 (by omega) (fun v hv=>?_) (by decide) ?_
 ·obtain ⟨i,t,rfl⟩:=t3 v hv
  exact PySem.W.Looks.now
 ·have eT:(Value.type "int" != Value.type "tuple")=true:=by decide
  rw [eT]; exact hQ
theorem Q5 {h:Heap}{ys:List (List Int)}{u v:Value}{p q:List Int} (z:gK h u p) (z':gK h v q) (hp:p ∈ ys) (hq:q ∈ ys) (le:kS h ys (u,u)<=kS h ys (v,v)):HT.aI q p=false:=by
 unfold kS at le
 rw [z.ints,z'.ints] at le
 rw [M8 hq hp]
 exact aR2 (by omega)
theorem aF3 {prog:Program}{w:World}{A:Around}{E:Value->Shared->Prop}{s:Shared}{T:String}{r d:Addr}{n:Nat}{P:Nat->Value->Prop}{OK:Heap->Prop}{Q:Value->Shared->Prop}{ys:List (List Int)} (K:PySem.W.KdlSrc prog w T r d n P OK) (hh:A.handled=none) (hok:OK s.heap) (hn:n<=sizeLine)
  (hI:∀ acc,ItemsOf P acc n->∀ v ∈ acc.toList,hU s.heap ys v)
  (h:∀ h' tk a (acc:Array Value) (out:List Value) e,(∀ b o,s.heap.get? b=some o->h'.get? b=some o)->s.heap.objs.size<=a->h'.get? a=some (seqObj "list" out.toArray e)->ItemsOf P acc n->out.Perm acc.toList->out.Pairwise (fun u v=>∀ p q,p ∈ ys->q ∈ ys->gK s.heap u p->gK s.heap v q->HT.aI q p=false)->Q (.ref a) { s with heap:=h',toks:=tk }) :
  wpAny (model prog w) A (call (.builtin "sorted") [.ref r]) Q E s:=by
 refine Calls.call_function_entry kind_sorted plain_sorted entry_sorted (args_sorted1 _) ?_
 unfold Builtin.«sorted»
 refine aQ7 (m:=checkCount "sorted" 1 1 _) (aR3 ?_)
 refine aQ7 (Raw.aA1 (s:=s) K hh hok hn fun h' tk acc kp hs it=>?_)
 have hz:acc.toList.length<=sizeLine:=by rw [aW1,it.1]; exact hn
 refine aQ7 (wpAny_newList ?_ hz)
 have hoL:(h'.push (seqObj "list" acc.toList.toArray 0)).get? h'.objs.size=some (seqObj "list" acc.toList.toArray 0):=aS5 _ rfl
 show wpAny _ _ _ _ _ { s with heap:=h'.push (seqObj "list" acc.toList.toArray 0),toks:=tk }
 refine aQ7 (aZ1 (aW9 slot_list_sort ⟨_,hoL,rfl⟩ entry_list_sort ?_ (args_list_sort _)))
 have keepS:∀ out:List Value,∀ b o,s.heap.get? b=some o->(sortedHeap (h'.push (seqObj "list" acc.toList.toArray 0)) h'.objs.size acc.toList out.toArray).get? b=some o:=fun out b o hb=>by
  have lt:=aS4 (kp b o hb)
  rw [sortedHeap_old (aU5 lt) (by rw [size_push']; exact Nat.lt_succ_of_lt lt)]
  exact aQ9 _ (kp b o hb)
 by_cases h2:acc.toList.length < 2
 ·refine z0 (s:={ s with heap:=h'.push (seqObj "list" acc.toList.toArray 0),toks:=tk }) hoL h2 ⟨_,rfl,aR3 ⟨_,rfl,?_⟩⟩
  obtain ⟨e,he⟩:=sortedHeap_at (vs:=acc.toList) (out:=acc.toList.toArray) hoL
  refine h _ tk h'.objs.size acc acc.toList e (keepS acc.toList) hs he it (bb9 _) ?_
  match hl:acc.toList,h2 with
  | [],_=>exact ba4
  | [_],_=>exact aV2 _ _
  | _ :: _ :: _,h2=>simp at h2; omega
 ·have kM:∀ b o,s.heap.get? b=some o->(c9 (h'.push (seqObj "list" acc.toList.toArray 0)) h'.objs.size acc.toList).get? b=some o:=fun b o hb=>by
   have lt:=aS4 (kp b o hb)
   exact uV (aU5 lt) (aQ9 _ (kp b o hb))
  have allp:∀ v ∈ acc.toList,hU (c9 (h'.push (seqObj "list" acc.toList.toArray 0)) h'.objs.size acc.toList) ys v:=fun v hv=>(hI acc it v hv).keep kM
  refine F7 (s:={ s with heap:=h'.push (seqObj "list" acc.toList.toArray 0),toks:=tk }) (κ:=tuples' true) (Ok:=fun x=>hU (c9 (h'.push (seqObj "list" acc.toList.toArray 0)) h'.objs.size acc.toList) ys x.1) (rk:=kS (c9 (h'.push (seqObj "list" acc.toList.toArray 0)) h'.objs.size acc.toList) ys) hoL (by omega) hz (fun Q hQ=>?_)
   (Q3 (s:={ s with heap:=c9 (h'.push (seqObj "list" acc.toList.toArray 0)) h'.objs.size acc.toList,toks:=tk }) ys) (fun v hv=>allp v hv) fun out pm so=>⟨_,rfl,aR3 ⟨_,rfl,?_⟩⟩
  ·exact Q4 (s:={ s with heap:=c9 (h'.push (seqObj "list" acc.toList.toArray 0)) h'.objs.size acc.toList,toks:=tk }) allp (by omega) hQ
  ·obtain ⟨e,he⟩:=sortedHeap_at (vs:=acc.toList) (out:=out.toArray) hoL
   exact h _ tk h'.objs.size acc out e (keepS out) hs he it pm (so.imp fun {u v} le p q hp hq z z'=>Q5 (z.keep kM) (z'.keep kM) hp hq le)
def Q6:List V->Hp->VK->Prop:=fun xs H Q=>∃ (a:Addr) (kvs:List (List aH × V)) (ls:List (List Int)),xs = [.ref a]/\H a=some (.dT kvs)/\kvs.map (·.1)=ls.map kn/\(∀ k ∈ ls,k ≠ [])/\∀ (l:Addr) (zs:List V) (ms:List (List Int)),H l=none->ms.Perm ls->ms.Pairwise (fun u v=>HT.aI v u=false)->Paired (jL H) zs (ms.map kn)->Q (.ref l) (upd H l (.lst zs))
theorem Q7 {H:Hp}:∀ {ys:List V}{vs:List Value}{ls:List (List Int)},aJ ys vs->Paired (jL H) ys (ls.map kn)->Paired (fun v l=>∃ y,aQ y v/\jL H y (kn l)) vs ls
 | _,_,[],.nil,_=>.nil
 | _,_,[],.cons _ _,p=>nomatch p
 | _,_,l :: ls,.cons r t,.cons k p=>.cons ⟨_,r,k⟩ (Q7 t p)
theorem Q8 {H:Hp}:∀ {vs:List Value}{ls:List (List Int)},Paired (fun v l=>∃ y,aQ y v/\jL H y (kn l)) vs ls->∃ ys:List V,aJ ys vs/\Paired (jL H) ys (ls.map kn)
 | _,_,.nil=>⟨[],.nil,.nil⟩
 | _,_,.cons ⟨y,r,k⟩ p=>by
  obtain ⟨ys,t,q⟩:=Q8 p
  exact⟨y :: ys,.cons r t,.cons k q⟩
theorem Q9 (l:List Int):(kn l).map kV=l.map V.int:=by unfold kn; rw [aX1]; rfl
theorem aF4 {X:Cx} (hc:X.calm=true):cN X (.builtin "sorted") Q6:=by
 intro pins s σ H xs us Q I r h
 obtain ⟨a,kvs,ls,rfl,ha,hk,hne,q⟩:=h
 obtain ⟨u,rfl,ru⟩:=iM r
 cases ru
 obtain ⟨es,ep,ys,rd,far,pk,vk,z⟩:=al5 I ha
 rw [hk] at pk
 have hl:=vk.length
 have hl2:=pk.length
 have hl3:=congrArg List.length hk
 rw [aS0] at hl hl2 hl3
 rw [aS0] at hl3
 have hsz:es.toList.length=es.size:=aW1
 have pv:∀ {y:V}{v:Value}{l:List Int},aQ y v->jL H y (kn l)->gK s.heap v l:=fun {y v l} ry ka=>by
  obtain ⟨b,rfl,hb⟩:=ka
  cases ry
  rw [Q9] at hb
  obtain ⟨us,ru,⟨ob,e1,c1,n1,d1⟩,_⟩:=I.tuple (show aN X.K H b (l.map V.int) from aN.of hb)
  exact⟨⟨b,ob,us,n1,rfl,e1,c1,d1,iN ru⟩⟩
 have jt:=Q7 vk pk
 refine aF3 (ys:=ls) (Raw.al4 far) (I.ok.hd hc) rd (by omega) (fun acc it v hv=>?_) fun h' tk l acc out e kp hn he it pm so=>?_
 ·rw [zA it] at hv
  obtain ⟨m,hm,y,ry,ka⟩:=O3 jt v hv
  exact⟨m,hm,hne m hm,pv ry ka⟩
 ·rw [zA it] at pm
  obtain ⟨ms,pms,jo⟩:=aD7 pm.symm jt
  obtain ⟨zs,vz,pz⟩:=Q8 jo
  have lz:=vz.length
  have lo:=pm.length_eq
  rw [aS0] at lo
  refine⟨.ref l,upd H l (.lst zs),I.laid (t':=tk) kp hn ⟨by omega,out,e,vz,he⟩,rfl,q l zs ms (I.hok.fresh hn) pms ?_ pz⟩
  exact O4 jo so fun u v a b ha hb ⟨y,ry,ka⟩ ⟨y',ry',kb⟩ le=>le _ _ (pms.mem_iff.mp ha) (pms.mem_iff.mp hb) (pv ry ka) (pv ry' kb)
def R0 (K:PySem.W.Frag):List V->Hp->VK->Prop:=fun xs H Q=>∃ (a:Addr) (ys:List V) (key:V->List Int),xs = [.ref a]/\aP K H a ys/\ys.length<=4096/\(∀ y ∈ ys,∃ b,y = .ref b/\aN K H b ((key y).map V.int)/\key y ≠ [])/\
 ∀ l (zs:List V),H l=none->zs.Perm ys->zs.Pairwise (fun u v=>HT.aI (key v) (key u)=false)->Q (.ref l) (upd H l (.lst zs))
theorem aF5 {X:Cx}:cN X (.builtin "sorted") (R0 X.K):=by
 intro pins s σ H xs us Q I r h
 obtain ⟨a,ys,key,rfl,hs,hz4,hk,q⟩:=h
 obtain ⟨u,rfl,ru⟩:=iM r
 cases ru
 obtain ⟨its,rv,p,hz⟩:=I.list hs
 have hl:=rv.length
 have hn:s.heap.objs.size<=s.heap.objs.size+1:=Nat.le_succ _
 by_cases h2:its.length < 2
 ·refine z9 p.isList h2 ?_
  obtain ⟨e,he⟩:=sortedAll_at s.heap its its.toArray
  refine⟨.ref (s.heap.objs.size+1),upd H (s.heap.objs.size+1) (.lst ys),I.laid (t':=s.toks) (fun _ _=>sortedAll_old) hn ⟨hz,its,e,rv,he⟩,rfl,q _ ys (I.hok.fresh hn) (bb9 _) ?_⟩
  match ys,hl with
  | [],_=>exact ba4
  | [_],_=>exact aV2 _ _
  | _ :: _ :: _,hl=>simp at hl; omega
 ·have pv:∀ {y:V}{v:Value},aQ y v->y ∈ ys->gK (c9 (dF s.heap its) (s.heap.objs.size+1) its) v (key y):=fun {y v} ry hy=>by
   obtain ⟨b,rfl,sq,_⟩:=hk y hy
   cases ry
   obtain ⟨us,ru,⟨ob,e1,c1,n1,d1⟩,_⟩:=I.tuple sq
   exact⟨b,ob,us,n1,rfl,uV (aU5 (Nat.lt_succ_of_lt (aS4 e1))) (F6 e1),c1,d1,iN ru⟩
  have pvs:∀ {xs:List V}{vs:List Value},aJ xs vs->(∀ y ∈ xs,y ∈ ys)->∀ v ∈ vs,hU (c9 (dF s.heap its) (s.heap.objs.size+1) its) (ys.map key) v:=by
   intro xs vs r
   induction r with
   | nil=>intro _ v hv; cases hv
   | cons rx rt ih=>
    intro hh v hv
    rcases aR5.mp hv with z | z
    ·subst z
     obtain ⟨_,_,_,ne⟩:=hk _ (hh _ aS3)
     exact⟨_,aU2.mpr ⟨_,hh _ aS3,rfl⟩,ne,pv rx (hh _ aS3)⟩
    ·exact ih (fun y hy=>hh y (aR7 _ hy)) v z
  have allp:=pvs rv fun _ h=>h
  refine F8 (κ:=tuples' true) (Ok:=fun x=>hU (c9 (dF s.heap its) (s.heap.objs.size+1) its) (ys.map key) x.1) (rk:=kS (c9 (dF s.heap its) (s.heap.objs.size+1) its) (ys.map key)) p.isList (by omega) (by rw [<- hl]; exact hz)
   (fun A E Q hQ=>Q4 (s:={ s with heap:=c9 (dF s.heap its) (s.heap.objs.size+1) its }) allp (by omega) hQ) (fun A E=>Q3 (s:={ s with heap:=c9 (dF s.heap its) (s.heap.objs.size+1) its }) (ys.map key)) (fun v hv=>allp v hv) fun out pm so=>?_
  obtain ⟨zs,pz,rz⟩:=G0 pm.symm rv
  obtain ⟨e,he⟩:=sortedAll_at s.heap its out.toArray
  refine⟨.ref (s.heap.objs.size+1),upd H (s.heap.objs.size+1) (.lst zs),I.laid (t':=s.toks) (fun _ _=>sortedAll_old) hn ⟨by rw [pz.length_eq]; exact hz,out,e,rz,he⟩,rfl,q _ zs (I.hok.fresh hn) pz ?_⟩
  have lz:=rz.length
  rw [aV3]
  intro i j hi hj hij
  have s1:=aV3.mp so i j (by omega) (by omega) hij
  have gi:=mR i hi rz
  have gj:=mR j hj rz
  simp only [aT1,aR0 hi,aR0 hj,aR0 (show i < out.length by omega),aR0 (show j < out.length by omega),Option.getD_some] at gi gj
  have mi:=pz.mem_iff.mp (aZ4 hi)
  have mj:=pz.mem_iff.mp (aZ4 hj)
  exact Q5 (pv gi mi) (pv gj mj) (aU2.mpr ⟨_,mi,rfl⟩) (aU2.mpr ⟨_,mj,rfl⟩) s1
end L2
namespace PP
open PySem L2
section
variable {X : Cx} {e : Expr} {tr : cL} {pos p2 : Pos}
abbrev fU (rs:List (List Int)):List PV:=rs.map fun r=>PV.tup (intz r)
def vS:List PV->(PV->Prop)->Prop:=fun xs Q=>∃ (ps:List (List aH × PV)) (ls:List (List Int)),xs = [.dT ps]/\ps.map (·.1)=ls.map kn/\(∀ k ∈ ls,k ≠ [])/\∀ ms:List (List Int),ms.Perm ls->ms.Pairwise (fun u v=>HT.aI v u=false)->Q (.lst (fU ms))
theorem R3 {K:PySem.W.Frag}{M:Addr->Prop}{H:Hp}:∀ {zs:List V}{ms:List (List Int)},Paired (jL H) zs (ms.map kn)->Reps K M H zs (fU ms)
 | _,[],.nil=>.nil
 | _,l :: ms,.cons ⟨q,e,h⟩ p=>by
  subst e
  rw [Q9] at h
  exact .cons (.tup h (Reps.intz l)) (R3 p)
theorem aF6:eI X vS Q6:=by
 rintro H vs xs Q Q' r ⟨ps,ls,rfl,e,hne,q⟩ k
 obtain ⟨v,rfl,r1⟩:=r.one
 cases r1 with
 | @dT a kvs _ m h e2 r2=>
  exact⟨a,kvs,ls,rfl,h,e2.trans e,hne,fun l zs ms hl' p o pz=>k _ _ _ (bZ hl' _) (.lst hl' cC ((R3 pz).same (bZ hl' _) fun _ z=>z)) (q ms p o)⟩
theorem aF7 (B:Bt X.mg) (hc:X.calm=true) (ha:QA X [e] tr) (hg:Gl X "sorted":=by rfl) (he:starEach [e] X.env=(false,eval e X.env) :: starEach [] X.env:=by rfl) (hpl:(backTo pos (starEach [] X.env)).any (·.1)=false:=by rfl):QE X (.Call (.Name "sorted" p2) [e] [] pos) (aG vS tr):=
 iD (aF4 hc) aF6 hg B.sorted PyProof.Rows.boot_sorted ha (he:=he) (hpl:=hpl)
def vT:List PV->(PV->Prop)->Prop:=fun xs Q=>∃ ys:List (List Int),xs = [.lst (fU ys)]/\ys.length<=4096/\(∀ y ∈ ys,y ≠ [])/\∀ zs:List (List Int),zs.Perm ys->zs.Pairwise (fun u v=>HT.aI v u=false)->Q (.lst (fU zs))
theorem aF8:eI X vT (R0 X.K):=by
 rintro H vs xs Q Q' r ⟨ys,rfl,hl,hne,q⟩ k
 obtain ⟨v,rfl,r1⟩:=r.one
 obtain ⟨a,us,rfl,_,h,r2⟩:=r1.sqL
 obtain ⟨h1,h2⟩:=uZ r2
 have lr:=r2.length
 rw [aS0] at lr
 refine⟨a,us,jA H,rfl,aP.of h,by omega,fun y hy=>?_,fun l zs hl' pm so=>?_⟩
 ·obtain ⟨b,rfl,hb⟩:=h2 y hy
  refine⟨b,rfl,aN.of hb,hne _ ?_⟩
  rw [<- h1]; exact aU2.mpr ⟨_,hy,rfl⟩
 ·have hz:∀ u ∈ zs,∃ b,u = .ref b/\H b=some (.tup ((jA H u).map V.int)):=fun u hu=>h2 u (pm.mem_iff.mp hu)
  refine k _ _ _ (bZ hl' _) (.lst hl' cC ((v5 hz).same (bZ hl' _) fun _ z=>z)) (q _ ?_ ?_)
  ·rw [<- h1]; exact pm.map _
  ·rw [ba5]; exact so
theorem aF9 (B:Bt X.mg) (ha:QA X [e] tr) (hg:Gl X "sorted":=by rfl) (he:starEach [e] X.env=(false,eval e X.env) :: starEach [] X.env:=by rfl) (hpl:(backTo pos (starEach [] X.env)).any (·.1)=false:=by rfl):QE X (.Call (.Name "sorted" p2) [e] [] pos) (aG vT tr):=
 iD aF5 aF8 hg B.sorted PyProof.Rows.boot_sorted ha (he:=he) (hpl:=hpl)
end
end PP
namespace HT
open PySem PyProof.Rows
section
open PySem.SeqAt
open PySem.MeetsSeq PySem.MeetsSeq2 PySem.MeetsSeq3
theorem aG0 (A:Around) (s:Shared) (a:Int) (t:Tok) (c:Int) (u:Tok) (prog:Program) (w:World) (E:Value->Shared->Prop) (Q:Value->Shared->Prop) (h:Q (.bool (decide (c < a))) s) :
  wpAny (model prog w) A (richCompare .Gt (.int a t) (.int c u)) Q E s:=
 (PyProof.Rows.gt_int h:wpAny (model prog w) A (compareOp .Gt (.int a t) (.int c u)) Q E s)
theorem aG1 (l b:Addr) (items items2:Array Value) (n n2:Nat) (dd dd2:Option Addr) (sl sl2:Array (Option Value)) (ns ms:List Int) (hi:IntsAre items.toList ns) (hj:IntsAre items2.toList ms) :
  Meets (Builtin.«tuple.__gt__» ⟨[.ref l,.ref b],[]⟩)
   (fun _ R s=>s.heap.get? l=some { cls:=.type "tuple",dict:=dd,data:=.seq items n,slots:=sl }/\s.heap.get? b=some { cls:=.type "tuple",dict:=dd2,data:=.seq items2 n2,slots:=sl2 }/\
    R (.ok (.ret (.bool (aI ms ns)))) s):=
 .of_wp fun prog w A R s h=>by
  obtain ⟨hp,g,d,tk,os⟩:=s; obtain ⟨hl,hb,h⟩:=h
  have f2:=AutoSeq1.sub_tuple_tuple
  have z1:items.size=ns.length:=by rw [<- hi.length]; simp
  have z2:items2.size=ms.length:=by rw [<- hj.length]; simp
  wp_walk using bb1 hl,bb1 hb,wpAny_forIn_list _ (fun cG b s'=>b.1=none/\s'=⟨hp,g,d,tk,os⟩/\∃ (vs ws:List Value) (ns' ms':List Int),cG=vs.zip ws/\
   IntsAre vs ns'/\IntsAre ws ms'/\ns'.length+items2.size=ms'.length+items.size/\R (.ok (.ret (.bool (aI ms' ns')))) ⟨hp,g,d,tk,os⟩) _
  case turn=>
   rintro ⟨y,x⟩ cG b s' ⟨hb',rfl,vs,ws,ns',ms',hz,hvi,hwi,hlen,hR⟩
   cases hvi with
   | nil=>rw [List.zip_nil_left] at hz; cases hz
   | cons a t hvi'=>
    cases hwi with
    | nil=>rw [List.zip_nil_right] at hz; cases hz
    | cons c u hwi'=>
     rw [aY4] at hz
     injection hz with hyx hrest
     injection hyx with hy hx
     subst hy hx
     rw [gB] at hR
     simp only [aV5] at hlen
     obtain ⟨e,he,hiff⟩:=xP A.in1 ⟨hp,g,d,tk,os⟩ a t c u
     refine aQ7 (he prog w _ _ ?_)
     cases e with
     | true=>
      rw [if_pos (hiff.mp rfl).symm] at hR
      wp_walk
      exact⟨rfl,rfl,_,_,_,_,hrest,hvi',hwi',by omega,hR⟩
     | false=>
      rw [if_neg (fun q=>absurd (hiff.mpr (Eq.symm q)) aT3)] at hR
      have hri:=aG0 A.in1 ⟨hp,g,d,tk,os⟩ a t c u prog w
      wp_walk using hri
      exact⟨_,rfl,by simpa using hR⟩
  case fin=>
   rintro ⟨b1,b2⟩ s' ⟨hb',rfl,vs,ws,ns',ms',hz,hvi,hwi,hlen,hR⟩
   simp only at hb'
   subst hb'
   have hv:aI ms' ns'=decide (items.size > items2.size):=by
    cases hvi with
    | nil=>
     cases hwi with
     | nil=>
      simp only [bd9] at hlen
      rw [oK]
      exact (aR2 (by omega)).symm
     | cons c u hw=>
      simp only [bd9,aV5] at hlen
      rw [xO]
      exact (aR2 (by omega)).symm
    | cons a t hv=>
     cases hwi with
     | nil=>
      simp only [bd9,aV5] at hlen
      rw [xN]
      exact (aR6 (by omega)).symm
     | cons c u hw=>
      rw [aY4] at hz
      cases hz
   rw [hv] at hR
   wp_walk
   exact⟨_,rfl,by simpa [Builtin.Tuple.tupleCompareSizes] using hR⟩
  case h=>
   exact⟨rfl,rfl,items.toList,items2.toList,ns,ms,rfl,hi,hj,by omega,h⟩
end
section
variable {prog : Program} {w : World} {A : Around} {E : Value → Shared → Prop} {s : Shared}
theorem aG2 {l b:Addr}{items items2:Array Value}{ns ms:List Int}{Q:Value->Shared->Prop} (hl:IsTup s.heap l items) (hb:IsTup s.heap b items2) (hi:IntsAre items.toList ns) (hj:IntsAre items2.toList ms)
  (hu:A.units < cLine) (h:Q (.bool (aI ms ns)) s):wpAny (model prog w) A (richCompare .Gt (.ref l) (.ref b)) Q E s:=by
 obtain ⟨⟨cls,dd,data,sl⟩,ho,hc,n,hd⟩:=id hl
 obtain ⟨⟨cls2,dd2,data2,sl2⟩,ho2,hc2,n2,hd2⟩:=id hb
 simp only at hc hd hc2 hd2
 subst hc hd hc2 hd2
 exact richCompare_meets_room (op:=.Gt) ⟨_,ho,rfl⟩ ⟨_,ho2,rfl⟩ PySem.F.slot_tuple_gt PySem.F.entry_tuple_gt (PySem.F.args_tuple_gt_2 _ _) (aG1 l b items items2 n n2 dd dd2 sl sl2 ns ms hi hj)
  ⟨ho,ho2,show Value.bool (aI ms ns) ≠ Value.notImplemented/\Q (.bool (aI ms ns)) s from ⟨(fun x=>nomatch x),h⟩⟩ hu
end
end HT
namespace L2
open PySem PySem.Spec PyProof.Rows PP
section
variable {prog : Program} {w : World} {A : Around} {R : Result → Shared → Prop} {I S : Addr} {n : Nat} {s0 : Shared} {a b : Value} {lt : Bool} {fp : List Addr} {P : Nat → Value → Prop} {St : Nat → Heap → Prop}
theorem aG3 (W:Walks prog w A.in1 I fp [I] 2 P St) (p0:∀ v,P 0 v->v=a) (p1:∀ v,P 1 v->v=b) (sI:S ≠ I) (sf:S ∉ fp) (fI:s0.heap.get? I=none) (fS:s0.heap.get? S=none)
  (ask:∀ (h:Heap) (k:Nat) (Q E:Value->Shared->Prop),dA s0.heap h->Q (.bool lt) (at_ s0 h k)->wpAny (model prog w) A.in1 (richCompare .Lt b a) Q E (at_ s0 h k))
  (fin:∀ h k,dA s0.heap h->R (.ok (.ret (if lt=true then b else a))) (at_ s0 h k)) {h:Heap}{k c:Nat} (old:dA s0.heap h) (st:St 0 h)
  (hS:h.get? S=some { cls:=.type "list",dict:=none,data:=.seq #[] c,slots:=#[] }):codeAny (model prog w) A (.builtin "min.loop" ⟨[.ref I,.none,.ref S],[]⟩) R (at_ s0 h k):=by
 have nm:(toString "min" ++ toString ".loop" : String)="min.loop":=by decide
 have nS:S ∉ [I]:=fun z=>sI (aS1.mp z)
 have put:∀ {h h':Heap},dA s0.heap h->(∀ b o,b ∉ [I]->h.get? b=some o->h'.get? b=some o)->dA s0.heap h':=fun {h h'} o1 o2 b o e=>o2 b o (fun z=>by rw [aS1.mp z,fI] at e; cases e) (o1 b o e)
 have put2:∀ {h:Heap}{f:Obj->Obj},dA s0.heap h->dA s0.heap (h.update S f):=fun {h f} o1 b o e=>(be2 _ _ (fun z:S=b=>by rw [<- z,fS] at e; cases e)).trans (o1 b o e)
 have last:∀ (h:Heap) (k c:Nat),dA s0.heap h->St 2 h->h.get? S=some { cls:=.type "list",dict:=none,data:=.seq #[if lt=true then b else a,if lt=true then b else a] c,slots:=#[] }->codeAny (model prog w) A (.builtin "min.loop" ⟨[.ref I,.none,.ref S],[]⟩) R (at_ s0 h k):=fun h k c old st hS=>by
  refine bc2 PySem.F.entry_min_loop ?_
  rw [aX2 bb5]
  refine aQ7 (aY2 hS rfl ?_)
  refine aQ7 (be9 (W.done _ _ _ st fun h2 k2 o2=>?_))
  exact aQ7 (bf3 (o2 S _ nS hS) rfl (aQ7 (bd0 (aR3 (fin _ k2 (put2 (put old o2)))))))
 have fr:∀ {h:Heap}{f:Obj->Obj}{j:Nat},St j h->St j (h.update S f):=fun {h f j} st=>W.frame _ _ _ st fun b hb o e=>(be2 _ _ (fun z:S=b=>sf (by rw [z]; exact hb))).trans e
 refine bc2 PySem.F.entry_min_loop ?_
 rw [aX2 bb5]
 refine aQ7 (aY2 hS rfl ?_)
 refine aQ7 (be9 (W.item 0 _ _ _ (by decide) st fun v h2 k2 hv st2 o2=>?_))
 obtain rfl:=p0 v hv
 have hS2:=o2 S _ nS hS
 refine aQ7 (aR3 ?_)
 refine aQ7 (m:=updateSeq _ (fun _=>#[v,v])) (bf3 hS2 rfl ?_)
 rw [nm]
 refine aR3 ⟨bc5 bb5 _,bc2 PySem.F.entry_min_loop ?_⟩
 rw [aX2 bb5]
 have hS3:(h2.update S (Obj.mapSeq fun _=>#[v,v])).get? S=some (Obj.mapSeq (fun _=>#[v,v]) { cls:=.type "list",dict:=none,data:=.seq #[] c,slots:=#[] }):=ba2 _ hS2 rfl
 refine aQ7 (aY2 hS3 rfl ?_)
 refine aQ7 (be9 (W.item 1 _ _ _ (by decide) (fr st2) fun u h4 k4 hu st4 o4=>?_))
 obtain rfl:=p1 u hu
 have hS4:=o4 S _ nS hS3
 have old4:=put (put2 (f:=Obj.mapSeq fun _=>#[v,v]) (put old o2)) o4
 refine aQ7 (aR3 ?_)
 refine aQ7 (m:=tryCatch (holding [u,u] (richCompare .Lt u v >>= _)) _) (be9 (aZ1 (aQ7 (ask h4 k4 _ _ old4 ?_))))
 refine aQ7 (aZ1 (ba3 (aQ7 (bd0 (aR3 ?_)))))
 cases lt with
 | false=>
  simp only [aT6,aY3]
  refine aQ7 (bd0 ?_)
  rw [nm]
  exact aR3 ⟨bc5 bb5 _,last h4 k4 _ old4 st4 hS4⟩
 | true=>
  simp only [if_true]
  refine aQ7 (bf3 hS4 rfl (aQ7 (bd0 ?_)))
  rw [nm]
  exact aR3 ⟨bc5 bb5 _,last _ k4 _ (put2 old4) (fr st4) (ba2 _ hS4 rfl)⟩
theorem aG4 {Q E:Value->Shared->Prop} (hh:A.in1.handled=none)
  (ask:∀ (h:Heap) (k:Nat) (Q E:Value->Shared->Prop),dA s0.heap h->Q (.bool lt) (at_ s0 h k)->wpAny (model prog w) A.in1 (richCompare .Lt b a) Q E (at_ s0 h k))
  (fin:∀ h k,dA s0.heap h->Q (if lt=true then b else a) (at_ s0 h k)):wpAny (model prog w) A (call (.builtin "min") [a,b]) Q E s0:=by
 have nm:(toString "min" ++ toString ".loop" : String)="min.loop":=by decide
 refine call_function_tree PySem.F.kind_min PySem.F.plain_min PySem.F.entry_min (PySem.F.args_min2 _ _) ?_
 refine aQ7 (wpAny_of_eq (show Builtin.Builtins.bindParams "min" ["key","default"] 0 ⟨[],[]⟩=pure [none,none] from rfl) ?_)
 show wpAny _ A.in1 (newTuple [a,b] >>= _) _ _ _
 refine aQ7 (aV4 ?_)
 have hT:(s0.heap.push { cls:=.type "tuple",data:=.seq #[a,b] }).IsTuple s0.heap.objs.size #[a,b]:=⟨_,aS5 _ rfl,rfl,0,rfl⟩
 have z1:(s0.heap.push { cls:=.type "tuple",data:=.seq #[a,b] }).objs.size=s0.heap.objs.size+1:=aY1 ..
 refine aQ7 (bd4 hT ?_)
 refine aQ7 (aV4 ?_)
 rw [nm]
 have z2:((s0.heap.push { cls:=.type "tuple",data:=.seq #[a,b] }).push { cls:=.type "tuple_iterator",data:=.fields #[.ref s0.heap.objs.size,.int 0 0] }).objs.size=s0.heap.objs.size+2:=by rw [aY1,z1]
 have ne:s0.heap.objs.size ≠ (s0.heap.push { cls:=.type "tuple",data:=.seq #[a,b] }).objs.size:=by omega
 refine aR3 ⟨bc5 bb5 _,aG3 (lt:=lt) (Walks.tuple (A:=A.in1) hh _ s0.heap.objs.size ne #[a,b]) (fun v hv=>?_) (fun v hv=>?_) (fun z=>?_) (fun z=>?_) (qW (aU8 (Nat.le_succ _) (Nat.le_of_eq z1.symm))) (qW (aU8 (bb4 _ 2) (Nat.le_of_eq z2.symm))) ask fin (fun b o e=>aQ9 _ (aQ9 _ (aQ9 _ e)))
  ⟨⟨_,aQ9 _ (aS5 _ rfl),rfl,rfl⟩,(hT.push _).push _⟩ (aS5 _ rfl)⟩
 ·exact (aT5 (show some a=some v from hv)).symm
 ·exact (aT5 (show some b=some v from hv)).symm
 ·have z:=z2.symm.trans (z.trans z1)
  omega
 ·rcases aR5.mp z with z | z
  ·have z:=z2.symm.trans (z.trans z1)
   omega
  ·have z:=z2.symm.trans (aS1.mp z)
   omega
end
section
variable {prog : Program} {w : World} {A : Around} {R : Result → Shared → Prop} {I S : Addr} {n : Nat} {s0 : Shared} {a b : Value} {lt : Bool} {fp : List Addr} {P : Nat → Value → Prop} {St : Nat → Heap → Prop}
theorem aG5 (W:Walks prog w A.in1 I fp [I] 2 P St) (p0:∀ v,P 0 v->v=a) (p1:∀ v,P 1 v->v=b) (sI:S ≠ I) (sf:S ∉ fp) (fI:s0.heap.get? I=none) (fS:s0.heap.get? S=none)
  (ask:∀ (h:Heap) (k:Nat) (Q E:Value->Shared->Prop),dA s0.heap h->Q (.bool lt) (at_ s0 h k)->wpAny (model prog w) A.in1 (richCompare .Gt b a) Q E (at_ s0 h k))
  (fin:∀ h k,dA s0.heap h->R (.ok (.ret (if lt=true then b else a))) (at_ s0 h k)) {h:Heap}{k c:Nat} (old:dA s0.heap h) (st:St 0 h)
  (hS:h.get? S=some { cls:=.type "list",dict:=none,data:=.seq #[] c,slots:=#[] }):codeAny (model prog w) A (.builtin "max.loop" ⟨[.ref I,.none,.ref S],[]⟩) R (at_ s0 h k):=by
 have nm:(toString "max" ++ toString ".loop" : String)="max.loop":=by decide
 have nS:S ∉ [I]:=fun z=>sI (aS1.mp z)
 have put:∀ {h h':Heap},dA s0.heap h->(∀ b o,b ∉ [I]->h.get? b=some o->h'.get? b=some o)->dA s0.heap h':=fun {h h'} o1 o2 b o e=>o2 b o (fun z=>by rw [aS1.mp z,fI] at e; cases e) (o1 b o e)
 have put2:∀ {h:Heap}{f:Obj->Obj},dA s0.heap h->dA s0.heap (h.update S f):=fun {h f} o1 b o e=>(be2 _ _ (fun z:S=b=>by rw [<- z,fS] at e; cases e)).trans (o1 b o e)
 have last:∀ (h:Heap) (k c:Nat),dA s0.heap h->St 2 h->h.get? S=some { cls:=.type "list",dict:=none,data:=.seq #[if lt=true then b else a,if lt=true then b else a] c,slots:=#[] }->codeAny (model prog w) A (.builtin "max.loop" ⟨[.ref I,.none,.ref S],[]⟩) R (at_ s0 h k):=fun h k c old st hS=>by
  refine bc2 PySem.F.entry_max_loop ?_
  rw [aX2 bb6]
  refine aQ7 (aY2 hS rfl ?_)
  refine aQ7 (be9 (W.done _ _ _ st fun h2 k2 o2=>?_))
  exact aQ7 (bf3 (o2 S _ nS hS) rfl (aQ7 (bd0 (aR3 (fin _ k2 (put2 (put old o2)))))))
 have fr:∀ {h:Heap}{f:Obj->Obj}{j:Nat},St j h->St j (h.update S f):=fun {h f j} st=>W.frame _ _ _ st fun b hb o e=>(be2 _ _ (fun z:S=b=>sf (by rw [z]; exact hb))).trans e
 refine bc2 PySem.F.entry_max_loop ?_
 rw [aX2 bb6]
 refine aQ7 (aY2 hS rfl ?_)
 refine aQ7 (be9 (W.item 0 _ _ _ (by decide) st fun v h2 k2 hv st2 o2=>?_))
 obtain rfl:=p0 v hv
 have hS2:=o2 S _ nS hS
 refine aQ7 (aR3 ?_)
 refine aQ7 (m:=updateSeq _ (fun _=>#[v,v])) (bf3 hS2 rfl ?_)
 rw [nm]
 refine aR3 ⟨bc5 bb6 _,bc2 PySem.F.entry_max_loop ?_⟩
 rw [aX2 bb6]
 have hS3:(h2.update S (Obj.mapSeq fun _=>#[v,v])).get? S=some (Obj.mapSeq (fun _=>#[v,v]) { cls:=.type "list",dict:=none,data:=.seq #[] c,slots:=#[] }):=ba2 _ hS2 rfl
 refine aQ7 (aY2 hS3 rfl ?_)
 refine aQ7 (be9 (W.item 1 _ _ _ (by decide) (fr st2) fun u h4 k4 hu st4 o4=>?_))
 obtain rfl:=p1 u hu
 have hS4:=o4 S _ nS hS3
 have old4:=put (put2 (f:=Obj.mapSeq fun _=>#[v,v]) (put old o2)) o4
 refine aQ7 (aR3 ?_)
 refine aQ7 (m:=tryCatch (holding [u,u] (richCompare .Gt u v >>= _)) _) (be9 (aZ1 (aQ7 (ask h4 k4 _ _ old4 ?_))))
 refine aQ7 (aZ1 (ba3 (aQ7 (bd0 (aR3 ?_)))))
 cases lt with
 | false=>
  simp only [aT6,aY3]
  refine aQ7 (bd0 ?_)
  rw [nm]
  exact aR3 ⟨bc5 bb6 _,last h4 k4 _ old4 st4 hS4⟩
 | true=>
  simp only [if_true]
  refine aQ7 (bf3 hS4 rfl (aQ7 (bd0 ?_)))
  rw [nm]
  exact aR3 ⟨bc5 bb6 _,last _ k4 _ (put2 old4) (fr st4) (ba2 _ hS4 rfl)⟩
theorem aG6 {Q E:Value->Shared->Prop} (hh:A.in1.handled=none)
  (ask:∀ (h:Heap) (k:Nat) (Q E:Value->Shared->Prop),dA s0.heap h->Q (.bool lt) (at_ s0 h k)->wpAny (model prog w) A.in1 (richCompare .Gt b a) Q E (at_ s0 h k))
  (fin:∀ h k,dA s0.heap h->Q (if lt=true then b else a) (at_ s0 h k)):wpAny (model prog w) A (call (.builtin "max") [a,b]) Q E s0:=by
 have nm:(toString "max" ++ toString ".loop" : String)="max.loop":=by decide
 refine call_function_tree PySem.F.kind_max PySem.F.plain_max PySem.F.entry_max (PySem.F.args_max2 _ _) ?_
 refine aQ7 (wpAny_of_eq (show Builtin.Builtins.bindParams "max" ["key","default"] 0 ⟨[],[]⟩=pure [none,none] from rfl) ?_)
 show wpAny _ A.in1 (newTuple [a,b] >>= _) _ _ _
 refine aQ7 (aV4 ?_)
 have hT:(s0.heap.push { cls:=.type "tuple",data:=.seq #[a,b] }).IsTuple s0.heap.objs.size #[a,b]:=⟨_,aS5 _ rfl,rfl,0,rfl⟩
 have z1:(s0.heap.push { cls:=.type "tuple",data:=.seq #[a,b] }).objs.size=s0.heap.objs.size+1:=aY1 ..
 refine aQ7 (bd4 hT ?_)
 refine aQ7 (aV4 ?_)
 rw [nm]
 have z2:((s0.heap.push { cls:=.type "tuple",data:=.seq #[a,b] }).push { cls:=.type "tuple_iterator",data:=.fields #[.ref s0.heap.objs.size,.int 0 0] }).objs.size=s0.heap.objs.size+2:=by rw [aY1,z1]
 have ne:s0.heap.objs.size ≠ (s0.heap.push { cls:=.type "tuple",data:=.seq #[a,b] }).objs.size:=by omega
 refine aR3 ⟨bc5 bb6 _,aG5 (lt:=lt) (Walks.tuple (A:=A.in1) hh _ s0.heap.objs.size ne #[a,b]) (fun v hv=>?_) (fun v hv=>?_) (fun z=>?_) (fun z=>?_) (qW (aU8 (Nat.le_succ _) (Nat.le_of_eq z1.symm))) (qW (aU8 (bb4 _ 2) (Nat.le_of_eq z2.symm))) ask fin (fun b o e=>aQ9 _ (aQ9 _ (aQ9 _ e)))
  ⟨⟨_,aQ9 _ (aS5 _ rfl),rfl,rfl⟩,(hT.push _).push _⟩ (aS5 _ rfl)⟩
 ·exact (aT5 (show some a=some v from hv)).symm
 ·exact (aT5 (show some b=some v from hv)).symm
 ·have z:=z2.symm.trans (z.trans z1)
  omega
 ·rcases aR5.mp z with z | z
  ·have z:=z2.symm.trans (z.trans z1)
   omega
  ·have z:=z2.symm.trans (aS1.mp z)
   omega
end
section
variable {X : Cx}
theorem aG7 (hc:X.calm=true) (hu:X.A.units+3 < cLine):cN X (.builtin "min") (fun xs H Q=>∃ a b ns ms,xs = [.ref a,.ref b]/\H a=some (.tup (ns.map V.int))/\H b=some (.tup (ms.map V.int))/\Q (if HT.aI ms ns=true then .ref b else .ref a) H):=by
 intro pins s σ H xs us Q I r h
 obtain ⟨a,b,ns,ms,rfl,ha,hb,q⟩:=h
 obtain ⟨u,w',rfl,r1,r2⟩:=k6 r
 cases r1
 cases r2
 refine aG4 (lt:=HT.aI ms ns) (I.ok.hd hc) (fun h k Q E old hq=>?_) fun h k old=>⟨_,H,I.kept (t':=k) old,?_,q⟩
 ·have I2:a6 X pins σ H (at_ s h k):=I.kept (t':=k) old
  obtain ⟨its,v1,t1,_⟩:=I2.tuple (aN.of (K:=X.K) ha)
  obtain ⟨its2,v2,t2,_⟩:=I2.tuple (aN.of (K:=X.K) hb)
  exact (HT.xQ t2 t1 (iN v2) (iN v1) (by show X.A.units+1 < cLine; omega) hq:wpAny (model X.prog X.w) X.A.in1 (compareOp .Lt _ _) Q E (at_ s h k))
 ·split <;> rfl
theorem aG8 (hc:X.calm=true) (hu:X.A.units+3 < cLine):cN X (.builtin "max") (fun xs H Q=>∃ a b ns ms,xs = [.ref a,.ref b]/\H a=some (.tup (ns.map V.int))/\H b=some (.tup (ms.map V.int))/\Q (if HT.aI ns ms=true then .ref b else .ref a) H):=by
 intro pins s σ H xs us Q I r h
 obtain ⟨a,b,ns,ms,rfl,ha,hb,q⟩:=h
 obtain ⟨u,w',rfl,r1,r2⟩:=k6 r
 cases r1
 cases r2
 refine aG6 (lt:=HT.aI ns ms) (I.ok.hd hc) (fun h k Q E old hq=>?_) fun h k old=>⟨_,H,I.kept (t':=k) old,?_,q⟩
 ·have I2:a6 X pins σ H (at_ s h k):=I.kept (t':=k) old
  obtain ⟨its,v1,t1,_⟩:=I2.tuple (aN.of (K:=X.K) ha)
  obtain ⟨its2,v2,t2,_⟩:=I2.tuple (aN.of (K:=X.K) hb)
  exact HT.aG2 t2 t1 (iN v2) (iN v1) (by show X.A.units+1 < cLine; omega) hq
 ·split <;> rfl
theorem aG9 (hc:X.calm=true):cN X (.builtin "max") (fun xs H Q=>∃ i j k,xs = [.int i,.int j,.int k]/\Q (.int (max i (max j k))) H):=by
 intro pins s σ H xs us Q I r h
 obtain ⟨i,j,k,rfl,q⟩:=h
 cases r with
 | cons r1 r2=>
  obtain ⟨u,w',rfl,⟨t',rfl⟩,⟨t'',rfl⟩⟩:=k6 r2
  obtain ⟨t,rfl⟩:=r1
  refine max_three_ints (I.ok.hd hc) fun h' tk kp=>⟨_,H,I.kept kp,?_,q⟩
  by_cases h1:j > i
  ·rw [if_pos h1]
   by_cases h2:k > j
   ·rw [if_pos h2,show max i (max j k)=k by omega]; exact⟨_,rfl⟩
   ·rw [if_neg h2,show max i (max j k)=j by omega]; exact⟨_,rfl⟩
  ·rw [if_neg h1]
   by_cases h2:k > i
   ·rw [if_pos h2,show max i (max j k)=k by omega]; exact⟨_,rfl⟩
   ·rw [if_neg h2,show max i (max j k)=i by omega]; exact⟨_,rfl⟩
end
end L2
namespace PP
open PySem L2
section
variable {X : Cx} {a b c e : Expr} {ta tb te : aB} {tr : cL} {pos p2 : Pos} {σ : St} {H : Hp} {D : dM}
theorem Reps.three {K:PySem.W.Frag}{M:Addr->Prop}{H:Hp}{vs:List V}{x y z:PV} (r:Reps K M H vs [x,y,z]):∃ v w u,vs = [v,w,u]/\aA K M H v x/\aA K M H w y/\aA K M H u z:=by
 cases r with
 | cons r t=>
  obtain ⟨w,u,rfl,q1,q2⟩:=t.two
  exact⟨_,_,_,rfl,r,q1,q2⟩
def o3:List PV->(PV->Prop)->Prop:=fun xs Q=>∃ i j k:Int,xs = [.int i,.int j,.int k]/\Q (.int (max i (max j k)))
theorem aH0:eI X o3 (fun xs H Q=>∃ i j k,xs = [.int i,.int j,.int k]/\Q (.int (max i (max j k))) H):=by
 rintro H vs xs Q Q' r ⟨i,j,k,rfl,q⟩ kk
 obtain ⟨v,w,u,rfl,r1,r2,r3⟩:=r.three
 cases r1; cases r2; cases r3
 exact⟨i,j,k,rfl,kk _ _ _ (aC.refl _) (.int _) q⟩
theorem vU (B:Bt X.mg) (hc:X.calm=true) (ha:QA X [a,b,c] tr) (hg:Gl X "max":=by rfl) (he:starEach [a,b,c] X.env=(false,eval a X.env) :: starEach [b,c] X.env:=by rfl) (hpl:(backTo pos (starEach [b,c] X.env)).any (·.1)=false:=by rfl):QE X (.Call (.Name "max" p2) [a,b,c] [] pos) (aG o3 tr):=
 iD (aG9 hc) aH0 hg B.max PyProof.Rows.boot_max ha (he:=he) (hpl:=hpl)
def vV:List PV->(PV->Prop)->Prop:=fun xs Q=>∃ ns ms:List Int,xs = [.tup (intz ns),.tup (intz ms)]/\Q (.tup (intz (if HT.aI ms ns=true then ms else ns)))
def vW:List PV->(PV->Prop)->Prop:=fun xs Q=>∃ ns ms:List Int,xs = [.tup (intz ns),.tup (intz ms)]/\Q (.tup (intz (if HT.aI ns ms=true then ms else ns)))
theorem aH1:eI X vV (fun xs H Q=>∃ a b ns ms,xs = [.ref a,.ref b]/\H a=some (.tup (ns.map V.int))/\H b=some (.tup (ms.map V.int))/\Q (if HT.aI ms ns=true then .ref b else .ref a) H):=by
 rintro H vs xs Q Q' r ⟨ns,ms,rfl,q⟩ k
 obtain ⟨v,w,rfl,r1,r2⟩:=r.two
 obtain ⟨p,us,rfl,h1,q1⟩:=r1.sqT
 obtain ⟨p',us',rfl,h2,q2⟩:=r2.sqT
 obtain rfl:=q1.ofInts
 obtain rfl:=q2.ofInts
 refine⟨p,p',ns,ms,rfl,h1,h2,k _ _ _ (aC.refl _) ?_ q⟩
 split
 ·exact .tup h2 (Reps.intz _)
 ·exact .tup h1 (Reps.intz _)
theorem aH2:eI X vW (fun xs H Q=>∃ a b ns ms,xs = [.ref a,.ref b]/\H a=some (.tup (ns.map V.int))/\H b=some (.tup (ms.map V.int))/\Q (if HT.aI ns ms=true then .ref b else .ref a) H):=by
 rintro H vs xs Q Q' r ⟨ns,ms,rfl,q⟩ k
 obtain ⟨v,w,rfl,r1,r2⟩:=r.two
 obtain ⟨p,us,rfl,h1,q1⟩:=r1.sqT
 obtain ⟨p',us',rfl,h2,q2⟩:=r2.sqT
 obtain rfl:=q1.ofInts
 obtain rfl:=q2.ofInts
 refine⟨p,p',ns,ms,rfl,h1,h2,k _ _ _ (aC.refl _) ?_ q⟩
 split
 ·exact .tup h2 (Reps.intz _)
 ·exact .tup h1 (Reps.intz _)
theorem aH3 (B:Bt X.mg) (hc:X.calm=true) (hu:X.A.units+3 < cLine) (ha:QA X [a,b] tr) (hg:Gl X "min":=by rfl) (he:starEach [a,b] X.env=(false,eval a X.env) :: starEach [b] X.env:=by rfl) (hpl:(backTo pos (starEach [b] X.env)).any (·.1)=false:=by rfl):QE X (.Call (.Name "min" p2) [a,b] [] pos) (aG vV tr):=
 iD (aG7 hc hu) aH1 hg B.min PyProof.Rows.boot_min ha (he:=he) (hpl:=hpl)
theorem aH4 (B:Bt X.mg) (hc:X.calm=true) (hu:X.A.units+3 < cLine) (ha:QA X [a,b] tr) (hg:Gl X "max":=by rfl) (he:starEach [a,b] X.env=(false,eval a X.env) :: starEach [b] X.env:=by rfl) (hpl:(backTo pos (starEach [b] X.env)).any (·.1)=false:=by rfl):QE X (.Call (.Name "max" p2) [a,b] [] pos) (aG vW tr):=
 iD (aG8 hc hu) aH2 hg B.max PyProof.Rows.boot_max ha (he:=he) (hpl:=hpl)
end
end PP
namespace HT
open PySem PyProof.Rows
section
open PySem.SeqAt
open PySem.MeetsSeq PySem.MeetsSeq2 PySem.MeetsSeq3
theorem aH5 (l:Addr) (items:Array Value) (n:Nat) (x:Value) (e:Value->Bool) (j:Nat) (hj:j < items.size) (hit:e items[j]=true) (hs1:items.size<=sizeLine) (k:Nat) :
  ∀ i:Nat,j - i=k->i<=j->(∀ m (hm:m < items.size),i<=m->m < j->e items[m]=false)->Meets (Builtin.«list.remove.loop» ⟨[.ref l,x,rawInt i],[]⟩)
   (fun A R s=>s.heap.get? l=some (seqObj "list" items n)/\(∀ y,y ∈ items->EqAt A.in1 s y x (e y))/\R (.ok (.ret .none)) { s with heap:=s.heap.update l (Obj.mapSeq fun xs=>xs.eraseIdxIfInBounds j) }):=by
 have fits:∀ i,(items.eraseIdxIfInBounds i).size<=sizeLine+1:=fun i=>aU8 (size_erased items _) (Nat.le_succ_of_le hs1)
 induction k with
 | zero=>
  intro i hk hij hno prog w A R s h
  obtain ⟨hp,g,d,tk,os⟩:=s
  obtain ⟨hl,he,h⟩:=h
  obtain rfl:i=j:=by omega
  have hl':hp.get? l=some { cls:=.type "list",dict:=none,data:=.seq items n,slots:=#[] }:=hl
  wp_walk using bb1 hl'
  rw [show items[((i:Nat):Int).toNat]? = some items[i] by simp [hj]]
  refine aQ7 (he _ (aV1 hj) prog w _ _ ?_)
  rw [hit]
  wp_walk using (bf3 hl' rfl (hz:=hs1) (_hz':=fits i)),bb1 hl'
  simpa using h
 | succ k ih=>
  intro i hk hij hno prog w A R s h
  obtain ⟨hp,g,d,tk,os⟩:=s
  obtain ⟨hl,he,h⟩:=h
  have hlt:i < items.size:=by omega
  have hl':hp.get? l=some { cls:=.type "list",dict:=none,data:=.seq items n,slots:=#[] }:=hl
  wp_walk using bb1 hl'
  rw [show items[((i:Nat):Int).toNat]? = some items[i] by simp [hlt]]
  refine aQ7 (he _ (aV1 hlt) prog w _ _ ?_)
  rw [hno i hlt (aR8 _) (by omega)]
  wp_walk
  rw [show ((i:Int)+1)=((i+1:Nat):Int) by omega]
  refine⟨bc5 plain_remove_loop _,bc2 entry_remove_loop ?_⟩
  rw [aX2 plain_remove_loop _]
  exact ih (i+1) (by omega) (by omega) (fun m hm h1 h2=>hno m hm (by omega) h2) prog w A R _ ⟨hl,he,h⟩
theorem aH6 (l:Addr) (items:Array Value) (n:Nat) (x:Value) (e:Value->Bool) (j:Nat) (hj:j < items.size) (hit:e items[j]=true) (hno:∀ m (hm:m < items.size),m < j->e items[m]=false) (hs1:items.size<=sizeLine) :
  Meets (Builtin.«list.remove» ⟨[.ref l,x],[]⟩)
   (fun A R s=>s.heap.get? l=some (seqObj "list" items n)/\(∀ y,y ∈ items->EqAt A.in1 s y x (e y))/\R (.ok (.ret .none)) { s with heap:=s.heap.update l (Obj.mapSeq fun xs=>xs.eraseIdxIfInBounds j) }):=by
 intro prog w A R s h
 obtain ⟨hp,g,d,tk,os⟩:=s
 obtain ⟨hl,he,h⟩:=h
 have hl':hp.get? l=some { cls:=.type "list",dict:=none,data:=.seq items n,slots:=#[] }:=hl
 wp_walk using bb1 hl'
 refine⟨bc5 plain_remove_loop _,bc2 entry_remove_loop ?_⟩
 rw [aX2 plain_remove_loop _]
 exact aH5 l items n x e j hj hit hs1 _ 0 rfl (aZ6 _) (fun m hm _ h2=>hno m hm h2) prog w A R _ ⟨hl,he,h⟩
end
end HT
namespace PP
open PySem L2
section
variable {X : Cx} {σ : St} {H : Hp} {D : dM} {te : aB} {e : Expr} {pos : Pos}
def R4 (K:PySem.W.Frag):V->List V->Hp->VK->Prop:=fun x vs H Q=>∃ (p:Addr) (us:List V) (w:V) (ns:List Int) (rs:List (List Int)) (j:Nat),x = .ref p/\vs = [w]/\H p=some (.lst us)/\aA K (fun _=>True) H w (.tup (intz ns))/\Reps K (fun _=>True) H us (rs.map fun r=>PV.tup (intz r))/\rs[j]? = some ns/\(∀ k,k < j->rs[k]? ≠ some ns)/\us.length < 16000000/\Q .non (upd H p (.lst (us.eraseIdx j)))
theorem R5:∀ (j:Nat) {us:List V}{its:List Value},aJ us its->aJ (us.eraseIdx j) (its.eraseIdx j)
 | _,_,_,.nil=>.nil
 | 0,_,_,.cons _ t=>t
 | j+1,_,_,.cons r t=>.cons r (R5 j t)
theorem aH7 (hu:X.A.units+3 < cLine):mM X "list.remove" (R4 X.K):=by
 intro pins s σ H x vs v us Q I rx rv h
 obtain ⟨p,ws,w,ns,rs,j,rfl,rfl,hp,rn,rr,hj,hno,hl,q⟩:=h
 cases rx
 obtain ⟨u,rfl,ru⟩:=iM rv
 obtain ⟨z,its,n,r,hl2,e⟩:=I.lstM hp
 have lr:=r.length
 have lp:=rr.length
 rw [aS0] at lp
 have jl:=(aS2.mp hj).1
 have hsz:sizeLine=16777216:=sizeLine_eq
 obtain ⟨f,key⟩:=N0 (A:=X.A.in1) (by show X.A.units+1+2 < cLine; omega) I ru r rn rr
 have jz:j < its.toArray.size:=by rw [aR1]; omega
 refine call_meets PySem.F.slot_list_remove ⟨_,e,rfl⟩ PySem.F.entry_list_remove (PySem.F.args_list_remove_2 _ _) (HT.aH6 p its.toArray n u f j jz ?_ ?_ (by rw [aR1]; omega)) ⟨e,fun y hy=>?_,.non,_,I.lset (its':=its.eraseIdx j) hp e ?_ (R5 j r) ?_,rfl,q⟩
 ·obtain ⟨m,hm,_,h2⟩:=key j its[j] (aR0 (by omega))
  rw [hj] at hm
  cases hm
  show f its[j]=true
  rw [h2]; exact aR6 rfl
 ·intro k hk hlt
  rw [aR1] at hk
  obtain ⟨m,hm,_,h2⟩:=key k its[k] (aR0 hk)
  show f its[k]=false
  rw [h2]
  exact aR2 fun z=>hno k hlt (by rw [hm,z])
 ·have hy:y ∈ its:=by simpa using hy
  obtain ⟨k,hk⟩:=bd7 hy
  obtain ⟨m,_,h1,_⟩:=key k y hk
  exact h1
 ·simp [Array.eraseIdxIfInBounds,jz]
  omega
 ·have:=List.length_eraseIdx_le ws j
  omega
def vX (i:Nat) (te:aB):aS:=fun D ρ=>∃ rs:List (List Int),ρ[i]? = some (some (.own (.lst (rs.map fun r=>PV.tup (intz r)))))/\te ρ fun y _=>∃ (ns:List Int) (j:Nat),y = .tup (intz ns)/\rs[j]? = some ns/\(∀ k,k < j->rs[k]? ≠ some ns)/\rs.length < 16000000/\D.nx (ρ.set i (some (.own (.lst ((rs.eraseIdx j).map fun r=>PV.tup (intz r))))))
theorem aH8 {i:Nat} (h:LS X (vX i te) D σ H):l0 (sR X.K "list" (R4 X.K) (jX i) (i7 (LE X te) jH)) D σ H:=by
 obtain ⟨W,ρ,D',px,⟨rs,hi,q⟩,k⟩:=h
 obtain ⟨v,ev,a,rfl,wa,us,ea,r⟩:=px.sl i _ hi
 have lr:=r.length
 rw [aS0] at lr
 refine⟨_,ev,tE (aP.of ea),W,ρ,_,px,q,?_⟩
 rintro w H1 y g s ry ⟨ns,j,rfl,hj,hno,hl,q⟩
 have ea2:=s _ _ ea
 refine⟨a,us,w,ns,rs,j,rfl,rfl,ea2,ry.same (aC.refl _) (fun _ _=>trivial),r.same s (fun _ _=>trivial),hj,hno,by omega,?_⟩
 refine k.nx W σ _ _ ((Ev.same s).trans (Ev.upd wa)) ((px.mono s).updL hi ev wa ?_) q
 have r2:=(r.same (M':=Ms X.H₀ W true) s fun _ z=>z).eraseIdx j
 rw [<- Raw.j7] at r2
 exact r2.keep (.upd ea2 rfl fun b m=>⟨mT wa m,m⟩)
theorem aH9 (i:Nat) {x:Str}{apos cpos xpos:Pos} (hu:X.A.units+3 < cLine) (he:QE X e te) (hN:X.N[i]? = some x:=by rfl) (hv:iL X.env.scope x:=by first | exact Or.inl rfl | exact Or.inr (Or.inl rfl) | exact Or.inr (Or.inr rfl)) (hd:(x == ("__debug__" : Str))=false:=by decide) (hcd:(x == ("__classdict__" : Str))=false:=by decide)
  (hbase:attributeBase (.Name x xpos) "remove" X.env (eval (.Name x xpos) X.env)=eval (.Name x xpos) X.env:=by rfl)
  (hfew:((backTo cpos (starEach [e] X.env)).all (fun x=>!x.1) && (backToKw cpos (keywordEach [] X.env)).all (fun x=>x.1.isSome) && decide (([e]:List Expr).length+([]:List Keyword).length+(if ([]:List Keyword).isEmpty then 0 else 1) < 30))=true:=by rfl)
  (hline:(apos.endLine == cpos.line)=true:=by rfl) (hs:starEach [e] X.env=(false,eval e X.env) :: starEach [] X.env:=by rfl) (hplain:(backTo cpos (starEach [] X.env)).any (·.1)=false:=by rfl)
  (hsw:swapsWith (.Call (.Attribute (.Name x xpos) "remove" apos) [e] [] cpos) none pos.line X.env=pure false:=by rfl) :
  QS X (.Expr (.Call (.Attribute (.Name x xpos) "remove" apos) [e] [] cpos) pos) (vX i te):=
 eC (mE (yC PySem.F.plainAttrs_list PySem.F.slot_list_remove PySem.F.type_list_remove (aH7 hu) (kZ hN hv hd hcd) (gM he jI hs) hbase hfew hline hs hplain) hsw) fun _ _ _=>aH8
def vY (te:aB):aS:=fun D ρ=>te ρ fun x g=>∃ xs,x = .lst xs/\g = .fr/\D.nx ρ
theorem aI0 (h:LS X (vY te) D σ H):l0 (yB X.K "list" yF (LE X te)) D σ H:=by
 obtain ⟨W,ρ,D',px,q,k⟩:=h
 refine⟨W,ρ,_,px,q,?_⟩
 rintro v H1 x g s r ⟨xs,rfl,rfl,q⟩
 obtain ⟨a,us,rfl,m,ea,r⟩:=r.sqL
 have s':aC H (upd H1 a (.lst [])):=fun b o e=>by
  rw [aZ (fun z=>by rw [z,show H a=none from m] at e; cases e)]
  exact s _ _ e
 exact⟨tE (aP.of ea),a,us,rfl,rfl,ea,k.nx W σ _ ρ (Ev.same s') (px.mono s') q⟩
theorem aI1 {o:Expr}{apos cpos:Pos} (ho:QE X o te) (hbase:attributeBase o "clear" X.env (eval o X.env)=eval o X.env:=by rfl) (hline:(apos.endLine == cpos.line)=true:=by rfl)
  (hsw:swapsWith (.Call (.Attribute o "clear" apos) [] [] cpos) none pos.line X.env=pure false:=by rfl):QS X (.Expr (.Call (.Attribute o "clear" apos) [] [] cpos) pos) (vY te):=
 eC (mE (ah4 PySem.F.plainAttrs_list PySem.F.slot_list_clear PySem.F.type_list_clear ah9 ho hbase hline) hsw) fun _ _ _=>aI0
def vZ (i j k l:Nat):gS:=fun x g ρ Q=>∃ y z u w,x = .tup [y,z,u,w]/\Q ((((ρ.set i (some (.sh (g || flat y) y))).set j (some (.sh (g || flat z) z))).set k (some (.sh (g || flat u) u))).set l (some (.sh (g || flat w) w)))
abbrev R6 (K:PySem.W.Frag) (i j k l:Nat):TG:=l5 K 4 (fB (dD i) (fB (dD j) (fB (dD k) (fB (dD l) l4))))
theorem Reps.four {K:PySem.W.Frag}{M:Addr->Prop}{H:Hp}{vs:List V}{x y z u:PV} (r:Reps K M H vs [x,y,z,u]):∃ v1 v2 v3 v4,vs = [v1,v2,v3,v4]/\aA K M H v1 x/\aA K M H v2 y/\aA K M H v3 z/\aA K M H v4 u:=by
 cases r with
 | cons r t=>
  obtain ⟨v,w,u,rfl,q1,q2,q3⟩:=t.three
  exact⟨_,_,_,_,rfl,r,q1,q2,q3⟩
theorem aI2 (K:PySem.W.Frag) (i j k l:Nat):kF K (fun n=>n=i ∨ n=j ∨ n=k ∨ n=l) (vZ i j k l) (R6 K i j k l):=by
 intro H0 W σ ρ H v x g Q Q' px r q kk
 obtain ⟨y,z,u,w,rfl,q⟩:=q
 obtain ⟨a,us,rfl,h,r⟩:=r.sqT
 obtain ⟨u1,u2,u3,u4,rfl,r1,r2,r3,r4⟩:=r.four
 refine⟨a,_,rfl,aN.of h,rfl,u1,_,rfl,u2,_,rfl,u3,_,rfl,u4,_,rfl,rfl,kk _ _ ((((px.setSh (jO r1)).setSh (jO r2)).setSh (jO r3)).setSh (jO r4)) (fun n hn=>?_) (by simp only [bc1]) q⟩
 rw [aT8 (fun e=>hn (.inr (.inr (.inr e.symm)))),aT8 (fun e=>hn (.inr (.inr (.inl e.symm)))),aT8 (fun e=>hn (.inr (.inl e.symm))),aT8 (fun e=>hn (.inl e.symm))]
structure Nm (X:Cx) (i:Nat) (x:Str):Prop where
 a:X.N[i]? = some x
 b:fX X.env.scope x
 c:X.fn x=true ∨ X.env.scope.names.lookup x=some .local
theorem aI3 {x y z u:Str}{tp xp yp zp up:Pos}{kt i j k l:Nat} (hN:X.N.Nodup) (hc:X.calm=true) (n1:Nm X i x) (n2:Nm X j y) (n3:Nm X k z) (n4:Nm X l u):PG X (.Tuple [.Name x xp,.Name y yp,.Name z zp,.Name u up] kt tp) (R6 X.K i j k l):=
 oE hc (i5 (fY hN n1.a n1.b n1.c) (i5 (fY hN n2.a n2.b n2.c) (i5 (fY hN n3.a n3.b n3.c) (i5 (fY hN n4.a n4.b n4.c) oD))))
theorem aI4 (i j k l:Nat) {x y z u:Str}{tp xp yp zp up:Pos}{kt:Nat} (hN:X.N.Nodup) (he:QE X e te)
  (n1:Nm X i x:=by exact⟨rfl,by first | exact Or.inl rfl | exact Or.inr rfl,by first | exact .inl rfl | exact .inr rfl⟩) (n2:Nm X j y:=by exact⟨rfl,by first | exact Or.inl rfl | exact Or.inr rfl,by first | exact .inl rfl | exact .inr rfl⟩)
  (n3:Nm X k z:=by exact⟨rfl,by first | exact Or.inl rfl | exact Or.inr rfl,by first | exact .inl rfl | exact .inr rfl⟩) (n4:Nm X l u:=by exact⟨rfl,by first | exact Or.inl rfl | exact Or.inr rfl,by first | exact .inl rfl | exact .inr rfl⟩) (hc:X.calm=true:=by rfl)
  (hs:swapsWithSole [.Tuple [.Name x xp,.Name y yp,.Name z zp,.Name u up] kt tp] e pos.line X.env=pure false:=by rfl) (hw:swappedStores [.Tuple [.Name x xp,.Name y yp,.Name z zp,.Name u up] kt tp] e X.env=pure none:=by rfl) :
  QS X (.Assign [.Tuple [.Name x xp,.Name y yp,.Name z zp,.Name u up] kt tp] e pos) (lY (vZ i j k l) te):=
 eC (wR he (aI3 hN hc n1 n2 n3 n4) hs hw) fun _ _ _=>K7 (aI2 _ i j k l)
end
end PP
namespace Core
open PySem L2 PP
structure Bx where
 t:Int
 l:Int
 b:Int
 r:Int
deriving DecidableEq
def Bx.k (x:Bx):List Int:=[x.t,x.l,x.b,x.r]
theorem Bx.k_inj {x y:Bx} (h:x.k=y.k):x=y:=by
 obtain ⟨a,b,c,d⟩:=x
 obtain ⟨a',b',c',d'⟩:=y
 unfold Bx.k at h
 simp only [List.cons.injEq,and_true] at h
 obtain ⟨rfl,rfl,rfl,rfl⟩:=h
 rfl
def jD (s e s' e':Int):Int:=max 0 (max (s' - e) (s - e'))
def bF (x y:Bx):Bool:=decide (jD x.t x.b y.t y.b+jD x.l x.r y.l y.r<=2)
def bM (x y:Bx):Bx:=⟨min x.t y.t,min x.l y.l,max x.b y.b,max x.r y.r⟩
def okX (x:Bx):Prop:=x.t<=x.b/\x.l<=x.r
def b7 (x:Bx) (p:Int × Int):Prop:=x.t<=p.1/\p.1<=x.b/\x.l<=p.2/\p.2<=x.r
def bB (x y:Bx):Prop:=y.t<=x.t/\y.l<=x.l/\x.b<=y.b/\x.r<=y.r
def cX (p:Int × Int):Bx:=⟨p.1,p.2,p.1,p.2⟩
def jV (x a:Int × Int):Prop:=(a.1=x.1/\(a.2=x.2 - 1 ∨ a.2=x.2+1)) ∨ (a.2=x.2/\(a.1=x.1 - 1 ∨ a.1=x.1+1))
theorem iH {a b:Int × Int} (h:a.1 ≠ b.1 ∨ a.2 ≠ b.2):a ≠ b:=fun e=>by subst e; exact h.elim (fun z=>z rfl) fun z=>z rfl
theorem R7 (s e s' e':Int):0<=jD s e s' e'/\s' - e<=jD s e s' e'/\s - e'<=jD s e s' e':=
 ⟨Int.le_max_left ..,aV9 (Int.le_max_left ..) (Int.le_max_right ..),aV9 (Int.le_max_right ..) (Int.le_max_right ..)⟩
theorem R8 {s e s' e' g:Int} (h0:0<=g) (h1:s' - e<=g) (h2:s - e'<=g):jD s e s' e'<=g:=Int.max_le.mpr ⟨h0,Int.max_le.mpr ⟨h1,h2⟩⟩
theorem R9 {x y:Bx} (h:bF x y=true):∃ g h:Int,0<=g/\0<=h/\g+h<=2/\y.t - x.b<=g/\x.t - y.b<=g/\y.l - x.r<=h/\x.l - y.r<=h:=
 have a:=R7 x.t x.b y.t y.b
 have b:=R7 x.l x.r y.l y.r
 ⟨_,_,a.1,b.1,bf6 h,a.2.1,a.2.2,b.2.1,b.2.2⟩
theorem w4 {x y:Bx}{g h:Int} (g0:0<=g) (h0:0<=h) (gh:g+h<=2) (a1:y.t - x.b<=g) (a2:x.t - y.b<=g) (b1:y.l - x.r<=h) (b2:x.l - y.r<=h):bF x y=true:=
 aR6 (aV9 (Int.add_le_add (R8 g0 a1 a2) (R8 h0 b1 b2)) gh)
theorem rH (x y:Bx):bF x y=bF y x:=by
 have go:∀ x y:Bx,bF x y=true->bF y x=true:=fun x y h=>by
  obtain ⟨g,h,g0,h0,gh,a1,a2,b1,b2⟩:=R9 h
  exact w4 g0 h0 gh a2 a1 b2 b1
 exact aY8.mpr ⟨go x y,go y x⟩
theorem S0 {x y:Bx}{p:Int × Int} (h1:b7 x p) (h2:b7 y p):bF x y=true:=
 w4 (g:=0) (h:=0) (aR4 _) (aR4 _) (by decide) (Int.sub_nonpos_of_le (aV9 h2.1 h1.2.1)) (Int.sub_nonpos_of_le (aV9 h1.1 h2.2.1)) (Int.sub_nonpos_of_le (aV9 h2.2.2.1 h1.2.2.2)) (Int.sub_nonpos_of_le (aV9 h1.2.2.1 h2.2.2.2))
theorem rJ (x y:Bx):bB x (bM x y):=⟨Int.min_le_left ..,Int.min_le_left ..,Int.le_max_left ..,Int.le_max_left ..⟩
theorem w5 (x y:Bx):bB y (bM x y):=⟨Int.min_le_right ..,Int.min_le_right ..,Int.le_max_right ..,Int.le_max_right ..⟩
theorem aI5 {x y z:Bx} (h:bB x z) (h':bB y z):bB (bM x y) z:=⟨Int.le_min.mpr ⟨h.1,h'.1⟩,Int.le_min.mpr ⟨h.2.1,h'.2.1⟩,Int.max_le.mpr ⟨h.2.2.1,h'.2.2.1⟩,Int.max_le.mpr ⟨h.2.2.2,h'.2.2.2⟩⟩
theorem bB.in_ {x y:Bx} (s:bB x y) {p:Int × Int} (h:b7 x p):b7 y p:=⟨aV9 s.1 h.1,aV9 h.2.1 s.2.2.1,aV9 s.2.1 h.2.2.1,aV9 h.2.2.2 s.2.2.2⟩
theorem bB.refl (x:Bx):bB x x:=⟨aR4 _,aR4 _,aR4 _,aR4 _⟩
theorem bB.trans {x y z:Bx} (h:bB x y) (h':bB y z):bB x z:=⟨aV9 h'.1 h.1,aV9 h'.2.1 h.2.1,aV9 h.2.2.1 h'.2.2.1,aV9 h.2.2.2 h'.2.2.2⟩
theorem aI6 {x y:Bx} (h:okX x):okX (bM x y):=
 have s:=rJ x y
 ⟨aV9 s.1 (aV9 h.1 s.2.2.1),aV9 s.2.1 (aV9 h.2 s.2.2.2)⟩
theorem aI7 (x y:Bx):bM x y=bM y x:=by unfold bM; rw [Int.min_comm x.t,Int.min_comm x.l,Int.max_comm x.b,Int.max_comm x.r]
theorem aI8 {x y:Bx}{p:Int × Int} (h:b7 x p):b7 (bM x y) p:=(rJ x y).in_ h
theorem w6 {x y:Bx}{p:Int × Int} (h:b7 y p):b7 (bM x y) p:=(w5 x y).in_ h
def eL (B:Bx) (U:Int × Int->Prop):Prop:=∀ x a b,b7 B x->jV x a->jV x b->a ≠ b->U a->U b->U x
def cR (U:Int × Int->Prop) (x:Bx):Prop:=∀ p,b7 x p->U p
theorem aI9 {U:Int × Int->Prop}{x y:Bx} (f:cR U y) (s:bB x y):cR U x:=fun p h=>f p (s.in_ h)
section
variable {B : Bx} {U : Int × Int → Prop}
theorem aJ0 (cl:eL B U) {y y' l r c0:Int} (hy:y'=y - 1 ∨ y'=y+1) (bd:∀ c,l<=c->c<=r->b7 B (y,c)) (f:∀ c,l<=c->c<=r->U (y',c)) (h0:l<=c0/\c0<=r) (u0:U (y,c0)):∀ (n:Nat) (c:Int),l<=c->c<=r->(c - c0).natAbs=n->U (y,c):=by
 have ny:y ≠ y':=by omega
 intro n
 induction n with
 | zero=>intro c h1 h2 h3; rw [show c=c0 by omega]; exact u0
 | succ n ih=>
  intro c h1 h2 h3
  have go:∀ d:Int,(d=c - 1 ∨ d=c+1)->l<=d->d<=r->(d - c0).natAbs=n->U (y,c):=fun d hd g1 g2 g3=>
   cl (y,c) (y,d) (y',c) (bd c h1 h2) (.inl ⟨rfl,hd⟩) (.inr ⟨rfl,hy⟩) (iH (.inl ny)) (ih d g1 g2 g3) (f c h1 h2)
  by_cases g:c0 < c
  ·exact go (c - 1) (.inl rfl) (by omega) (by omega) (by omega)
  ·exact go (c+1) (.inr rfl) (by omega) (by omega) (by omega)
theorem aJ1 (cl:eL B U) {y y' l r c0:Int} (hy:y'=y - 1 ∨ y'=y+1) (bd:∀ c,l<=c->c<=r->b7 B (c,y)) (f:∀ c,l<=c->c<=r->U (c,y')) (h0:l<=c0/\c0<=r) (u0:U (c0,y)):∀ (n:Nat) (c:Int),l<=c->c<=r->(c - c0).natAbs=n->U (c,y):=by
 have ny:y ≠ y':=by omega
 intro n
 induction n with
 | zero=>intro c h1 h2 h3; rw [show c=c0 by omega]; exact u0
 | succ n ih=>
  intro c h1 h2 h3
  have go:∀ d:Int,(d=c - 1 ∨ d=c+1)->l<=d->d<=r->(d - c0).natAbs=n->U (c,y):=fun d hd g1 g2 g3=>
   cl (c,y) (d,y) (c,y') (bd c h1 h2) (.inr ⟨rfl,hd⟩) (.inl ⟨rfl,hy⟩) (iH (.inr ny)) (ih d g1 g2 g3) (f c h1 h2)
  by_cases g:c0 < c
  ·exact go (c - 1) (.inl rfl) (by omega) (by omega) (by omega)
  ·exact go (c+1) (.inr rfl) (by omega) (by omega) (by omega)
variable {t l b r : Int}
theorem S2 (cl:eL B U) (f:cR U ⟨t,l,b,r⟩) {y y' c0:Int} (hy:y'=y - 1 ∨ y'=y+1) (h1:t<=y'/\y'<=b) (u:U (y,c0)) (h2:l<=c0/\c0<=r) {R:Bx} (s:bB R B) (hl:R.l=l) (hr:R.r=r) (iy:R.t<=y/\y<=R.b) (old:∀ q:Int × Int,b7 R q->q.1 ≠ y->t<=q.1/\q.1<=b):cR U R:=by
 intro q hq
 have a3:l<=q.2:=hl ▸ hq.2.2.1
 have a4:q.2<=r:=hr ▸ hq.2.2.2
 by_cases e:q.1=y
 ·have:=aJ0 cl hy (fun c g1 g2=>s.in_ ⟨iy.1,iy.2,hl.symm ▸ g1,hr.symm ▸ g2⟩) (fun c g1 g2=>f (y',c) ⟨h1.1,h1.2,g1,g2⟩) h2 u _ q.2 a3 a4 rfl
  rw [show q=(y,q.2) from be6 e rfl]; exact this
 ·have o:=old q hq e
  exact f q ⟨o.1,o.2,a3,a4⟩
theorem S3 (cl:eL B U) (f:cR U ⟨t,l,b,r⟩) {y y' c0:Int} (hy:y'=y - 1 ∨ y'=y+1) (h1:l<=y'/\y'<=r) (u:U (c0,y)) (h2:t<=c0/\c0<=b) {R:Bx} (s:bB R B) (ht:R.t=t) (hb:R.b=b) (iy:R.l<=y/\y<=R.r) (old:∀ q:Int × Int,b7 R q->q.2 ≠ y->l<=q.2/\q.2<=r):cR U R:=by
 intro q hq
 have a3:t<=q.1:=ht ▸ hq.1
 have a4:q.1<=b:=hb ▸ hq.2.1
 by_cases e:q.2=y
 ·have:=aJ1 cl hy (fun c g1 g2=>s.in_ ⟨ht.symm ▸ g1,hb.symm ▸ g2,iy.1,iy.2⟩) (fun c g1 g2=>f (c,y') ⟨g1,g2,h1.1,h1.2⟩) h2 u _ q.1 a3 a4 rfl
  rw [show q=(q.1,y) from be6 rfl e]; exact this
 ·have o:=old q hq e
  exact f q ⟨a3,a4,o.1,o.2⟩
theorem rK (cl:eL B U) (f:cR U ⟨t,l,b,r⟩) (tb:t<=b) {c0:Int} (u:U (b+1,c0)) (h2:l<=c0/\c0<=r) (s:bB ⟨t,l,b+1,r⟩ B):cR U ⟨t,l,b+1,r⟩:=
 S2 cl f (y:=b+1) (y':=b) (.inl (by omega)) ⟨tb,aR4 _⟩ u h2 s rfl rfl ⟨by show t<=b+1; omega,aR4 _⟩ fun q hq ne=>⟨hq.1,by have:q.1<=b+1:=hq.2.1; omega⟩
theorem rL (cl:eL B U) (f:cR U ⟨t,l,b,r⟩) (tb:t<=b) {c0:Int} (u:U (t - 1,c0)) (h2:l<=c0/\c0<=r) (s:bB ⟨t - 1,l,b,r⟩ B):cR U ⟨t - 1,l,b,r⟩:=
 S2 cl f (y:=t - 1) (y':=t) (.inr (by omega)) ⟨aR4 _,tb⟩ u h2 s rfl rfl ⟨aR4 _,by show t - 1<=b; omega⟩ fun q hq ne=>⟨by have:t - 1<=q.1:=hq.1; omega,hq.2.1⟩
theorem w9 (cl:eL B U) (f:cR U ⟨t,l,b,r⟩) (lr:l<=r) {c0:Int} (u:U (c0,r+1)) (h2:t<=c0/\c0<=b) (s:bB ⟨t,l,b,r+1⟩ B):cR U ⟨t,l,b,r+1⟩:=
 S3 cl f (y:=r+1) (y':=r) (.inl (by omega)) ⟨lr,aR4 _⟩ u h2 s rfl rfl ⟨by show l<=r+1; omega,aR4 _⟩ fun q hq ne=>⟨hq.2.2.1,by have:q.2<=r+1:=hq.2.2.2; omega⟩
theorem wA (cl:eL B U) (f:cR U ⟨t,l,b,r⟩) (lr:l<=r) {c0:Int} (u:U (c0,l - 1)) (h2:t<=c0/\c0<=b) (s:bB ⟨t,l - 1,b,r⟩ B):cR U ⟨t,l - 1,b,r⟩:=
 S3 cl f (y:=l - 1) (y':=l) (.inr (by omega)) ⟨aR4 _,lr⟩ u h2 s rfl rfl ⟨aR4 _,by show l - 1<=r; omega⟩ fun q hq ne=>⟨by have:l - 1<=q.2:=hq.2.2.1; omega,hq.2.2.2⟩
def jE (B:Bx) (U:Int × Int->Prop) (R:Bx) (p:Int × Int):Prop:=∃ R',okX R'/\bB R R'/\b7 R' p/\bB R' B/\cR U R'
theorem jE.step {R R1:Bx}{p:Int × Int} (s:bB R R1) (h:jE B U R1 p):jE B U R p:=by
 obtain ⟨R',h1,h2,h3,h4,h5⟩:=h
 exact⟨R',h1,s.trans h2,h3,h4,h5⟩
section
variable (cl : eL B U) {p1 p2 : Int} (u : U (p1, p2)) (ip : b7 B (p1, p2))
include cl u ip
theorem wB (f:cR U ⟨t,l,b,r⟩) (tb:t<=b) (lr:l<=r) (s:bB ⟨t,l,b,r⟩ B) (h:t<=p1/\p1<=b) (g1:p2 - r<=2) (g2:l - p2<=2):jE B U ⟨t,l,b,r⟩ (p1,p2):=by
 obtain ⟨s1,s2,s3,s4⟩:=s
 obtain ⟨i1,i2,i3,i4⟩:=ip
 dsimp only at *
 by_cases a:p2<=r
 ·by_cases a':l<=p2
  ·exact⟨_,⟨tb,lr⟩,bB.refl _,⟨h.1,h.2,a',a⟩,⟨s1,s2,s3,s4⟩,f⟩
  ·have u1:U (p1,l - 1):=by
    by_cases e:p2=l - 1
    ·rw [<- e]; exact u
    ·exact cl (p1,l - 1) (p1,p2) (p1,l) ⟨i1,i2,by show B.l<=l - 1; omega,by show l - 1<=B.r; omega⟩ (.inl ⟨rfl,.inl (by show p2=l - 1 - 1; omega)⟩) (.inl ⟨rfl,.inr (by show l=l - 1+1; omega)⟩) (iH (.inr (by show p2 ≠ l; omega))) u (f _ ⟨h.1,h.2,aR4 _,lr⟩)
   have f1:=wA cl f lr u1 h ⟨s1,by show B.l<=l - 1; omega,s3,s4⟩
   by_cases e:p2=l - 1
   ·exact⟨⟨t,l - 1,b,r⟩,⟨tb,by show l - 1<=r; omega⟩,⟨aR4 _,by show l - 1<=l; omega,aR4 _,aR4 _⟩,⟨h.1,h.2,by show l - 1<=p2; omega,a⟩,⟨s1,by show B.l<=l - 1; omega,s3,s4⟩,f1⟩
   ·have e2:p2=l - 1 - 1:=by omega
    have f2:=wA cl f1 (by omega) (c0:=p1) (by rw [<- e2]; exact u) h ⟨s1,by show B.l<=l - 1 - 1; omega,s3,s4⟩
    exact⟨⟨t,l - 1 - 1,b,r⟩,⟨tb,by show l - 1 - 1<=r; omega⟩,⟨aR4 _,by show l - 1 - 1<=l; omega,aR4 _,aR4 _⟩,⟨h.1,h.2,by show l - 1 - 1<=p2; omega,a⟩,⟨s1,by show B.l<=l - 1 - 1; omega,s3,s4⟩,f2⟩
 ·have u1:U (p1,r+1):=by
   by_cases e:p2=r+1
   ·rw [<- e]; exact u
   ·exact cl (p1,r+1) (p1,p2) (p1,r) ⟨i1,i2,by show B.l<=r+1; omega,by show r+1<=B.r; omega⟩ (.inl ⟨rfl,.inr (by show p2=r+1+1; omega)⟩) (.inl ⟨rfl,.inl (by show r=r+1 - 1; omega)⟩) (iH (.inr (by show p2 ≠ r; omega))) u (f _ ⟨h.1,h.2,lr,aR4 _⟩)
  have f1:=w9 cl f lr u1 h ⟨s1,s2,s3,by show r+1<=B.r; omega⟩
  by_cases e:p2=r+1
  ·exact⟨⟨t,l,b,r+1⟩,⟨tb,by show l<=r+1; omega⟩,⟨aR4 _,aR4 _,aR4 _,by show r<=r+1; omega⟩,⟨h.1,h.2,by show l<=p2; omega,by show p2<=r+1; omega⟩,⟨s1,s2,s3,by show r+1<=B.r; omega⟩,f1⟩
  ·have e2:p2=r+1+1:=by omega
   have f2:=w9 cl f1 (by omega) (c0:=p1) (by rw [<- e2]; exact u) h ⟨s1,s2,s3,by show r+1+1<=B.r; omega⟩
   exact⟨⟨t,l,b,r+1+1⟩,⟨tb,by show l<=r+1+1; omega⟩,⟨aR4 _,aR4 _,aR4 _,by show r<=r+1+1; omega⟩,⟨h.1,h.2,by show l<=p2; omega,by show p2<=r+1+1; omega⟩,⟨s1,s2,s3,by show r+1+1<=B.r; omega⟩,f2⟩
theorem aJ2 (f:cR U ⟨t,l,b,r⟩) (tb:t<=b) (lr:l<=r) (s:bB ⟨t,l,b,r⟩ B) {g h:Int} (g0:0<=g) (h0:0<=h) (gh:g+h<=2) (a1:p1 - b<=g) (a2:t - p1<=g) (b1:p2 - r<=h) (b2:l - p2<=h):jE B U ⟨t,l,b,r⟩ (p1,p2):=by
 by_cases c1:p1<=b
 ·by_cases c2:t<=p1
  ·exact wB cl u ip f tb lr s ⟨c2,c1⟩ (by omega) (by omega)
  ·
   obtain ⟨s1,s2,s3,s4⟩:=s
   obtain ⟨i1,i2,i3,i4⟩:=ip
   dsimp only at *
   have go:∀ c0,U (t - 1,c0)->l<=c0/\c0<=r->p1=t - 1->jE B U ⟨t,l,b,r⟩ (p1,p2):=fun c0 u0 hc e=>
    jE.step (R1:=⟨t - 1,l,b,r⟩) ⟨by show t - 1<=t; omega,aR4 _,aR4 _,aR4 _⟩ (wB cl u ⟨i1,i2,i3,i4⟩ (rL cl f tb u0 hc ⟨by show B.t<=t - 1; omega,s2,s3,s4⟩) (by omega) lr ⟨by show B.t<=t - 1; omega,s2,s3,s4⟩ ⟨by omega,by omega⟩ (by omega) (by omega))
   by_cases e:p1=t - 1
   ·by_cases d1:p2<=r
    ·by_cases d2:l<=p2
     ·exact go p2 (by rw [<- e]; exact u) ⟨d2,d1⟩ e
     ·exact go l (cl (t - 1,l) (p1,p2) (t,l) ⟨by show B.t<=t - 1; omega,by show t - 1<=B.b; omega,s2,by show l<=B.r; omega⟩ (.inl ⟨e,.inl (by show p2=l - 1; omega)⟩) (.inr ⟨rfl,.inr (by show t=t - 1+1; omega)⟩) (iH (.inl (by show p1 ≠ t; omega))) u (f _ ⟨aR4 _,tb,aR4 _,lr⟩)) ⟨aR4 _,lr⟩ e
    ·exact go r (cl (t - 1,r) (p1,p2) (t,r) ⟨by show B.t<=t - 1; omega,by show t - 1<=B.b; omega,by show B.l<=r; omega,s4⟩ (.inl ⟨e,.inr (by show p2=r+1; omega)⟩) (.inr ⟨rfl,.inr (by show t=t - 1+1; omega)⟩) (iH (.inl (by show p1 ≠ t; omega))) u (f _ ⟨aR4 _,tb,lr,aR4 _⟩)) ⟨lr,aR4 _⟩ e
   ·have hc:l<=p2/\p2<=r:=⟨by omega,by omega⟩
    have e2:p1=t - 1 - 1:=by omega
    have u1:U (t - 1,p2):=cl (t - 1,p2) (p1,p2) (t,p2) ⟨by show B.t<=t - 1; omega,by show t - 1<=B.b; omega,i3,i4⟩ (.inr ⟨rfl,.inl e2⟩) (.inr ⟨rfl,.inr (by show t=t - 1+1; omega)⟩) (iH (.inl (by show p1 ≠ t; omega))) u (f _ ⟨aR4 _,tb,hc.1,hc.2⟩)
    have f1:=rL cl f tb u1 hc ⟨by show B.t<=t - 1; omega,s2,s3,s4⟩
    have f2:=rL cl f1 (by omega) (c0:=p2) (by rw [<- e2]; exact u) hc ⟨by show B.t<=t - 1 - 1; omega,s2,s3,s4⟩
    exact⟨⟨t - 1 - 1,l,b,r⟩,⟨by show t - 1 - 1<=b; omega,lr⟩,⟨by show t - 1 - 1<=t; omega,aR4 _,aR4 _,aR4 _⟩,⟨by show t - 1 - 1<=p1; omega,c1,hc.1,hc.2⟩,⟨by show B.t<=t - 1 - 1; omega,s2,s3,s4⟩,f2⟩
 ·
  obtain ⟨s1,s2,s3,s4⟩:=s
  obtain ⟨i1,i2,i3,i4⟩:=ip
  dsimp only at *
  have go:∀ c0,U (b+1,c0)->l<=c0/\c0<=r->p1=b+1->jE B U ⟨t,l,b,r⟩ (p1,p2):=fun c0 u0 hc e=>
   jE.step (R1:=⟨t,l,b+1,r⟩) ⟨aR4 _,aR4 _,by show b<=b+1; omega,aR4 _⟩ (wB cl u ⟨i1,i2,i3,i4⟩ (rK cl f tb u0 hc ⟨s1,s2,by show b+1<=B.b; omega,s4⟩) (by omega) lr ⟨s1,s2,by show b+1<=B.b; omega,s4⟩ ⟨by omega,by omega⟩ (by omega) (by omega))
  by_cases e:p1=b+1
  ·by_cases d1:p2<=r
   ·by_cases d2:l<=p2
    ·exact go p2 (by rw [<- e]; exact u) ⟨d2,d1⟩ e
    ·exact go l (cl (b+1,l) (p1,p2) (b,l) ⟨by show B.t<=b+1; omega,by show b+1<=B.b; omega,s2,by show l<=B.r; omega⟩ (.inl ⟨e,.inl (by show p2=l - 1; omega)⟩) (.inr ⟨rfl,.inl (by show b=b+1 - 1; omega)⟩) (iH (.inl (by show p1 ≠ b; omega))) u (f _ ⟨tb,aR4 _,aR4 _,lr⟩)) ⟨aR4 _,lr⟩ e
   ·exact go r (cl (b+1,r) (p1,p2) (b,r) ⟨by show B.t<=b+1; omega,by show b+1<=B.b; omega,by show B.l<=r; omega,s4⟩ (.inl ⟨e,.inr (by show p2=r+1; omega)⟩) (.inr ⟨rfl,.inl (by show b=b+1 - 1; omega)⟩) (iH (.inl (by show p1 ≠ b; omega))) u (f _ ⟨tb,aR4 _,lr,aR4 _⟩)) ⟨lr,aR4 _⟩ e
  ·have hc:l<=p2/\p2<=r:=⟨by omega,by omega⟩
   have e2:p1=b+1+1:=by omega
   have u1:U (b+1,p2):=cl (b+1,p2) (p1,p2) (b,p2) ⟨by show B.t<=b+1; omega,by show b+1<=B.b; omega,i3,i4⟩ (.inr ⟨rfl,.inr e2⟩) (.inr ⟨rfl,.inl (by show b=b+1 - 1; omega)⟩) (iH (.inl (by show p1 ≠ b; omega))) u (f _ ⟨tb,aR4 _,hc.1,hc.2⟩)
   have f1:=rK cl f tb u1 hc ⟨s1,s2,by show b+1<=B.b; omega,s4⟩
   have f2:=rK cl f1 (by omega) (c0:=p2) (by rw [<- e2]; exact u) hc ⟨s1,s2,by show b+1+1<=B.b; omega,s4⟩
   exact⟨⟨t,l,b+1+1,r⟩,⟨by show t<=b+1+1; omega,lr⟩,⟨aR4 _,aR4 _,by show b<=b+1+1; omega,aR4 _⟩,⟨by show t<=p1; omega,by show p1<=b+1+1; omega,hc.1,hc.2⟩,⟨s1,s2,by show b+1+1<=B.b; omega,s4⟩,f2⟩
end
theorem aJ3 (cl:eL B U) {C:Bx} (fC:cR U C) (sC:bB C B) {p:Int × Int} (pC:b7 C p):∀ (n:Nat) (t l b r:Int),b7 ⟨t,l,b,r⟩ p->cR U ⟨t,l,b,r⟩->bB ⟨t,l,b,r⟩ B->(t - C.t).toNat+(l - C.l).toNat+(C.b - b).toNat+(C.r - r).toNat=n->∃ R,cR U R/\bB ⟨t,l,b,r⟩ R/\bB C R:=by
 obtain ⟨c1,c2,c3,c4⟩:=pC
 obtain ⟨d1,d2,d3,d4⟩:=sC
 intro n
 induction n with
 | zero=>
  intro t l b r pR f s h
  exact⟨_,f,bB.refl _,by show t<=C.t; omega,by show l<=C.l; omega,by show C.b<=b; omega,by show C.r<=r; omega⟩
 | succ n ih=>
  rintro t l b r ⟨a1,a2,a3,a4⟩ f ⟨s1,s2,s3,s4⟩ h
  dsimp only at a1 a2 a3 a4 s1 s2 s3 s4
  have tb:=aV9 a1 a2
  have lr:=aV9 a3 a4
  by_cases h1:C.t < t
  ·have s':bB ⟨t - 1,l,b,r⟩ B:=⟨by show B.t<=t - 1; omega,s2,s3,s4⟩
   have u:=fC (t - 1,p.2) ⟨by show C.t<=t - 1; omega,by show t - 1<=C.b; omega,c3,c4⟩
   obtain ⟨R,g1,g2,g3⟩:=ih (t - 1) l b r ⟨by show t - 1<=p.1; omega,a2,a3,a4⟩ (rL cl f tb u ⟨a3,a4⟩ s') s' (by omega)
   exact⟨R,g1,bB.trans (y:=⟨t - 1,l,b,r⟩) ⟨by show t - 1<=t; omega,aR4 _,aR4 _,aR4 _⟩ g2,g3⟩
  ·by_cases h2:C.l < l
   ·have s':bB ⟨t,l - 1,b,r⟩ B:=⟨s1,by show B.l<=l - 1; omega,s3,s4⟩
    have u:=fC (p.1,l - 1) ⟨c1,c2,by show C.l<=l - 1; omega,by show l - 1<=C.r; omega⟩
    obtain ⟨R,g1,g2,g3⟩:=ih t (l - 1) b r ⟨a1,a2,by show l - 1<=p.2; omega,a4⟩ (wA cl f lr u ⟨a1,a2⟩ s') s' (by omega)
    exact⟨R,g1,bB.trans (y:=⟨t,l - 1,b,r⟩) ⟨aR4 _,by show l - 1<=l; omega,aR4 _,aR4 _⟩ g2,g3⟩
   ·by_cases h3:b < C.b
    ·have s':bB ⟨t,l,b+1,r⟩ B:=⟨s1,s2,by show b+1<=B.b; omega,s4⟩
     have u:=fC (b+1,p.2) ⟨by show C.t<=b+1; omega,by show b+1<=C.b; omega,c3,c4⟩
     obtain ⟨R,g1,g2,g3⟩:=ih t l (b+1) r ⟨a1,by show p.1<=b+1; omega,a3,a4⟩ (rK cl f tb u ⟨a3,a4⟩ s') s' (by omega)
     exact⟨R,g1,bB.trans (y:=⟨t,l,b+1,r⟩) ⟨aR4 _,aR4 _,by show b<=b+1; omega,aR4 _⟩ g2,g3⟩
    ·have h4:r < C.r:=by omega
     have s':bB ⟨t,l,b,r+1⟩ B:=⟨s1,s2,s3,by show r+1<=B.r; omega⟩
     have u:=fC (p.1,r+1) ⟨c1,c2,by show C.l<=r+1; omega,by show r+1<=C.r; omega⟩
     obtain ⟨R,g1,g2,g3⟩:=ih t l b (r+1) ⟨a1,a2,a3,by show p.2<=r+1; omega⟩ (w9 cl f lr u ⟨a1,a2⟩ s') s' (by omega)
     exact⟨R,g1,bB.trans (y:=⟨t,l,b,r+1⟩) ⟨aR4 _,aR4 _,aR4 _,by show r<=r+1; omega⟩ g2,g3⟩
theorem S4 {a b c d g:Int} (ab:a<=b) (cd:c<=d) (g0:0<=g) (h1:c - b<=g) (h2:a - d<=g):∃ p,c<=p/\p<=d/\p - b<=g/\a - p<=g:=by
 by_cases e1:a<=c
 ·exact⟨c,aR4 _,cd,h1,by omega⟩
 ·by_cases e2:a<=d
  ·exact⟨a,by omega,e2,by omega,by omega⟩
  ·exact⟨d,cd,aR4 _,by omega,h2⟩
theorem aJ4 {A C:Bx} (okA:okX A) (okC:okX C) (nr:bF A C=true) (cl:eL (bM A C) U) (fA:cR U A) (fC:cR U C):cR U (bM A C):=by
 obtain ⟨g,h,g0,h0,gh,a1,a2,b1,b2⟩:=R9 nr
 obtain ⟨p1,q1,q2,q3,q4⟩:=S4 okA.1 okC.1 g0 a1 a2
 obtain ⟨p2,r1,r2,r3,r4⟩:=S4 okA.2 okC.2 h0 b1 b2
 have pC:b7 C (p1,p2):=⟨q1,q2,r1,r2⟩
 obtain ⟨⟨t,l,b,r⟩,k1,k2,k3,k4,k5⟩:=aJ2 cl (fC _ pC) (w6 pC) (t:=A.t) (l:=A.l) (b:=A.b) (r:=A.r) fA okA.1 okA.2 (rJ A C) g0 h0 gh q3 q4 r3 r4
 obtain ⟨R,m1,m2,m3⟩:=aJ3 cl fC (w5 A C) pC _ t l b r k3 k5 k4 rfl
 exact aI9 m1 (aI5 (bB.trans k2 m2) m3)
end
theorem S5 {x a:Int × Int} (h:jV x a):∃ g k:Int,0<=g/\0<=k/\g+k<=1/\a.1 - x.1<=g/\x.1 - a.1<=g/\a.2 - x.2<=k/\x.2 - a.2<=k:=by
 rcases h with ⟨h1,h2⟩ | ⟨h1,h2⟩
 ·exact⟨0,1,by decide,by decide,by decide,by omega,by omega,by omega,by omega⟩
 ·exact⟨1,0,by decide,by decide,by decide,by omega,by omega,by omega,by omega⟩
theorem aJ5 {T:List Bx} (pw:∀ x ∈ T,∀ y ∈ T,bF x y=true->x=y) (B:Bx):eL B (fun p=>∃ x ∈ T,b7 x p):=by
 rintro x a b _ xa xb ne ⟨A,hA,ia⟩ ⟨C,hC,ib⟩
 obtain ⟨g,k,g0,k0,gk,d1,d2,d3,d4⟩:=S5 xa
 obtain ⟨g',k',g0',k0',gk',d1',d2',d3',d4'⟩:=S5 xb
 obtain ⟨i1,i2,i3,i4⟩:=ia
 obtain ⟨j1,j2,j3,j4⟩:=ib
 have nr:bF A C=true:=w4 (g:=g+g') (h:=k+k') (by omega) (by omega) (by omega) (by omega) (by omega) (by omega) (by omega)
 have:=pw A hA C hC nr
 subst this
 refine⟨A,hA,?_⟩
 rcases xa with ⟨e1,e2⟩ | ⟨e1,e2⟩
 ·rcases xb with ⟨e3,e4⟩ | ⟨e3,e4⟩
  ·have:a.2 ≠ b.2:=fun z=>ne (be6 (e1.trans e3.symm) z)
   exact⟨by omega,by omega,by omega,by omega⟩
  ·exact⟨by omega,by omega,by omega,by omega⟩
 ·rcases xb with ⟨e3,e4⟩ | ⟨e3,e4⟩
  ·exact⟨by omega,by omega,by omega,by omega⟩
  ·have:a.1 ≠ b.1:=fun z=>ne (be6 z (e1.trans e3.symm))
   exact⟨by omega,by omega,by omega,by omega⟩
abbrev b8:=Int × Int
inductive dU (B:Bx) (S:b8->Prop):b8->Prop
 | seed {x:b8}:S x->dU B S x
 | kin {x a b:b8}:b7 B x->jV x a->jV x b->a ≠ b->dU B S a->dU B S b->dU B S x
theorem dU.clo {B B':Bx}{S:b8->Prop} (s:bB B' B):eL B' (dU B S):=fun x a b h1 h2 h3 h4 h5 h6=>.kin (s.in_ h1) h2 h3 h4 h5 h6
theorem dU.mono {B B':Bx}{S S':b8->Prop} (s:bB B B') (h:∀ x,S x->S' x) {x:b8} (b:dU B S x):dU B' S' x:=by
 induction b with
 | seed z=>exact .seed (h _ z)
 | kin h1 h2 h3 h4 _ _ i1 i2=>exact .kin (s.in_ h1) h2 h3 h4 i1 i2
theorem dU.least {B:Bx}{S U:b8->Prop} (cl:eL B U) (h:∀ x,S x->U x) {x:b8} (b:dU B S x):U x:=by
 induction b with
 | seed z=>exact h _ z
 | kin h1 h2 h3 h4 _ _ i1 i2=>exact cl _ _ _ h1 h2 h3 h4 i1 i2
abbrev m7 (r c:Int):Bx:=⟨0,0,r - 1,c - 1⟩
theorem rM {r c:Int}{p:b8}:b7 (m7 r c) p ↔ bD r c p=true:=by
 rw [iG]; unfold b7; dsimp only; omega
theorem rN {r c:Int}{x a:b8}:a ∈ bA r c x ↔ jV x a/\bD r c a=true:=by
 unfold bA
 rw [aX7]
 refine and_congr_left fun _=>?_
 unfold fR jV
 simp only [aR5,aS6,aV6,Prod.ext_iff]
 omega
theorem aJ6 {r c:Int}{S:List b8} (bd:∀ x ∈ S,bD r c x=true) {p:b8} (h:hG r c S p):bD r c p=true:=by
 cases h with
 | seed h=>exact bd _ h
 | kin h1 _ _ _ _ _=>exact h1
theorem aJ7 {r c:Int}{S:List b8} (bd:∀ x ∈ S,bD r c x=true) {p:b8}:hG r c S p ↔ dU (m7 r c) (· ∈ S) p:=by
 have bd':∀ {q:b8},dU (m7 r c) (· ∈ S) q->bD r c q=true:=fun {q} h=>by
  cases h with
  | seed h=>exact bd _ h
  | kin h1 _ _ _ _ _=>exact rM.mp h1
 constructor
 ·intro h
  induction h with
  | seed h=>exact .seed h
  | kin h1 h2 h3 h4 _ _ i1 i2=>exact .kin (rM.mpr h1) (rN.mp h2).1 (rN.mp h3).1 h4 i1 i2
 ·intro h
  induction h with
  | seed h=>exact .seed h
  | kin h1 h2 h3 h4 b1 b2 i1 i2=>exact .kin (rM.mp h1) (rN.mpr ⟨h2,bd' b1⟩) (rN.mpr ⟨h3,bd' b2⟩) h4 i1 i2
def jF (x:Bx):Int:=(x.b - x.t+1)+(x.r - x.l+1)
structure gL (G:List b8) (x:Bx):Prop where
 ok:okX x
 ins:∀ s ∈ G,b7 x s
 full:∀ p,b7 x p->dU x (· ∈ G) p
 few:jF x<=2 * (G.length:Int)
theorem gL.cell (p:b8):gL [p] (cX p):=by
 refine⟨by unfold okX cX; exact⟨aR4 _,aR4 _⟩,fun s hs=>?_,fun q hq=>.seed ?_,?_⟩
 ·rw [aS1.mp hs]; unfold b7 cX; dsimp only; omega
 ·unfold b7 cX at hq
  dsimp only at hq
  exact aS1.mpr (be6 (by omega) (by omega))
 ·unfold jF cX; dsimp only; simp only [ba0]; omega
theorem aJ8 {x y:Bx} (h1:okX x) (h2:okX y) (nr:bF x y=true):jF (bM x y)<=jF x+jF y:=by
 have nr:=bf6 nr
 unfold jD at nr; unfold okX at h1 h2; unfold jF bM; dsimp only; omega
theorem gL.hull {G G':List b8}{x y:Bx} (h:gL G x) (h':gL G' y) (nr:bF x y=true):gL (G ++ G') (bM x y):=by
 refine⟨aI6 h.ok,fun s hs=>?_,?_,?_⟩
 ·rcases aU4.mp hs with z | z
  ·exact aI8 (h.ins s z)
  ·exact w6 (h'.ins s z)
 ·exact aJ4 h.ok h'.ok nr (dU.clo (bB.refl _)) (fun p hp=>(h.full p hp).mono (rJ x y) fun s hs=>aU3 _ hs) (fun p hp=>(h'.full p hp).mono (w5 x y) fun s hs=>aU0 _ hs)
 ·have:=aJ8 h.ok h'.ok nr
  have:=h.few
  have:=h'.few
  rw [aU1]; omega
theorem gL.same {G G':List b8}{x:Bx} (h:gL G x) (h':∀ s ∈ G',b7 x s):gL (G ++ G') x:=by
 refine⟨h.ok,fun s hs=>?_,fun p hp=>(h.full p hp).mono (bB.refl _) fun s hs=>aU3 _ hs,?_⟩
 ·rcases aU4.mp hs with z | z
  ·exact h.ins s z
  ·exact h' s z
 ·have:=h.few
  rw [aU1]; omega
def hV (T:List Bx) (s:Bx × Bx):Bool:=decide (s.1 ∈ T) && (decide (s.2 ∈ T) && (HT.aI s.1.k s.2.k && bF s.1 s.2))
def fV (T:List Bx) (s:Bx × Bx):List Bx:=(T.erase s.1).erase s.2
def jG (T:List Bx) (s:Bx × Bx):List Bx:=if bM s.1 s.2 ∈ fV T s then fV T s else fV T s ++ [bM s.1 s.2]
def hZ (s:Bx × Bx) (T:List Bx):Option (List Bx):=if hV T s=true then some (jG T s) else none
def dO (T:List Bx) (sts:List (Bx × Bx)):Option (List Bx):=sts.foldl (fun o s=>o.bind (hZ s)) (some T)
theorem rO (T:List Bx) (sts:List (Bx × Bx)) (s:Bx × Bx):dO T (sts ++ [s])=(dO T sts).bind (hZ s):=by unfold dO; rw [List.foldl_append]; rfl
theorem aJ9 {T:List Bx}:∀ {a b:List (Bx × Bx)},dO T a=none->dO T (a ++ b)=none:=by
 intro a b h
 unfold dO at *
 rw [List.foldl_append,h]
 induction b with
 | nil=>rfl
 | cons x r ih=>exact ih
theorem rP {T:List Bx}{s:Bx × Bx}:hV T s=true ↔ s.1 ∈ T/\s.2 ∈ T/\HT.aI s.1.k s.2.k=true/\bF s.1 s.2=true:=by
 unfold hV
 simp only [aZ2,aT4]
def cB (S:List b8) (T:List Bx):Prop:=∃ f:List (Bx × List b8),T=f.map (·.1)/\(∀ e ∈ f,gL e.2 e.1)/\(f.map (·.2)).flatten.Perm S
theorem cB.init (S:List b8):cB S (S.map cX):=by
 refine⟨S.map fun p=>(cX p,[p]),by rw [aX1]; rfl,fun e he=>?_,?_⟩
 ·obtain ⟨p,_,rfl⟩:=aU2.mp he
  exact gL.cell p
 ·rw [aX1]
  have:(S.map ((·.2) ∘ fun p:b8=>(cX p,[p]))).flatten=S:=by
   induction S with
   | nil=>rfl
   | cons a r ih=>show [a] ++ _=_; rw [ih]; rfl
  rw [this]
theorem cB.perm {S:List b8}{T T':List Bx} (p:T'.Perm T) (h:cB S T):cB S T':=by
 obtain ⟨f,rfl,h1,h2⟩:=h
 obtain ⟨g,pg,rfl⟩:∃ g:List (Bx × List b8),g.Perm f/\T'=g.map (·.1):=by
  clear h1 h2
  generalize hm:f.map (·.1)=m at p
  induction p generalizing f with
  | nil=>exact⟨f,bb9 _,hm.symm⟩
  | cons x _ ih=>
   cases f with
   | nil=>cases hm
   | cons e f=>
    cases hm
    obtain ⟨g,pg,hg⟩:=ih f rfl
    exact⟨e :: g,pg.cons _,by rw [hg]; rfl⟩
  | swap x y l=>
   match f,hm with
   | e :: e' :: f,hm=>
    cases hm
    exact⟨e' :: e :: f,bg4 _ _ _,rfl⟩
  | trans _ _ ih1 ih2=>
   obtain ⟨g,pg,hg⟩:=ih2 f hm
   obtain ⟨g',pg',hg'⟩:=ih1 g hg.symm
   exact⟨g',pg'.trans pg,hg'⟩
 exact⟨g,rfl,fun e he=>h1 e (pg.mem_iff.mp he),((pg.map _).flatten).trans h2⟩
theorem cB.join {S:List b8}{x y:Bx}{T:List Bx} (h:cB S (x :: y :: T)) (nr:bF x y=true):cB S (bM x y :: T):=by
 obtain ⟨f,e,h1,h2⟩:=h
 match f,e with
 | ex :: ey :: f,e=>
  cases e
  refine⟨(bM ex.1 ey.1,ex.2 ++ ey.2) :: f,rfl,fun e he=>?_,?_⟩
  ·rcases aR5.mp he with rfl | he
   ·exact (h1 ex aS3).hull (h1 ey (aR7 _ aS3)) nr
   ·exact h1 e (aR7 _ (aR7 _ he))
  ·have:(((bM ex.1 ey.1,ex.2 ++ ey.2) :: f).map (·.2)).flatten=((ex :: ey :: f).map (·.2)).flatten:=by
    simp only [aW3,List.flatten_cons,aS9]
   rw [this]; exact h2
theorem cB.dup {S:List b8}{x:Bx}{T:List Bx} (h:cB S (x :: T)) (hx:x ∈ T):cB S T:=by
 obtain ⟨f,e,h1,h2⟩:=h
 match f,e with
 | ex :: f,e=>
  cases e
  obtain ⟨ey,hy,e2⟩:=aU2.mp hx
  obtain ⟨a,b,rfl⟩:=List.append_of_mem hy
  refine⟨a ++ (ey.1,ey.2 ++ ex.2) :: b,by simp,fun e he=>?_,?_⟩
  ·rcases aU4.mp he with z | z
   ·exact h1 e (aR7 _ (aU3 _ z))
   ·rcases aR5.mp z with rfl | z
    ·refine (h1 ey (by simp)).same fun s hs=>?_
     have e2:ey.1=ex.1:=e2
     rw [e2]
     exact (h1 ex aS3).ins s hs
    ·exact h1 e (aR7 _ (aU0 _ (aR7 _ z)))
  ·refine List.Perm.trans ?_ h2
   simp only [aT7,aW3,List.flatten_append,List.flatten_cons]
   have p1:(ey.2 ++ ex.2 ++ (b.map (·.2)).flatten).Perm (ex.2 ++ (ey.2 ++ (b.map (·.2)).flatten)):=by
    rw [aS9]
    refine aX4.trans ?_
    rw [aS9]
    exact bf1 _ aX4
   refine (bf1 _ p1).trans ?_
   rw [<- aS9,<- aS9 ex.2]
   exact List.Perm.append_right _ aX4
theorem S6 {x y:Bx} (h:HT.aI x.k y.k=true):x ≠ y:=fun e=>by
 subst e
 have:=kB h
 rw [h] at this; cases this
theorem wC {T:List Bx}{s:Bx × Bx} (ok:hV T s=true):T.Perm (s.1 :: s.2 :: fV T s):=by
 obtain ⟨h1,h2,h3,_⟩:=rP.mp ok
 have:s.2 ∈ T.erase s.1:=(List.mem_erase_of_ne (S6 h3).symm).mpr h2
 exact (List.perm_cons_erase h1).trans ((List.perm_cons_erase this).cons _)
theorem cB.step {S:List b8}{T:List Bx}{s:Bx × Bx} (h:cB S T) (ok:hV T s=true):cB S (jG T s):=by
 have h2:=(h.perm (wC ok).symm).join (rP.mp ok).2.2.2
 unfold jG
 by_cases e:bM s.1 s.2 ∈ fV T s
 ·rw [if_pos e]; exact h2.dup e
 ·rw [if_neg e]; exact h2.perm (aX4 (l₁:=fV T s) (l₂:=[bM s.1 s.2]))
theorem aK0 {T:List Bx}{s:Bx × Bx} (nd:T.Nodup):(jG T s).Nodup:=by
 have:(fV T s).Nodup:=(nd.erase _).erase _
 unfold jG
 split
 ·exact this
 ·rename_i h
  exact bc7.mpr ⟨this,aV2 _ _,fun a ha b hb e=>h (by rw [<- aS1.mp hb,<- e]; exact ha)⟩
theorem o5 {S:List b8} (nd:S.Nodup):∀ (sts:List (Bx × Bx)) {T:List Bx},dO (S.map cX) sts=some T->cB S T/\T.Nodup:=by
 intro sts
 rcases List.eq_nil_or_concat sts with rfl | ⟨a,s,rfl⟩
 ·intro T h
  cases h
  refine⟨cB.init S,ba5.mpr (nd.imp fun {a b} ne e=>ne ?_)⟩
  unfold cX at e
  simp only [Bx.mk.injEq] at e
  exact be6 e.1 e.2.1
 ·intro T h
  rw [List.concat_eq_append,rO] at h
  cases hw:dO (S.map cX) a with
  | none=>rw [hw] at h; cases h
  | some T1=>
   rw [hw] at h
   obtain ⟨o1,n1⟩:=o5 nd a hw
   have h:hZ s T1=some T:=h
   unfold hZ at h
   split at h
   ·rename_i ok
    cases h
    exact⟨o1.step ok,aK0 n1⟩
   ·cases h
 termination_by sts=>sts.length
 decreasing_by subst_vars; simp
def fW (T:List Bx):Prop:=T.Pairwise fun x y=>bF x y=false
theorem fW.eq {T:List Bx} (h:fW T) {x y:Bx} (hx:x ∈ T) (hy:y ∈ T) (nr:bF x y=true):x=y:=by
 obtain ⟨i,hi,rfl⟩:=aX5 hx
 obtain ⟨j,hj,rfl⟩:=aX5 hy
 have pw:=aV3.mp h
 rcases Nat.lt_trichotomy i j with z | z | z
 ·rw [pw i j hi hj z] at nr; cases nr
 ·subst z; rfl
 ·rw [rH,pw j i hj hi z] at nr; cases nr
theorem cB.on_board {r c:Int}{S G:List b8}{x:Bx} (bd:∀ p ∈ S,bD r c p=true) (gs:∀ s ∈ G,s ∈ S) (sp:gL G x) {p:b8} (hp:b7 x p):b7 (m7 r c) p:=by
 have okk:=sp.ok
 unfold okX at okk
 have gb:∀ s ∈ G,b7 (m7 r c) s:=fun s hs=>rM.mpr (bd s (gs s hs))
 have key:∀ q,b7 x q->dU x (· ∈ G) q:=sp.full
 have cl:eL x (fun q=>b7 (m7 r c) q):=by
  intro y a b hy ya yb ne ua ub
  have ne':a.1 ≠ b.1 ∨ a.2 ≠ b.2:=Classical.byContradiction fun z=>ne (be6 (by omega) (by omega))
  unfold b7 jV at *
  dsimp only at *
  omega
 exact (key p hp).least cl gb
theorem cB.burnt {r c:Int}{S:List b8}{T:List Bx} (o:cB S T) (far:fW T) (bd:∀ x ∈ S,bD r c x=true) (p:b8):(∃ x ∈ T,b7 x p) ↔ hG r c S p:=by
 obtain ⟨f,rfl,h1,h2⟩:=o
 rw [aJ7 bd]
 have insd:∀ e ∈ f,∀ s ∈ e.2,s ∈ S:=fun e he s hs=>h2.mem_iff.mp (List.mem_flatten.mpr ⟨e.2,aU2.mpr ⟨e,he,rfl⟩,hs⟩)
 constructor
 ·rintro ⟨x,hx,hp⟩
  obtain ⟨e,he,rfl⟩:=aU2.mp hx
  have sp:=h1 e he
  refine (sp.full p hp).least (fun x a b hx2 xa xb ne ua ub=>?_) fun s hs=>.seed (insd e he s hs)
  refine dU.kin ?_ xa xb ne ua ub
  exact cB.on_board bd (insd e he) sp hx2
 ·intro h
  refine h.least (aJ5 (fun x hx y hy=>far.eq hx hy) _) fun s hs=>?_
  obtain ⟨g,hg,hs2⟩:=List.mem_flatten.mp (h2.mem_iff.mpr hs)
  obtain ⟨e,he,rfl⟩:=aU2.mp hg
  exact⟨e.1,aU2.mpr ⟨e,he,rfl⟩,(h1 e he).ins s hs2⟩
theorem cB.ok {S:List b8}{T:List Bx} (o:cB S T) {x:Bx} (hx:x ∈ T):okX x:=by
 obtain ⟨f,rfl,h1,_⟩:=o
 obtain ⟨e,he,rfl⟩:=aU2.mp hx
 exact (h1 e he).ok
theorem rQ {i:Nat}{x:PV}{g:Bool}{ρ:bE}{Q:bE->Prop} (f:flat x=true) (q:Q (ρ.set i (some (.sh true x)))):cO i x g ρ Q:=by
 unfold cO
 rw [f,Bool.or_true]
 exact q
theorem rR {b:Bool}{x:PV}{P:Prop} (h:(Slot.sh b x).tag = .rd):P:=by cases b <;> cases h
abbrev bW (x:Bx):PV:=.tup (intz x.k)
abbrev aU (bs:List Bx):List PV:=fU (bs.map Bx.k)
theorem o6 (x:Bx):flat (bW x)=true:=nR x.k
theorem o7 {bs:List Bx}{i:Nat}{v:PV} (h:(aU bs)[i]? = some v):∃ x,v=bW x/\bs[i]? = some x:=by
 unfold aU fU at h
 rw [aX1,aS8] at h
 cases e:bs[i]? with
 | none=>rw [e] at h; cases h
 | some x=>rw [e] at h; cases h; exact⟨x,rfl,rfl⟩
theorem S7 {bs:List Bx}{i:Nat}{x:Bx} (h:bs[i]? = some x):(aU bs)[i]? = some (bW x):=by
 unfold aU fU
 rw [aX1,aS8,h]; rfl
theorem kT (bs:List Bx):(aU bs).length=bs.length:=by unfold aU fU; rw [aS0,aS0]
theorem S8 (bs:List Bx):flats (aU bs)=true:=J4 _
def o8:bO:=fun xs Q=>∃ a b c d:Int,xs = [.int a,.int b,.int c,.int d]/\Q (.int (jD a b c d))
def S9:aS:=(bJ (aG o3 (a7 (qC (.int 0)) (a7 (gF (a5 2) (a5 1)) (a7 (gF (a5 0) (a5 3)) aD)))))
theorem aK1:dG S9 ["start","end","other_start","other_end"] o8:=by
 rintro xs Q ⟨a,b,c,d,rfl,q⟩
 exact⟨_,rfl,_,rfl,c,b,rfl,rfl,_,rfl,_,rfl,a,d,rfl,rfl,_,_,_,rfl,trivial,q⟩
def m8:bO:=fun xs Q=>∃ x y:Bx,xs = [bW x,bW y]/\Q (.bl (bF x y))
def T0:aS:=(aL (bH 2 (aG o8 (a7 (aV (a5 0) (qC (.int 0))) (a7 (aV (a5 0) (qC (.int 2))) (a7 (aV (a5 1) (qC (.int 0))) (a7 (aV (a5 1) (qC (.int 2))) aD))))))
 (aL (bH 3 (aG o8 (a7 (aV (a5 0) (qC (.int 1))) (a7 (aV (a5 0) (qC (.int 3))) (a7 (aV (a5 1) (qC (.int 1))) (a7 (aV (a5 1) (qC (.int 3))) aD))))))
 (bJ (qLe (dR (a5 2) (a5 3)) (qC (.int 2))))))
theorem aK2:dG T0 ["one","other","between_rows","between_columns"] m8:=by
 rintro xs Q ⟨x,y,rfl,q⟩
 refine⟨_,rfl,_,_,_,rfl,rfl,rfl,_,rfl,_,_,_,rfl,rfl,rfl,_,rfl,_,_,_,rfl,rfl,rfl,_,rfl,_,_,_,rfl,rfl,rfl,_,_,_,_,rfl,trivial,?_⟩
 refine⟨_,rfl,_,_,_,rfl,rfl,rfl,_,rfl,_,_,_,rfl,rfl,rfl,_,rfl,_,_,_,rfl,rfl,rfl,_,rfl,_,_,_,rfl,rfl,rfl,_,_,_,_,rfl,trivial,?_⟩
 exact⟨_,rfl,_,rfl,_,_,rfl,rfl,_,_,rfl,rfl,trivial,q⟩
def m9:bO:=fun xs Q=>∃ x y:Bx,xs = [bW x,bW y]/\Q (bW (bM x y))
def T2:aS:=(bJ (e8 (a7 (aG mU (a7 (aV (a5 0) (qC (.int 0))) (a7 (aV (a5 1) (qC (.int 0))) aD))) (a7 (aG mU (a7 (aV (a5 0) (qC (.int 1))) (a7 (aV (a5 1) (qC (.int 1))) aD))) (a7 (aG lE (a7 (aV (a5 0) (qC (.int 2))) (a7 (aV (a5 1) (qC (.int 2))) aD))) (a7 (aG lE (a7 (aV (a5 0) (qC (.int 3))) (a7 (aV (a5 1) (qC (.int 3))) aD))) aD))))))
theorem T3 (i j:Int):(if j < i then j else i)=min i j:=by split <;> omega
theorem T4 (i j:Int):(if j > i then j else i)=max i j:=by split <;> omega
theorem aK3:dG T2 ["one","other"] m9:=by
 rintro xs Q ⟨x,y,rfl,q⟩
 refine⟨_,rfl,_,_,_,rfl,rfl,rfl,_,rfl,_,_,_,rfl,rfl,rfl,x.t,y.t,rfl,_,rfl,_,_,_,rfl,rfl,rfl,_,rfl,_,_,_,rfl,rfl,rfl,x.l,y.l,rfl,
  _,rfl,_,_,_,rfl,rfl,rfl,_,rfl,_,_,_,rfl,rfl,rfl,x.b,y.b,rfl,_,rfl,_,_,_,rfl,rfl,rfl,_,rfl,_,_,_,rfl,rfl,rfl,x.r,y.r,rfl,by show 4<=1000; decide,rfl,trivial,?_⟩
 show Q (.tup [.int (if y.t < x.t then y.t else x.t),.int (if y.l < x.l then y.l else x.l),.int (if y.b > x.b then y.b else x.b),.int (if y.r > x.r then y.r else x.r)])
 rw [T3,T3,T4,T4]
 exact q
def mB:bO:=fun xs Q=>∃ (x:PV) (ls:List (Int × Int)),xs = [x]/\(x = .tup (aF ls) ∨ x = .lst (aF ls))/\ls.length<=4096/\Q (.lst (aU (ls.map cX)))
def T5:aS:=(bJ (jP (fM (a5 0)) [none,none] (iW 0 1) iA (e8 (a7 (a5 0) (a7 (a5 1) (a7 (a5 0) (a7 (a5 1) aD)))))))
theorem aK4:dG T5 ["cells"] mB:=by
 rintro xs Q ⟨x,ls,rfl,hx,hl,q⟩
 have sx:jM x=some (aF ls):=by rcases hx with rfl | rfl <;> rfl
 refine⟨_,rfl,aF ls,sx,rR,by rw [fP]; omega,fun i acc=>acc=aU ((ls.take i).map cX),rfl,?_,?_⟩
 ·rintro i v acc hv rfl
  obtain ⟨l,rfl,h⟩:=nU hv
  refine⟨_,_,rfl,?_⟩
  unfold iA
  dsimp only
  rw [if_pos rfl]
  refine⟨_,rfl,_,rfl,_,rfl,_,rfl,by show 4<=1000; decide,rfl,trivial,?_⟩
  have tk:ls.take (i+1)=ls.take i ++ [l]:=by rw [aW5,h]; rfl
  rw [tk,aT7]
  unfold aU fU
  rw [aT7,aT7]
  rfl
 ·rintro acc rfl
  rw [fP,aZ5]
  exact⟨trivial,q⟩
def wD:Option Bx->PV
 | some y=>bW y
 | none=>.non
def kU:bO:=fun xs Q=>∃ (bs:List Bx) (x:Bx),xs = [.lst (aU bs),bW x]/\Q (wD (bs.find? fun y=>bF y x))
def T6:aS:=(aL (dI (fM (a5 0)) (cO 2)
  (cE (b6 (aG m8 (a7 (a5 2) (a7 (a5 1) aD)))) (kE 2) cI))
 (bJ (qC .non)))
theorem T7 {bs:List Bx}{x:Bx} (h:∀ y ∈ bs,bF y x=false):bs.find? (fun y=>bF y x)=none:=by
 rw [List.find?_eq_none]
 intro y hy
 rw [h y hy]; exact aT3
theorem aK5 {bs:List Bx}{x y:Bx}{i:Nat} (h:∀ z ∈ bs.take i,bF z x=false) (hi:bs[i]? = some y) (hy:bF y x=true):bs.find? (fun y=>bF y x)=some y:=by
 have hl:=(aS2.mp hi).1
 have e:bs=bs.take i ++ y :: bs.drop (i+1):=by
  have:=(aU9 i bs).symm
  rw [bd3 hl] at this
  rw [(aS2.mp hi).2] at this
  exact this
 rw [e,List.find?_append,T7 h]
 simp [hy]
theorem aK6:dG T6 ["boxes","box","other"] kU:=by
 rintro xs Q ⟨bs,x,rfl,q⟩
 refine⟨_,rfl,aU bs,rfl,rR,fun i ρ=>(∀ y ∈ bs.take i,bF y x=false)/\∃ z,ρ = [some (.sh (flat (.lst (aU bs))) (.lst (aU bs))),some (.sh (flat (bW x)) (bW x)),z],⟨fun y hy=>(by rw [List.take_zero] at hy; cases hy),none,rfl⟩,?_,?_⟩
 ·rintro i v ρ hv ⟨hno,z,rfl⟩
  obtain ⟨y,rfl,hy⟩:=o7 hv
  refine rQ (o6 y) ?_
  refine⟨_,rfl,_,rfl,y,x,rfl,_,rfl,?_⟩
  cases hn:bF y x with
  | true=>
   refine bC ⟨_,rfl,trivial,?_⟩
   rw [aK5 hno hy hn] at q
   exact q
  | false=>
   refine aY ⟨fun w hw=>?_,_,rfl⟩
   rw [aW5,hy] at hw
   rcases aU4.mp hw with g | g
   ·exact hno w g
   ·rw [show w=y by simpa using g]; exact hn
 ·rintro ρ ⟨hno,z,rfl⟩
  rw [kT,aZ5] at hno
  rw [T7 hno] at q
  exact⟨trivial,q⟩
abbrev kW (s:Bx × Bx):PV:=.tup [bW s.1,bW s.2]
theorem aK7 (s:Bx × Bx):flat (kW s)=true:=by
 show (flat (bW s.1) && (flat (bW s.2) && true))=true
 rw [o6,o6]; rfl
def bI (T:List Bx):List (List aH × PV):=T.map fun x=>(kn x.k,PV.bl true)
theorem T8 {a b:Bx} (h:kn a.k=kn b.k):a=b:=Bx.k_inj (by
 have:=congrArg (List.map fun k:aH=>match k with | .inl i=>i | .inr _=>0) h
 unfold kn at this
 rw [aX1,aX1] at this
 exact (List.map_id _).symm.trans (Eq.trans this (List.map_id _)))
theorem aK8 (T:List Bx):(bI T).map (·.1)=(T.map Bx.k).map kn:=by unfold bI; rw [aX1,aX1]; rfl
theorem T9 (T:List Bx) (x:Bx):((bI T).any fun p=>decide (p.1=kn x.k))=decide (x ∈ T):=by
 rw [aY8,List.any_eq_true,aT4]
 unfold bI
 refine⟨fun ⟨p,hp,e⟩=>?_,fun h=>⟨_,aU2.mpr ⟨x,h,rfl⟩,aR6 rfl⟩⟩
 obtain ⟨y,hy,rfl⟩:=aU2.mp hp
 rw [<- T8 (bf6 e:kn y.k=kn x.k)]; exact hy
theorem U0 (T:List Bx) (x:Bx):(bP (bI T) (kn x.k)).isSome=decide (x ∈ T):=by rw [<- lW,T9]
theorem U1 (T:List Bx) (x:Bx):dJ (bI T) (kn x.k) (.bl true)=bI (if x ∈ T then T else T ++ [x]):=by
 unfold dJ
 rw [T9]
 by_cases h:x ∈ T
 ·rw [aR6 h,if_pos rfl,if_pos h]
  unfold bI
  rw [aX1]
  refine List.map_congr_left fun y _=>?_
  show (if kn y.k=kn x.k then (kn y.k,PV.bl true) else (kn y.k,PV.bl true))=_
  split <;> rfl
 ·rw [aR2 h,if_neg (by decide),if_neg h]
  unfold bI
  rw [aT7]; rfl
theorem U2 (T:List Bx):(bI T).length=T.length:=by unfold bI; rw [aS0]
theorem aK9 (T:List Bx):flats ((bI T).map (·.2))=true:=by
 unfold bI
 rw [aX1]
 induction T with
 | nil=>rfl
 | cons a r ih=>exact ih
theorem mC (l:List Int):(kn l).map kP=intz l:=by unfold kn; rw [aX1]; rfl
def rS:bO:=fun xs Q=>∃ (T:List Bx) (s:Bx × Bx),xs = [.dT (bI T),kW s]/\Q (.bl (hV T s))
def U3 (K:PySem.W.Frag):aS:=(aL (cE (gQ (gR (b6 (gU K "tuple" (a5 1)))) (b6 (u7 (aG eR (a7 (a5 1) aD)) (qC (.int 2))))) (bJ (qC (.bl false))) cI)
 (aL (cE (gQ (b6 (mW true (aV (a5 1) (qC (.int 0))) (a5 0))) (b6 (mW true (aV (a5 1) (qC (.int 1))) (a5 0)))) (bJ (qC (.bl false))) cI)
 (bJ (kD (q2 qV (aV (a5 1) (qC (.int 0))) (aV (a5 1) (qC (.int 1)))) (aG m8 (a7 (aV (a5 1) (qC (.int 0))) (a7 (aV (a5 1) (qC (.int 1))) aD)))))))
theorem aL0 {K:PySem.W.Frag} (kt:PySem.W.kitOne K (.type "tuple") (.type "tuple")=some true):dG (U3 K) ["there","step"] rS:=by
 rintro xs Q ⟨T,s,rfl,q⟩
 refine⟨_,rfl,_,_,rfl,kt,_,rfl,aY ⟨_,rfl,_,_,rfl,rfl,.inl ⟨_,_,rfl,rfl,_,rfl,aY ?_⟩⟩⟩
 refine⟨_,rfl,_,_,_,rfl,rfl,rfl,_,rfl,_,.inr ⟨bI T,kn s.1.k,rfl,by rw [mC],rfl⟩,_,rfl,?_⟩
 show if (!(bP (bI T) (kn s.1.k)).isSome)=true then _ else _
 rw [U0]
 by_cases h1:s.1 ∈ T
 ·rw [aR6 h1]
  refine aY ⟨_,rfl,_,_,_,rfl,rfl,rfl,_,rfl,_,.inr ⟨bI T,kn s.2.k,rfl,by rw [mC],rfl⟩,_,rfl,?_⟩
  show if (!(bP (bI T) (kn s.2.k)).isSome)=true then _ else _
  rw [U0]
  by_cases h2:s.2 ∈ T
  ·rw [aR6 h2]
   refine aY ⟨_,rfl,_,_,_,rfl,rfl,rfl,_,rfl,_,_,_,rfl,rfl,rfl,s.1.k,s.2.k,rfl,rfl,_,rfl,?_⟩
   unfold hV at q
   rw [aR6 h1,aR6 h2,Bool.true_and,Bool.true_and] at q
   cases hl:HT.aI s.1.k s.2.k with
   | true=>
    rw [hl,Bool.true_and] at q
    exact bC ⟨_,rfl,_,_,_,rfl,rfl,rfl,_,rfl,_,_,_,rfl,rfl,rfl,s.1,s.2,rfl,trivial,q⟩
   | false=>
    rw [hl,bb8] at q
    exact aY ⟨trivial,q⟩
  ·rw [aR2 h2]
   unfold hV at q
   rw [aR2 h2,bb8,ba9] at q
   exact bC ⟨trivial,q⟩
 ·rw [aR2 h1]
  unfold hV at q
  rw [aR2 h1,bb8] at q
  exact bC (bC ⟨trivial,q⟩)
def rT:bO:=fun xs Q=>∃ ls:List Bx,xs = [.lst (aU ls)]/\ls.Nodup/\ls.length<=4096/\Q (.dT (bI ls))
def U4:aS:=(aL (gE 1 (qC (.dT [])))
 (aL (dI (fM (a5 0)) (cO 2)
  (kH 1 (a5 2) (qC (.bl true))))
 (kE 1)))
theorem aL1:dG U4 ["hearths","inside","hearth"] rT:=by
 rintro xs Q ⟨ls,rfl,nd,hl,q⟩
 refine⟨rfl,rfl,_,rfl,aU ls,rfl,rR,fun i ρ=>∃ y,ρ = [some (.sh (flat (.lst (aU ls))) (.lst (aU ls))),some (.own (.dT (bI (ls.take i)))),y],⟨none,rfl⟩,?_,?_⟩
 ·rintro i y ρ hy ⟨y0,rfl⟩
  obtain ⟨l,rfl,h⟩:=o7 hy
  have tk:dJ (bI (ls.take i)) (kn l.k) (.bl true)=bI (ls.take (i+1)):=by rw [U1,if_neg (o0 nd h),aW5,h]; rfl
  refine⟨_,rfl,_,rfl,kn l.k,by rw [mC]; rfl,trivial,by rw [U2,List.length_take]; omega,?_⟩
  rw [tk]
  exact⟨_,rfl⟩
 ·rintro ρ ⟨y,rfl⟩
  rw [kT,aZ5]
  exact⟨_,rfl,trivial,q⟩
theorem U5 {α:Type}:∀ {l:List α}{j:Nat}{x:α},l[j]? = some x->l.Perm (x :: l.eraseIdx j)
 | [],_,_,h=>by simp at h
 | a :: l,0,x,h=>by simp at h; subst h; exact bb9 _
 | a :: l,j+1,x,h=>by
  rw [aV7] at h
  exact ((U5 h).cons a).trans (bg4 _ _ _)
theorem U6 {l:List Bx}{j:Nat}{x:Bx} (nd:l.Nodup) (h:l[j]? = some x):l.eraseIdx j=l.erase x:=by
 induction l generalizing j with
 | nil=>simp at h
 | cons a l ih=>
  obtain ⟨h1,h2⟩:=bd8.mp nd
  cases j with
  | zero=>simp at h; subst h; simp
  | succ j=>
   rw [aV7] at h
   have:a ≠ x:=fun e=>h1 (by rw [e]; exact ba8 h)
   rw [List.eraseIdx_cons_succ,ih h2 h,List.erase_cons_tail (by simpa using this)]
theorem aL2 {α β:Type}{f:α->β}{zs:List β}{l:List α} (p:zs.Perm (l.map f)):∃ l':List α,zs=l'.map f/\l'.Perm l:=by
 generalize hm:l.map f=m at p
 induction p generalizing l with
 | nil=>exact⟨l,hm.symm,bb9 _⟩
 | cons x _ ih=>
  cases l with
  | nil=>cases hm
  | cons e l=>
   cases hm
   obtain ⟨g,hg,pg⟩:=ih rfl
   exact⟨e :: g,by rw [hg]; rfl,pg.cons _⟩
 | swap x y z=>
  match l,hm with
  | e :: e' :: l,hm=>
   cases hm
   exact⟨e' :: e :: l,rfl,bg4 _ _ _⟩
 | trans _ _ ih1 ih2=>
  obtain ⟨g,hg,pg⟩:=ih2 hm
  obtain ⟨g',hg',pg'⟩:=ih1 hg.symm
  exact⟨g',hg',pg'.trans pg⟩
theorem fW.perm {T T':List Bx} (p:T.Perm T') (h:fW T):fW T':=(p.pairwise_iff fun {x y} z=>by rw [rH]; exact z).mp h
theorem aL3 {ls:List b8} (nd:ls.Nodup):(ls.map cX).Nodup:=ba5.mpr (nd.imp fun {a b} ne e=>ne (by
 unfold cX at e
 simp only [Bx.mk.injEq] at e
 exact be6 e.1 e.2.1))
structure jW (ls:List b8) (sts:List (Bx × Bx)) (se more:List Bx):Prop where
 ex:∃ T,dO (ls.map cX) sts=some T/\T.Perm (se ++ more)
 far:fW se
def dC (g c:Bx):Bx × Bx:=if HT.aI c.k g.k=true then (c,g) else (g,c)
theorem U7 {g c:Bx} (ne:g ≠ c) (h:HT.aI c.k g.k=false):HT.aI g.k c.k=true:=by
 cases e:HT.aI g.k c.k with
 | true=>rfl
 | false=>exact absurd (Bx.k_inj (oU e h)) ne
theorem aL4 {g c:Bx} (h1:okX g) (h2:okX c) (ne:g ≠ c):3<=jF (bM g c):=by
 refine Classical.byContradiction fun z=>ne ?_
 obtain ⟨a,b,d,e⟩:=g
 obtain ⟨a',b',d',e'⟩:=c
 unfold jF bM at z
 unfold okX at h1 h2
 dsimp only at *
 simp only [Bx.mk.injEq]
 omega
theorem jW.step {ls:List b8}{sts:List (Bx × Bx)}{se:List Bx}{g c:Bx}{more:List b8}{j:Nat} (nd:ls.Nodup) (h:jW ls sts se (g :: more.map cX)) (hj:se[j]? = some c) (nr:bF c g=true) :
  g ≠ c/\jW ls (sts ++ [dC g c]) (se.eraseIdx j) (bM g c :: more.map cX):=by
 obtain ⟨T,hw,pm⟩:=h.ex
 obtain ⟨ow,tnd⟩:=o5 nd sts hw
 have snd:(se ++ g :: more.map cX).Nodup:=pm.nodup_iff.mp tnd
 have hc:=ba8 hj
 obtain ⟨nd1,nd2,nd3⟩:=bc7.mp snd
 have ne:g ≠ c:=fun e=>nd3 c hc g aS3 e.symm
 have gT:g ∈ T:=pm.mem_iff.mpr (by simp)
 have cT:c ∈ T:=pm.mem_iff.mpr (aU3 _ hc)
 have okg:=ow.ok gT
 have okc:=ow.ok cT
 have p1:(dC g c).1=c/\(dC g c).2=g ∨ (dC g c).1=g/\(dC g c).2=c:=by unfold dC; split; exact .inl ⟨rfl,rfl⟩; exact .inr ⟨rfl,rfl⟩
 have hu:bM (dC g c).1 (dC g c).2=bM g c:=by
  rcases p1 with ⟨e1,e2⟩ | ⟨e1,e2⟩ <;> rw [e1,e2]
  exact aI7 _ _
 have ok:hV T (dC g c)=true:=by
  refine rP.mpr ⟨?_,?_,?_,?_⟩
  ·rcases p1 with ⟨e1,_⟩ | ⟨e1,_⟩ <;> rw [e1] <;> assumption
  ·rcases p1 with ⟨_,e1⟩ | ⟨_,e1⟩ <;> rw [e1] <;> assumption
  ·unfold dC
   cases hl:HT.aI c.k g.k with
   | true=>exact hl
   | false=>exact U7 ne hl
  ·rcases p1 with ⟨e1,e2⟩ | ⟨e1,e2⟩ <;> rw [e1,e2]
   ·exact nr
   ·rw [rH]; exact nr
 have pse:=U5 hj
 have cutP':(fV T (dC g c)).Perm (se.eraseIdx j ++ more.map cX):=by
  have a1:(c :: g :: fV T (dC g c)).Perm (c :: g :: (se.eraseIdx j ++ more.map cX)):=by
   have b1:(c :: g :: fV T (dC g c)).Perm T:=by
    refine List.Perm.trans ?_ (wC ok).symm
    rcases p1 with ⟨e1,e2⟩ | ⟨e1,e2⟩ <;> rw [e1,e2]
    exact bg4 _ _ _
   refine b1.trans (pm.trans ((pse.append_right _).trans ?_))
   show (c :: (se.eraseIdx j ++ g :: more.map cX)).Perm _
   exact List.perm_middle.cons c
  exact a1.cons_inv.cons_inv
 have hn:bM g c ∉ fV T (dC g c):=fun z=>by
  rcases aU4.mp (cutP'.mem_iff.mp z) with z | z
  ·have hs:=(List.eraseIdx_sublist se j).subset z
   have okk:=okc
   unfold okX at okk
   have:bF c (bM g c)=true:=S0 (p:=(c.t,c.l)) (by unfold b7; dsimp only; omega) (w6 (by unfold b7; dsimp only; omega))
   have e:=h.far.eq hc hs this
   have nd5:(c :: se.eraseIdx j).Nodup:=pse.nodup_iff.mp nd1
   exact (bd8.mp nd5).1 (by rw [e]; rw [e] at z; rwa [e])
  ·obtain ⟨p,_,e⟩:=aU2.mp z
   have:=aL4 okg okc ne
   rw [<- e] at this
   unfold jF cX at this
   dsimp only at this
   omega
 refine⟨ne,⟨jG T (dC g c),?_,?_⟩,h.far.sublist (List.eraseIdx_sublist se j)⟩
 ·rw [rO,hw]
  show hZ (dC g c) T=_
  unfold hZ
  rw [if_pos ok]
 ·unfold jG
  rw [hu,if_neg hn]
  refine (cutP'.append_right _).trans ?_
  rw [aS9]
  refine bf1 _ ?_
  exact aX4
theorem aL5 {α:Type}{P:List α->Prop} (h0:P []) (hs:∀ a s,P a->P (a ++ [s])) (l:List α):P l:=by
 rw [<- List.reverse_reverse l]
 induction l.reverse with
 | nil=>exact h0
 | cons x r ih=>rw [List.reverse_cons]; exact hs _ _ ih
theorem jW.len {ls:List b8}{sts:List (Bx × Bx)}:∀ {T:List Bx},dO (ls.map cX) sts=some T->T.length<=ls.length:=by
 refine aL5 (P:=fun sts=>∀ {T:List Bx},dO (ls.map cX) sts=some T->T.length<=ls.length) ?_ ?_ sts
 ·intro T h; cases h; rw [aS0]; exact aR8 _
 ·intro a s ih T h
  rw [rO] at h
  cases hw:dO (ls.map cX) a with
  | none=>rw [hw] at h; cases h
  | some T1=>
   rw [hw] at h
   have h:hZ s T1=some T:=h
   unfold hZ at h
   split at h
   ·rename_i ok
    cases h
    have:=ih hw
    have:=(wC ok).length_eq
    rw [aV5,aV5] at this
    unfold jG
    split
    ·omega
    ·rw [aU1,ba0]; omega
   ·cases h
abbrev eY (sts:List (Bx × Bx)):List PV:=sts.map kW
theorem aL6 {sts:List (Bx × Bx)}{i:Nat}{v:PV} (h:(eY sts)[i]? = some v):∃ s,v=kW s/\sts[i]? = some s:=by
 rw [aS8] at h
 cases e:sts[i]? with
 | none=>rw [e] at h; cases h
 | some x=>rw [e] at h; cases h; exact⟨x,rfl,rfl⟩
def rU:eV:=fun Ep xs Q=>∃ (r c:Int) (x:PV) (ls:List b8),xs = [.int r,.int c,x]/\(x = .tup (aF ls) ∨ x = .lst (aF ls))/\ls.length<=4096/\(¬ c7 r c->Ep "BadBoard")/\(c7 r c->¬ fQ r c ls->Ep "BadSet")/\
 (c7 r c->fQ r c ls->∀ sts T,dO (ls.map cX) sts=some T->fW T->sts.length<=ls.length->Q (.lst (eY sts)))
def U8 (Ep:Str->Prop):aS:=(aL (gE 3 (iS aD))
 (aL (gE 4 (iS aD))
 (aL (dI (fM (aG mB (a7 (kQ Ep m5 (a7 (a5 0) (a7 (a5 1) (a7 (a5 2) aD)))) aD))) (cO 5)
  (aL (bH 6 (a5 5))
  (aL (bH 7 (aG kU (a7 (a5 3) (a7 (a5 6) aD))))
  (aL (p9 (b6 (A2 (a5 7) (qC .non)))
   (aL (iT 4 (e8 (a7 (aG vV (a7 (a5 6) (a7 (a5 7) aD))) (a7 (aG vW (a7 (a5 6) (a7 (a5 7) aD))) aD))))
   (aL (bH 6 (aG m9 (a7 (a5 6) (a7 (a5 7) aD))))
   (aL (vX 3 (a5 7))
   (bH 7 (aG kU (a7 (a5 3) (a7 (a5 6) aD))))))))
  (iT 3 (a5 6))))))
 (kE 4))))
theorem aL7:nX U8 ["rows","columns","seeds","settled","steps","box","growing","close"] rU:=by
 rintro Ep xs Q ⟨r,c,x,ls,rfl,hx,hl,e1,e2,q⟩
 refine⟨by show 0<=1000; decide,rfl,rfl,rfl,by show 0<=1000; decide,rfl,rfl,rfl,?_⟩
 refine⟨_,rfl,_,rfl,_,rfl,r,c,x,ls,rfl,hx,hl,e1,e2,fun ok st=>?_⟩
 have q:=q ok st
 have nd:ls.Nodup:=jC st.1
 refine⟨_,ls,rfl,.inl rfl,hl,aU (ls.map cX),rfl,(fun z=>by cases z),fun i ρ=>∃ (se:List Bx) (sts:List (Bx × Bx)) (y5 y6 y7:Option Slot),ρ = [si r,si c,some (.sh (flat x) x),some (.own (.lst (aU se))),some (.own (.lst (eY sts))),y5,y6,y7]/\jW ls sts se ((ls.drop i).map cX)/\sts.length+se.length=i,
  ⟨[],[],none,none,none,rfl,⟨⟨_,rfl,bb9 _⟩,ba4⟩,rfl⟩,?_,?_⟩
 ·rintro i v ρ hv ⟨se,sts,y5,y6,y7,rfl,gr,cnt⟩
  obtain ⟨b,rfl,hb⟩:=o7 hv
  rw [aS8] at hb
  obtain ⟨p,hp,rfl⟩:∃ p,ls[i]? = some p/\b=cX p:=by
   cases e:ls[i]? with
   | none=>rw [e] at hb; cases hb
   | some p=>rw [e] at hb; cases hb; exact⟨p,rfl,rfl⟩
  have il:=(aS2.mp hp).1
  have dr:ls.drop i=p :: ls.drop (i+1):=by rw [bd3 il,(aS2.mp hp).2]
  rw [dr,aW3] at gr
  refine rQ (o6 _) ?_
  refine⟨_,rfl,trivial,?_⟩
  refine⟨_,rfl,_,rfl,se,cX p,rfl,trivial,?_⟩
  refine⟨fun m ρ=>∃ (se:List Bx) (sts:List (Bx × Bx)) (g:Bx),ρ = [si r,si c,some (.sh (flat x) x),some (.own (.lst (aU se))),some (.own (.lst (eY sts))),some (.sh true (bW (cX p))),some (.sh true (bW g)),some (.sh true (wD (se.find? fun y=>bF y g)))]/\jW ls sts se (g :: (ls.drop (i+1)).map cX)/\sts.length+se.length=i/\m=se.length,
   ⟨_,se,sts,cX p,rfl,gr,cnt,rfl⟩,?_⟩
  rintro m ρ ⟨se,sts,g,rfl,gr,cnt,rfl⟩
  refine⟨_,rfl,rfl,_,rfl,?_⟩
  cases hf:se.find? fun y=>bF y g with
  | none=>
   refine aY ⟨_,rfl,_,rfl,trivial,by rw [kT]; omega,?_⟩
   refine⟨se ++ [g],sts,some (.sh true (bW (cX p))),some (.sh true (bW g)),some (.sh true (wD none)),?_,⟨?_,?_⟩,by rw [aU1,ba0]; omega⟩
   ·have:aU se ++ [bW g]=aU (se ++ [g]):=by unfold aU fU; rw [aT7,aT7]; rfl
    show [_,_,_,some (Slot.own (PV.lst (aU se ++ [bW g]))),_,_,_,_]=_
    rw [this]
   ·obtain ⟨T,hw,pm⟩:=gr.ex
    exact⟨T,hw,by rw [aS9]; exact pm⟩
   ·have hn:=List.find?_eq_none.mp hf
    refine aT9.mpr ⟨gr.far,aV2 _ _,fun a ha b hb=>?_⟩
    rw [aS1.mp hb]
    simpa using hn a ha
  | some cl=>
   have nr:bF cl g=true:=by simpa using List.find?_some hf
   have hc:=List.mem_of_find?_eq_some hf
   obtain ⟨j,hj⟩:=bd7 hc
   obtain ⟨ne,gr2⟩:=gr.step nd hj nr
   obtain ⟨T,hw,pm⟩:=gr.ex
   have snd:(se ++ g :: (ls.drop (i+1)).map cX).Nodup:=pm.nodup_iff.mp (o5 nd sts hw).2
   have nd1:=(bc7.mp snd).1
   have il':i < 4096:=by omega
   refine bC ⟨_,rfl,_,rfl,_,rfl,g.k,cl.k,rfl,_,rfl,_,rfl,g.k,cl.k,rfl,by show 2<=1000; decide,?_,trivial,by rw [aS0]; omega,?_⟩
   ·show (flat (.tup (intz (if HT.aI cl.k g.k=true then cl.k else g.k))) && (flat (.tup (intz (if HT.aI g.k cl.k=true then cl.k else g.k))) && true))=true
    rw [nR,nR]; rfl
   have eS:PV.tup [.tup (intz (if HT.aI cl.k g.k=true then cl.k else g.k)),.tup (intz (if HT.aI g.k cl.k=true then cl.k else g.k))]=kW (dC g cl):=by
    unfold dC
    cases hl:HT.aI cl.k g.k with
    | true=>rw [kB hl]; rfl
    | false=>rw [U7 ne hl]; rfl
   refine⟨_,rfl,_,rfl,g,cl,rfl,trivial,?_⟩
   refine⟨se.map Bx.k,rfl,_,rfl,cl.k,j,rfl,by rw [aS8,hj]; rfl,fun k hk e=>?_,by rw [aS0]; omega,?_⟩
   ·rw [aS8] at e
    cases e2:se[k]? with
    | none=>rw [e2] at e; cases e
    | some y=>
     rw [e2] at e
     have e3:=Bx.k_inj (aT5 e)
     subst e3
     have kl:=(aS2.mp e2).1
     have jl:=(aS2.mp hj).1
     have:=aV3.mp nd1 k j kl jl hk
     exact this ((aS2.mp e2).2.trans (aS2.mp hj).2.symm)
   have jl:=(aS2.mp hj).1
   have cutE:((se.map Bx.k).eraseIdx j).map (fun r=>PV.tup (intz r))=aU (se.eraseIdx j):=by
    unfold aU fU
    rw [<- Raw.j7]
   dsimp only
   rw [cutE]
   refine⟨_,rfl,_,rfl,se.eraseIdx j,bM g cl,rfl,trivial,?_⟩
   have le:(se.eraseIdx j).length+1=se.length:=by rw [List.length_eraseIdx,if_pos jl]; omega
   refine⟨(se.eraseIdx j).length,by omega,se.eraseIdx j,sts ++ [dC g cl],bM g cl,?_,gr2,by rw [aU1,ba0]; omega,rfl⟩
   show [_,_,_,_,some (Slot.own (PV.lst (eY sts ++ [PV.tup [.tup (intz (if HT.aI cl.k g.k=true then cl.k else g.k)),.tup (intz (if HT.aI g.k cl.k=true then cl.k else g.k))]]))),_,_,_]=_
   rw [eS]
   have:eY sts ++ [kW (dC g cl)]=eY (sts ++ [dC g cl]):=by unfold eY; rw [aT7]; rfl
   rw [this]; rfl
 ·rintro ρ ⟨se,sts,y5,y6,y7,rfl,gr,cnt⟩
  rw [kT,aS0] at gr cnt
  rw [List.drop_length] at gr
  obtain ⟨T,hw,pm⟩:=gr.ex
  rw [List.map_nil,aX8] at pm
  exact⟨_,rfl,trivial,q sts T hw (gr.far.perm pm.symm) (by omega)⟩
def rV:eV:=fun Ep xs Q=>∃ (r c:Int) (x:PV) (ls:List b8) (sts:List (Bx × Bx)),xs = [.int r,.int c,x,.lst (eY sts)]/\(x = .tup (aF ls) ∨ x = .lst (aF ls))/\ls.length<=4096/\(¬ c7 r c->Ep "BadBoard")/\(c7 r c->¬ fQ r c ls->Ep "BadSet")/\
 (c7 r c->fQ r c ls->(dO (ls.map cX) sts=none->Ep "NoPaper")/\∀ T,dO (ls.map cX) sts=some T->(¬ fW T->Ep "NoPaper")/\(fW T->∀ bs:List Bx,bs.Perm T->bs.Pairwise (fun u v=>HT.aI v.k u.k=false)->Q (.lst (aU bs))))
def U9 (Ep:Str->Prop):aS:=(aL (gE 4 (aG rT (a7 (aG mB (a7 (kQ Ep m5 (a7 (a5 0) (a7 (a5 1) (a7 (a5 2) aD)))) aD)) aD)))
 (aL (dI (fM (a5 3)) (cO 5)
  (aL (cE (gR (b6 (aG rS (a7 (a5 4) (a7 (a5 5) aD))))) (lZ Ep "NoPaper" (a7 (qC (.str "a step is of two near boxes that are there, the lesser first")) aD)) cI)
  (aL (qR 4 (aV (a5 5) (qC (.int 0))))
  (aL (qR 4 (aV (a5 5) (qC (.int 1))))
  (kH 4 (aG m9 (a7 (aV (a5 5) (qC (.int 0))) (a7 (aV (a5 5) (qC (.int 1))) aD))) (qC (.bl true)))))))
 (aL (bH 6 (aG vS (a7 (a5 4) aD)))
 (aL (dI (vB (a5 6)) (iW 7 8)
  (cE (b6 (A2 (aG kU (a7 (pJ (a5 6) pH (pI (a5 7))) (a7 (a5 8) aD))) (qC .non))) (lZ Ep "NoPaper" (a7 (qC (.str "near boxes are left behind the last step")) aD)) cI))
 (kE 6)))))
theorem V0 (T:List Bx) (j:Nat):(bI T).eraseIdx j=bI (T.eraseIdx j):=by unfold bI; rw [Raw.j7]
theorem V1 {T:List Bx}{j:Nat}{x:Bx} (h:((bI T).map (·.1))[j]? = some (kn x.k)):T[j]? = some x:=by
 unfold bI at h
 rw [aX1,aS8] at h
 cases e:T[j]? with
 | none=>rw [e] at h; cases h
 | some y=>rw [e] at h; rw [T8 (aT5 h)]
theorem V2 {T:List Bx}{x:Bx} (h:x ∈ T):∃ j:Nat,((bI T).map (·.1))[j]? = some (kn x.k):=by
 obtain ⟨j,hj⟩:=bd7 h
 refine⟨j,?_⟩
 unfold bI
 rw [aX1,aS8,hj]; rfl
theorem aL8:nX U9 ["rows","columns","seeds","steps","there","step","boxes","turn","box"] rV:=by
 rintro Ep xs Q ⟨r,c,x,ls,sts,rfl,hx,hl,e1,e2,q⟩
 refine⟨_,rfl,_,rfl,_,rfl,r,c,x,ls,rfl,hx,hl,e1,e2,fun ok st=>?_⟩
 obtain ⟨qn,q⟩:=q ok st
 have nd:ls.Nodup:=jC st.1
 refine⟨_,ls,rfl,.inl rfl,hl,ls.map cX,rfl,aL3 nd,by rw [aS0]; exact hl,rfl,aK9 _,?_⟩
 refine⟨_,rfl,eY sts,rfl,rR,fun i ρ=>∃ (T:List Bx) (z5:Option Slot),dO (ls.map cX) (sts.take i)=some T/\ρ = [si r,si c,some (.sh (flat x) x),some (.sh (flat (.lst (eY sts))) (.lst (eY sts))),some (.own (.dT (bI T))),z5,none,none,none],⟨ls.map cX,none,rfl,rfl⟩,?_,?_⟩
 ·rintro i v ρ hv ⟨T,z5,hw,rfl⟩
  obtain ⟨s,rfl,hs⟩:=aL6 hv
  have tk:sts.take (i+1)=sts.take i ++ [s]:=by rw [aW5,hs]; rfl
  have wn:dO (ls.map cX) (sts.take (i+1))=hZ s T:=by rw [tk,rO,hw]; rfl
  have tnd:=(o5 nd _ hw).2
  have tl:=jW.len hw
  refine rQ (aK7 s) ?_
  refine⟨_,rfl,_,rfl,T,s,rfl,_,rfl,?_⟩
  cases hok:hV T s with
  | false=>
   refine bC ⟨by show 1<=1000; decide,qn ?_⟩
   have:dO (ls.map cX) (sts.take (i+1))=none:=by rw [wn]; unfold hZ; rw [hok]; rfl
   have:=aJ9 (b:=sts.drop (i+1)) this
   rwa [aU9] at this
  | true=>
   obtain ⟨h1,h2,h3,h4⟩:=rP.mp hok
   have ne:=S6 h3
   refine aY ⟨bI T,rfl,_,rfl,_,_,_,rfl,rfl,rfl,kn s.1.k,by rw [mC],V2 h1,fun j hj=>?_⟩
   rw [V0,U6 tnd (V1 hj)]
   have h2':s.2 ∈ T.erase s.1:=(List.mem_erase_of_ne ne.symm).mpr h2
   refine⟨bI (T.erase s.1),rfl,_,rfl,_,_,_,rfl,rfl,rfl,kn s.2.k,by rw [mC],V2 h2',fun j hj=>?_⟩
   rw [V0,U6 (tnd.erase _) (V1 hj)]
   have ll:(fV T s).length<=T.length:=aU8 (List.length_erase_le ..) (List.length_erase_le ..)
   refine⟨bI (fV T s),rfl,_,rfl,_,_,_,rfl,rfl,rfl,_,rfl,_,_,_,rfl,rfl,rfl,s.1,s.2,rfl,kn (bM s.1 s.2).k,by rw [mC],trivial,by rw [U2]; omega,?_⟩
   rw [U1]
   refine⟨jG T s,some (.sh true (kW s)),?_,rfl⟩
   rw [wn]
   unfold hZ
   rw [if_pos hok]
 ·rintro ρ ⟨T,z5,hw,rfl⟩
  rw [aS0,aZ5] at hw
  obtain ⟨q1,q2⟩:=q T hw
  refine⟨_,rfl,bI T,T.map Bx.k,rfl,aK8 T,fun k hk=>?_,fun ms pm so=>⟨trivial,?_⟩⟩
  ·obtain ⟨b,_,rfl⟩:=aU2.mp hk
   unfold Bx.k
   exact List.cons_ne_nil _ _
  obtain ⟨bs,rfl,pb⟩:=aL2 pm
  rw [ba5] at so
  refine⟨_,rfl,aU bs,.inl rfl,(fun z=>by cases z),fun i ρ=>∃ z7 z8:Option Slot,fW (bs.take i)/\ρ = [si r,si c,some (.sh (flat x) x),some (.sh (flat (.lst (eY sts))) (.lst (eY sts))),some (.own (.dT (bI T))),z5,some (.sh true (.lst (aU bs))),z7,z8],⟨none,none,by rw [List.take_zero]; exact ba4,rfl⟩,?_,?_⟩
  ·rintro i v ρ hv ⟨z7,z8,far,rfl⟩
   obtain ⟨w,hw2,rfl⟩:=az1 hv
   obtain ⟨b,rfl,hb⟩:=o7 hw2
   have tk:bs.take (i+1)=bs.take i ++ [b]:=by rw [aW5,hb]; rfl
   refine⟨_,_,rfl,?_⟩
   have cut:iB (aU bs) none (some (i:Int))=aU (bs.take i):=by
    rw [K5 (by omega)]
    unfold aU fU
    rw [show ((i:Int)).toNat=i by omega,List.map_take,List.map_take]
   refine⟨_,rfl,_,rfl,(i:Int),rfl,aU bs,rfl,S8 bs,_,rfl,bs.take i,b,by rw [cut]; rfl,rfl,_,rfl,?_⟩
   cases hf:(bs.take i).find? fun y=>bF y b with
   | some y=>
    refine bC ⟨by show 1<=1000; decide,q1 fun fT=>?_⟩
    have nr:bF y b=true:=by simpa using List.find?_some hf
    have fb:fW (bs.take (i+1)):=(fT.perm pb.symm).sublist (List.take_sublist _ _)
    rw [tk] at fb
    have:=(aT9.mp fb).2.2 y (List.mem_of_find?_eq_some hf) b (by simp)
    rw [nr] at this; cases this
   | none=>
    refine aY ⟨_,_,?_,rfl⟩
    have hn:=List.find?_eq_none.mp hf
    rw [tk]
    refine aT9.mpr ⟨far,aV2 _ _,fun a ha b' hb'=>?_⟩
    rw [aS1.mp hb']
    simpa using hn a ha
  ·rintro ρ ⟨z7,z8,far,rfl⟩
   rw [vA,kT,aZ5] at far
   exact⟨_,rfl,trivial,q2 (far.perm pb) bs pb so⟩
structure V3 (ls:List b8) (bs:List Bx):Prop where
 own:cB ls bs
 far:fW bs
 so:bs.Pairwise fun u v=>HT.aI v.k u.k=false
 len:bs.length<=ls.length
def o9:eV:=fun Ep xs Q=>∃ (r c:Int) (x:PV) (ls:List b8),xs = [.int r,.int c,x]/\(x = .tup (aF ls) ∨ x = .lst (aF ls))/\ls.length<=4096/\(¬ c7 r c->Ep "BadBoard")/\(c7 r c->¬ fQ r c ls->Ep "BadSet")/\
 (c7 r c->fQ r c ls->∀ bs,V3 ls bs->Q (.lst (aU bs)))
def V4 (Ep:Str->Prop):aS:=(bJ (kQ Ep rV (a7 (a5 0) (a7 (a5 1) (a7 (a5 2) (a7 (kQ Ep rU (a7 (a5 0) (a7 (a5 1) (a7 (a5 2) aD)))) aD))))))
theorem aL9:nX V4 ["rows","columns","seeds"] o9:=by
 rintro Ep xs Q ⟨r,c,x,ls,rfl,hx,hl,e1,e2,q⟩
 refine⟨_,rfl,_,rfl,_,rfl,_,rfl,_,rfl,_,rfl,r,c,x,ls,rfl,hx,hl,e1,e2,fun ok st sts T hw far sl=>?_⟩
 have nd:ls.Nodup:=jC st.1
 refine⟨r,c,x,ls,sts,rfl,hx,hl,e1,e2,fun _ _=>⟨(fun z=>by rw [hw] at z; cases z),fun T' hw'=>?_⟩⟩
 rw [hw] at hw'
 cases hw'
 exact⟨fun z=>absurd far z,fun _ bs pb so=>⟨trivial,q ok st bs ⟨((o5 nd sts hw).1).perm pb,far.perm pb.symm,so,by rw [pb.length_eq]; exact jW.len hw⟩⟩⟩
def rW:bO:=fun xs Q=>∃ bs:List Bx,xs = [.lst (aU bs),.lst (aU bs)]/\bs.length<=4096/\Q (.bl true)
def V5 (K:PySem.W.Frag):aS:=(aL (cE (gQ (gR (b6 (gU K "list" (a5 0)))) (b6 (u7 (aG eR (a7 (a5 0) aD)) (aG eR (a7 (a5 1) aD))))) (bJ (qC (.bl false))) cI)
 (aL (dI (lG (aG eR (a7 (a5 1) aD))) (cO 2)
  (aL (cE (gQ (gR (b6 (gU K "tuple" (aV (a5 0) (a5 2))))) (b6 (q2 (mX 2 true) (aV (a5 0) (a5 2)) (aV (a5 1) (a5 2))))) (bJ (qC (.bl false))) cI)
  (dI (fM (aV (a5 0) (a5 2))) (cO 3)
   (cE (gR (b6 (aG qM (a7 (a5 3) aD)))) (bJ (qC (.bl false))) cI))))
 (bJ (qC (.bl true)))))
theorem aM0 {K:PySem.W.Frag} (kl:PySem.W.kitOne K (.type "list") (.type "list")=some true) (kt:PySem.W.kitOne K (.type "tuple") (.type "tuple")=some true):dG (V5 K) ["found","due","k","number"] rW:=by
 rintro xs Q ⟨bs,rfl,hl,q⟩
 have pl:=kT bs
 obtain ⟨f0,hf0⟩:∃ f0,flat (.lst (aU bs))=f0:=⟨_,rfl⟩
 refine⟨_,rfl,_,_,rfl,kl,_,rfl,aY ⟨_,rfl,_,_,rfl,rfl,_,rfl,_,_,rfl,rfl,.inl ⟨_,_,rfl,rfl,_,rfl,?_⟩⟩⟩
 show if (!decide (((aU bs).length:Int)=((aU bs).length:Int)))=true then _ else _
 rw [aR6 rfl]
 refine aY ?_
 refine⟨_,rfl,_,_,rfl,rfl,_,rfl,by omega,by omega,fun i ρ=>∃ z2 z3:Option Slot,ρ = [some (.sh f0 (.lst (aU bs))),some (.sh f0 (.lst (aU bs))),z2,z3],⟨none,none,?_⟩,?_,?_⟩
 ·show eB _ _=_
  unfold eB
  show [some (Slot.sh (flat (.lst (aU bs))) (.lst (aU bs))),some (Slot.sh (flat (.lst (aU bs))) (.lst (aU bs))),_,_]=_
  rw [hf0]
 ·rintro i z ρ hz ⟨z2,z3,rfl⟩
  obtain ⟨rfl,hi⟩:=lV hz
  have i1:i < bs.length:=by omega
  have hli:bs[i]? = some bs[i]:=aR0 i1
  have a1:L2.atI (aU bs) ((0:Int)+(i:Int))=some (.tup (intz bs[i].k)):=by
   rw [show (0:Int)+(i:Int)=(i:Int) by omega]
   exact oM (S7 hli)
  refine⟨_,rfl,_,rfl,_,_,_,rfl,rfl,a1,_,_,rfl,kt,_,rfl,aY ⟨_,rfl,_,rfl,_,_,_,rfl,rfl,a1,_,rfl,_,rfl,_,_,_,rfl,rfl,a1,.inl ⟨_,_,rfl,rfl⟩,u6 2 _ _,_,rfl,?_⟩⟩
  show if (!bL 3 (.tup (intz bs[i].k)) (.tup (intz bs[i].k)))=true then _ else _
  rw [u5,aR6 rfl]
  refine aY ?_
  refine⟨_,rfl,_,rfl,_,_,_,rfl,rfl,a1,intz bs[i].k,rfl,(fun z=>nR _),fun j ρ=>∃ z3:Option Slot,ρ = [some (.sh f0 (.lst (aU bs))),some (.sh f0 (.lst (aU bs))),si ((0:Int)+(i:Int)),z3],⟨z3,rfl⟩,?_,?_⟩
  ·rintro j w ρ hw ⟨z3,rfl⟩
   obtain ⟨n,rfl,hn⟩:=aw6 hw
   refine qO ?_
   refine⟨_,rfl,n,rfl,_,rfl,aY ⟨si n,rfl⟩⟩
  ·rintro ρ ⟨z3,rfl⟩
   exact⟨_,_,rfl⟩
 ·rintro ρ ⟨z2,z3,rfl⟩
  exact⟨trivial,q⟩
def kX (x:Bx):Prop:=okX x/\0<=x.t/\0<=x.l/\x.b < 40/\x.r < 40
theorem kX.few {x:Bx}{K:List b8} (h:kX x) (nd:K.Nodup) (m:∀ p ∈ K,b7 x p):K.length<=1600:=by
 refine m6 (r:=40) (c:=40) (by unfold c7; decide) nd fun p hp=>iG.mpr ?_
 have:=m p hp
 unfold b7 at this
 unfold kX at h
 omega
def rX:bO:=fun xs Q=>∃ x:Bx,xs = [bW x]/\kX x/\∀ K:List b8,K.Pairwise cZ->(∀ p,p ∈ K ↔ b7 x p)->K.length<=1600->Q (.lst (aF K))
def V6:aS:=(aL (lY (vZ 1 2 3 4) (a5 0))
 (aL (gE 5 (iS aD))
 (aL (dI (pF (a5 1) (dR (a5 3) (qC (.int 1)))) (cO 6)
  (dI (pF (a5 2) (dR (a5 4) (qC (.int 1)))) (cO 7)
   (iT 5 (e8 (a7 (a5 6) (a7 (a5 7) aD))))))
 (kE 5))))
theorem aM1:dG V6 ["box","top","left","bottom","right","cells","row","column"] rX:=by
 rintro xs Q ⟨x,rfl,on,q⟩
 have on':=on
 unfold kX okX at on'
 refine⟨_,rfl,trivial,_,_,_,_,rfl,?_⟩
 refine⟨by show 0<=1000; decide,rfl,rfl,rfl,?_⟩
 refine⟨_,rfl,_,rfl,_,_,rfl,rfl,x.t,x.b+1,rfl,rfl,by omega,fun i ρ=>∃ (K:List b8) (y6 y7:Option Slot),ρ = [some (.sh (flat (bW x)) (bW x)),si x.t,si x.l,si x.b,si x.r,some (.own (.lst (aF K))),y6,y7]/\K.Pairwise cZ/\∀ p,p ∈ K ↔ b7 x p/\p.1 < x.t+i,⟨[],none,none,?_,ba4,fun p=>⟨fun z=>(by cases z),fun z=>?_⟩⟩,?_,?_⟩
 ·show [_,some (Slot.sh (_ || flat (.int x.t)) (.int x.t)),some (Slot.sh (_ || flat (.int x.l)) (.int x.l)),some (Slot.sh (_ || flat (.int x.b)) (.int x.b)),some (Slot.sh (_ || flat (.int x.r)) (.int x.r)),_,_,_]=_
  rw [show flat (.int x.t)=true from rfl,show flat (.int x.l)=true from rfl,show flat (.int x.b)=true from rfl,show flat (.int x.r)=true from rfl,Bool.or_true]
  rfl
 ·unfold b7 at z; omega
 ·rintro i v ρ hv ⟨K,y6,y7,rfl,ord,mem⟩
  obtain ⟨rfl,hi⟩:=lV hv
  refine qO ?_
  refine⟨_,rfl,_,rfl,_,_,rfl,rfl,x.l,x.r+1,rfl,rfl,by omega,fun j ρ=>∃ (K:List b8) (y7:Option Slot),ρ = [some (.sh (flat (bW x)) (bW x)),si x.t,si x.l,si x.b,si x.r,some (.own (.lst (aF K))),si (x.t+i),y7]/\K.Pairwise cZ/\∀ p,p ∈ K ↔ b7 x p/\(p.1 < x.t+i ∨ (p.1=x.t+i/\p.2 < x.l+j)),⟨K,y7,rfl,ord,fun p=>?_⟩,?_,?_⟩
  ·rw [mem]; unfold b7; omega
  ·rintro j v ρ hv ⟨K,y7,rfl,ord,mem⟩
   obtain ⟨rfl,hj⟩:=lV hv
   refine qO ?_
   have few:=on.few (jC ord) fun p hp=>((mem p).mp hp).1
   refine⟨_,rfl,_,rfl,_,rfl,by show 2<=1000; decide,rfl,trivial,by rw [fP]; omega,?_⟩
   refine⟨K ++ [(x.t+i,x.l+j)],some (.sh true (.int (x.l+j))),?_,?_,fun p=>?_⟩
   ·have:aF K ++ [.tup [.int (x.t+i),.int (x.l+j)]]=aF (K ++ [(x.t+(i:Int),x.l+(j:Int))]):=by unfold aF; rw [aT7]; rfl
    show [_,_,_,_,_,some (Slot.own (PV.lst (aF K ++ [.tup [.int (x.t+i),.int (x.l+j)]]))),_,_]=_
    rw [this]
   ·refine aT9.mpr ⟨ord,aV2 _ _,fun a ha b hb=>?_⟩
    rw [aS1.mp hb]
    have:=(mem a).mp ha
    unfold cZ
    dsimp only
    omega
   ·rw [aU4,mem,aS1,Prod.ext_iff]
    unfold b7
    dsimp only
    omega
  ·rintro ρ ⟨K,y7,rfl,ord,mem⟩
   rw [iV] at mem
   refine⟨K,_,_,rfl,ord,fun p=>?_⟩
   rw [mem]; unfold b7; omega
 ·rintro ρ ⟨K,y6,y7,rfl,ord,mem⟩
  rw [iV] at mem
  have mem:∀ p,p ∈ K ↔ b7 x p:=fun p=>by rw [mem]; unfold b7; omega
  exact⟨_,rfl,trivial,q K ord mem (on.few (jC ord) fun p hp=>(mem p).mp hp)⟩
def rY:bO:=fun xs Q=>∃ x y:Bx,xs = [bW x,bW y]/\Q (.bl (bF x y))
def V7:aS:=(aL (bH 2 (aG o3 (a7 (qC (.int 0)) (a7 (gF (aV (a5 0) (qC (.int 0))) (aV (a5 1) (qC (.int 2)))) (a7 (gF (aV (a5 1) (qC (.int 0))) (aV (a5 0) (qC (.int 2)))) aD)))))
 (bJ (iC (dR (a5 2) (aG o3 (a7 (qC (.int 0)) (a7 (gF (aV (a5 0) (qC (.int 1))) (aV (a5 1) (qC (.int 3)))) (a7 (gF (aV (a5 1) (qC (.int 1))) (aV (a5 0) (qC (.int 3)))) aD))))) (qC (.int 3)))))
theorem aM2:dG V7 ["one","other","down"] rY:=by
 rintro xs Q ⟨x,y,rfl,q⟩
 refine⟨_,rfl,_,_,_,rfl,rfl,rfl,_,rfl,_,_,_,rfl,rfl,rfl,x.t,y.b,rfl,rfl,_,rfl,_,_,_,rfl,rfl,rfl,_,rfl,_,_,_,rfl,rfl,rfl,y.t,x.b,rfl,rfl,_,_,_,rfl,trivial,?_⟩
 refine⟨_,rfl,_,rfl,_,_,_,rfl,rfl,rfl,_,rfl,_,_,_,rfl,rfl,rfl,x.l,y.r,rfl,rfl,_,rfl,_,_,_,rfl,rfl,rfl,_,rfl,_,_,_,rfl,rfl,rfl,y.l,x.r,rfl,rfl,_,_,_,rfl,_,_,rfl,rfl,_,_,rfl,rfl,trivial,?_⟩
 have:bF x y=decide (max 0 (max (x.t - y.b) (y.t - x.b))+max 0 (max (x.l - y.r) (y.l - x.r)) < 3):=by
  unfold bF jD
  congr 1
  exact propext ⟨fun h=>by omega,fun h=>by omega⟩
 rw [this] at q
 exact q
def wE:bO:=J8
theorem cB.on {r c:Int}{S:List b8}{T:List Bx} (o:cB S T) (ok:c7 r c) (bd:∀ p ∈ S,bD r c p=true) {x:Bx} (hx:x ∈ T):kX x:=by
 obtain ⟨f,rfl,h1,h2⟩:=o
 obtain ⟨e,he,rfl⟩:=aU2.mp hx
 have sp:=h1 e he
 have insd:∀ s ∈ e.2,s ∈ S:=fun s hs=>h2.mem_iff.mp (List.mem_flatten.mpr ⟨e.2,aU2.mpr ⟨e,he,rfl⟩,hs⟩)
 have okk:=sp.ok
 have a:=cB.on_board bd insd sp (p:=(e.1.t,e.1.l)) (by unfold okX at okk; unfold b7; dsimp only; omega)
 have b:=cB.on_board bd insd sp (p:=(e.1.b,e.1.r)) (by unfold okX at okk; unfold b7; dsimp only; omega)
 refine⟨okk,?_⟩
 unfold b7 at a b
 unfold c7 at ok
 dsimp only at *
 omega
def V8:aS:=(aL (bH 5 (iS aD))
 (aL (dI (lG (aG eR (a7 (a5 4) aD))) (cO 6)
  (aL (cE (gQ (b6 (u7 (aG eR (a7 (aV (a5 4) (a5 6)) aD)) (qC (.int 4)))) (gQ (b6 (lJ (aV (aV (a5 4) (a5 6)) (qC (.int 0))) (aV (aV (a5 4) (a5 6)) (qC (.int 2))))) (b6 (lJ (aV (aV (a5 4) (a5 6)) (qC (.int 1))) (aV (aV (a5 4) (a5 6)) (qC (.int 3))))))) (bJ (qC (.bl false))) cI)
  (aL (dI (fM (pJ (a5 4) pH (pI (a5 6)))) (cO 7)
   (cE (b6 (aG rY (a7 (aV (a5 4) (a5 6)) (a7 (a5 7) aD)))) (bJ (qC (.bl false))) cI))
  (bH 5 (K0 (a5 5) (aG rX (a7 (aV (a5 4) (a5 6)) aD)))))))
 (bJ (q2 (mX 2 false) (aG lK (a7 (aG nY (a7 (a5 5) aD)) aD)) (aG rD (a7 (a5 1) (a7 (a5 2) (a7 (a5 3) aD))))))))
def V9 (K:PySem.W.Frag):aS:=(aL (lY (iW 1 2) (aG rE (a7 (aG jS (a7 (a5 0) (a7 (qC (.int 0)) aD))) aD)))
 (aL (bH 3 (aG rG (a7 (a5 0) (a7 (qC (.int 1)) (a7 (a5 1) (a7 (a5 2) aD))))))
 (aL (vY (aG (o9 fun _=>False) (a7 (a5 1) (a7 (a5 2) (a7 (a5 3) aD)))))
 (aL (bH 4 (aG (o9 fun _=>False) (a7 (a5 1) (a7 (a5 2) (a7 (aG pB (a7 (a5 3) aD)) aD)))))
 (aL (cE (gQ (gR (b6 (gU K "list" (a5 4)))) (gR (b6 (aG rW (a7 (a5 4) (a7 (aG vT (a7 (a5 4) aD)) aD)))))) (bJ (qC (.bl false))) cI)
 V8)))))
theorem aM3 (x:Bx):x.k ≠ []:=List.cons_ne_nil _ _
theorem aM4 (a b:List b8):aF a ++ aF b=aF (a ++ b):=by unfold aF; rw [aT7]
theorem aM5 {ns:List Int}{r c:Int}{ls:List b8}{Q:PV->Prop}{bs:List Bx} (ok:c7 r c) (st:fQ r c ls) (g:V3 ls bs) (hl:bs.length<=4096) (q:Q (.bl true)) :
  V8 { nx:=fun _=>Q .non,rt:=Q } [some (.sh true (.scr ns)),si r,si c,some (.sh true (.tup (aF ls))),some (.sh true (.lst (aU bs))),none,none,none]:=by
 have bl:=kT bs
 refine⟨by show 0<=1000; decide,rfl,trivial,?_⟩
 refine⟨_,rfl,_,_,rfl,rfl,_,rfl,by omega,by omega,fun i ρ=>∃ (A:List b8) (y6 y7:Option Slot),ρ = [some (.sh true (.scr ns)),si r,si c,some (.sh true (.tup (aF ls))),some (.sh true (.lst (aU bs))),some (.sh true (.lst (aF A))),y6,y7]/\A.Nodup/\∀ p,p ∈ A ↔ ∃ x ∈ bs.take i,b7 x p,⟨[],none,none,rfl,ba4,fun p=>⟨fun z=>(by cases z),fun ⟨x,hx,_⟩=>(by rw [List.take_zero] at hx; cases hx)⟩⟩,?_,?_⟩
 ·rintro i v ρ hv ⟨A,y6,y7,rfl,nd,mem⟩
  obtain ⟨rfl,hi⟩:=lV hv
  have i1:i < bs.length:=by omega
  obtain ⟨b,hb⟩:∃ b,bs[i]? = some b:=⟨_,aR0 i1⟩
  have bm:=ba8 hb
  rw [show (0:Int)+(i:Int)=(i:Int) by omega]
  refine qO ?_
  have a1:L2.atI (aU bs) (i:Int)=some (bW b):=oM (S7 hb)
  have on:=g.own.on ok st.2 bm
  have okb:=on.1
  unfold okX at okb
  have tk:bs.take (i+1)=bs.take i ++ [b]:=by rw [aW5,hb]; rfl
  have far:∀ y ∈ bs.take i,bF y b=false:=by
   have:=g.far.sublist (List.take_sublist (i+1) bs)
   rw [tk] at this
   exact fun y hy=>(aT9.mp this).2.2 y hy b (by simp)
  have cA:∀ p ∈ A,bD 40 40 p=true:=fun p hp=>by
   obtain ⟨x,hx,hpx⟩:=(mem p).mp hp
   have:=g.own.on ok st.2 (bf8 hx)
   unfold kX at this
   unfold b7 at hpx
   exact iG.mpr (by omega)
  have al:=m6 (r:=40) (c:=40) (by unfold c7; decide) nd cA
  refine⟨_,rfl,_,rfl,_,_,_,rfl,rfl,a1,_,_,rfl,rfl,.inl ⟨_,_,rfl,rfl,_,rfl,aY ?_⟩⟩
  refine⟨_,rfl,_,rfl,_,_,_,rfl,rfl,a1,_,_,_,rfl,rfl,rfl,_,rfl,_,rfl,_,_,_,rfl,rfl,a1,_,_,_,rfl,rfl,rfl,b.t,b.b,rfl,rfl,_,rfl,?_⟩
  show if decide (b.b < b.t)=true then _ else _
  rw [aR2 (by omega)]
  refine aY ⟨_,rfl,_,rfl,_,_,_,rfl,rfl,a1,_,_,_,rfl,rfl,rfl,_,rfl,_,rfl,_,_,_,rfl,rfl,a1,_,_,_,rfl,rfl,rfl,b.l,b.r,rfl,rfl,_,rfl,?_⟩
  show if decide (b.r < b.l)=true then _ else _
  rw [aR2 (by omega)]
  refine aY ?_
  have cut:iB (aU bs) none (some (i:Int))=aU (bs.take i):=by
   rw [K5 (by omega)]
   unfold aU fU
   rw [show ((i:Int)).toNat=i by omega,List.map_take,List.map_take]
  refine⟨_,rfl,_,rfl,(i:Int),rfl,aU bs,rfl,S8 bs,aU (bs.take i),by rw [cut]; rfl,(fun z=>by cases z),fun j ρ=>∃ y7:Option Slot,ρ = [some (.sh true (.scr ns)),si r,si c,some (.sh true (.tup (aF ls))),some (.sh true (.lst (aU bs))),some (.sh true (.lst (aF A))),si i,y7],⟨y7,rfl⟩,?_,?_⟩
  ·rintro j v ρ hv ⟨y7,rfl⟩
   obtain ⟨y,rfl,hy⟩:=o7 hv
   refine rQ (o6 y) ?_
   refine⟨_,rfl,_,rfl,_,_,_,rfl,rfl,a1,_,rfl,b,y,rfl,_,rfl,?_⟩
   rw [rH,far y (ba8 hy)]
   exact aY ⟨_,rfl⟩
  ·rintro ρ ⟨y7,rfl⟩
   refine⟨_,rfl,_,rfl,_,rfl,_,_,_,rfl,rfl,a1,b,rfl,on,fun B ordB memB lB=>?_⟩
   refine⟨aF A,aF B,rfl,rfl,gJ _,gJ _,by rw [fP,fP]; omega,trivial,?_⟩
   refine⟨A ++ B,si i,y7,?_,?_,fun p=>?_⟩
   ·rw [<- aM4]; rfl
   ·refine bc7.mpr ⟨nd,jC ordB,fun p hp p' hp' e=>?_⟩
    subst e
    obtain ⟨x,hx,hpx⟩:=(mem p).mp hp
    have:=S0 hpx ((memB p).mp hp')
    rw [far x hx] at this; cases this
   ·rw [aU4,mem,memB,tk]
    constructor
    ·rintro (⟨x,hx,h⟩ | h)
     ·exact⟨x,aU3 _ hx,h⟩
     ·exact⟨b,by simp,h⟩
    ·rintro ⟨x,hx,h⟩
     rcases aU4.mp hx with z | z
     ·exact .inl ⟨x,z,h⟩
     ·rw [aS1.mp z] at h; exact .inr h
 ·rintro ρ ⟨A,y6,y7,rfl,nd,mem⟩
  rw [iV,show (((aU bs).length:Int)).toNat=bs.length by omega,aZ5] at mem
  have mb:∀ p,p ∈ A ↔ hG r c ls p:=fun p=>(mem p).trans (g.own.burnt g.far st.2 p)
  have al:=m6 ok nd fun p hp=>aJ6 st.2 ((mb p).mp hp)
  refine⟨_,rfl,A.map two,by rw [jT]; rfl,by rw [aS0]; omega,fun r hr=>by obtain ⟨l,_,rfl⟩:=aU2.mp hr; rfl,fun Z pz so=>?_⟩
  obtain ⟨l2,rfl,pp⟩:=v6 pz
  rw [show ((l2.map two).map fun r=>PV.tup (intz r))=aF l2 from (jT _).symm]
  refine⟨⟨_,_,rfl,rfl,gJ _,?_⟩,fun ns z=>by cases z⟩
  refine⟨_,rfl,_,rfl,_,rfl,r,c,ls,rfl,ok,st,fun B ordB memB lB=>?_⟩
  have ord2:=v7 so (pp.nodup_iff.mpr nd)
  have e:l2=B:=aD2 ((List.perm_ext_iff_of_nodup (jC ord2) (jC ordB)).mpr fun p=>(pp.mem_iff.trans (mb p)).trans (memB p).symm) ord2 ordB
  subst e
  have ps:=(aF1 l2).2
  refine⟨.inl ⟨_,_,rfl,rfl⟩,ps.1,trivial,?_⟩
  show Q (.bl (bL 3 (.tup (aF l2)) (.tup (aF l2))))
  rw [ps.2]; exact q
theorem aM6 {K:PySem.W.Frag} (kl:PySem.W.kitOne K (.type "list") (.type "list")=some true):dG (V9 K) ["script","rows","columns","seeds","found","cells","k","other"] wE:=by
 rintro xs Q ⟨ns,rfl,hn,q⟩
 refine⟨_,rfl,_,ns,0,rfl,.inl rfl,by decide,_,rfl,fun r c ok=>⟨trivial,_,_,rfl,?_⟩⟩
 refine⟨_,rfl,_,rfl,_,rfl,ns,1,r,c,rfl,hn,by decide,by decide,ok,fun ls st sl=>⟨trivial,?_⟩⟩
 have no1 : ¬ c7 r c->False:=fun z=>z ok
 refine⟨_,rfl,_,rfl,_,rfl,r,c,_,ls,rfl,.inl rfl,by omega,no1,(fun _ z=>z st),fun _ _ bs0 g0=>⟨_,rfl,rfl,?_⟩⟩
 refine⟨_,rfl,_,rfl,_,rfl,_,_,rfl,rfl,gJ _,r,c,_,ls,rfl,.inr rfl,by omega,no1,(fun _ z=>z st),fun _ _ bs g=>⟨trivial,?_⟩⟩
 have bl:bs.length<=4096:=by have:=g.len; omega
 refine⟨_,rfl,_,_,rfl,kl,_,rfl,aY ⟨_,rfl,_,rfl,bs.map Bx.k,rfl,by rw [aS0]; exact bl,fun y hy=>?_,fun Z pz so=>?_⟩⟩
 ·obtain ⟨b,_,rfl⟩:=aU2.mp hy
  exact aM3 b
 have e:=aA7 pz so (ba5.mpr g.so)
 subst e
 exact⟨bs,rfl,bl,_,rfl,aY (aM5 ok st g bl q)⟩
end Core
namespace K_k62
open PySem PySem.W L2 PP Core
theorem _root_.L2.FnScope.au {N P:List Str}{s:Scope} (a:s.kind=.function:=by rfl) (b:s.isCoroutine=false:=by rfl) (c:s.isGenerator=false:=by rfl) (d:N.Nodup:=by decide +kernel) (e:N.take P.length=P:=by rfl) (f:∀ x∈P,s.names.lookup x=some .local∨s.names.lookup x=some .cell:=by decide +kernel) (g:∀ y∈s.names,y.2≠.free:=by decide +kernel):FnScope N P s:=⟨a,b,c,d,e,f,g⟩
def b9 (i:Nat):Stmt:=PySem.Challenge.pw_kindleweb_k62_grown_boxes.main.body.getD i (.Pass ⟨0,0,0,0⟩)
structure FK (K:Frag) (n:Str) (i:Nat) (f:Addr) (d:FuncData):Prop where
 a:nsIn K mainGlobals n=some (some (.ref f))
 F:fF K n n (b9 i) f d
structure FM (K:Frag) (mg:Str->Option Value) (n:Str) (i:Nat) (f:Addr) (d:FuncData):Prop where
 F:fF K n n (b9 i) f d
 m:mg n=some (.ref f)
theorem FK.M {K:Frag}{mg:Str->Option Value}{n:Str}{i:Nat}{f:Addr}{d:FuncData}{h:Heap} (z:FK K n i f d) (X:K.In h) (G:h.Ns mainGlobals mg):FM K mg n i f d:=⟨z.F,mg_of X G z.a⟩
abbrev Hb (x:Str) (ps:List Str) (i:Nat):Prop:=∀ (kV doc pm:Value) (an:Option Addr) (cdv ct:Value) (us:List Value),us.length=ps.length->bindArgs (fnOf x x (iP (b9 i)) (dX (b9 i)) (aX (b9 i)) .none kV doc pm an cdv ct) ⟨us,[]⟩=pure (ps.zip us)
theorem oA {A:Around}{k:Nat} (hr:bY k A):A.units+3 < cLine:=by have:=hr.units; omega
section
variable {P : Program} {w : World} {K : Frag} {mg : Str → Option Value} {base : Heap} {f : Addr} {fd : FuncData} {k i : Nat} {x : Str} {ps N : List Str}
theorem Df.au {p:bO} (F:FM K mg x i f fd) (S:FnScope N ps (aX (b9 i))) (body:∀ (cdv:Value) (A:Around) (outer:List Env) (s:Shared) (H:Hp) (E:XK),bY k (A.deeper (PyProof.Rows.envOfC x (aX (b9 i)) s.heap.objs.size f cdv))->∃ t,eJ (cV eG P w K mg base N x (aX (b9 i)) f cdv A outer s H E).nox (dX (b9 i)) t/\∀ xs Q,p xs Q->t { nx:=fun _=>Q .non,rt:=Q } (eB N xs)) (hb:Hb x ps i:=by intro _ _ _ _ _ _ us hl; first | (obtain ⟨_,rfl⟩:=vF hl; rfl) | (obtain ⟨_,_,rfl⟩:=vG hl; rfl) | (obtain ⟨_,_,_,rfl⟩:=vH hl; rfl) | (obtain ⟨_,_,_,_,rfl⟩:=L3 hl; rfl) | (obtain ⟨_,_,_,_,_,rfl⟩:=us5 hl; rfl)) (len:∀ xs Q,p xs Q->xs.length=ps.length:=by intro xs Q h; repeat (first | (obtain ⟨rfl,_⟩:=h; rfl) | (obtain ⟨_,h⟩:=h))):Df P w K mg base (k+1) x ps p:=
 Df.of F.F F.m S hb len body
theorem cQ.au {p:eV} (F:FM K mg x i f fd) (S:FnScope N ps (aX (b9 i))) (t:(Str->Prop)->aS) (rd:∀ Ep xs Q,p Ep xs Q->t Ep { nx:=fun _=>Q .non,rt:=Q } (eB N xs)) (body:∀ (cdv:Value) (A:Around) (outer:List Env) (s:Shared) (H:Hp) (E:XK) (Ep:Str->Prop),bY k (A.deeper (PyProof.Rows.envOfC x (aX (b9 i)) s.heap.objs.size f cdv))->lU (cV (eD P w) P w K mg base N x (aX (b9 i)) f cdv A outer s H E) (EX K H Ep)->eJ (cV (eD P w) P w K mg base N x (aX (b9 i)) f cdv A outer s H E) (dX (b9 i)) (t Ep)) (hb:Hb x ps i:=by intro _ _ _ _ _ _ us hl; first | (obtain ⟨_,rfl⟩:=vF hl; rfl) | (obtain ⟨_,_,rfl⟩:=vG hl; rfl) | (obtain ⟨_,_,_,rfl⟩:=vH hl; rfl) | (obtain ⟨_,_,_,_,rfl⟩:=L3 hl; rfl) | (obtain ⟨_,_,_,_,_,rfl⟩:=us5 hl; rfl)) (len:∀ Ep xs Q,p Ep xs Q->xs.length=ps.length:=by intro Ep xs Q h; repeat (first | (obtain ⟨rfl,_⟩:=h; rfl) | (obtain ⟨_,h⟩:=h))):cQ P w K mg base (k+1) x ps p:=
 cQ.of F.F F.m S hb t len rd body
end
section
variable {P : Program} {w : World} {K : Frag} {mg : Str → Option Value} {base : Heap} {f : Addr} {fd : FuncData}
theorem aM7:FnScope ["things"] ["things"] (aX (b9 6)):=.au
theorem J7 (B:Bt mg) (F:FM K mg "rises" 6 f fd)  : Df P w K mg base 1 "rises" ["things"] qZ:=
 Df.au F aM7 (fun cdv A outer s H E hr=>by
  have hu:=mQ hr
  exact⟨(N8),(aR (bR (B4 B rfl (a8 (K3 (N:=["ahead","behind"]) (fr:=[none,none]) (aC9 B (qv 0) (uI (qv 0) (uH a9) uG)) (fun _ _ _ _=>(aC5 hu (qv 0) (qv 1)))) aE)))),aD3⟩)
theorem W0:FnScope ["hearths","inside","hearth"] ["hearths"] (aX (b9 7)):=.au
theorem aM8 (B:Bt mg) (F:FM K mg "marked" 7 f fd)  : Df P w K mg base 1 "marked" ["hearths"] rT:=
 Df.au F W0 (fun cdv A outer s H E hr=>by
  have nd:=W0.nd
  have hu:=mQ hr
  exact⟨(U4),(aO (iE (i:=1) nd uD)
   (aO (eU 2 nd (gX (qv 0))
    (aR (nF hu (i:=1) (qv 2) fO)))
   (aR (nE 1)))),aL1⟩)
theorem aM9:FnScope ["rows","columns"] ["rows","columns"] (aX (b9 10)):=.au
theorem aN0 (B:Bt mg) (F:FM K mg "looked_through" 10 f fd) (x_BadBoard:Xc K mg base "BadBoard") {u_MOST_ROWS:Nat} (m_MOST_ROWS:mg "MOST_ROWS" = some (.int 40 u_MOST_ROWS)):cQ P w K mg base 1 "looked_through" ["rows","columns"] r6:=
 cQ.au F aM9 N9 aD4 (fun cdv A outer s H E Ep hr hX=>by
  exact (aR (cS (gH (iY (lN (uE B rfl (a8 (qv 0) (a8 (qv 1) aE))) a9) (jQ (nC (pS B rfl (a8 (qv 0) (a8 (qv 1) aE))) (K4 rfl m_MOST_ROWS))))) (aR (qP hX x_BadBoard (a8 pM aE))) cY)))
theorem aN1:FnScope ["rows","columns","cell"] ["rows","columns","cell"] (aX (b9 11)):=.au
theorem aN2 (B:Bt mg) (F:FM K mg "is_cell" 11 f fd)  : Df P w K mg base 1 "is_cell" ["rows","columns","cell"] r9:=
 Df.au F aN1 (fun cdv A outer s H E hr=>by
  exact⟨(O0),(aR (bR (nD (A6 (aW (qv 2) a9) a9) (nD (u9 (aW (qv 2) a9) (qv 0)) (nD (A6 (aW (qv 2) a9) a9) (uC (u9 (aW (qv 2) a9) (qv 1)))))))),aD5⟩)
theorem aN3:FnScope ["start","end","other_start","other_end"] ["start","end","other_start","other_end"] (aX (b9 16)):=.au
theorem aN4 (B:Bt mg) (F:FM K mg "gap" 16 f fd)  : Df P w K mg base 1 "gap" ["start","end","other_start","other_end"] o8:=
 Df.au F aN3 (fun cdv A outer s H E hr=>by
  exact⟨(S9),(aR (bR (vU B rfl (a8 a9 (a8 (gV (qv 2) (qv 1)) (a8 (gV (qv 0) (qv 3)) aE)))))),aK1⟩)
theorem aN5:FnScope ["one","other"] ["one","other"] (aX (b9 17)):=.au
theorem aN6 (B:Bt mg) (F:FM K mg "hull_of" 17 f fd)  : Df P w K mg base 1 "hull_of" ["one","other"] m9:=
 Df.au F aN5 (fun cdv A outer s H E hr=>by
  exact⟨(T2),(aR (bR (gI (a8 (uE B rfl (a8 (aW (qv 0) a9) (a8 (aW (qv 1) a9) aE))) (a8 (uE B rfl (a8 (aW (qv 0) a9) (a8 (aW (qv 1) a9) aE))) (a8 (pS B rfl (a8 (aW (qv 0) a9) (a8 (aW (qv 1) a9) aE))) (a8 (pS B rfl (a8 (aW (qv 0) a9) (a8 (aW (qv 1) a9) aE))) aE))))))),aK3⟩)
theorem aN7:FnScope ["cells"] ["cells"] (aX (b9 18)):=.au
theorem aN8 (B:Bt mg) (F:FM K mg "cell_boxes" 18 f fd)  : Df P w K mg base 1 "cell_boxes" ["cells"] mB:=
 Df.au F aN7 (fun cdv A outer s H E hr=>by
  exact⟨(T5),(aR (bR (K3 (N:=["row","column"]) (fr:=[none,none]) (gX (qv 0)) (fun _ _ _ _=>(gI (a8 (qv 0) (a8 (qv 1) (a8 (qv 0) (a8 (qv 1) aE))))))))),aK4⟩)
theorem aN9:FnScope ["script","k"] ["script","k"] (aX (b9 25)):=.au
theorem aO0 (B:Bt mg) (F:FM K mg "_law_cell" 25 f fd)  : Df P w K mg base 1 "_law_cell" ["script","k"] jS:=
 Df.au F aN9 (fun cdv A outer s H E hr=>by
  exact⟨(J5),(aO (cS (lN (qv 1) (gY B (a8 (qv 0) aE))) (aR (bR (aW (qv 0) (qv 1)))) cY)
   (aR (bR a9))),ax1⟩)
theorem aO1:FnScope ["found"] ["found"] (aX (b9 27)):=.au
theorem aO2 (B:Bt mg) (F:FM K mg "_law_whole" 27 f fd)  : Df P w K mg base 1 "_law_whole" ["found"] qM:=
 Df.au F aO1 (fun cdv A outer s H E hr=>by
  exact⟨(J6 K),(aR (bR (nD (as6 B (qv 0)) (uC (as0 (as7 B (qv 0))))))),ax2 (lX K).ii (lX K).ib⟩)
theorem W5:FnScope ["cell","rows","columns"] ["cell"] (aX (b9 29)):=.au
theorem aO3 (B:Bt mg) (F:FM K mg "_law_lines" 29 f fd)  : Df P w K mg base 1 "_law_lines" ["cell"] rE:=
 Df.au F W5 (fun cdv A outer s H E hr=>by
  have nd:=W5.nd
  exact⟨(P8),(aO (bQ (i:=1) nd (dS a9 (dE (qv 0) a9)))
   (aO (bQ (i:=2) nd (dS a9 (dE (gG (qv 0) a9) a9)))
   (aO (cS (pN (dE (gG (qv 0) a9) a9) a9) (aO (bQ (i:=1) nd (dS a9 (dE (gG (qv 0) a9) a9)))
    (aR (bQ (i:=2) nd (dS a9 (dE (gG (qv 0) a9) a9))))) cY)
   (aR (bR (gI (a8 (qv 1) (a8 (qv 2) aE)))))))),aE6⟩)
theorem W6:FnScope ["rows","columns","cell","row","column","around"] ["rows","columns","cell"] (aX (b9 31)):=.au
theorem aO4 (B:Bt mg) (F:FM K mg "_law_beside" 31 f fd)  : Df P w K mg base 1 "_law_beside" ["rows","columns","cell"] rC:=
 Df.au F W6 (fun cdv A outer s H E hr=>by
  have nd:=W6.nd
  exact⟨(P5),(aO (K8 3 4 nd (qv 2))
   (aO (bQ (i:=5) nd (kJ (a8 (gI (a8 (gV (qv 3) a9) (a8 (qv 4) aE))) (a8 (gI (a8 (qv 3) (a8 (gV (qv 4) a9) aE))) (a8 (gI (a8 (qv 3) (a8 (dS (qv 4) a9) aE))) (a8 (gI (a8 (dS (qv 3) a9) (a8 (qv 4) aE))) aE))))))
   (aR (bR (at5 (N:=["one","rows","columns"]) (fr:=[none,some 0,some 1]) (gX (qv 5)) (fun _ _ _ _=>(gH (pP (O5 a9 (aW (qv 0) a9) (qv 1)) (pO (O5 a9 (aW (qv 0) a9) (qv 2)))))) (fun _ _ _ _=>(qv 0))))))),aE4⟩)
theorem W7:FnScope ["box","top","left","bottom","right","cells","row","column"] ["box"] (aX (b9 33)):=.au
theorem aO5 (B:Bt mg) (F:FM K mg "_law_cells_of" 33 f fd)  : Df P w K mg base 1 "_law_cells_of" ["box"] rX:=
 Df.au F W7 (fun cdv A outer s H E hr=>by
  have nd:=W7.nd
  exact⟨(V6),(aO (aI4 1 2 3 4 nd (qv 0))
   (aO (iE (i:=5) nd (kJ aE))
   (aO (eU 6 nd (B0 rfl B.range (qv 1) (dS (qv 3) a9))
    (aR (eU 7 nd (B0 rfl B.range (qv 2) (dS (qv 4) a9))
     (aR (lO 5 (gI (a8 (qv 6) (a8 (qv 7) aE))))))))
   (aR (nE 5))))),aM1⟩)
theorem W8:FnScope ["one","other","down"] ["one","other"] (aX (b9 34)):=.au
theorem aO6 (B:Bt mg) (F:FM K mg "_law_near" 34 f fd)  : Df P w K mg base 1 "_law_near" ["one","other"] rY:=
 Df.au F W8 (fun cdv A outer s H E hr=>by
  have nd:=W8.nd
  exact⟨(V7),(aO (bQ (i:=2) nd (vU B rfl (a8 a9 (a8 (gV (aW (qv 0) a9) (aW (qv 1) a9)) (a8 (gV (aW (qv 1) a9) (aW (qv 0) a9)) aE)))))
   (aR (bR (u9 (dS (qv 2) (vU B rfl (a8 a9 (a8 (gV (aW (qv 0) a9) (aW (qv 1) a9)) (a8 (gV (aW (qv 1) a9) (aW (qv 0) a9)) aE))))) a9)))),aM2⟩)
theorem aO7:FnScope ["rows","columns","cells"] ["rows","columns","cells"] (aX (b9 12)):=.au
theorem aO8 (B:Bt mg) (F:FM K mg "made_cells" 12 f fd) (d_looked_through:cQ P w K mg base 1 "looked_through" ["rows","columns"] r6) (d_rises:Df P w K mg base 1 "rises" ["things"] qZ) (d_is_cell:Df P w K mg base 1 "is_cell" ["rows","columns","cell"] r9) (x_BadSet:Xc K mg base "BadSet"):cQ P w K mg base 2 "made_cells" ["rows","columns","cells"] m5:=
 cQ.au F aO7 O1 aD6 (fun cdv A outer s H E Ep hr hX=>by
  exact (aO (as2 (nW hX d_looked_through hr (a8 (qv 0) (a8 (qv 1) aE))))
   (aO (cS (gH (iY (iZ (gW (c8 d_rises hr (a8 (qv 2) aE)))) (jQ (iZ (gW (B4 B rfl (a8 (at4 (N:=["cell","rows","columns"]) (fr:=[none,some 0,some 1]) (gX (qv 2)) (fun _ _ _ _=>(c8 d_is_cell hr (a8 (qv 1) (a8 (qv 2) (a8 (qv 0) aE)))))) aE))))))) (aR (qP hX x_BadSet (a8 pM aE))) cY)
   (aR (bR (nG B (a8 (qv 2) aE)))))))
theorem W9:FnScope ["one","other","between_rows","between_columns"] ["one","other"] (aX (b9 15)):=.au
theorem aO9 (B:Bt mg) (F:FM K mg "near_boxes" 15 f fd) (d_gap:Df P w K mg base 1 "gap" ["start","end","other_start","other_end"] o8) {u_MOST_STEPS_APART:Nat} (m_MOST_STEPS_APART:mg "MOST_STEPS_APART" = some (.int 2 u_MOST_STEPS_APART)):Df P w K mg base 2 "near_boxes" ["one","other"] m8:=
 Df.au F W9 (fun cdv A outer s H E hr=>by
  have nd:=W9.nd
  exact⟨(T0),(aO (bQ (i:=2) nd (c8 d_gap hr (a8 (aW (qv 0) a9) (a8 (aW (qv 0) a9) (a8 (aW (qv 1) a9) (a8 (aW (qv 1) a9) aE))))))
   (aO (bQ (i:=3) nd (c8 d_gap hr (a8 (aW (qv 0) a9) (a8 (aW (qv 0) a9) (a8 (aW (qv 1) a9) (a8 (aW (qv 1) a9) aE))))))
   (aR (bR (ar9 (dS (qv 2) (qv 3)) (K4 rfl m_MOST_STEPS_APART)))))),aK2⟩)
theorem X0:FnScope ["script","k","stir"] ["script","k"] (aX (b9 26)):=.au
theorem aP0 (B:Bt mg) (F:FM K mg "_law_number" 26 f fd) (d__law_cell:Df P w K mg base 1 "_law_cell" ["script","k"] jS):Df P w K mg base 2 "_law_number" ["script","k"] rF:=
 Df.au F X0 (fun cdv A outer s H E hr=>by
  have nd:=X0.nd
  exact⟨(P9),(aO (cS (lN (qv 1) (gY B (a8 (qv 0) aE))) (aR (bR (aW (qv 0) (qv 1)))) cY)
   (aO (bQ (i:=2) nd (dE (nB (dS (dS (dE (c8 d__law_cell hr (a8 (qv 0) (a8 (dE (qv 1) (pS B rfl (a8 a9 (a8 (gY B (a8 (qv 0) aE)) aE)))) aE))) a9) (nB a9 (qv 1))) a9) a9) a9))
   (aR (bR (gG (dE (nB (qv 2) (qv 2)) a9) a9))))),aE7⟩)
theorem X1:FnScope ["found","due","k","number"] ["found","due"] (aX (b9 28)):=.au
theorem aP1 (B:Bt mg) (F:FM K mg "_law_boxes_are" 28 f fd) (d__law_whole:Df P w K mg base 1 "_law_whole" ["found"] qM):Df P w K mg base 2 "_law_boxes_are" ["found","due"] rW:=
 Df.au F X1 (fun cdv A outer s H E hr=>by
  have nd:=X1.nd
  have hu3:=oA hr
  exact⟨(V5 K),(aO (cS (gH (iY (iZ (gW (B7 B (qv 0)))) (jQ (uA (gY B (a8 (qv 0) aE)) (gY B (a8 (qv 1) aE)))))) (aR (bR fO)) cY)
   (aO (eU 2 nd (pQ rfl B.range (gY B (a8 (qv 1) aE)))
    (aO (cS (gH (iY (iZ (gW (B6 B (aW (qv 0) (qv 2))))) (jQ (at0 hu3 (aW (qv 0) (qv 2)) (aW (qv 1) (qv 2)))))) (aR (bR fO)) cY)
    (aR (eU 3 nd (gX (aW (qv 0) (qv 2)))
     (aR (cS (iZ (gW (c8 d__law_whole hr (a8 (qv 3) aE)))) (aR (bR fO)) cY))))))
   (aR (bR fO)))),aM0 (lX K).ll (lX K).tt⟩)
theorem X2:FnScope ["rows","columns","seeds","met","burning","line","seed","at","other"] ["rows","columns","seeds"] (aX (b9 32)):=.au
theorem aP2 (B:Bt mg) (F:FM K mg "_law_burnt" 32 f fd) (d__law_beside:Df P w K mg base 1 "_law_beside" ["rows","columns","cell"] rC):Df P w K mg base 2 "_law_burnt" ["rows","columns","seeds"] rD:=
 Df.au F X2 (fun cdv A outer s H E hr=>by
  have nd:=X2.nd
  have hu:=mQ hr
  exact⟨(P6),(aO (iE (i:=3) nd uD)
   (aO (iE (i:=4) nd uD)
   (aO (iE (i:=5) nd (B3 B (a8 (qv 2) aE)))
   (aO (eU 6 nd (gX (qv 2))
    (aR (nF hu (i:=4) (qv 6) fO)))
   (aO (bQ (i:=7) nd a9)
   (aO (A9 PassesOwn.never (lN (qv 7) (gY B (a8 (qv 5) aE)))
    (aO (eU 8 nd (gX (c8 d__law_beside hr (a8 (qv 0) (a8 (qv 1) (a8 (aW (qv 5) (qv 7)) aE)))))
     (aO (nF hu (i:=3) (qv 8) (dS (aD9 hu (qv 3) (qv 8) a9) a9))
     (aR (cS (gH (pP (nC (as1 hu (qv 3) (qv 8)) a9) (pO (uB hu (qv 8) (qv 4))))) (aO (nF hu (i:=4) (qv 8) fO)
      (aR (lO 5 (qv 8)))) cY))))
    (aR (bQ (i:=7) nd (dS (qv 7) a9)))))
   (aR (bR (nG B (a8 (vJ B (a8 (qv 5) aE)) aE)))))))))),aE5⟩)
theorem X3:FnScope ["boxes","box","other"] ["boxes","box"] (aX (b9 21)):=.au
theorem aP3 (B:Bt mg) (F:FM K mg "first_near" 21 f fd) (d_near_boxes:Df P w K mg base 2 "near_boxes" ["one","other"] m8):Df P w K mg base 3 "first_near" ["boxes","box"] kU:=
 Df.au F X3 (fun cdv A outer s H E hr=>by
  have nd:=X3.nd
  exact⟨(T6),(aO (eU 2 nd (gX (qv 0))
    (aR (cS (gW (c8 d_near_boxes hr (a8 (qv 2) (a8 (qv 1) aE)))) (aR (nE 2)) cY)))
   (aR (bR u8))),aK6⟩)
theorem aP4:FnScope ["there","step"] ["there","step"] (aX (b9 23)):=.au
theorem aP5 (B:Bt mg) (F:FM K mg "may_be_done" 23 f fd) (d_near_boxes:Df P w K mg base 2 "near_boxes" ["one","other"] m8):Df P w K mg base 3 "may_be_done" ["there","step"] rS:=
 Df.au F aP4 (fun cdv A outer s H E hr=>by
  have hu:=mQ hr
  have hu3:=oA hr
  exact⟨(U3 K),(aO (cS (gH (iY (iZ (gW (B6 B (qv 1)))) (jQ (uA (gY B (a8 (qv 1) aE)) a9)))) (aR (bR fO)) cY)
   (aO (cS (gH (iY (uB hu (aW (qv 1) a9) (qv 0)) (jQ (uB hu (aW (qv 1) a9) (qv 0))))) (aR (bR fO)) cY)
   (aR (bR (nD (aC2 hu3 (aW (qv 1) a9) (aW (qv 1) a9)) (uC (c8 d_near_boxes hr (a8 (aW (qv 1) a9) (a8 (aW (qv 1) a9) aE))))))))),aL0 (lX K).tt⟩)
theorem X4:FnScope ["script","at","rows","columns","cell","seeds","place","many","row","column","k"] ["script","at","rows","columns"] (aX (b9 30)):=.au
theorem aP6 (B:Bt mg) (F:FM K mg "_law_seeds" 30 f fd) (d__law_cell:Df P w K mg base 1 "_law_cell" ["script","k"] jS) (d__law_number:Df P w K mg base 2 "_law_number" ["script","k"] rF):Df P w K mg base 3 "_law_seeds" ["script","at","rows","columns"] rG:=
 Df.au F X4 (fun cdv A outer s H E hr=>by
  have nd:=X4.nd
  have hu3:=oA hr
  exact⟨(Q0),(aO (bQ (i:=4) nd (c8 d__law_cell hr (a8 (qv 0) (a8 (qv 1) aE))))
   (aO (cS (gH (pP (pN (dE (qv 4) a9) a9) (pO (lN (nB (qv 2) (qv 3)) a9)))) (aO (iE (i:=5) nd (kJ aE))
    (aO (eU 6 nd (pQ rfl B.range (nB (qv 2) (qv 3)))
     (aO (bQ (i:=4) nd (gG (qv 4) a9))
     (aR (cS (pN (dE (qv 4) a9) a9) (aR (lO 5 (gI (a8 (gG (qv 6) (qv 3)) (a8 (dE (qv 6) (qv 3)) aE))))) cY))))
    (aR (bR (nG B (a8 (qv 5) aE)))))) cY)
   (aO (bQ (i:=7) nd (gV (gY B (a8 (qv 0) aE)) (qv 1)))
   (aO (cS (lN (qv 7) a9) (aR (bQ (i:=7) nd a9)) cY)
   (aO (iE (i:=5) nd (kJ aE))
   (aO (bQ (i:=8) nd a9)
   (aO (bQ (i:=9) nd a9)
   (aO (eU 10 nd (pQ rfl B.range (qv 7))
    (aO (bQ (i:=4) nd (c8 d__law_number hr (a8 (qv 0) (a8 (dS (qv 1) (qv 10)) aE))))
    (aO (cS (pN (dE (qv 4) a9) a9) (aO (bQ (i:=8) nd (dE (gG (qv 4) a9) (qv 2)))
     (aR (bQ (i:=9) nd (dE (gG (qv 4) a9) (qv 3))))) (aO (bQ (i:=8) nd (dE (gV (dS (qv 8) (dE (gG (qv 4) a9) a9)) a9) (qv 2)))
     (aR (bQ (i:=9) nd (dE (gV (dS (qv 9) (dE (gG (qv 4) a9) a9)) a9) (qv 3))))))
    (aR (cS (gH (pP (aC1 hu3 (gI (a8 (qv 8) (a8 (qv 9) aE))) (qv 5)) (pO (nC (dE (gG (qv 4) a9) a9) a9)))) (aR (lO 5 (gI (a8 (qv 8) (a8 (qv 9) aE))))) cY)))))
   (aR (bR (nG B (a8 (vJ B (a8 (qv 5) aE)) aE)))))))))))),aF0⟩)
theorem X5:FnScope ["rows","columns","seeds","settled","steps","box","growing","close"] ["rows","columns","seeds"] (aX (b9 20)):=.au
theorem aP7 (B:Bt mg) (F:FM K mg "growth" 20 f fd) (d_cell_boxes:Df P w K mg base 1 "cell_boxes" ["cells"] mB) (d_made_cells:cQ P w K mg base 2 "made_cells" ["rows","columns","cells"] m5) (d_first_near:Df P w K mg base 3 "first_near" ["boxes","box"] kU) (d_hull_of:Df P w K mg base 1 "hull_of" ["one","other"] m9):cQ P w K mg base 4 "growth" ["rows","columns","seeds"] rU:=
 cQ.au F X5 U8 aL7 (fun cdv A outer s H E Ep hr hX=>by
  have nd:=X5.nd
  have hu3:=oA hr
  exact (aO (iE (i:=3) nd (kJ aE))
   (aO (iE (i:=4) nd (kJ aE))
   (aO (eU 5 (hp:=hX.own) nd (gX (c8 d_cell_boxes hr (a8 (nW hX d_made_cells hr (a8 (qv 0) (a8 (qv 1) (a8 (qv 2) aE)))) aE)))
    (aO (bQ (i:=6) nd (qv 5))
    (aO (bQ (i:=7) nd (c8 d_first_near hr (a8 (qv 3) (a8 (qv 6) aE))))
    (aO (A9 hX.own (A7 (qv 7) u8)
     (aO (lO 4 (gI (a8 (aH3 B rfl hu3 (a8 (qv 6) (a8 (qv 7) aE))) (a8 (aH4 B rfl hu3 (a8 (qv 6) (a8 (qv 7) aE))) aE))))
     (aO (bQ (i:=6) nd (c8 d_hull_of hr (a8 (qv 6) (a8 (qv 7) aE))))
     (aO (aH9 3 hu3 (qv 7))
     (aR (bQ (i:=7) nd (c8 d_first_near hr (a8 (qv 3) (a8 (qv 6) aE)))))))))
    (aR (lO 3 (qv 6)))))))
   (aR (nE 4))))))
theorem X6:FnScope ["rows","columns","seeds","steps","there","step","boxes","turn","box"] ["rows","columns","seeds","steps"] (aX (b9 22)):=.au
theorem aP8 (B:Bt mg) (F:FM K mg "judged_growth" 22 f fd) (d_marked:Df P w K mg base 1 "marked" ["hearths"] rT) (d_cell_boxes:Df P w K mg base 1 "cell_boxes" ["cells"] mB) (d_made_cells:cQ P w K mg base 2 "made_cells" ["rows","columns","cells"] m5) (d_may_be_done:Df P w K mg base 3 "may_be_done" ["there","step"] rS) (d_hull_of:Df P w K mg base 1 "hull_of" ["one","other"] m9) (d_first_near:Df P w K mg base 3 "first_near" ["boxes","box"] kU) (x_NoPaper:Xc K mg base "NoPaper"):cQ P w K mg base 4 "judged_growth" ["rows","columns","seeds","steps"] rV:=
 cQ.au F X6 U9 aL8 (fun cdv A outer s H E Ep hr hX=>by
  have nd:=X6.nd
  have hu:=mQ hr
  exact (aO (iE (i:=4) nd (c8 d_marked hr (a8 (c8 d_cell_boxes hr (a8 (nW hX d_made_cells hr (a8 (qv 0) (a8 (qv 1) (a8 (qv 2) aE)))) aE)) aE)))
   (aO (eU 5 (hp:=hX.own) nd (gX (qv 3))
    (aO (cS (iZ (gW (c8 d_may_be_done hr (a8 (qv 4) (a8 (qv 5) aE))))) (aR (qP hX x_NoPaper (a8 pM aE))) cY)
    (aO (L4 4 hu (aW (qv 5) a9))
    (aO (L4 4 hu (aW (qv 5) a9))
    (aR (nF hu (i:=4) (c8 d_hull_of hr (a8 (aW (qv 5) a9) (a8 (aW (qv 5) a9) aE))) fO))))))
   (aO (bQ (i:=6) nd (aF7 B rfl (a8 (qv 4) aE)))
   (aO (at3 7 8 (hp:=hX.own) nd (az5 rfl B.enum (qv 6))
    (aR (cS (A7 (c8 d_first_near hr (a8 (uI (qv 6) uG (uH (qv 7))) (a8 (qv 8) aE))) u8) (aR (qP hX x_NoPaper (a8 pM aE))) cY)))
   (aR (nE 6)))))))
theorem aP9:FnScope ["rows","columns","seeds"] ["rows","columns","seeds"] (aX (b9 19)):=.au
theorem aQ0 (B:Bt mg) (F:FM K mg "grown_boxes" 19 f fd) (d_judged_growth:cQ P w K mg base 4 "judged_growth" ["rows","columns","seeds","steps"] rV) (d_growth:cQ P w K mg base 4 "growth" ["rows","columns","seeds"] rU):cQ P w K mg base 5 "grown_boxes" ["rows","columns","seeds"] o9:=
 cQ.au F aP9 V4 aL9 (fun cdv A outer s H E Ep hr hX=>by
  exact (aR (bR (nW hX d_judged_growth hr (a8 (qv 0) (a8 (qv 1) (a8 (qv 2) (a8 (nW hX d_growth hr (a8 (qv 0) (a8 (qv 1) (a8 (qv 2) aE)))) aE))))))))
theorem X7:FnScope ["script","rows","columns","seeds","found","cells","k","other"] ["script"] (aX (b9 35)):=.au
theorem aQ1 (B:Bt mg) (F:fF K "law" "law" (b9 35) f fd) (d__law_lines:Df P w K mg base 1 "_law_lines" ["cell"] rE) (d__law_cell:Df P w K mg base 1 "_law_cell" ["script","k"] jS) (d__law_seeds:Df P w K mg base 3 "_law_seeds" ["script","at","rows","columns"] rG) (d_grown_boxes:cQ P w K mg base 5 "grown_boxes" ["rows","columns","seeds"] o9) (d__law_boxes_are:Df P w K mg base 2 "_law_boxes_are" ["found","due"] rW) (d__law_near:Df P w K mg base 1 "_law_near" ["one","other"] rY) (d__law_cells_of:Df P w K mg base 1 "_law_cells_of" ["box"] rX) (d__law_burnt:Df P w K mg base 2 "_law_burnt" ["rows","columns","seeds"] rD):dH P w K mg base eG 6 f fd ["script"] (mV K wE):=
 ax6 F X7 (fun xs Q h=>by unfold wE at h; repeat (first | (obtain ⟨rfl,_⟩:=h; rfl) | (obtain ⟨_,h⟩:=h))) (fun cdv A outer s H E hr=>by
  have nd:=X7.nd
  have hu3:=oA hr
  exact⟨(V9 K),(aO (K8 1 2 nd (c8 d__law_lines hr (a8 (c8 d__law_cell hr (a8 (qv 0) (a8 a9 aE))) aE)))
   (aO (bQ (i:=3) nd (c8 d__law_seeds hr (a8 (qv 0) (a8 a9 (a8 (qv 1) (a8 (qv 2) aE))))))
   (aO (aI1 (L1 d_grown_boxes hr (a8 (qv 1) (a8 (qv 2) (a8 (qv 3) aE)))))
   (aO (bQ (i:=4) nd (L1 d_grown_boxes hr (a8 (qv 1) (a8 (qv 2) (a8 (B3 B (a8 (qv 3) aE)) aE)))))
   (aO (cS (gH (iY (iZ (gW (B7 B (qv 4)))) (jQ (iZ (gW (c8 d__law_boxes_are hr (a8 (qv 4) (a8 (aF9 B (a8 (qv 4) aE)) aE)))))))) (aR (bR fO)) cY)
   (aO (bQ (i:=5) nd (kJ aE))
   (aO (eU 6 nd (pQ rfl B.range (gY B (a8 (qv 4) aE)))
    (aO (cS (gH (iY (uA (gY B (a8 (aW (qv 4) (qv 6)) aE)) a9) (iY (nC (aW (aW (qv 4) (qv 6)) a9) (aW (aW (qv 4) (qv 6)) a9)) (jQ (nC (aW (aW (qv 4) (qv 6)) a9) (aW (aW (qv 4) (qv 6)) a9)))))) (aR (bR fO)) cY)
    (aO (eU 7 nd (gX (uI (qv 4) uG (uH (qv 6))))
     (aR (cS (gW (c8 d__law_near hr (a8 (aW (qv 4) (qv 6)) (a8 (qv 7) aE)))) (aR (bR fO)) cY)))
    (aR (bQ (i:=5) nd (ay0 (qv 5) (c8 d__law_cells_of hr (a8 (aW (qv 4) (qv 6)) aE))))))))
   (aR (bR (at2 hu3 (nG B (a8 (vJ B (a8 (qv 5) aE)) aE)) (c8 d__law_burnt hr (a8 (qv 1) (a8 (qv 2) (a8 (qv 3) aE)))))))))))))),aM6 (lX K).ll⟩)
end
set_option autoImplicit true in
theorem aQ2 {l:OpenLaw}{w:World}{K:Frag}{h:Heap}{mg:Str->Option Value} (X:K.In h) (G:h.Ns mainGlobals mg) (hfa:mg "law" = some (.ref fa))
  (h0:FK K "rises" 6 f0 d0)
  (h1:FK K "marked" 7 f1 d1)
  (h2:FK K "looked_through" 10 f2 d2)
  (h3:FK K "is_cell" 11 f3 d3)
  (h4:FK K "gap" 16 f4 d4)
  (h5:FK K "hull_of" 17 f5 d5)
  (h6:FK K "cell_boxes" 18 f6 d6)
  (h7:FK K "_law_cell" 25 f7 d7)
  (h8:FK K "_law_whole" 27 f8 d8)
  (h9:FK K "_law_lines" 29 f9 d9)
  (h10:FK K "_law_beside" 31 f10 d10)
  (h11:FK K "_law_cells_of" 33 f11 d11)
  (h12:FK K "_law_near" 34 f12 d12)
  (h13:FK K "made_cells" 12 f13 d13)
  (h14:FK K "near_boxes" 15 f14 d14)
  (h15:FK K "_law_number" 26 f15 d15)
  (h16:FK K "_law_boxes_are" 28 f16 d16)
  (h17:FK K "_law_burnt" 32 f17 d17)
  (h18:FK K "first_near" 21 f18 d18)
  (h19:FK K "may_be_done" 23 f19 d19)
  (h20:FK K "_law_seeds" 30 f20 d20)
  (h21:FK K "growth" 20 f21 d21)
  (h22:FK K "judged_growth" 22 f22 d22)
  (h23:FK K "grown_boxes" 19 f23 d23)
  (a24:nsIn K mainGlobals "law" = some (some (.ref f24))) (l24:K.lookup f24=some ⟨oc24,od24,.func (fnOf "law" "law" (iP (b9 35)) (dX (b9 35)) (aX (b9 35)) .none kV24 dc24 pm24 an24 cd24 ct24),sl24⟩) (c24:codeIn K cd24 "law" = true) (k24:keepIn K (.ref f24)=true)
  (z_len:nsIn K mainGlobals "len" = some none)
  (z_range:nsIn K mainGlobals "range" = some none)
  (z_tuple:nsIn K mainGlobals "tuple" = some none)
  (z_list:nsIn K mainGlobals "list" = some none)
  (z_sorted:nsIn K mainGlobals "sorted" = some none)
  (z_all:nsIn K mainGlobals "all" = some none)
  (z_any:nsIn K mainGlobals "any" = some none)
  (z_zip:nsIn K mainGlobals "zip" = some none)
  (z_min:nsIn K mainGlobals "min" = some none)
  (z_max:nsIn K mainGlobals "max" = some none)
  (z_sum:nsIn K mainGlobals "sum" = some none)
  (z_isinstance:nsIn K mainGlobals "isinstance" = some none)
  (z_int:nsIn K mainGlobals "int" = some none)
  (z_bool:nsIn K mainGlobals "bool" = some none)
  (z_enumerate:nsIn K mainGlobals "enumerate" = some none)
  {u_MOST_ROWS:Nat} (z_MOST_ROWSx:nsIn K mainGlobals "MOST_ROWS" = some (some (.int 40 u_MOST_ROWS)))
  {u_MOST_STEPS_APART:Nat} (z_MOST_STEPS_APARTx:nsIn K mainGlobals "MOST_STEPS_APART" = some (some (.int 2 u_MOST_STEPS_APART)))
  {C_HearthError C_BadSet C_BadBoard C_NoPaper:Addr}
  (aX_HE:nsIn K mainGlobals "HearthError" = some (some (.ref C_HearthError)))
  (aX_BS:nsIn K mainGlobals "BadSet" = some (some (.ref C_BadSet)))
  (aX_BB:nsIn K mainGlobals "BadBoard" = some (some (.ref C_BadBoard)))
  (aX_NP:nsIn K mainGlobals "NoPaper" = some (some (.ref C_NoPaper)))
  (zX_BW:nsIn K mainGlobals "BadWeb" = some none)
  (zX_BO:nsIn K mainGlobals "BadOrder" = some none)
  (zX_BP:nsIn K mainGlobals "BadPrices" = some none)
  (zX_BD:nsIn K mainGlobals "BadDeed" = some none)
  (zX_NW:nsIn K mainGlobals "NotWood" = some none)
  (zX_NS:nsIn K mainGlobals "NoSuch" = some none)
  (zX_TM:nsIn K mainGlobals "TooMany" = some none)
  (zX_NT:nsIn K mainGlobals "NoText" = some none)
  (zX_OR:nsIn K mainGlobals "OddRound" = some none)
  (y_fg:specialIn K (.builtin "object.__class__") "__get__" = some (some (.builtin "getset_descriptor.__get__")))
  (y_ft:takesIn K (.builtin "object.__class__")=some true)
  (z_VE:nsIn K mainGlobals "ValueError" = some none)
  (y1_HE:isClsIn K C_HearthError=true)
  (y2_HE:typeIn K (.ref C_HearthError)=some (.type "type"))
  (y3_HE:findIn K (.ref C_HearthError) "__getattribute__" = some (some (.builtin "BaseException.__getattribute__")))
  (y4_HE:findIn K (.ref C_HearthError) "__getattr__" = some none)
  (y5_HE:findIn K (.ref C_HearthError) "__class__" = some (some (.builtin "object.__class__")))
  (y6_HE:mroIn K C_HearthError (.type "object")=some true)
  (y7_HE:mroIn K C_HearthError (.type "BaseException")=some true)
  (y1_BS:isClsIn K C_BadSet=true)
  (y2_BS:typeIn K (.ref C_BadSet)=some (.type "type"))
  (y3_BS:findIn K (.ref C_BadSet) "__getattribute__" = some (some (.builtin "BaseException.__getattribute__")))
  (y4_BS:findIn K (.ref C_BadSet) "__getattr__" = some none)
  (y5_BS:findIn K (.ref C_BadSet) "__class__" = some (some (.builtin "object.__class__")))
  (y6_BS:mroIn K C_BadSet (.type "object")=some true)
  (y7_BS:mroIn K C_BadSet (.type "BaseException")=some true)
  (y1_BB:isClsIn K C_BadBoard=true)
  (y2_BB:typeIn K (.ref C_BadBoard)=some (.type "type"))
  (y3_BB:findIn K (.ref C_BadBoard) "__getattribute__" = some (some (.builtin "BaseException.__getattribute__")))
  (y4_BB:findIn K (.ref C_BadBoard) "__getattr__" = some none)
  (y5_BB:findIn K (.ref C_BadBoard) "__class__" = some (some (.builtin "object.__class__")))
  (y6_BB:mroIn K C_BadBoard (.type "object")=some true)
  (y7_BB:mroIn K C_BadBoard (.type "BaseException")=some true)
  (y1_NP:isClsIn K C_NoPaper=true)
  (y2_NP:typeIn K (.ref C_NoPaper)=some (.type "type"))
  (y3_NP:findIn K (.ref C_NoPaper) "__getattribute__" = some (some (.builtin "BaseException.__getattribute__")))
  (y4_NP:findIn K (.ref C_NoPaper) "__getattr__" = some none)
  (y5_NP:findIn K (.ref C_NoPaper) "__class__" = some (some (.builtin "object.__class__")))
  (y6_NP:mroIn K C_NoPaper (.type "object")=some true)
  (y7_NP:mroIn K C_NoPaper (.type "BaseException")=some true)
  (q_BB:excIn K C_BadBoard [.type "ValueError",.type "Exception",.type "BaseException",.type "object"] "ValueError.__new__" = true)
  (q_BS:excIn K C_BadSet [.type "ValueError",.type "Exception",.type "BaseException",.type "object"] "ValueError.__new__" = true)
  (q_NP:excIn K C_NoPaper [.type "ValueError",.type "Exception",.type "BaseException",.type "object"] "ValueError.__new__" = true)
  : ∃ fd:FuncData,(∀ (s:Shared) (v:Value),BindsTo s fd ⟨[v],[]⟩ [("script",v)])/\∀ base:Heap,K.In base->base.Ns mainGlobals mg->dH l.prog w K mg base eG 6 fa fd ["script"] (qN K):=by
 have e:=hfa.symm.trans (mg_of X G a24)
 cases e
 have F24:=ak1 (st:=b9 35) l24 c24 k24
 have m24:=mg_of X G a24
 have B:Bt mg:=⟨mg_none_of X G z_len,mg_none_of X G z_range,mg_none_of X G z_tuple,mg_none_of X G z_list,mg_none_of X G z_sorted,mg_none_of X G z_all,mg_none_of X G z_any,mg_none_of X G z_zip,mg_none_of X G z_min,mg_none_of X G z_max,mg_none_of X G z_sum,mg_none_of X G z_isinstance,mg_none_of X G z_int,mg_none_of X G z_bool,mg_none_of X G z_enumerate⟩
 have m_MOST_ROWS:=mg_of X G z_MOST_ROWSx
 have m_MOST_STEPS_APART:=mg_of X G z_MOST_STEPS_APARTx
 refine⟨fnOf "law" "law" (iP (b9 35)) (dX (b9 35)) (aX (b9 35)) .none kV24 dc24 pm24 an24 cd24 ct24,fun s v=>.of_eq rfl,fun base KB _=>?_⟩
 have XK_HearthError:qQ K C_HearthError:=⟨y1_HE,y2_HE,y3_HE,y4_HE,y5_HE,y_fg,y_ft,y6_HE,y7_HE⟩
 have XK_BadSet:qQ K C_BadSet:=⟨y1_BS,y2_BS,y3_BS,y4_BS,y5_BS,y_fg,y_ft,y6_BS,y7_BS⟩
 have XK_BadBoard:qQ K C_BadBoard:=⟨y1_BB,y2_BB,y3_BB,y4_BB,y5_BB,y_fg,y_ft,y6_BB,y7_BB⟩
 have XK_NoPaper:qQ K C_NoPaper:=⟨y1_NP,y2_NP,y3_NP,y4_NP,y5_NP,y_fg,y_ft,y6_NP,y7_NP⟩
 have x_BadBoard:Xc K mg base "BadBoard":=⟨C_BadBoard,_,_,_,_,vE KB (mg_of X G aX_BB) q_BB,PySem.F.excBase_ValueError,aX_BB⟩
 have x_BadSet:Xc K mg base "BadSet":=⟨C_BadSet,_,_,_,_,vE KB (mg_of X G aX_BS) q_BS,PySem.F.excBase_ValueError,aX_BS⟩
 have x_NoPaper:Xc K mg base "NoPaper":=⟨C_NoPaper,_,_,_,_,vE KB (mg_of X G aX_NP) q_NP,PySem.F.excBase_ValueError,aX_NP⟩
 have D0:=J7 (P:=l.prog) (w:=w) (base:=base) B (h0.M X G)
 have D1:=aM8 (P:=l.prog) (w:=w) (base:=base) B (h1.M X G)
 have D2:=aN0 (P:=l.prog) (w:=w) (base:=base) B (h2.M X G)  x_BadBoard m_MOST_ROWS
 have D3:=aN2 (P:=l.prog) (w:=w) (base:=base) B (h3.M X G)
 have D4:=aN4 (P:=l.prog) (w:=w) (base:=base) B (h4.M X G)
 have D5:=aN6 (P:=l.prog) (w:=w) (base:=base) B (h5.M X G)
 have D6:=aN8 (P:=l.prog) (w:=w) (base:=base) B (h6.M X G)
 have D7:=aO0 (P:=l.prog) (w:=w) (base:=base) B (h7.M X G)
 have D8:=aO2 (P:=l.prog) (w:=w) (base:=base) B (h8.M X G)
 have D9:=aO3 (P:=l.prog) (w:=w) (base:=base) B (h9.M X G)
 have D10:=aO4 (P:=l.prog) (w:=w) (base:=base) B (h10.M X G)
 have D11:=aO5 (P:=l.prog) (w:=w) (base:=base) B (h11.M X G)
 have D12:=aO6 (P:=l.prog) (w:=w) (base:=base) B (h12.M X G)
 have D13:=aO8 (P:=l.prog) (w:=w) (base:=base) B (h13.M X G) D2 D0 D3 x_BadSet
 have D14:=aO9 (P:=l.prog) (w:=w) (base:=base) B (h14.M X G) D4 m_MOST_STEPS_APART
 have D15:=aP0 (P:=l.prog) (w:=w) (base:=base) B (h15.M X G) D7
 have D16:=aP1 (P:=l.prog) (w:=w) (base:=base) B (h16.M X G) D8
 have D17:=aP2 (P:=l.prog) (w:=w) (base:=base) B (h17.M X G) D10
 have D18:=aP3 (P:=l.prog) (w:=w) (base:=base) B (h18.M X G) D14
 have D19:=aP5 (P:=l.prog) (w:=w) (base:=base) B (h19.M X G) D14
 have D20:=aP6 (P:=l.prog) (w:=w) (base:=base) B (h20.M X G) D7 D15
 have D21:=aP7 (P:=l.prog) (w:=w) (base:=base) B (h21.M X G) D6 D13 D18 D5
 have D22:=aP8 (P:=l.prog) (w:=w) (base:=base) B (h22.M X G) D1 D6 D13 D19 D5 D18 x_NoPaper
 have D23:=aQ0 (P:=l.prog) (w:=w) (base:=base) B (h23.M X G) D22 D21
 exact ax7 (aQ1 B F24 D9 D7 D20 D23 D16 D12 D11 D17)
theorem aQ3 {l:OpenLaw}{q:Program}{loose:List Str}{XP:(Str->Option Value)->Heap->Prop}{YP:World->Heap->Prop}{d:DefRec}{K:Params->Frag} (hn:l.most=some 63) (hdf:d.params.defaults = [])
  (hY:∀ (w:World) (h:Heap),YP w h->(K w.params).In h)
  (F:∀ (w:World) (mg:Str->Option Value) (fa:Addr) (h:Heap),(K w.params).In h->h.Ns mainGlobals mg->mg d.name=some (.ref fa)->
   ∃ fd:FuncData,(∀ (s:Shared) (u:Value),BindsTo s fd ⟨[u],[]⟩ [("script",u)])/\∀ base:Heap,(K w.params).In base->base.Ns mainGlobals mg->dH l.prog w (K w.params) mg base eG 6 fa fd ["script"] (qN (K w.params))) :
  WalkO q loose XP YP l.row.toRowW d [] (fun f vs=>PySem.call f vs):=
 L2.aj9 (n:=63) (k:=6) (x:="script") (CX:=fun _=>eG) (sp:=fun w=>qN (K w.params)) hn (by decide) hdf ⟨rfl,by decide,by decide⟩ hY F (fun _ _ a ns hl hO hS=>⟨a,ns,rfl,ax8 hO hS,hl,fun _=>rfl⟩) fun _ _ _ _ _ z=>z
end K_k62
open PySem PySem.W PyProof.Rows
theorem PySem.W.Fast.te13052408679150730464 : True := trivial
theorem PySem.W.Fast.te16555476440528808052 : True := trivial
theorem PySem.W.Fast.te5369427470323729400 : True := trivial
set_option maxRecDepth 100000 in
set_option maxHeartbeats 0 in
theorem PySem.Challenge.cw_kindleweb_k62_grown_boxes_holds : PySem.Challenge.rw_kindleweb_k62_grown_boxes.Holds := by
 w_on; o_law; k_head; (case hw => w_witness2)
 k_fill
 refine K_k62.aQ3 (l := PySem.Challenge.rw_kindleweb_k62_grown_boxes) rfl rfl (fun w h Y => PySem.W.kIn_of Y) ?F
 case F =>
  intro w mg fa h KX G hmg
  refine' K_k62.aQ2 KX G hmg ?h0 ?h1 ?h2 ?h3 ?h4 ?h5 ?h6 ?h7 ?h8 ?h9 ?h10 ?h11 ?h12 ?h13 ?h14 ?h15 ?h16 ?h17 ?h18 ?h19 ?h20 ?h21 ?h22 ?h23 ?a24 ?l24 ?c24 ?k24 ?z_len ?z_range ?z_tuple ?z_list ?z_sorted ?z_all ?z_any ?z_zip ?z_min ?z_max ?z_sum ?z_isinstance ?z_int ?z_bool ?z_enumerate ?z_MOST_ROWSx ?z_MOST_STEPS_APARTx ?aX_HE ?aX_BS ?aX_BB ?aX_NP ?zX_BW ?zX_BO ?zX_BP ?zX_BD ?zX_NW ?zX_NS ?zX_TM ?zX_NT ?zX_OR ?y_fg ?y_ft ?z_VE ?y1_HE ?y2_HE ?y3_HE ?y4_HE ?y5_HE ?y6_HE ?y7_HE ?y1_BS ?y2_BS ?y3_BS ?y4_BS ?y5_BS ?y6_BS ?y7_BS ?y1_BB ?y2_BB ?y3_BB ?y4_BB ?y5_BB ?y6_BB ?y7_BB ?y1_NP ?y2_NP ?y3_NP ?y4_NP ?y5_NP ?y6_NP ?y7_NP ?q_BB ?q_BS ?q_NP
  (case h0 | h1 | h2 | h3 | h4 | h5 | h6 | h7 | h8 | h9 | h10 | h11 | h12 | h13 | h14 | h15 | h16 | h17 | h18 | h19 | h20 | h21 | h22 | h23 => exact ⟨by k_is, ⟨⟨_, _, _, _, _, _, _, _, _, rfl, by k_is, by k_is⟩, by k_is⟩⟩)
  (case a24|l24|c24|k24|z_len|z_range|z_tuple|z_list|z_sorted|z_all|z_any|z_zip|z_min|z_max|z_sum|z_isinstance|z_int|z_bool|z_enumerate|z_MOST_ROWSx|z_MOST_STEPS_APARTx|aX_HE|aX_BS|aX_BB|aX_NP|zX_BW|zX_BO|zX_BP|zX_BD|zX_NW|zX_NS|zX_TM|zX_NT|zX_OR|y_fg|y_ft|z_VE|y1_HE|y2_HE|y3_HE|y4_HE|y5_HE|y6_HE|y7_HE|y1_BS|y2_BS|y3_BS|y4_BS|y5_BS|y6_BS|y7_BS|y1_BB|y2_BB|y3_BB|y4_BB|y5_BB|y6_BB|y7_BB|y1_NP|y2_NP|y3_NP|y4_NP|y5_NP|y6_NP|y7_NP => k_is)
  (case q_BB|q_BS|q_NP => k_exc)


